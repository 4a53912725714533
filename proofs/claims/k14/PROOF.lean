import PyProof.Rows.All
import Wide.All
import OpenK.AllK
import Wide.FinOn
import Lean
import PyProof.EqAt
import PyProof.EqKinds
import PyProof.TupleCall
import PySem.Challenge.RW_pinwall_k14_refused_by_name
set_option Elab.async false
set_option linter.all false
set_option maxRecDepth 100000
namespace L2
open PySem PySem.Spec PyProof.Rows
abbrev Key := Sum Int Str
def keyIs : Key → Value → Bool
 | .inl k, v => Value.isInt k v
 | .inr x, v => Value.isStrOf x v
def keyH (w : World) : Key → Int
 | .inl k => hashInt k
 | .inr x => hashStr w x
theorem keyIs_shape : ∀ {k : Key} {v : Value}, keyIs k v = true → (∃ i t, k = Sum.inl i ∧ v = Value.int i t) ∨ (∃ x t, k = Sum.inr x ∧ v = Value.str x t)
 | .inl i, v, h => by
  obtain ⟨t, e⟩ := Value.isInt_shape (k := i) (v := v) h
  exact .inl ⟨i, t, rfl, e⟩
 | .inr x, v, h => by
  obtain ⟨t, e⟩ := Value.isStrOf_shape (x := x) (v := v) h
  exact .inr ⟨x, t, rfl, e⟩
theorem keyIs_int (i : Int) (t : Tok) : keyIs (.inl i) (.int i t) = true := by simp [keyIs, Value.isInt]
theorem keyIs_str (x : Str) (t : Tok) : keyIs (.inr x) (.str x t) = true := by simp [keyIs, Value.isStrOf]
theorem key_ll (a b : Int) : decide ((Sum.inl a : Key) = Sum.inl b) = (a == b) := by
 by_cases e : a = b
 · subst e; simp
 · have h : ¬ (Sum.inl a : Key) = Sum.inl b := fun q => e (Sum.inl.inj q)
   rw [decide_eq_false h]
   exact (beq_eq_false_iff_ne.mpr e).symm
theorem key_rr (a b : Str) : decide ((Sum.inr a : Key) = Sum.inr b) = decide (a = b) := by
 by_cases e : a = b
 · subst e; simp
 · have h : ¬ (Sum.inr a : Key) = Sum.inr b := fun q => e (Sum.inr.inj q)
   rw [decide_eq_false h, decide_eq_false e]
theorem key_lr (a : Int) (b : Str) : decide ((Sum.inl a : Key) = Sum.inr b) = false := decide_eq_false (fun q => nomatch q)
theorem key_rl (a : Str) (b : Int) : decide ((Sum.inr a : Key) = Sum.inl b) = false := decide_eq_false (fun q => nomatch q)
def mixKind (prog : Program) (w : World) : PySem.KeyKind prog w Key where
 is := keyIs
 hash := keyH w
 inj := fun v a b ha hb => by
  rcases keyIs_shape ha with ⟨i, t, rfl, rfl⟩ | ⟨x, t, rfl, rfl⟩
  · rcases keyIs_shape hb with ⟨j, u, rfl, e⟩ | ⟨y, u, rfl, e⟩
    · injection e with e1 _; rw [e1]
    · exact nomatch e
  · rcases keyIs_shape hb with ⟨j, u, rfl, e⟩ | ⟨y, u, rfl, e⟩
    · exact nomatch e
    · injection e with e1 _; rw [e1]
 byValue := fun k v h => by
  rcases keyIs_shape h with ⟨i, t, rfl, rfl⟩ | ⟨x, t, rfl, rfl⟩ <;> rfl
 pyHash := fun hv h => by
  rcases keyIs_shape hv with ⟨i, t, rfl, rfl⟩ | ⟨x, t, rfl, rfl⟩
  · exact wpAny_pyHash_int h
  · exact wpAny_pyHash_str h
 eqBool := fun hu hv h => by
  rcases keyIs_shape hu with ⟨i, t, rfl, rfl⟩ | ⟨x, t, rfl, rfl⟩
  · rcases keyIs_shape hv with ⟨j, u, rfl, rfl⟩ | ⟨y, u, rfl, rfl⟩
    · rw [key_ll] at h; exact wpAny_eqBool_int h
    · rw [key_lr] at h; exact SeqAt.EqAt.int_str i t y u _ _ _ _ h
  · rcases keyIs_shape hv with ⟨j, u, rfl, rfl⟩ | ⟨y, u, rfl, rfl⟩
    · rw [key_rl] at h; exact SeqAt.EqAt.str_int x t j u _ _ _ _ h
    · rw [key_rr] at h; exact wpAny_eqBool_str h
 «strs» := fun k x t v h => by
  rcases keyIs_shape h with ⟨i, u, rfl, e⟩ | ⟨y, u, rfl, e⟩
  · exact nomatch e
  · injection e with e1 _
    subst e1
    cases v <;> rfl
theorem mixKind_int (prog : Program) (w : World) (i : Int) (t : Tok) : (mixKind prog w).is (.inl i) (.int i t) = true := keyIs_int i t
theorem mixKind_str (prog : Program) (w : World) (x : Str) (t : Tok) : (mixKind prog w).is (.inr x) (.str x t) = true := keyIs_str x t
end L2
namespace L2
open PySem PySem.Spec PyProof.Rows
inductive V where
 | non | bl (b : Bool) | int (i : Int) | str (x : Str) | byt (b : Array UInt8) | flt (b : UInt64) | ref (a : Addr) | ty (n : String)
 deriving DecidableEq
def RelV : V → Value → Prop
 | .non, u => u = Value.none
 | .bl b, u => u = Value.bool b
 | .int i, u => ∃ t, u = Value.int i t
 | .str x, u => ∃ t, u = Value.str x t
 | .byt b, u => ∃ t, u = Value.bytes b t
 | .flt b, u => ∃ t, u = Value.float b t
 | .ref a, u => u = Value.ref a
 | .ty n, u => u = Value.type n
abbrev Vals : List V → List Value → Prop := Paired RelV
theorem Vals.length {xs : List V} {us : List Value} (r : Vals xs us) : xs.length = us.length := Paired.length r
theorem Vals.get : ∀ {xs : List V} {us : List Value} {i : Nat} {x : V}, Vals xs us → xs[i]? = some x → ∃ u, us[i]? = some u ∧ RelV x u
 | _, _, _, _, .nil, e => by simp at e
 | _, _, 0, _, .cons r _, e => by simp at e; subst e; exact ⟨_, rfl, r⟩
 | _, _, i + 1, x, .cons _ t, e => by
  obtain ⟨u, h1, h2⟩ := Vals.get (i := i) (x := x) t (by simpa using e)
  exact ⟨u, by simpa using h1, h2⟩
theorem Vals.set {x : V} {u : Value} (r : RelV x u) : ∀ {xs : List V} {us : List Value} (i : Nat), Vals xs us → Vals (xs.set i x) (us.set i u)
 | _, _, _, .nil => .nil
 | _, _, 0, .cons _ t => .cons r t
 | _, _, i + 1, .cons q t => .cons q (Vals.set r i t)
theorem Vals.append : ∀ {xs ys : List V} {us ws : List Value}, Vals xs us → Vals ys ws → Vals (xs ++ ys) (us ++ ws)
 | _, _, _, _, .nil, s => s
 | _, _, _, _, .cons r t, s => .cons r (Vals.append t s)
theorem Vals.take : ∀ {xs : List V} {us : List Value} (n : Nat), Vals xs us → Vals (xs.take n) (us.take n)
 | _, _, 0, _ => .nil
 | _, _, _ + 1, .nil => .nil
 | _, _, n + 1, .cons r t => .cons r (Vals.take n t)
theorem Vals.drop : ∀ {xs : List V} {us : List Value} (n : Nat), Vals xs us → Vals (xs.drop n) (us.drop n)
 | _, _, 0, r => r
 | _, _, _ + 1, .nil => .nil
 | _, _, n + 1, .cons _ t => Vals.drop n t
theorem Vals.none_of : ∀ {xs : List V} {us : List Value} {i : Nat}, Vals xs us → xs[i]? = none → us[i]? = none := fun {xs us i} r e => by
 have h1 := r.length
 have h2 : xs.length ≤ i := List.getElem?_eq_none_iff.mp e
 exact List.getElem?_eq_none_iff.mpr (by omega)
def RelO : Option V → Option Value → Prop
 | some v, some u => RelV v u
 | none, none => True
 | _, _ => False
def KV {κ : Type} : List (κ × V) → List (κ × Value) → Prop := Paired fun (p : κ × V) (q : κ × Value) => p.1 = q.1 ∧ RelV p.2 q.2
def kV : Key → V
 | .inl i => .int i
 | .inr x => .str x
inductive HO where
 /-- a list -/
 | lst (xs : List V)
 /-- a tuple (never changes) -/
 | tup (xs : List V)
 /-- a dict whose keys are ints and texts; one whose keys are tuples of ints and texts (the empty one is both) -/
 | dK (kvs : List (Key × V)) | dT (kvs : List (List Key × V))
 /-- a set of ints: its members, its size -/
 | set (S : Int → Bool) (n : Nat)
 /-- an instance of the class at C, its dict at dx, its attributes -/
 | ins (C dx : Addr) (fs : List (Str × V))
 /-- the dict of the instance at x -/
 | own (x : Addr)
 /-- the dict of an exception -/
 | xd (fs : List (Str × V))
 /-- a bound method, f of x -/
 | met (f x : Addr)
 /-- a range object lo, lo + 1, .. below hi -/
 | rng (lo hi : Int)
 /-- a thing that is known to the object (the script; a dict while a loop walks it): read, never written while it is so -/
 | frz (o : Obj) (u : HO)
 /-- a code object's table -/
 | tbl (ps : Array Value)
 /-- any other thing, by what is true of its one object (a def of one's own: SetO a S n := HO.ext fun h => ..) -/
 | ext (φ : Heap → Prop)
abbrev Hp := Addr → Option HO
def upd (H : Hp) (a : Addr) (o : HO) : Hp := fun b => if b = a then some o else H b
theorem upd_same {H : Hp} {a : Addr} {o : HO} : upd H a o a = some o := by unfold upd; rw [if_pos rfl]
theorem upd_ne {H : Hp} {a b : Addr} {o : HO} (h : b ≠ a) : upd H a o b = H b := by unfold upd; rw [if_neg h]
theorem ne_of {H : Hp} {a b : Addr} {o u : HO} (h : H a = some o) (h' : H b = some u) (d : o ≠ u) : a ≠ b := by
 intro e; subst e; rw [h] at h'; exact d (Option.some.inj h')
theorem ne_of_none {H : Hp} {a b : Addr} {o : HO} (h : H a = some o) (h' : H b = none) : a ≠ b := by
 intro e; subst e; rw [h] at h'; cases h'
section
variable (P : Program) (w : World)
def ObjOk (H : Hp) (h : Heap) (a : Addr) : HO → Prop
 | .lst xs => xs.length ≤ sizeLine ∧ ∃ (its : List Value) (n : Nat), Vals xs its ∧ h.get? a = some { cls := .type "list", data := .seq its.toArray n }
 | .tup xs => xs.length ≤ sizeLine ∧ ∃ its : List Value, Vals xs its ∧ IsTup h a its.toArray
 | .dK kvs => kvs.length ≤ sizeLine ∧ (a == sysModules) = false ∧ ∃ vs, KV kvs vs ∧ h.DictOf (mixKind P w) a vs
 | .dT kvs => kvs.length ≤ sizeLine ∧ (a == sysModules) = false ∧ ∃ xs : List (List Key × Addr × Value),
  Paired (fun (p : List Key × V) (q : List Key × Addr × Value) => p.1 = q.1 ∧ H q.2.1 = some (.tup (p.1.map kV)) ∧ RelV p.2 q.2.2) kvs xs ∧
  ∃ o es ep, h.get? a = some o ∧ o.ExactDict ∧ o.data = .dict es ep ∧ es.toList = xs.map (entryOfKey (tupleKind (mixKind P w))) ∧ (xs.map (·.1)).Nodup
 | .set S n => h.SetOf (intKind P w) a S n
 | .ins C dx fs => H dx = some (.own a) ∧ fs.length ≤ 1000 ∧ dx ≠ a ∧ h.get? a = some (PySem.W.instObj C dx) ∧
  ∃ mA, h.Ns1 dx mA ∧ (∀ f, RelO (fs.lookup f) (mA f)) ∧ PySem.Within mA (fs.map (·.1))
 | .own _ => ∃ o, h.get? a = some o
 | .xd fs => ∃ mA, h.Ns1 a mA ∧ ∀ f, RelO (fs.lookup f) (mA f)
 | .rng lo hi => ∃ t u v, h.get? a = some { cls := .type "range", data := .fields #[.int lo t, .int hi u, .int 1 v] }
 | .frz o u => h.get? a = some o ∧ ObjOk H h a u
 | .tbl ps => h.get? a = some { cls := .none, data := .fields ps }
 | .met f x => h.get? a = some (PySem.W.methodObj (.ref f) (.ref x))
 | .ext φ => φ h ∧ (∃ o, h.get? a = some o) ∧ ∀ h1 h2 : Heap, φ h1 → (∀ o, h1.get? a = some o → h2.get? a = some o) → φ h2
def HOk (H : Hp) (h : Heap) : Prop := ∀ a o, H a = some o → ObjOk P w H h a o
end
section
variable {P : Program} {w : World} {H H' : Hp} {h h' : Heap} {a : Addr} {o : HO}
theorem ObjOk.lt (x : ObjOk P w H h a o) : a < h.objs.size := by
 cases o with
 | lst xs => obtain ⟨_, _, _, _, e⟩ := x; exact Heap.lt_size e
 | tup xs => obtain ⟨_, _, _, p⟩ := x; exact p.lt
 | dK kvs => obtain ⟨_, _, _, _, o, _, _, e, _⟩ := x; exact Heap.lt_size e
 | dT kvs => obtain ⟨_, _, _, _, o, _, _, e, _⟩ := x; exact Heap.lt_size e
 | set S n => obtain ⟨o, _, _, _, e, _⟩ := x; exact Heap.lt_size e
 | ins C dx fs => obtain ⟨_, _, _, e, _⟩ := x; exact Heap.lt_size e
 | own y => obtain ⟨_, e⟩ := x; exact Heap.lt_size e
 | xd fs => obtain ⟨_, ⟨_, _, _, e, _⟩, _⟩ := x; exact Heap.lt_size e
 | rng lo hi => obtain ⟨_, _, _, e⟩ := x; exact Heap.lt_size e
 | frz ob u => obtain ⟨e, _⟩ := x; exact Heap.lt_size e
 | tbl ps => exact Heap.lt_size (show h.get? a = some _ from x)
 | met f y => exact Heap.lt_size (show h.get? a = some _ from x)
 | ext φ => obtain ⟨_, ⟨_, e⟩, _⟩ := x; exact Heap.lt_size e
theorem Paired.mapP {α β : Type} {F G : α → β → Prop} : ∀ {l₁ : List α} {l₂ : List β}, Paired F l₁ l₂ → (∀ a b, F a b → G a b) → Paired G l₁ l₂
 | _, _, .nil, _ => .nil
 | _, _, .cons r t, f => .cons (f _ _ r) (Paired.mapP t f)
theorem ObjOk.stay (x : ObjOk P w H h a o) (k : ∀ b u, (b = a ∨ H b = some (.own a)) → h.get? b = some u → h'.get? b = some u)
 (ho : ∀ b, H b = some (.own a) → H' b = some (.own a)) (ht : ∀ b xs, H b = some (.tup xs) → H' b = some (.tup xs)) : ObjOk P w H' h' a o := by
 induction o with
 | lst xs => obtain ⟨z, its, n, r, e⟩ := x; exact ⟨z, its, n, r, k _ _ (.inl rfl) e⟩
 | tup xs => obtain ⟨z, its, r, ob, e, c⟩ := x; exact ⟨z, its, r, ob, k _ _ (.inl rfl) e, c⟩
 | dK kvs => obtain ⟨z, y, vs, r, ob, es, ep, e, c⟩ := x; exact ⟨z, y, vs, r, ob, es, ep, k _ _ (.inl rfl) e, c⟩
 | dT kvs =>
  obtain ⟨z, y, xs, r, ob, es, ep, e, c⟩ := x
  exact ⟨z, y, xs, Paired.mapP r fun p q z => ⟨z.1, ht _ _ z.2.1, z.2.2⟩, ob, es, ep, k _ _ (.inl rfl) e, c⟩
 | set S n => obtain ⟨ob, es, ep, t, e, c⟩ := x; exact ⟨ob, es, ep, t, k _ _ (.inl rfl) e, c⟩
 | ins C dx fs =>
  obtain ⟨d, z, ne, e, mA, ⟨od, es, ep, e2, c⟩, r⟩ := x
  exact ⟨ho _ d, z, ne, k _ _ (.inl rfl) e, mA, ⟨od, es, ep, k _ _ (.inr d) e2, c⟩, r⟩
 | own y => obtain ⟨ob, e⟩ := x; exact ⟨ob, k _ _ (.inl rfl) e⟩
 | xd fs => obtain ⟨mA, ⟨od, es, ep, e, c⟩, r⟩ := x; exact ⟨mA, ⟨od, es, ep, k _ _ (.inl rfl) e, c⟩, r⟩
 | rng lo hi => obtain ⟨t, u, v, e⟩ := x; exact ⟨t, u, v, k _ _ (.inl rfl) e⟩
 | frz ob u ih => obtain ⟨e, q⟩ := x; exact ⟨k _ _ (.inl rfl) e, ih q⟩
 | tbl ps =>
  have e : h.get? a = some { cls := .none, data := .fields ps } := x
  show h'.get? a = some { cls := .none, data := .fields ps }
  exact k a _ (.inl rfl) e
 | met f y =>
  have e : h.get? a = some (PySem.W.methodObj (.ref f) (.ref y)) := x
  show h'.get? a = some (PySem.W.methodObj (.ref f) (.ref y))
  exact k a _ (.inl rfl) e
 | ext φ => obtain ⟨p, ⟨o, e⟩, st⟩ := x; exact ⟨st _ _ p fun o q => k _ _ (.inl rfl) q, ⟨o, k _ _ (.inl rfl) e⟩, st⟩
theorem HOk.lt (x : HOk P w H h) (e : H a = some o) : a < h.objs.size := (x a o e).lt
theorem HOk.fresh (x : HOk P w H h) (e : h.objs.size ≤ a) : H a = none := by
 cases q : H a with
 | none => rfl
 | some u => exact absurd (Nat.lt_of_lt_of_le (x.lt q) e) (Nat.lt_irrefl _)
theorem HOk.kept (x : HOk P w H h) (k : ∀ b u, h.get? b = some u → h'.get? b = some u) : HOk P w H h' := fun a o e =>
 (x a o e).stay (fun b u _ q => k b u q) (fun _ q => q) fun _ _ q => q
theorem HOk.laid (x : HOk P w H h) (k : ∀ b u, h.get? b = some u → h'.get? b = some u) (hp : h.objs.size ≤ a) (new : ObjOk P w (upd H a o) h' a o) : HOk P w (upd H a o) h' := fun b u e => by
 have hn := x.fresh hp
 by_cases hb : b = a
 · subst hb; rw [upd_same] at e; cases e; exact new
 · rw [upd_ne hb] at e
   exact (x b u e).stay (fun c v _ q => k c v q) (fun c q => by rw [upd_ne (ne_of_none q hn)]; exact q) fun c xs q => by rw [upd_ne (ne_of_none q hn)]; exact q
end
def Rd (H : Hp) (a : Addr) (u : HO) : Prop := H a = some u ∨ ∃ o, H a = some (.frz o u)
theorem Rd.of {H : Hp} {a : Addr} {u : HO} (h : H a = some u) : Rd H a u := .inl h
theorem Rd.ok {P : Program} {w : World} {H : Hp} {h : Heap} {a : Addr} {u : HO} (r : Rd H a u) (x : HOk P w H h) : ObjOk P w H h a u := by
 rcases r with r | ⟨o, r⟩
 · exact x a u r
 · obtain ⟨_, q⟩ := x a _ r
   exact q
def Mut : Option HO → Prop
 | some (.lst _) => True
 | some (.dK _) => True
 | some (.dT _) => True
 | some (.set _ _) => True
 | some (.ins _ _ _) => True
 | some (.ext _) => True
 | _ => False
section
variable {P : Program} {w : World} {H : Hp} {h h' : Heap} {x e : Addr} {o' : HO}
theorem HOk.write (ok : HOk P w H h) (mu : Mut (H x)) (he : e = x ∨ H e = some (.own x)) (k : ∀ b u, b ≠ e → h.get? b = some u → h'.get? b = some u) (heo : ∃ u, h'.get? e = some u)
 (new : ObjOk P w (upd H x o') h' x o') : HOk P w (upd H x o') h' := fun b u q => by
 have nown : ∀ c y, H c = some (.own y) → c ≠ x := fun c y r z => by subst z; rw [r] at mu; exact mu
 have ntup : ∀ c xs, H c = some (.tup xs) → c ≠ x := fun c xs r z => by subst z; rw [r] at mu; exact mu
 by_cases hb : b = x
 · subst hb; rw [upd_same] at q; cases q; exact new
 · rw [upd_ne hb] at q
   by_cases hbe : b = e
   · have q' : H b = some (.own x) := by
      rcases he with z | z
      · exact absurd (hbe.trans z) hb
      · rw [hbe]; exact z
     rw [q] at q'; cases q'
     obtain ⟨v, hv⟩ := heo
     exact ⟨v, by rw [hbe]; exact hv⟩
   · refine (ok b u q).stay (fun c v hc r => k c v ?_ r) (fun c r => by rw [upd_ne (nown c b r)]; exact r) fun c xs r => by rw [upd_ne (ntup c xs r)]; exact r
     rcases hc with rfl | hc
     · exact hbe
     · rintro rfl
       rcases he with z | z
       · exact nown c b hc z
       · rw [hc] at z; cases z; exact hb rfl
end
structure Un (fs ex : List Addr) (H H' : Hp) (h h' : Heap) : Prop where
 keep : ∀ b o, h.get? b = some o → H b = none → b ∉ fs → b ∉ ex → h'.get? b = some o
 slot : ∀ b o, h.get? b = some o → H b = none → b ∈ fs → b ∉ ex → ∃ sl, h'.get? b = some { o with slots := sl }
 free : ∀ b o, h.get? b = some o → H b = none → b ∉ ex → H' b = none
 there : ∀ b o, h.get? b = some o → b ∉ ex → ∃ o', h'.get? b = some o'
 tups : ∀ b xs, H b = some (.tup xs) → H' b = some (.tup xs)
 frzs : ∀ b o u, H b = some (.frz o u) → H' b = some (.frz o u)
 tbls : ∀ b ps, H b = some (.tbl ps) → ∃ more, H' b = some (.tbl (ps ++ more))
section
variable {fs fs' ex ex' : List Addr} {H H1 H2 : Hp} {h h1 h2 h' : Heap} {a x e : Addr} {o : HO}
theorem Un.any (u : Un fs ex H H1 h h1) {b : Addr} {ob : Obj} (q : h.get? b = some ob) (n : H b = none) (hx : b ∉ ex) : ∃ sl, h1.get? b = some { ob with slots := sl } := by
 by_cases hb : b ∈ fs
 · exact u.slot b ob q n hb hx
 · exact ⟨ob.slots, u.keep b ob q n hb hx⟩
theorem Un.trans (a : Un fs ex H H1 h h1) (b : Un fs ex H1 H2 h1 h2) : Un fs ex H H2 h h2 where
 keep := fun c ob q n hc hx => b.keep c ob (a.keep c ob q n hc hx) (a.free c ob q n hx) hc hx
 slot := fun c ob q n hc hx => by
  obtain ⟨sl, e1⟩ := a.slot c ob q n hc hx
  obtain ⟨sl', e2⟩ := b.slot c _ e1 (a.free c ob q n hx) hc hx
  exact ⟨sl', e2⟩
 free := fun c ob q n hx => by
  obtain ⟨o', e1⟩ := a.there c ob q hx
  exact b.free c o' e1 (a.free c ob q n hx) hx
 there := fun c ob q hx => by
  obtain ⟨o', e1⟩ := a.there c ob q hx
  exact b.there c o' e1 hx
 tups := fun c xs q => b.tups c xs (a.tups c xs q)
 frzs := fun c ob xs q => b.frzs c ob xs (a.frzs c ob xs q)
 tbls := fun c ps q => by
  obtain ⟨m1, e1⟩ := a.tbls c ps q
  obtain ⟨m2, e2⟩ := b.tbls c _ e1
  exact ⟨m1 ++ m2, by rw [e2, Array.append_assoc]⟩
theorem Un.kept (k : ∀ b u, h.get? b = some u → h'.get? b = some u) : Un fs ex H H h h' :=
 ⟨fun b ob q _ _ _ => k b ob q, fun b ob q _ _ _ => ⟨ob.slots, k b ob q⟩, fun _ _ _ n _ => n, fun b ob q _ => ⟨ob, k b ob q⟩, fun _ _ q => q, fun _ _ _ q => q, fun _ ps q => ⟨#[], by rw [q]; simp⟩⟩
theorem Un.refl : Un fs ex H H h h := Un.kept fun _ _ q => q
theorem Un.laid (k : ∀ b u, h.get? b = some u → h'.get? b = some u) (hp : h.objs.size ≤ a) (hn : H a = none) : Un fs ex H (upd H a o) h h' where
 keep := fun b u q _ _ _ => k b u q
 slot := fun b u q _ _ _ => ⟨u.slots, k b u q⟩
 free := fun b u q n _ => by rw [upd_ne (Nat.ne_of_lt (Nat.lt_of_lt_of_le (Heap.lt_size q) hp))]; exact n
 there := fun b u q _ => ⟨u, k b u q⟩
 tups := fun b xs q => by rw [upd_ne (ne_of_none q hn)]; exact q
 frzs := fun b u xs q => by rw [upd_ne (ne_of_none q hn)]; exact q
 tbls := fun b ps q => ⟨#[], by rw [upd_ne (ne_of_none q hn), q]; simp⟩
theorem Un.write (mu : Mut (H x)) (he : e = x ∨ H e = some (.own x)) (k : ∀ b u, b ≠ e → h.get? b = some u → h'.get? b = some u) (heo : ∃ u, h'.get? e = some u) : Un fs ex H (upd H x o) h h' := by
 have hx : ∀ b, H b = none → b ≠ x := fun b n z => by subst z; rw [n] at mu; exact mu
 have hb : ∀ b, H b = none → b ≠ e := fun b n z => by
  subst z
  rcases he with r | r
  · exact hx b n r
  · rw [n] at r; cases r
 have hm : ∀ b u, H b = some u → ¬ Mut (some u) → b ≠ x := fun b u q nm z => by subst z; rw [q] at mu; exact nm mu
 refine ⟨fun b u q n _ _ => k b u (hb b n) q, fun b u q n _ _ => ⟨u.slots, k b u (hb b n) q⟩, fun b u q n _ => by rw [upd_ne (hx b n)]; exact n, fun b u q _ => ?_,
  fun b xs q => by rw [upd_ne (hm b _ q fun z => z)]; exact q, fun b u xs q => by rw [upd_ne (hm b _ q fun z => z)]; exact q, fun b ps q => ⟨#[], by rw [upd_ne (hm b _ q fun z => z), q]; simp⟩⟩
 by_cases hbe : b = e
 · subst hbe; exact heo
 · exact ⟨u, k b u hbe q⟩
theorem Un.mono (u : Un fs ex H H1 h h1) (hs : ∀ b ∈ fs, b ∈ fs') (hx : ∀ b ∈ ex, b ∈ ex') : Un fs' ex' H H1 h h1 :=
 ⟨fun b ob q n hb he => u.keep b ob q n (fun z => hb (hs b z)) fun z => he (hx b z), fun _ _ q n _ he => u.any q n fun z => he (hx _ z), fun b ob q n he => u.free b ob q n fun z => he (hx b z), fun b ob q he => u.there b ob q fun z => he (hx b z), u.tups, u.frzs, u.tbls⟩
end
def trk (h : Heap) (H : Hp) : List Addr := (List.range h.objs.size).filter fun a => (H a).isSome
def hidT (h : Heap) (H : Hp) : Heap := PySem.W.hideAll h (trk h H)
theorem hidT_size (h : Heap) (H : Hp) : (hidT h H).objs.size = h.objs.size := PySem.W.hideAll_size _ _
theorem hidT_get {h : Heap} {H : Hp} {b : Addr} {o : Obj} (e : h.get? b = some o) (n : H b = none) : (hidT h H).get? b = some o :=
 PySem.W.hideAll_get _ e fun hm => by
  have q : (H b).isSome = true := (List.mem_filter.mp hm).2
  rw [n] at q; simp at q
theorem of_hidT {h : Heap} {H : Hp} {b : Addr} {o : Obj} (e : (hidT h H).get? b = some o) : h.get? b = some o ∧ H b = none := by
 have e' : h.get? b = some o := PySem.W.of_hideAll (trk h H) e
 refine ⟨e', ?_⟩
 cases q : H b with
 | none => rfl
 | some x =>
  have hm : b ∈ trk h H := List.mem_filter.mpr ⟨List.mem_range.mpr (Heap.lt_size e'), by simp [q]⟩
  have z : (hidT h H).get? b = none := PySem.W.hideAll_none (trk h H) hm
  rw [z] at e; cases e
def allNews (g h : Heap) (L : Addr) : List (Addr × Obj) := (List.range h.objs.size).filterMap fun a => if a = L ∨ (g.get? a).isSome = true then none else (h.get? a).map fun o => (a, o)
def rest (g h : Heap) (L d : Addr) : List (Addr × Obj) := (allNews g h L).filter fun p => decide (p.1 ≠ d)
end L2
namespace L2
open PySem PySem.Spec PyProof.Rows
structure Mod (K : PySem.W.Frag) (mg : Str → Option Value) (base : Heap) : Prop where
 kin : K.In base
 glob : base.Ns mainGlobals mg
 blt : ∃ mb, base.Ns builtinsNs mb ∧ ∀ x : Str, x ≠ "__name__" → mb x = bootBuiltins x
 nolimit : base.NoLimit
structure Cx where
 prog : Program
 w : World
 K : PySem.W.Frag
 mg : Str → Option Value
 base : Heap
 A : Around
 N : List Str
 s₀ : Shared
 H₀ : Hp
 env : Env
 outer : List Env
 stack : List Env
 ex : List Addr
 fn : Str → Bool
 calm : Bool
 pn : List (Addr × Obj)
 xe : Value → Shared → Prop
def frs (l : List Env) : List Addr := l.filterMap (·.frame)
abbrev Cx.fs (X : Cx) : List Addr := frs X.outer
def Vis (sc : Scope) (x : Str) : Prop := sc.names.lookup x = some .local ∨ sc.names.lookup x = some .cell ∨ sc.names.lookup x = some .free
def Loc (sc : Scope) (x : Str) : Prop := sc.names.lookup x = some .local ∨ sc.names.lookup x = some .cell
def Look (env : Env) (h : Heap) (m : Str → Option Value) (x : Str) (u : Value) : Prop :=
 (env.kindOf x = some .local ∧ m x = some u) ∨ ((env.kindOf x = some .cell ∨ env.kindOf x = some .free) ∧ ∃ c, env.cells.lookup x = some c ∧ h.IsCell c (some u))
structure Cx.Ok (X : Cx) : Prop where
 mod : Mod X.K X.mg X.base
 kind : X.env.scope.kind = .function
 glob : X.env.globals = mainGlobals
 blt : X.env.builtins = builtinsNs
 above : X.s₀.heap.objs.size ≤ X.env.locals
 inj : ∀ x y c, X.env.cells.lookup x = some c → X.env.cells.lookup y = some c → x = y
 has : ∀ x, (X.env.kindOf x = some .cell ∨ X.env.kindOf x = some .free) → ∃ c, X.env.cells.lookup x = some c
 cab : ∀ x c, X.fn x = true → X.env.cells.lookup x = some c → X.s₀.heap.objs.size ≤ c
 hd : X.calm = true → X.A.handled = none
 frames : X.A.frames = some X.stack
 stk : X.stack = X.outer ∨ (X.stack = X.env :: X.outer ∧ X.env.frame = some X.env.locals)
 exf : ∀ b ∈ X.ex, b ≠ X.env.locals ∧ ∀ x c, X.env.cells.lookup x = some c → c ≠ b
 bs : ∀ b o, X.base.get? b = some o → X.s₀.heap.get? b = some o ∧ X.H₀ b = none
 bsz : X.base.objs.size ≤ X.s₀.heap.objs.size
 noex : ∀ b o, X.base.get? b = some o → b ∉ X.ex
 exfs : ∀ b ∈ X.ex, b ∉ X.fs
 funs : X.s₀.heap.FunFrames X.base X.outer
 frf : ∀ b ∈ X.fs, X.H₀ b = none
structure Inv (X : Cx) (pins : List (Addr × Obj)) (σ : List (Option V)) (H : Hp) (s : Shared) : Prop where
 ok : X.Ok
 os : s.os = X.s₀.os
 bare : AllBare s.gens
 base : Un X.fs X.ex X.H₀ H X.s₀.heap s.heap
 loc : ∃ m, s.heap.Ns X.env.locals m ∧ ∀ (i : Nat) (x : Str) (v : V), X.N[i]? = some x → σ[i]? = some (some v) → Vis X.env.scope x → ∃ u, RelV v u ∧ Look X.env s.heap m x u
 cell : ∀ x c, X.env.cells.lookup x = some c → ∃ v, s.heap.IsCell c v
 free : H X.env.locals = none
 freeC : ∀ x c, X.env.cells.lookup x = some c → H c = none
 pin : ∀ p ∈ X.pn ++ pins, s.heap.get? p.1 = some p.2 ∧ H p.1 = none ∧ p.1 ≠ X.env.locals ∧ p.1 ∉ X.fs ∧ ∀ v, p.2.data ≠ .cell v
 hok : HOk X.prog X.w H s.heap
 len : σ.length = X.N.length
section
variable {X : Cx} {pins : List (Addr × Obj)} {σ : List (Option V)} {H H' : Hp} {s : Shared} {h' : Heap}
theorem Cx.Ok.nofr (ok : X.Ok) {b : Addr} {o : Obj} (e : X.base.get? b = some o) : b ∉ X.fs := fun hb => by
 have := (ok.funs.mem hb).1
 rw [e] at this; cases this
theorem Inv.bs (I : Inv X pins σ H s) : ∀ b o, X.base.get? b = some o → s.heap.get? b = some o ∧ H b = none := fun b o e =>
 ⟨I.base.keep b o (I.ok.bs b o e).1 (I.ok.bs b o e).2 (I.ok.nofr e) (I.ok.noex b o e), I.base.free b o (I.ok.bs b o e).1 (I.ok.bs b o e).2 (I.ok.noex b o e)⟩
theorem Inv.bk (I : Inv X pins σ H s) : ∀ b o, X.base.get? b = some o → s.heap.get? b = some o := fun b o e => (I.bs b o e).1
theorem Inv.mod (I : Inv X pins σ H s) : Mod X.K X.mg X.base := I.ok.mod
theorem Inv.kIn (I : Inv X pins σ H s) : X.K.In s.heap := I.ok.mod.kin.keeps I.bk
theorem Inv.nolimit (I : Inv X pins σ H s) : s.heap.NoLimit := I.ok.mod.nolimit.keeps I.bk
theorem Inv.fr (I : Inv X pins σ H s) : ∃ m, Fr X.base X.env.locals s.heap m :=
 let ⟨m, hn, _⟩ := I.loc
 ⟨m, hn, I.bk, Nat.le_trans I.ok.bsz I.ok.above⟩
theorem Inv.lt (I : Inv X pins σ H s) : X.env.locals < s.heap.objs.size := let ⟨_, hn, _⟩ := I.loc; hn.lt
theorem Inv.sz (I : Inv X pins σ H s) : X.s₀.heap.objs.size ≤ s.heap.objs.size := Nat.le_trans I.ok.above (Nat.le_of_lt I.lt)
theorem Inv.nofs (I : Inv X pins σ H s) {a : Addr} (h : s.heap.objs.size ≤ a) : a ∉ X.fs := fun hb => by
 obtain ⟨_, o, ho, _⟩ := I.ok.funs.mem hb
 exact absurd (Nat.lt_of_lt_of_le (Heap.lt_size ho) (Nat.le_trans I.sz h)) (Nat.lt_irrefl _)
theorem Inv.cne (I : Inv X pins σ H s) : ∀ x c, X.env.cells.lookup x = some c → c ≠ X.env.locals := fun x c e z => by
 obtain ⟨v, o, ho, hd⟩ := I.cell x c e
 obtain ⟨m, ⟨o', es, ep, ho', hd', _⟩, _⟩ := I.loc
 rw [z, ho'] at ho; cases ho; rw [hd'] at hd; cases hd
theorem Inv.funs (I : Inv X pins σ H s) : s.heap.FunFrames X.base X.outer := by
 have all : ∀ (l : List Env), (∀ b ∈ frs l, b ∈ X.fs) → X.s₀.heap.FunFrames X.base l → s.heap.FunFrames X.base l := by
  intro l
  induction l with
  | nil => intro _ _; trivial
  | cons env r ih =>
   intro hs hl
   obtain ⟨hk, ⟨L, o, hf, hn, ho, hd⟩, hr⟩ := hl
   have hL : L ∈ X.fs := hs L (by unfold frs; rw [List.filterMap_cons, hf]; exact List.mem_cons_self)
   obtain ⟨sl, e⟩ := I.base.slot L o ho (I.ok.frf L hL) hL fun z => I.ok.exfs L z hL
   exact ⟨hk, ⟨L, _, hf, hn, e, hd⟩, ih (fun b hb => hs b (by unfold frs; rw [List.filterMap_cons, hf]; exact List.mem_cons_of_mem _ hb)) hr⟩
 exact all X.outer (fun _ hb => hb) I.ok.funs
theorem Inv.stack (I : Inv X pins σ H s) : s.heap.FunFrames X.base X.stack := by
 rcases I.ok.stk with e | ⟨e, hf⟩
 · rw [e]; exact I.funs
 · rw [e]
   obtain ⟨m, hn, _⟩ := I.loc
   refine .cons (by rw [I.ok.kind]; decide) hf hn ?_ I.funs
   exact Heap.get?_none_of_le (Nat.le_trans I.ok.bsz I.ok.above)
theorem Inv.stkSub (I : Inv X pins σ H s) : ∀ b ∈ frs X.stack, b ∈ X.env.locals :: X.fs := fun b hb => by
 rcases I.ok.stk with e | ⟨e, hf⟩
 · rw [e] at hb; exact List.mem_cons_of_mem _ hb
 · rw [e] at hb
   unfold frs at hb
   rw [List.filterMap_cons, hf] at hb
   exact hb
theorem Inv.stkFree (I : Inv X pins σ H s) : ∀ b ∈ frs X.stack, H b = none := fun b hb => by
 rcases List.mem_cons.mp (I.stkSub b hb) with e | hb
 · rw [e]; exact I.free
 · obtain ⟨_, o, ho, _⟩ := I.ok.funs.mem hb
   exact I.base.free b o ho (I.ok.frf b hb) fun z => I.ok.exfs b z hb
theorem Inv.step {g' : Array GenState} {t' : Nat} {d' : Drawn} {ch : List Addr} (I : Inv X pins σ H s)
 (hch : ∀ b ∈ ch, (b ∈ X.ex ∨ X.s₀.heap.objs.size ≤ b) ∧ b ≠ X.env.locals ∧ (∀ x c, X.env.cells.lookup x = some c → c ≠ b) ∧ ∀ p ∈ X.pn ++ pins, p.1 ≠ b)
 (keep : ∀ b o, b ≠ X.env.locals → b ∉ X.fs → b ∉ ch → s.heap.get? b = some o → H b = none → h'.get? b = some o)
 (slot : ∀ b o, b ≠ X.env.locals → b ∈ X.fs → b ∉ ch → s.heap.get? b = some o → H b = none → ∃ sl, h'.get? b = some { o with slots := sl }) (free : ∀ b o, b ∉ ch → s.heap.get? b = some o → H b = none → H' b = none)
 (there : ∀ b o, b ∉ ch → s.heap.get? b = some o → ∃ o', h'.get? b = some o')
 (tups : ∀ b xs, H b = some (.tup xs) → H' b = some (.tup xs)) (frzs : ∀ b o u, H b = some (.frz o u) → H' b = some (.frz o u)) (tbls : ∀ b ps, H b = some (.tbl ps) → ∃ more, H' b = some (.tbl (ps ++ more)))
 (ns : ∀ m, s.heap.Ns X.env.locals m → h'.Ns X.env.locals m) (hok : HOk X.prog X.w H' h') (hg : AllBare g') :
 Inv X pins σ H' { s with heap := h', gens := g', drawn := d', toks := t' } := by
 have neL : ∀ b o, X.s₀.heap.get? b = some o → b ≠ X.env.locals := fun b o e => Nat.ne_of_lt (Nat.lt_of_lt_of_le (Heap.lt_size e) I.ok.above)
 have neC : ∀ b o, X.s₀.heap.get? b = some o → b ∉ X.ex → b ∉ ch := fun b o e hx hb => by
  rcases (hch b hb).1 with z | z
  · exact hx z
  · exact absurd (Nat.lt_of_lt_of_le (Heap.lt_size e) z) (Nat.lt_irrefl _)
 have cellK : ∀ x c, X.env.cells.lookup x = some c → ∀ v, s.heap.IsCell c v → h'.IsCell c v := fun x c e v ⟨o, ho, hd⟩ => by
  have nch : c ∉ ch := fun z => (hch c z).2.2.1 x c e rfl
  by_cases hc : c ∈ X.fs
  · obtain ⟨sl, q⟩ := slot c o (I.cne x c e) hc nch ho (I.freeC x c e)
    exact ⟨_, q, hd⟩
  · exact ⟨o, keep c o (I.cne x c e) hc nch ho (I.freeC x c e), hd⟩
 refine ⟨I.ok, I.os, hg, ⟨fun b o e n hb hx => ?_, fun b o e n hb hx => ?_, fun b o e n hx => ?_, fun b o e hx => ?_, fun b xs e => tups b xs (I.base.tups b xs e), fun b o xs e => frzs b o xs (I.base.frzs b o xs e), fun b ps e => ?_⟩, ?_, fun x c e => ?_, ?_, fun x c e => ?_, fun p hp => ?_, hok, I.len⟩
 · exact keep b o (neL b o e) hb (neC b o e hx) (I.base.keep b o e n hb hx) (I.base.free b o e n hx)
 · obtain ⟨sl, e1⟩ := I.base.slot b o e n hb hx
   obtain ⟨sl', e2⟩ := slot b _ (neL b o e) hb (neC b o e hx) e1 (I.base.free b o e n hx)
   exact ⟨sl', e2⟩
 · obtain ⟨o', e1⟩ := I.base.there b o e hx
   exact free b o' (neC b o e hx) e1 (I.base.free b o e n hx)
 · obtain ⟨o', e1⟩ := I.base.there b o e hx
   exact there b o' (neC b o e hx) e1
 · obtain ⟨m1, e1⟩ := I.base.tbls b ps e
   obtain ⟨m2, e2⟩ := tbls b _ e1
   exact ⟨m1 ++ m2, by rw [e2, Array.append_assoc]⟩
 · obtain ⟨m, hn, hl⟩ := I.loc
   refine ⟨m, ns m hn, fun i x v e1 e2 e3 => ?_⟩
   obtain ⟨u, r, l⟩ := hl i x v e1 e2 e3
   refine ⟨u, r, ?_⟩
   rcases l with l | ⟨k, c, e, z⟩
   · exact .inl l
   · exact .inr ⟨k, c, e, cellK x c e _ z⟩
 · obtain ⟨v, z⟩ := I.cell x c e
   exact ⟨v, cellK x c e v z⟩
 · obtain ⟨m, ⟨o, _, _, ho, _⟩, _⟩ := I.loc
   exact free _ o (fun z => (hch _ z).2.1 rfl) ho I.free
 · obtain ⟨v, o, ho, hd⟩ := I.cell x c e
   exact free c o (fun z => (hch c z).2.2.1 x c e rfl) ho (I.freeC x c e)
 · obtain ⟨e, n, ne, nf, d⟩ := I.pin p hp
   have nch : p.1 ∉ ch := fun z => (hch p.1 z).2.2.2 p hp rfl
   exact ⟨keep p.1 p.2 ne nf nch e n, free p.1 p.2 nch e n, ne, nf, d⟩
theorem Inv.un {t' : Nat} (I : Inv X pins σ H s) (u : Un X.fs [] H H' s.heap h') (hok : HOk X.prog X.w H' h') : Inv X pins σ H' { s with heap := h', toks := t' } := by
 obtain ⟨m, ⟨o, es, ep, ho, r⟩, _⟩ := id I.loc
 obtain ⟨sl, hL⟩ := u.any ho I.free (by simp)
 exact I.step (g' := s.gens) (d' := s.drawn) (ch := []) (fun _ z => nomatch z) (fun b o _ hb _ e n => u.keep b o e n hb (by simp)) (fun b o _ hb _ e n => u.slot b o e n hb (by simp)) (fun b o _ e n => u.free b o e n (by simp)) (fun b o _ e => u.there b o e (by simp)) u.tups u.frzs u.tbls (fun m' hm => by
  obtain ⟨o', es', ep', ho', r'⟩ := hm
  rw [ho] at ho'; cases ho'
  exact ⟨_, es', ep', hL, r'⟩) hok I.bare
theorem Inv.call {g' : Array GenState} {t' : Nat} {d' : Drawn} {ch : List Addr} (I : Inv X pins σ H s) (u : Un (frs X.stack) ch H H' s.heap h') (hok : HOk X.prog X.w H' h') (hg : AllBare g')
 (hch : ∀ b ∈ ch, (b ∈ X.ex ∨ X.s₀.heap.objs.size ≤ b) ∧ b ≠ X.env.locals ∧ (∀ x c, X.env.cells.lookup x = some c → c ≠ b) ∧ ∀ p ∈ X.pn ++ pins, p.1 ≠ b) :
 Inv X pins σ H' { s with heap := h', gens := g', drawn := d', toks := t' } := by
 obtain ⟨m, ⟨o, es, ep, ho, r⟩, _⟩ := id I.loc
 obtain ⟨sl, hL⟩ := u.any ho I.free fun z => (hch _ z).2.1 rfl
 exact I.step (ch := ch) hch (fun b o hL hb hc e n => u.keep b o e n (fun z => (List.mem_cons.mp (I.stkSub b z)).elim hL hb) hc) (fun b o _ _ hc e n => u.any e n hc) (fun b o hc e n => u.free b o e n hc) (fun b o hc e => u.there b o e hc) u.tups u.frzs u.tbls (fun m' hm => by
  obtain ⟨o', es', ep', ho', r'⟩ := hm
  rw [ho] at ho'; cases ho'
  exact ⟨_, es', ep', hL, r'⟩) hok hg
theorem Inv.turned {t' : Nat} {it : Addr} (I : Inv X pins σ H s) (k : ∀ b o, b ≠ it → s.heap.get? b = some o → h'.get? b = some o) (hn : H it = none) (hL : it ≠ X.env.locals)
 (h1 : it ∈ X.ex ∨ X.s₀.heap.objs.size ≤ it) (h2 : ∀ x c, X.env.cells.lookup x = some c → c ≠ it) (h3 : ∀ p ∈ X.pn ++ pins, p.1 ≠ it) : Inv X pins σ H { s with heap := h', toks := t' } := by
 have nit : ∀ b u, H b = some u → b ≠ it := fun b u e z => by rw [z, hn] at e; cases e
 refine I.step (g' := s.gens) (d' := s.drawn) (ch := [it]) (fun b hb => ?_) (fun b o _ _ hc e _ => k b o (fun z => hc (by simp [z])) e) (fun b o _ _ hc e _ => ⟨o.slots, k b o (fun z => hc (by simp [z])) e⟩) (fun _ _ _ _ n => n)
  (fun b o hc e => ⟨o, k b o (fun z => hc (by simp [z])) e⟩) (fun _ _ e => e) (fun _ _ _ e => e) (fun b ps e => ⟨#[], by rw [e]; simp⟩) (fun m hm => ?_) (fun b u e => ?_) I.bare
 · have e : b = it := by simpa using hb
   subst e
   exact ⟨h1, hL, h2, h3⟩
 · obtain ⟨o, es, ep, ho, r⟩ := hm
   exact ⟨o, es, ep, k _ o (Ne.symm hL) ho, r⟩
 · refine (I.hok b u e).stay (fun c v hc q => k c v ?_ q) (fun _ q => q) fun _ _ q => q
   rcases hc with z | z
   · rw [z]; exact nit b u e
   · exact nit c _ z
theorem Inv.tok (I : Inv X pins σ H s) (t : Nat) : Inv X pins σ H { s with toks := t } := I.un (h' := s.heap) (t' := t) Un.refl I.hok
theorem Inv.kept {t' : Nat} (I : Inv X pins σ H s) (k : ∀ b u, s.heap.get? b = some u → h'.get? b = some u) : Inv X pins σ H { s with heap := h', toks := t' } := I.un (Un.kept k) (I.hok.kept k)
theorem Inv.laid {a : Addr} {o : HO} {t' : Nat} (I : Inv X pins σ H s) (k : ∀ b u, s.heap.get? b = some u → h'.get? b = some u) (hp : s.heap.objs.size ≤ a) (new : ObjOk X.prog X.w (upd H a o) h' a o) :
 Inv X pins σ (upd H a o) { s with heap := h', toks := t' } := I.un (Un.laid k hp (I.hok.fresh hp)) (I.hok.laid k hp new)
theorem Inv.write {x e : Addr} {o : HO} {t' : Nat} (I : Inv X pins σ H s) (mu : Mut (H x)) (he : e = x ∨ H e = some (.own x)) (k : ∀ b u, b ≠ e → s.heap.get? b = some u → h'.get? b = some u) (heo : ∃ u, h'.get? e = some u)
 (new : ObjOk X.prog X.w (upd H x o) h' x o) : Inv X pins σ (upd H x o) { s with heap := h', toks := t' } := I.un (Un.write mu he k heo) (I.hok.write mu he k heo new)
theorem Inv.pins_of {pins' : List (Addr × Obj)} (I : Inv X pins σ H s) (h : ∀ p ∈ pins', s.heap.get? p.1 = some p.2 ∧ H p.1 = none ∧ p.1 ≠ X.env.locals ∧ p.1 ∉ X.fs ∧ ∀ v, p.2.data ≠ .cell v) : Inv X pins' σ H s :=
 ⟨I.ok, I.os, I.bare, I.base, I.loc, I.cell, I.free, I.freeC, fun p hp => (List.mem_append.mp hp).elim (fun z => I.pin p (List.mem_append_left _ z)) (h p), I.hok, I.len⟩
theorem nodup_ix {N : List Str} (hN : N.Nodup) {i j : Nat} {x : Str} (a : N[i]? = some x) (b : N[j]? = some x) : i = j := by
 obtain ⟨h1, e1⟩ := List.getElem?_eq_some_iff.mp a
 obtain ⟨h2, e2⟩ := List.getElem?_eq_some_iff.mp b
 exact (List.getElem_inj hN).mp (e1.trans e2.symm)
theorem store_ok2 {M : Model} {A : Around} {E : Value → Shared → Prop} {i : Nat} {x : Str} {v : V} {u : Value} {Q : Unit → Shared → Prop} (I : Inv X pins σ H s) (hN : X.N.Nodup) (hi : X.N[i]? = some x) (hx : Loc X.env.scope x) (r : RelV v u)
 (h : ∀ s', Inv X pins (σ.set i (some v)) H s' → (∃ a, Heap.SameBut a s.heap s'.heap ∧ (a = X.env.locals ∨ X.env.cells.lookup x = some a)) → Q () s') (hf : X.fn x = true ∨ X.env.scope.names.lookup x = some .local := by first | exact .inl rfl | exact .inr rfl | assumption) : wpAny M A (storeName X.env x u) Q E s := by
 obtain ⟨m, hn, hl⟩ := id I.loc
 have hcls : (X.env.scope.kind == .class || (X.env.scope.kind == .module && X.env.locals != X.env.globals)) = false := by rw [I.ok.kind]; rfl
 have hiσ : i < σ.length := by rw [I.len]; exact (List.getElem?_eq_some_iff.mp hi).1
 have cne := I.cne
 have tracked : ∀ {a : Addr} {h' : Heap}, (∃ o, s.heap.get? a = some o ∧ H a = none) → Heap.SameBut a s.heap h' → HOk X.prog X.w H h' := fun {a h'} ha hs b ob e => by
  obtain ⟨_, _, hfree⟩ := ha
  refine (I.hok b ob e).stay (fun c w' hc q => (hs.2 c ?_).trans q) (fun _ q => q) fun _ _ q => q
  rintro rfl
  rcases hc with rfl | hc
  · rw [hfree] at e; cases e
  · rw [hfree] at hc; cases hc
 rcases hx with hk | hk
 · refine wpAny_storeName_local hk hn (fun h' hn' hs => ?_) hcls
   obtain ⟨oL, _, _, hoL, _⟩ := id hn
   refine h _ ⟨I.ok, I.os, I.bare, ⟨fun b o e n hb hx => ?_, fun b o e n hb hx => ?_, I.base.free, fun b o e hx => ?_, I.base.tups, I.base.frzs, I.base.tbls⟩, ⟨_, hn', fun j y v' e1 e2 e3 => ?_⟩, fun y c e => ?_, I.free, I.freeC, fun p hp => ?_, tracked ⟨oL, hoL, I.free⟩ hs, by simpa using I.len⟩ ⟨_, hs, .inl rfl⟩
   · exact (hs.2 b (Nat.ne_of_lt (Nat.lt_of_lt_of_le (Heap.lt_size e) I.ok.above))).trans (I.base.keep b o e n hb hx)
   · obtain ⟨sl, e1⟩ := I.base.slot b o e n hb hx
     exact ⟨sl, (hs.2 b (Nat.ne_of_lt (Nat.lt_of_lt_of_le (Heap.lt_size e) I.ok.above))).trans e1⟩
   · obtain ⟨o', e1⟩ := I.base.there b o e hx
     exact ⟨o', (hs.2 b (Nat.ne_of_lt (Nat.lt_of_lt_of_le (Heap.lt_size e) I.ok.above))).trans e1⟩
   · by_cases hj : j = i
     · subst hj
       rw [hi] at e1; cases e1
       rw [List.getElem?_set_self hiσ] at e2
       cases e2
       exact ⟨u, r, .inl ⟨hk, by simp⟩⟩
     · rw [List.getElem?_set_ne (Ne.symm hj)] at e2
       obtain ⟨u', r', q⟩ := hl j y v' e1 e2 e3
       refine ⟨u', r', ?_⟩
       rcases q with ⟨k, e⟩ | ⟨k, c, e, z⟩
       · refine .inl ⟨k, ?_⟩
         have : y ≠ x := fun e => hj (nodup_ix hN e1 (e ▸ hi))
         simp [this, e]
       · exact .inr ⟨k, c, e, z.sameBut hs (cne y c e)⟩
   · obtain ⟨w', z⟩ := I.cell y c e
     exact ⟨w', z.sameBut hs (cne y c e)⟩
   · obtain ⟨e, n, ne, nf, d⟩ := I.pin p hp
     exact ⟨(hs.2 p.1 ne).trans e, n, ne, nf, d⟩
 · have hfn : X.fn x = true := by
    rcases hf with z | z
    · exact z
    · rw [z] at hk; cases hk
   obtain ⟨c, hc⟩ := I.ok.has x (.inl hk)
   obtain ⟨w', z⟩ := I.cell x c hc
   refine wpAny_storeName_cell I.ok.kind hk hc z (fun h' hc' hs => ?_)
   obtain ⟨oc, hoc, hocd⟩ := id z
   refine h { s with heap := h' } ⟨I.ok, I.os, I.bare, ⟨fun b o e n hb hx => ?_, fun b o e n hb hx => ?_, I.base.free, fun b o e hx => ?_, I.base.tups, I.base.frzs, I.base.tbls⟩, ⟨m, hn.sameBut hs (Ne.symm (cne x c hc)), fun j y v' e1 e2 e3 => ?_⟩, fun y c' e => ?_, I.free, I.freeC, fun p hp => ?_, tracked ⟨oc, hoc, I.freeC x c hc⟩ hs, by simpa using I.len⟩ ⟨c, hs, .inr hc⟩
   · exact (hs.2 b (Nat.ne_of_lt (Nat.lt_of_lt_of_le (Heap.lt_size e) (I.ok.cab x c hfn hc)))).trans (I.base.keep b o e n hb hx)
   · obtain ⟨sl, e1⟩ := I.base.slot b o e n hb hx
     exact ⟨sl, (hs.2 b (Nat.ne_of_lt (Nat.lt_of_lt_of_le (Heap.lt_size e) (I.ok.cab x c hfn hc)))).trans e1⟩
   · obtain ⟨o', e1⟩ := I.base.there b o e hx
     exact ⟨o', (hs.2 b (Nat.ne_of_lt (Nat.lt_of_lt_of_le (Heap.lt_size e) (I.ok.cab x c hfn hc)))).trans e1⟩
   · by_cases hj : j = i
     · subst hj
       rw [hi] at e1; cases e1
       rw [List.getElem?_set_self hiσ] at e2
       cases e2
       exact ⟨u, r, .inr ⟨.inl hk, c, hc, hc'⟩⟩
     · rw [List.getElem?_set_ne (Ne.symm hj)] at e2
       obtain ⟨u', r', q⟩ := hl j y v' e1 e2 e3
       refine ⟨u', r', ?_⟩
       rcases q with q | ⟨k, c', e, z'⟩
       · exact .inl q
       · refine .inr ⟨k, c', e, z'.sameBut hs ?_⟩
         rintro rfl
         exact hj (nodup_ix hN e1 (I.ok.inj _ _ _ e hc ▸ hi))
   · by_cases hcc : c' = c
     · subst hcc; exact ⟨_, hc'⟩
     · obtain ⟨w2, z2⟩ := I.cell y c' e
       exact ⟨w2, z2.sameBut hs hcc⟩
   · obtain ⟨e, n, ne, nf, d⟩ := I.pin p hp
     refine ⟨(hs.2 p.1 ?_).trans e, n, ne, nf, d⟩
     intro q
     rw [q, hoc] at e
     have q' : oc = p.2 := Option.some.inj e
     exact d w' (by rw [← q']; exact hocd)
theorem store_ok {M : Model} {A : Around} {E : Value → Shared → Prop} {i : Nat} {x : Str} {v : V} {u : Value} {Q : Unit → Shared → Prop} (I : Inv X pins σ H s) (hN : X.N.Nodup) (hi : X.N[i]? = some x) (hx : Loc X.env.scope x) (r : RelV v u)
 (h : ∀ s', Inv X pins (σ.set i (some v)) H s' → Q () s') (hf : X.fn x = true ∨ X.env.scope.names.lookup x = some .local := by first | exact .inl rfl | exact .inr rfl | assumption) : wpAny M A (storeName X.env x u) Q E s :=
 store_ok2 I hN hi hx r (fun s' I' _ => h s' I') hf
theorem Inv.call' {s' : Shared} {ch : List Addr} (I : Inv X pins σ H s) (ho : s'.os = s.os) (u : Un (frs X.stack) ch H H' s.heap s'.heap) (hok : HOk X.prog X.w H' s'.heap) (hg : AllBare s'.gens)
 (hch : ∀ b ∈ ch, (b ∈ X.ex ∨ X.s₀.heap.objs.size ≤ b) ∧ b ≠ X.env.locals ∧ (∀ x c, X.env.cells.lookup x = some c → c ≠ b) ∧ ∀ p ∈ X.pn ++ pins, p.1 ≠ b) : Inv X pins σ H' s' := by
 obtain ⟨h', g', d', t', o'⟩ := s'
 have e : o' = s.os := ho
 subst e
 exact I.call (g' := g') (t' := t') (d' := d') u hok hg hch
end
abbrev XK := Value → Option Addr → Hp → Prop
abbrev St := List (Option V)
abbrev VK := V → Hp → Prop
abbrev TE := St → Hp → VK → Prop
abbrev TT := St → Hp → (Bool → Hp → Prop) → Prop
abbrev TA := St → Hp → (List V → Hp → Prop) → Prop
structure Ends where
 nx : St → Hp → Prop
 rt : VK
 bk : St → Hp → Prop := fun _ _ => False
 ct : St → Hp → Prop := fun _ _ => False
abbrev TS := Ends → St → Hp → Prop
def EP (X : Cx) (pins : List (Addr × Obj)) (σ : St) (Q : VK) (u : Value) (s' : Shared) : Prop := ∃ v H', Inv X pins σ H' s' ∧ RelV v u ∧ Q v H'
def TP (X : Cx) (pins : List (Addr × Obj)) (σ : St) (Q : Bool → Hp → Prop) (b : Bool) (s' : Shared) : Prop := ∃ H', Inv X pins σ H' s' ∧ Q b H'
def AP (X : Cx) (pins : List (Addr × Obj)) (σ : St) (Q : List V → Hp → Prop) (us : List Value) (s' : Shared) : Prop := ∃ vs H', Inv X pins σ H' s' ∧ Vals vs us ∧ Q vs H'
def SP (X : Cx) (pins : List (Addr × Obj)) (D : Ends) (f : Flow) (s' : Shared) : Prop :=
 match f with
 | .next => ∃ σ' H', Inv X pins σ' H' s' ∧ D.nx σ' H'
 | .brk => ∃ σ' H', Inv X pins σ' H' s' ∧ D.bk σ' H'
 | .cont => ∃ σ' H', Inv X pins σ' H' s' ∧ D.ct σ' H'
 | .ret u => ∃ v σ' H', Inv X pins σ' H' s' ∧ RelV v u ∧ D.rt v H'
def PE (X : Cx) (e : Expr) (t : TE) : Prop :=
 ∀ (pins : List (Addr × Obj)) (s : Shared) (σ : St) (H : Hp) (Q : VK), Inv X pins σ H s → t σ H Q → wpAny (model X.prog X.w) X.A (eval e X.env) (EP X pins σ Q) X.xe s
def PT (X : Cx) (e : Expr) (t : TT) : Prop :=
 ∀ (pins : List (Addr × Obj)) (s : Shared) (σ : St) (H : Hp) (Q : Bool → Hp → Prop), Inv X pins σ H s → t σ H Q → wpAny (model X.prog X.w) X.A (isTrue e X.env (eval e X.env)) (TP X pins σ Q) X.xe s
def PW (X : Cx) (e : Expr) (t : TT) : Prop :=
 ∀ (whole : Sem Value) (pins : List (Addr × Obj)) (s : Shared) (σ : St) (H : Hp) (Q : Bool → Hp → Prop), Inv X pins σ H s → t σ H Q → wpAny (model X.prog X.w) X.A (isTrue e X.env whole) (TP X pins σ Q) X.xe s
theorem PW.pt {X : Cx} {e : Expr} {t : TT} (h : PW X e t) : PT X e t := h _
def PA (X : Cx) (es : List Expr) (t : TA) : Prop :=
 ∀ (pos : Pos) (pins : List (Addr × Obj)) (s : Shared) (σ : St) (H : Hp) (Q : List V → Hp → Prop), Inv X pins σ H s → t σ H Q → wpAny (model X.prog X.w) X.A (spliced (backTo pos (starEach es X.env))) (AP X pins σ Q) X.xe s
def PS (X : Cx) (st : Stmt) (t : TS) : Prop :=
 ∀ (pins : List (Addr × Obj)) (s : Shared) (σ : St) (H : Hp) (D : Ends), Inv X pins σ H s → t D σ H → wpAny (model X.prog X.w) X.A (exec st X.env) (SP X pins D) X.xe s
def PSs (X : Cx) (st : List Stmt) (t : TS) : Prop :=
 ∀ (pins : List (Addr × Obj)) (s : Shared) (σ : St) (H : Hp) (D : Ends), Inv X pins σ H s → t D σ H → wpAny (model X.prog X.w) X.A (execs st X.env) (SP X pins D) X.xe s
theorem thn {α : Type} {t : Sem α} {Q Q' : α → Shared → Prop} {M : Model} {A : Around} {E : Value → Shared → Prop} {s : Shared} (h : wpAny M A t Q E s) (hQ : ∀ a s, Q a s → Q' a s) : wpAny M A t Q' E s := wpAny_mono h hQ fun _ _ x => x
end L2
namespace L2
open PySem PySem.Spec PyProof.Rows
section
variable {X : Cx}
def tVar (i : Nat) : TE := fun σ H Q => ∃ v, σ[i]? = some (some v) ∧ Q v H
def tC (v : V) : TE := fun _ H Q => Q v H
theorem pe_var {i : Nat} {x : Str} {pos : Pos} (hN : X.N[i]? = some x) (hv : Vis X.env.scope x) (hd : (x == ("__debug__" : Str)) = false := by decide) (hcd : (x == ("__classdict__" : Str)) = false := by decide) : PE X (.Name x pos) (tVar i) := by
 intro pins s σ H Q I h
 obtain ⟨v, e, h⟩ := h
 obtain ⟨m, hn, hl⟩ := I.loc
 obtain ⟨u, r, l⟩ := hl i x v hN e hv
 have fin : EP X pins σ Q u s := ⟨v, H, I, r, h⟩
 rcases l with ⟨hk, hm⟩ | ⟨hk, c, hc, hcell⟩
 · exact wpAny_Name (wpAny_loadName_local I.ok.kind hk hn hm fin) hd
 · rcases hk with hk | hk
   · exact wpAny_Name (wpAny_loadName_cell I.ok.kind hk hc hcell fin) hd
   · exact wpAny_Name (wpAny_loadName_free I.ok.kind hk hc hcell fin hcd) hd
theorem pe_int {i j pos} : PE X (.Constant (.int i) j pos) (tC (.int i)) := fun _ _ _ H _ I h => wpAny_Constant_int ⟨.int i, H, I.tok _, ⟨_, rfl⟩, h⟩
theorem pe_bl {b j pos} : PE X (.Constant (.bool b) j pos) (tC (.bl b)) := fun _ _ _ H _ I h => Constant_bool ⟨.bl b, H, I, rfl, h⟩
theorem pe_non {j pos} : PE X (.Constant .none j pos) (tC .non) := fun _ _ _ H _ I h => Constant_none ⟨.non, H, I, rfl, h⟩
theorem pe_str {x j pos} : PE X (.Constant (.str x) j pos) (tC (.str x)) := fun _ _ _ H _ I h => Calls.Constant_str ⟨.str x, H, I.tok _, ⟨_, rfl⟩, h⟩
def Gl (X : Cx) (x : Str) : Prop := X.env.kindOf x = some .globalImplicit
theorem ld_glob {E : Value → Shared → Prop} {pins : List (Addr × Obj)} {s : Shared} {σ : St} {H : Hp} {x : Str} {u : Value} {pos : Pos} {Q : Value → Shared → Prop} (I : Inv X pins σ H s) (hg : Gl X x) (hm : X.mg x = some u) (h : Q u s)
 (hd : (x == ("__debug__" : Str)) = false := by decide) : wpAny (model X.prog X.w) X.A (eval (.Name x pos) X.env) Q E s :=
 Calls.Name_function_global I.ok.kind hg (Calls.loadGlobal_global (by rw [I.ok.glob]; exact I.mod.glob.keeps I.bk) hm h) hd
theorem ld_blt {E : Value → Shared → Prop} {pins : List (Addr × Obj)} {s : Shared} {σ : St} {H : Hp} {x : Str} {u : Value} {pos : Pos} {Q : Value → Shared → Prop} (I : Inv X pins σ H s) (hg : Gl X x) (hm : X.mg x = none) (hv : bootBuiltins x = some u) (h : Q u s)
 (hn : x ≠ "__name__" := by decide) (hd : (x == ("__debug__" : Str)) = false := by decide) : wpAny (model X.prog X.w) X.A (eval (.Name x pos) X.env) Q E s := by
 obtain ⟨mb, h1, h2⟩ := I.mod.blt
 exact Calls.Name_function_global I.ok.kind hg (Calls.loadGlobal_builtin (by rw [I.ok.glob]; exact I.mod.glob.keeps I.bk) hm (by rw [I.ok.blt]; exact h1.keeps I.bk) ((h2 x hn).trans hv) h) hd
theorem pe_glob {x : Str} {v : V} {u : Value} {pos : Pos} (hg : Gl X x) (hm : X.mg x = some u) (r : RelV v u) (hd : (x == ("__debug__" : Str)) = false := by decide) : PE X (.Name x pos) (tC v) :=
 fun _ _ _ H _ I h => ld_glob I hg hm ⟨v, H, I, r, h⟩ hd
theorem pe_bltn {x : Str} {v : V} {u : Value} {pos : Pos} (hg : Gl X x) (hm : X.mg x = none) (hv : bootBuiltins x = some u) (r : RelV v u) (hn : x ≠ "__name__" := by decide) (hd : (x == ("__debug__" : Str)) = false := by decide) : PE X (.Name x pos) (tC v) :=
 fun _ _ _ H _ I h => ld_blt I hg hm hv ⟨v, H, I, r, h⟩ hn hd
variable {a b : Expr} {ta tb : TE} {pos : Pos}
def PC (X : Cx) (op : CmpOp) (a b : Expr) (t : TE) : Prop :=
 ∀ (pins : List (Addr × Obj)) (s : Shared) (σ : St) (H : Hp) (Q : VK), Inv X pins σ H s → t σ H Q →
  wpAny (model X.prog X.w) X.A (eval a X.env) (fun v s₁ => wpAny (model X.prog X.w) X.A (eval b X.env) (fun u s₂ => wpAny (model X.prog X.w) X.A (compareOp op v u) (EP X pins σ Q) X.xe s₂) X.xe s₁) X.xe s
theorem RelV.none_iff {x : V} {v : Value} (r : RelV x v) : (v == Value.none) = decide (x = .non) := by
 cases x with
 | non => cases r; rfl
 | bl _ => cases r; rfl
 | int _ => obtain ⟨t, rfl⟩ := r; rfl
 | str _ => obtain ⟨t, rfl⟩ := r; rfl
 | byt _ => obtain ⟨t, rfl⟩ := r; rfl
 | flt _ => obtain ⟨t, rfl⟩ := r; rfl
 | ref _ => cases r; rfl
 | ty _ => cases r; rfl
def tB (t : TE) : TT := fun σ H Q => t σ H fun x H1 => ∃ c, x = .bl c ∧ Q c H1
theorem pt_val {e : Expr} {t : TE} (h : PE X e t) (he : ∀ whole, isTrue e X.env whole = (do let v ← whole; standAt e.pos; holding [v] (truthy v)) := by intro _; rfl) : PT X e (tB t) := by
 intro pins s σ H Q I hw
 refine isTrue_plain (thn (h pins s σ H _ I hw) fun v s1 ⟨x, H1, I1, r1, q1⟩ => ?_) (he _)
 obtain ⟨d, rfl, q⟩ := q1
 cases r1
 exact wpAny_truthy_bool ⟨H1, I1, q⟩
variable {tA tB' : TT} {rest : List Expr}
def tAnd (t u : TT) : TT := fun σ H Q => t σ H fun c H1 => if c = true then u σ H1 Q else Q false H1
def tOr (t u : TT) : TT := fun σ H Q => t σ H fun c H1 => if c = true then Q true H1 else u σ H1 Q
def tNot (t : TT) : TT := fun σ H Q => t σ H fun c H1 => Q (!c) H1
theorem pw_and1 (ha : PT X a tA) : PW X (.BoolOp .And [a] pos) tA := by
 intro wh pins s σ H Q I h
 refine isTrue_and (thn (ha pins s σ H Q I h) fun c s1 e => ?_)
 cases c with
 | true => exact isTrue_and_nil e
 | false => exact e
theorem pw_or1 (ha : PT X a tA) : PW X (.BoolOp .Or [a] pos) tA := by
 intro wh pins s σ H Q I h
 refine isTrue_or (thn (ha pins s σ H Q I h) fun c s1 e => ?_)
 cases c with
 | false => exact isTrue_or_nil e
 | true => exact e
theorem pw_and (ha : PT X a tA) (hb : PW X (.BoolOp .And (b :: rest) pos) tB') : PW X (.BoolOp .And (a :: b :: rest) pos) (tAnd tA tB') := by
 intro wh pins s σ H Q I h
 refine isTrue_and (thn (ha pins s σ H _ I h) fun c s1 ⟨H1, I1, q1⟩ => ?_)
 cases c with
 | true => exact hb wh pins s1 σ H1 Q I1 q1
 | false => exact ⟨H1, I1, q1⟩
theorem pw_or (ha : PT X a tA) (hb : PW X (.BoolOp .Or (b :: rest) pos) tB') : PW X (.BoolOp .Or (a :: b :: rest) pos) (tOr tA tB') := by
 intro wh pins s σ H Q I h
 refine isTrue_or (thn (ha pins s σ H _ I h) fun c s1 ⟨H1, I1, q1⟩ => ?_)
 cases c with
 | true => exact ⟨H1, I1, q1⟩
 | false => exact hb wh pins s1 σ H1 Q I1 q1
theorem pt_not (ha : PT X a tA) : PT X (.UnaryOp .Not a pos) (tNot tA) := by
 intro pins s σ H Q I h
 exact isTrue_not (ha pins s σ H (fun c H1 => Q (!c) H1) I h)
def tAndV (ta tb : TE) : TE := fun σ H Q => ta σ H fun x H1 => ∃ c, x = .bl c ∧ if c = true then tb σ H1 Q else Q (.bl false) H1
def tOrV (ta tb : TE) : TE := fun σ H Q => ta σ H fun x H1 => ∃ c, x = .bl c ∧ if c = true then Q (.bl true) H1 else tb σ H1 Q
def tNotV (ta : TE) : TE := fun σ H Q => ta σ H fun x H1 => ∃ c, x = .bl c ∧ Q (.bl (!c)) H1
theorem pe_one {op} {t : TE} (h : PE X a t) : PE X (.BoolOp op [a] pos) t := fun pins s σ H Q I hw => BoolOp_one (h pins s σ H Q I hw)
theorem pe_and (ha : PE X a ta) (hb : PE X (.BoolOp .And (b :: rest) pos) tb) : PE X (.BoolOp .And (a :: b :: rest) pos) (tAndV ta tb) := by
 intro pins s σ H Q I h
 refine BoolOp_and (thn (ha pins s σ H _ I h) fun v s1 ⟨x, H1, I1, r1, q1⟩ => ?_)
 obtain ⟨c, rfl, q1⟩ := q1
 cases r1
 refine wpAny_truthy_bool ?_
 cases c with
 | true => exact hb pins s1 σ H1 Q I1 q1
 | false => exact ⟨.bl false, H1, I1, rfl, q1⟩
theorem pe_or (ha : PE X a ta) (hb : PE X (.BoolOp .Or (b :: rest) pos) tb) : PE X (.BoolOp .Or (a :: b :: rest) pos) (tOrV ta tb) := by
 intro pins s σ H Q I h
 refine BoolOp_or (thn (ha pins s σ H _ I h) fun v s1 ⟨x, H1, I1, r1, q1⟩ => ?_)
 obtain ⟨c, rfl, q1⟩ := q1
 cases r1
 refine wpAny_truthy_bool ?_
 cases c with
 | false => exact hb pins s1 σ H1 Q I1 q1
 | true => exact ⟨.bl true, H1, I1, rfl, q1⟩
theorem pe_not (ha : PE X a ta) : PE X (.UnaryOp .Not a pos) (tNotV ta) := by
 intro pins s σ H Q I h
 refine UnaryOp_ (thn (ha pins s σ H _ I h) fun v s1 ⟨x, H1, I1, r1, q1⟩ => ?_)
 obtain ⟨c, rfl, q1⟩ := q1
 cases r1
 exact not_of (wpAny_truthy_bool ⟨.bl (!c), H1, I1, rfl, q1⟩)
def tIf (t : TT) (ta tb : TE) : TE := fun σ H Q => t σ H fun c H1 => if c = true then ta σ H1 Q else tb σ H1 Q
end
end L2
namespace L2
open PySem PySem.Spec PyProof.Rows
def SqL (K : PySem.W.Frag) (H : Hp) (a : Addr) (xs : List V) : Prop :=
 Rd H a (.lst xs) ∨
  ∃ (o : Obj) (its : Array Value) (n : Nat), K.lookup a = some o ∧ o.cls = .type "list" ∧ o.dict = none ∧ o.data = .seq its n ∧ its.size ≤ sizeLine ∧ Vals xs its.toList
def SqT (K : PySem.W.Frag) (H : Hp) (a : Addr) (xs : List V) : Prop :=
 Rd H a (.tup xs) ∨
  ∃ (o : Obj) (its : Array Value) (n : Nat), K.lookup a = some o ∧ o.cls = .type "tuple" ∧ o.data = .seq its n ∧ its.size ≤ sizeLine ∧ Vals xs its.toList
def absV : Value → Option V
 | .none => some .non
 | .bool b => some (.bl b)
 | .int i _ => some (.int i)
 | .str x _ => some (.str x)
 | .bytes b _ => some (.byt b)
 | .float b _ => some (.flt b)
 | .ref a => some (.ref a)
 | .type n => some (.ty n)
 | _ => none
theorem RelV.abs {x : V} {u : Value} (r : RelV x u) : absV u = some x := by
 cases x with
 | non => cases r; rfl
 | bl _ => cases r; rfl
 | int _ => obtain ⟨t, rfl⟩ := r; rfl
 | str _ => obtain ⟨t, rfl⟩ := r; rfl
 | byt _ => obtain ⟨t, rfl⟩ := r; rfl
 | flt _ => obtain ⟨t, rfl⟩ := r; rfl
 | ref _ => cases r; rfl
 | ty _ => cases r; rfl
theorem RelV.inj {x y : V} {u : Value} (r : RelV x u) (q : RelV y u) : x = y := Option.some.inj (r.abs.symm.trans q.abs)
theorem Vals.inj : ∀ {xs ys : List V} {us : List Value}, Vals xs us → Vals ys us → xs = ys
 | _, _, _, .nil, .nil => rfl
 | _, _, _, .cons r t, .cons r' t' => by rw [r.inj r', Vals.inj t t']
section
variable {X : Cx} {pins : List (Addr × Obj)} {σ : St} {H : Hp} {s : Shared} {a : Addr} {xs ys : List V}
theorem SqL.of {K : PySem.W.Frag} (h : H a = some (.lst xs)) : SqL K H a xs := .inl (.inl h)
theorem SqT.of {K : PySem.W.Frag} (h : H a = some (.tup xs)) : SqT K H a xs := .inl (.inl h)
theorem Inv.list (I : Inv X pins σ H s) (h : SqL X.K H a xs) : ∃ its : List Value, Vals xs its ∧ PlainL s.heap a its.toArray ∧ xs.length ≤ sizeLine := by
 rcases h with h | ⟨o, its, n, hk, hc, hd, hs, hz, r⟩
 · obtain ⟨z, its, n, r, e⟩ := h.ok I.hok
   exact ⟨its, r, ⟨_, n, e, rfl, rfl, rfl⟩, z⟩
 · refine ⟨its.toList, r, ⟨o, n, I.kIn a o hk, hc, hd, by simpa using hs⟩, ?_⟩
   have e := r.length
   simp only [Array.length_toList] at e
   omega
theorem Inv.tuple (I : Inv X pins σ H s) (h : SqT X.K H a xs) : ∃ its : List Value, Vals xs its ∧ IsTup s.heap a its.toArray ∧ xs.length ≤ sizeLine := by
 rcases h with h | ⟨o, its, n, hk, hc, hs, hz, r⟩
 · obtain ⟨z, its, r, p⟩ := h.ok I.hok
   exact ⟨its, r, p, z⟩
 · refine ⟨its.toList, r, ⟨o, I.kIn a o hk, hc, n, by simpa using hs⟩, ?_⟩
   have e := r.length
   simp only [Array.length_toList] at e
   omega
theorem Inv.list_inj (I : Inv X pins σ H s) (h : SqL X.K H a xs) (h' : SqL X.K H a ys) : xs = ys := by
 obtain ⟨its, r, ⟨o, n, e, _, _, d⟩, _⟩ := I.list h
 obtain ⟨its', r', ⟨o', n', e', _, _, d'⟩, _⟩ := I.list h'
 rw [e] at e'; cases e'
 rw [d] at d'
 injection d' with d1 _
 have : its = its' := by simpa using congrArg Array.toList d1
 subst this
 exact r.inj r'
theorem Inv.tuple_inj (I : Inv X pins σ H s) (h : SqT X.K H a xs) (h' : SqT X.K H a ys) : xs = ys := by
 obtain ⟨its, r, ⟨o, e, _, n, d⟩, _⟩ := I.tuple h
 obtain ⟨its', r', ⟨o', e', _, n', d'⟩, _⟩ := I.tuple h'
 rw [e] at e'; cases e'
 rw [d] at d'
 injection d' with d1 _
 have : its = its' := by simpa using congrArg Array.toList d1
 subst this
 exact r.inj r'
end
abbrev Cx.wish (X : Cx) (E : Value → Shared → Prop) : Cx := { X with xe := E }
abbrev Cx.nox (X : Cx) : Cx := X.wish fun _ _ => False
theorem Cx.Ok.wish {X : Cx} (ok : X.Ok) (E : Value → Shared → Prop) : (X.wish E).Ok :=
 ⟨ok.mod, ok.kind, ok.glob, ok.blt, ok.above, ok.inj, ok.has, ok.cab, ok.hd, ok.frames, ok.stk, ok.exf, ok.bs, ok.bsz, ok.noex, ok.exfs, ok.funs, ok.frf⟩
theorem Cx.Ok.unwish {X : Cx} {E : Value → Shared → Prop} (ok : (X.wish E).Ok) : X.Ok :=
 ⟨ok.mod, ok.kind, ok.glob, ok.blt, ok.above, ok.inj, ok.has, ok.cab, ok.hd, ok.frames, ok.stk, ok.exf, ok.bs, ok.bsz, ok.noex, ok.exfs, ok.funs, ok.frf⟩
section
variable {X : Cx} {pins : List (Addr × Obj)} {σ : St} {H : Hp} {s : Shared} {E : Value → Shared → Prop}
theorem Inv.wish (I : Inv X pins σ H s) (E : Value → Shared → Prop) : Inv (X.wish E) pins σ H s := ⟨I.ok.wish E, I.os, I.bare, I.base, I.loc, I.cell, I.free, I.freeC, I.pin, I.hok, I.len⟩
theorem Inv.unwish (I : Inv (X.wish E) pins σ H s) : Inv X pins σ H s := ⟨I.ok.unwish, I.os, I.bare, I.base, I.loc, I.cell, I.free, I.freeC, I.pin, I.hok, I.len⟩
theorem SP.unwish {D : Ends} {f : Flow} {s' : Shared} (h : SP (X.wish E) pins D f s') : SP X pins D f s' := by
 cases f with
 | next => obtain ⟨σ', H', I, q⟩ := h; exact ⟨σ', H', I.unwish, q⟩
 | brk => obtain ⟨σ', H', I, q⟩ := h; exact ⟨σ', H', I.unwish, q⟩
 | cont => obtain ⟨σ', H', I, q⟩ := h; exact ⟨σ', H', I.unwish, q⟩
 | ret u => obtain ⟨v, σ', H', I, r, q⟩ := h; exact ⟨v, σ', H', I.unwish, r, q⟩
theorem PE.nox {e : Expr} {t : TE} (h : PE X.nox e t) : PE X e t := fun pins s σ H Q I hw =>
 wpAny_mono (h pins s σ H Q (I.wish _) hw) (fun _ _ ⟨v, H', I', r, q⟩ => ⟨v, H', I'.unwish, r, q⟩) fun _ _ z => False.elim z
theorem PT.nox {e : Expr} {t : TT} (h : PT X.nox e t) : PT X e t := fun pins s σ H Q I hw =>
 wpAny_mono (h pins s σ H Q (I.wish _) hw) (fun _ _ ⟨H', I', q⟩ => ⟨H', I'.unwish, q⟩) fun _ _ z => False.elim z
theorem PSs.nox {st : List Stmt} {t : TS} (h : PSs X.nox st t) : PSs X st t := fun pins s σ H D I hw =>
 wpAny_mono (h pins s σ H D (I.wish _) hw) (fun _ _ q => q.unwish) fun _ _ z => False.elim z
end
section
variable {X : Cx} {st : Stmt} {rest : List Stmt} {t u : TS} {e : Expr} {te : TE} {pos : Pos}
def tNext : TS := fun D σ H => D.nx σ H
def tSeq (t u : TS) : TS := fun D σ H => t { D with nx := u D } σ H
theorem pss_nil : PSs X [] tNext := fun _ _ σ H _ I h => wpAny_execs_nil ⟨σ, H, I, h⟩
theorem pss_cons (h1 : PS X st t) (h2 : PSs X rest u) : PSs X (st :: rest) (tSeq t u) := by
 intro pins s σ H D I h
 refine wpAny_execs_cons (thn (h1 pins s σ H { D with nx := u D } I h) fun f s1 q => ?_)
 cases f with
 | next =>
  obtain ⟨σ', H', I', q⟩ := q
  exact h2 pins s1 σ' H' D I' q
 | ret v => exact q
 | brk => exact q
 | cont => exact q
theorem pss_one (h1 : PS X st t) : PSs X [st] t := by
 intro pins s σ H D I h
 refine wpAny_execs_cons (thn (h1 pins s σ H D I h) fun f s1 q => ?_)
 cases f with
 | next => exact wpAny_execs_nil q
 | ret v => exact q
 | brk => exact q
 | cont => exact q
def tBreak : TS := fun D σ H => D.bk σ H
def tCont : TS := fun D σ H => D.ct σ H
theorem Inv.quiet {pins : List (Addr × Obj)} {σ : St} {H : Hp} {s : Shared} (I : Inv X pins σ H s) : interactive X.env = false := by simp [interactive, I.ok.kind]
def tDrop (te : TE) : TS := fun D σ H => te σ H fun _ H1 => D.nx σ H1
theorem ps_expr (he : PE X e te) (hs : swapsWith e none pos.line X.env = pure false := by rfl) : PS X (.Expr e pos) (tDrop te) := by
 intro pins s σ H D I h
 exact wpAny_Expr_any (thn (he pins s σ H _ I h) fun v s1 ⟨x, H1, I1, r1, q1⟩ => ⟨σ, H1, I1, q1⟩) I.quiet hs
def tRet (te : TE) : TS := fun D σ H => te σ H D.rt
theorem ps_ret (he : PE X e te) : PS X (.Return (some e) pos) (tRet te) := by
 intro pins s σ H D I h
 exact wpAny_Return_some (thn (he pins s σ H _ I h) fun v s1 ⟨x, H1, I1, r1, q1⟩ => ⟨x, σ, H1, I1, r1, q1⟩)
def tRetN : TS := fun D _ H => D.rt .non H
def tIfS (c : TT) (t u : TS) : TS := fun D σ H => c σ H fun b H1 => if b = true then t D σ H1 else u D σ H1
theorem ps_if {c : Expr} {a b : List Stmt} {tc : TT} (hc : PT X c tc) (ha : PSs X a t) (hb : PSs X b u) : PS X (.If c a b pos) (tIfS tc t u) := by
 intro pins s σ H D I h
 refine wpAny_If (thn (hc pins s σ H _ I h) fun d s1 ⟨H1, I1, q1⟩ => ?_)
 cases d with
 | true => exact ha pins s1 σ H1 D I1 q1
 | false => exact hb pins s1 σ H1 D I1 q1
end
abbrev TG := V → St → Hp → (St → Hp → Prop) → Prop
abbrev TGs := List V → St → Hp → (St → Hp → Prop) → Prop
def PG (X : Cx) (target : Expr) (t : TG) : Prop :=
 ∀ (pins : List (Addr × Obj)) (s : Shared) (σ : St) (H : Hp) (v : V) (u : Value) (Q : St → Hp → Prop), Inv X pins σ H s → RelV v u → t v σ H Q →
  wpAny (model X.prog X.w) X.A (assign target X.env u) (fun _ s' => ∃ σ' H', Inv X pins σ' H' s' ∧ Q σ' H') X.xe s
def PGs (X : Cx) (ts : List Expr) (t : TGs) : Prop :=
 ∀ (pins : List (Addr × Obj)) (s : Shared) (σ : St) (H : Hp) (vs : List V) (us : List Value) (Q : St → Hp → Prop), Inv X pins σ H s → Vals vs us → t vs σ H Q →
  wpAny (model X.prog X.w) X.A (assignInOrder ((assignEach ts X.env).map (·.2)) us) (fun _ s' => ∃ σ' H', Inv X pins σ' H' s' ∧ Q σ' H') X.xe s
abbrev TSet := V → V → V → Hp → (Hp → Prop) → Prop
def PSet (X : Cx) (t : TSet) : Prop :=
 ∀ (pins : List (Addr × Obj)) (s : Shared) (σ : St) (H : Hp) (o i v : V) (ov iv u : Value) (Q : Hp → Prop), Inv X pins σ H s → RelV o ov → RelV i iv → RelV v u → t o i v H Q →
  wpAny (model X.prog X.w) X.A (setItem ov iv u) (fun _ s' => ∃ H', Inv X pins σ H' s' ∧ Q H') X.xe s
abbrev TIp := V → V → Hp → VK → Prop
def PIp (X : Cx) (op : Operator) (t : TIp) : Prop :=
 ∀ (pins : List (Addr × Obj)) (s : Shared) (σ : St) (H : Hp) (x y : V) (v u : Value) (Q : VK), Inv X pins σ H s → RelV x v → RelV y u → t x y H Q →
  wpAny (model X.prog X.w) X.A (inplaceOp op v u) (EP X pins σ Q) X.xe s
section
variable {X : Cx} {pos : Pos}
def gName (i : Nat) : TG := fun v σ H Q => Q (σ.set i (some v)) H
theorem pg_name {i : Nat} {x : Str} (hN : X.N.Nodup) (hi : X.N[i]? = some x) (hx : Loc X.env.scope x) (hf : X.fn x = true ∨ X.env.scope.names.lookup x = some .local := by first | exact .inl rfl | exact .inr rfl | assumption) : PG X (.Name x pos) (gName i) := by
 intro pins s σ H v u Q I r h
 exact wpAny_assign_Name (store_ok I hN hi hx r (fun s' I' => ⟨_, H, I', h⟩) hf)
def gNil : TGs := fun vs σ H Q => vs = [] ∧ Q σ H
def gCons (t : TG) (u : TGs) : TGs := fun vs σ H Q => ∃ v r, vs = v :: r ∧ t v σ H fun σ' H' => u r σ' H' Q
def gSub (to ti : TE) (t : TSet) : TG := fun v σ H Q => to σ H fun o H1 => ti σ H1 fun i H2 => t o i v H2 fun H3 => Q σ H3
theorem pg_sub {o i : Expr} {to ti : TE} {t : TSet} (ho : PE X o to) (hi : PE X i ti) (hs : PSet X t)
 (ha : ∀ v, assign (.Subscript o i pos) X.env v = (do
   let ov ← holding [v] (eval o X.env)
   let iv ← holding [v, ov] (eval i X.env)
   standAt pos
   holding [v, ov, iv] (setItem ov iv v)
   release [v, ov, iv] []) := by intro _; rfl) : PG X (.Subscript o i pos) (gSub to ti t) := by
 intro pins s σ H v u Q I r h
 rw [ha]
 refine wpAny_bind (wpAny_holding (thn (ho pins s σ H _ I h) fun ov s1 ⟨x, H1, I1, r1, q1⟩ => ?_))
 refine wpAny_bind (wpAny_holding (thn (hi pins s1 σ H1 _ I1 q1) fun iv s2 ⟨y, H2, I2, r2, q2⟩ => ?_))
 refine wpAny_bind (wpAny_standAt (wpAny_bind (wpAny_holding (thn (hs pins s2 σ H2 x y v ov iv u _ I2 r1 r2 r q2) fun _ s3 ⟨H3, I3, q3⟩ => ?_))))
 exact wpAny_release ⟨σ, H3, I3, q3⟩
def tAsg (te : TE) (g : TG) : TS := fun D σ H => te σ H fun x H1 => g x σ H1 D.nx
theorem ps_asg {tg e : Expr} {te : TE} {g : TG} (he : PE X e te) (hg : PG X tg g) (hs : swapsWithSole [tg] e pos.line X.env = pure false := by rfl) (hw : swappedStores [tg] e X.env = pure none := by rfl)
 (h1 : (assignEach [tg] X.env).map (·.2) = [assign tg X.env] := by rfl) : PS X (.Assign [tg] e pos) (tAsg te g) := by
 intro pins s σ H D I h
 refine wpAny_Assign_stores (thn (he pins s σ H _ I h) fun v s1 ⟨x, H1, I1, r1, q1⟩ => ?_) hs hw
 rw [h1]
 exact thn (hg pins s1 σ H1 x v _ I1 r1 q1) fun _ s2 q => q
theorem ps_set {i : Nat} {x : Str} {e : Expr} {te : TE} {pos' : Pos} (hN : X.N.Nodup) (hi : X.N[i]? = some x) (hx : Loc X.env.scope x) (he : PE X e te) (hs : swapsWith e (some (.Name x pos')) pos.line X.env = pure false := by rfl) (hf : X.fn x = true ∨ X.env.scope.names.lookup x = some .local := by first | exact .inl rfl | exact .inr rfl | assumption) :
 PS X (.Assign [.Name x pos'] e pos) (tAsg te (gName i)) := by
 intro pins s σ H D I h
 refine wpAny_Assign_Name (thn (he pins s σ H _ I h) fun v s1 ⟨y, H1, I1, r1, q1⟩ => ?_) hs
 exact store_ok I1 hN hi hx r1 (fun s2 I2 => ⟨_, H1, I2, q1⟩) hf
def tAug (i : Nat) (te : TE) (ti : TIp) : TS := fun D σ H => ∃ x, σ[i]? = some (some x) ∧ te σ H fun y H1 => ti x y H1 fun z H2 => D.nx (σ.set i (some z)) H2
def PGet (X : Cx) (t : V → V → Hp → VK → Prop) : Prop :=
 ∀ (pins : List (Addr × Obj)) (s : Shared) (σ : St) (H : Hp) (o i : V) (ov iv : Value) (Q : VK), Inv X pins σ H s → RelV o ov → RelV i iv → t o i H Q →
  wpAny (model X.prog X.w) X.A (getItem ov iv) (EP X pins σ Q) X.xe s
def ipI (f : Int → Int → Int) : TIp := fun x y H Q => ∃ i j, x = .int i ∧ y = .int j ∧ Q (.int (f i j)) H
end
section
variable {X : Cx} {pos : Pos}
end
structure It where
 go : Nat → Hp → Prop
 yld : Nat → Hp → V → Hp → Prop
 stop : Nat → Hp → Prop
def FpOk (X : Cx) (pins : List (Addr × Obj)) (H : Hp) (b : Addr) : Prop :=
 H b = none ∧ b ≠ X.env.locals ∧ b ∉ X.fs ∧ (b ∈ X.ex ∨ X.s₀.heap.objs.size ≤ b) ∧ (∀ x c, X.env.cells.lookup x = some c → c ≠ b) ∧ ∀ p ∈ X.pn ++ pins, p.1 ≠ b
theorem Inv.fpOk {X : Cx} {pins : List (Addr × Obj)} {σ : St} {H H' : Hp} {s : Shared} {b : Addr} (I : Inv X pins σ H s) (hb : s.heap.objs.size ≤ b) (hn : H' b = none) : FpOk X pins H' b := by
 refine ⟨hn, Nat.ne_of_gt (Nat.lt_of_lt_of_le I.lt hb), I.nofs hb, .inr (Nat.le_trans I.sz hb), fun x c e z => ?_, fun p hp z => ?_⟩
 · obtain ⟨v, q⟩ := I.cell x c e
   exact absurd (Nat.lt_of_lt_of_le q.lt (by rw [z]; exact hb)) (Nat.lt_irrefl _)
 · exact absurd (Nat.lt_of_lt_of_le (Heap.lt_size (I.pin p hp).1) (by rw [z]; exact hb)) (Nat.lt_irrefl _)
structure Turn (P : Program) (w : World) (K : PySem.W.Frag) (tg : Expr) (J : It) (fp : List Addr) (it : Addr) (tn : Nat → Heap → Prop) : Prop where
 mem : it ∈ fp
 obj : ∀ i h, tn i h → ∀ b ∈ fp, ∃ o, h.get? b = some o ∧ ∀ v, o.data ≠ .cell v
 keep : ∀ i h h', tn i h → (∀ b ∈ fp, ∀ o, h.get? b = some o → h'.get? b = some o) → tn i h'
 item : ∀ (X : Cx), X.prog = P → X.w = w → X.K = K → X.calm = true → ∀ (i : Nat) (pins : List (Addr × Obj)) (s : Shared) (σ : St) (H : Hp) (E : Value → Shared → Prop), Inv X pins σ H s → (∀ b ∈ fp, FpOk X pins H b) → tn i s.heap → J.go i H →
  wpAny (model P w) X.A (pyNext (.ref it)) (fun r s1 => ∃ u, r = some u ∧
   wpAny (model P w) X.A (letOwnedTupleGo tg (.ref it) u) (fun _ s2 => ∃ x H', Inv X pins σ H' s2 ∧ RelV x u ∧ J.yld i H x H' ∧ tn (i + 1) s2.heap ∧ ∀ b ∈ fp, H' b = none) E s1) E s
 done : ∀ (X : Cx), X.prog = P → X.w = w → X.K = K → X.calm = true → ∀ (i : Nat) (pins : List (Addr × Obj)) (s : Shared) (σ : St) (H : Hp) (E : Value → Shared → Prop), Inv X pins σ H s → (∀ b ∈ fp, FpOk X pins H b) → tn i s.heap → J.stop i H →
  wpAny (model P w) X.A (pyNext (.ref it)) (fun r s1 => r = none ∧ Inv X pins σ H s1) E s
 self : ∀ (A : Around) (i : Nat) (s : Shared) (Q : Value → Shared → Prop) (E : Value → Shared → Prop), tn i s.heap → Q (.ref it) s → wpAny (model P w) A (pyIter (.ref it)) Q E s
abbrev TI := St → Hp → (It → Hp → Prop) → Prop
def PIE (X : Cx) (pins : List (Addr × Obj)) (σ : St) (tg : Expr) (R : It → Hp → Prop) (itv : Value) (s2 : Shared) : Prop :=
 ∃ (it : Addr) (fp : List Addr) (tn : Nat → Heap → Prop) (J : It) (H' : Hp), itv = .ref it ∧ Inv X pins σ H' s2 ∧ Turn X.prog X.w X.K tg J fp it tn ∧ tn 0 s2.heap ∧ (∀ b ∈ fp, FpOk X pins H' b) ∧ R J H'
def PI (X : Cx) (tg iter : Expr) (wi : TI) : Prop :=
 ∀ (pins : List (Addr × Obj)) (s : Shared) (σ : St) (H : Hp) (R : It → Hp → Prop), Inv X pins σ H s → wi σ H R →
  wpAny (model X.prog X.w) X.A (eval iter X.env) (fun v s1 => wpAny (model X.prog X.w) X.A (pyIter v) (PIE X pins σ tg R) X.xe s1) X.xe s
theorem go_of {M : Model} {A : Around} {E : Value → Shared → Prop} {s : Shared} {tg : Expr} {it : Addr} {u : Value} {o : Obj} {n : String} {vs : Array Value} {Q : Unit → Shared → Prop} (ho : s.heap.get? it = some o) (hc : o.cls = .type n) (hd : o.data = .fields vs)
 (hn : ["enumerate", "zip", "dict_itemiterator", "dict_reverseitemiterator", "odict_iterator", "itertools.zip_longest", "itertools.pairwise"].contains n = false) (hQ : Q () s) : wpAny M A (letOwnedTupleGo tg (.ref it) u) Q E s := by
 unfold letOwnedTupleGo
 cases tg <;> first
  | exact wpAny_pure hQ
  | (cases u <;> first
      | exact wpAny_pure hQ
      | (refine wpAny_bind (wpAny_load ho ?_)
         rw [hc, hd]
         show wpAny M A (if (["enumerate", "zip", "dict_itemiterator", "dict_reverseitemiterator", "odict_iterator", "itertools.zip_longest", "itertools.pairwise"].contains n && vs[0]? == some (rawInt _)) = true then _ else _) Q E s
         rw [if_neg (by intro h; rw [hn, Bool.false_and] at h; cases h)]
         exact wpAny_pure hQ))
def Itl (K : PySem.W.Frag) (a : Addr) : It :=
 ⟨fun i H => ∃ xs x, SqL K H a xs ∧ xs[i]? = some x, fun i H x H' => H' = H ∧ ∀ xs, SqL K H a xs → xs[i]? = some x, fun i H => ∃ xs, SqL K H a xs ∧ xs.length ≤ i⟩
def Itt (K : PySem.W.Frag) (a : Addr) : It :=
 ⟨fun i H => ∃ xs x, SqT K H a xs ∧ xs[i]? = some x, fun i H x H' => H' = H ∧ ∀ xs, SqT K H a xs → xs[i]? = some x, fun i H => ∃ xs, SqT K H a xs ∧ xs.length ≤ i⟩
def Itr (lo : Int) (n : Nat) : It := ⟨fun i _ => i < n, fun i H x H' => H' = H ∧ x = .int (lo + i), fun i _ => n ≤ i⟩
theorem turn_list {P : Program} {w : World} {K : PySem.W.Frag} {tg : Expr} (a it : Addr) : Turn P w K tg (Itl K a) [it] it (fun i h => h.IsListIter it a i) where
 mem := by simp
 obj := fun i h st b hb => by
  have e : b = it := by simpa using hb
  subst e
  obtain ⟨o, e, c, d⟩ := st
  exact ⟨o, e, fun v z => by rw [d] at z; cases z⟩
 keep := fun i h h' st k => st.at fun o e => k it (by simp) o e
 item := by
  intro X hP hw hK hc i pins s σ H E I hf st hg
  subst hP hw hK
  obtain ⟨xs, x, hq, hx⟩ := hg
  obtain ⟨its, rv, p, hz⟩ := I.list hq
  obtain ⟨u, hu, ru⟩ := rv.get hx
  obtain ⟨f0, f1, f2, f3, f4, f5⟩ := hf it (by simp)
  refine wpAny_pyNext_list_item st p.isList (x := u) (by simpa using hu) fun h' st' sb => ?_
  have I1 : Inv X pins σ H { s with heap := h' } := I.turned (t' := s.toks) (fun b o hb e => (sb.2 b hb).trans e) f0 f1 f3 f4 f5
  obtain ⟨o, e, c, d⟩ := id st'
  exact ⟨u, rfl, go_of (s := { s with heap := h' }) e c d (by decide) ⟨x, H, I1, ru, ⟨rfl, fun ys hy => by rw [I.list_inj hy hq]; exact hx⟩, st', fun b hb => (hf b hb).1⟩⟩
 done := by
  intro X hP hw hK hc i pins s σ H E I hf st hg
  subst hP hw hK
  obtain ⟨xs, hq, hx⟩ := hg
  obtain ⟨its, rv, p, hz⟩ := I.list hq
  obtain ⟨f0, f1, f2, f3, f4, f5⟩ := hf it (by simp)
  have hl := rv.length
  exact wpAny_pyNext_list_end (I.ok.hd hc) st p.isList (by simp; omega) fun h' eb => ⟨rfl, I.turned (t' := s.toks) (fun b o hb e => eb b o hb e) f0 f1 f3 f4 f5⟩
 self := fun _ _ _ _ _ st h => wpAny_pyIter_listiter st h
theorem turn_tuple {P : Program} {w : World} {K : PySem.W.Frag} {tg : Expr} (a it : Addr) : Turn P w K tg (Itt K a) [it] it (fun i h => h.IsTupleIter it a i) where
 mem := by simp
 obj := fun i h st b hb => by
  have e : b = it := by simpa using hb
  subst e
  obtain ⟨o, e, c, d⟩ := st
  exact ⟨o, e, fun v z => by rw [d] at z; cases z⟩
 keep := fun i h h' st k => st.at fun o e => k it (by simp) o e
 item := by
  intro X hP hw hK hc i pins s σ H E I hf st hg
  subst hP hw hK
  obtain ⟨xs, x, hq, hx⟩ := hg
  obtain ⟨its, rv, p, hz⟩ := I.tuple hq
  obtain ⟨u, hu, ru⟩ := rv.get hx
  obtain ⟨f0, f1, f2, f3, f4, f5⟩ := hf it (by simp)
  refine wpAny_pyNext_tuple_item st (show s.heap.IsTuple a its.toArray from p) (x := u) (by simpa using hu) fun h' st' sb => ?_
  have I1 : Inv X pins σ H { s with heap := h' } := I.turned (t' := s.toks) (fun b o hb e => (sb.2 b hb).trans e) f0 f1 f3 f4 f5
  obtain ⟨o, e, c, d⟩ := id st'
  exact ⟨u, rfl, go_of (s := { s with heap := h' }) e c d (by decide) ⟨x, H, I1, ru, ⟨rfl, fun ys hy => by rw [I.tuple_inj hy hq]; exact hx⟩, st', fun b hb => (hf b hb).1⟩⟩
 done := by
  intro X hP hw hK hc i pins s σ H E I hf st hg
  subst hP hw hK
  obtain ⟨xs, hq, hx⟩ := hg
  obtain ⟨its, rv, p, hz⟩ := I.tuple hq
  obtain ⟨f0, f1, f2, f3, f4, f5⟩ := hf it (by simp)
  have hl := rv.length
  exact wpAny_pyNext_tuple_end (I.ok.hd hc) st (show s.heap.IsTuple a its.toArray from p) (by simp; omega) fun h' eb => ⟨rfl, I.turned (t' := s.toks) (fun b o hb e => eb b o hb e) f0 f1 f3 f4 f5⟩
 self := fun _ _ _ _ _ st h => wpAny_pyIter_tupleiter st h
theorem turn_range {P : Program} {w : World} {K : PySem.W.Frag} {tg : Expr} (it : Addr) (lo : Int) (n : Nat) : Turn P w K tg (Itr lo n) [it] it (fun i h => IsRangeIter h it (lo + (i : Nat) * 1) ((n : Int) - (i : Nat)) 1) where
 mem := by simp
 obj := fun i h st b hb => by
  have e : b = it := by simpa using hb
  subst e
  exact ⟨_, st, fun v z => by
   have z' : Data.fields _ = Data.cell v := z
   cases z'⟩
 keep := fun i h h' st k => k it (by simp) _ st
 item := by
  intro X hP hw hK hc i pins s σ H E I hf st hg
  subst hP hw hK
  obtain ⟨f0, f1, f2, f3, f4, f5⟩ := hf it (by simp)
  have W := Walks.range (prog := X.prog) (w := X.w) (I.ok.hd hc) it lo 1 n
  refine W.item i s _ _ hg st fun v h' tk hv st' kk => ?_
  obtain ⟨t, rfl⟩ := hv
  have I1 : Inv X pins σ H { s with heap := h', toks := tk } := I.turned (fun b o hb e => kk b o (by simpa using hb) e) f0 f1 f3 f4 f5
  refine ⟨_, rfl, go_of (s := { s with heap := h', toks := tk }) (n := "range_iterator") st' rfl rfl (by decide) ⟨.int (lo + i), H, I1, ⟨t, ?_⟩, ⟨rfl, rfl⟩, st', fun b hb => (hf b hb).1⟩⟩
  rw [Int.mul_one]
 done := by
  intro X hP hw hK hc i pins s σ H E I hf st hg
  subst hP hw hK
  obtain ⟨f0, f1, f2, f3, f4, f5⟩ := hf it (by simp)
  exact wpAny_pyNext_range_end (I.ok.hd hc) st (by have : n ≤ i := hg; omega) fun h' eb => ⟨rfl, I.turned (t' := s.toks) (fun b o hb e => eb b o hb e) f0 f1 f3 f4 f5⟩
 self := fun _ _ _ _ _ st h => wpAny_pyIter_rangeiter st h
end L2
namespace L2
open PySem PySem.Spec PyProof.Rows
section
variable {X : Cx} {tg : Expr}
theorem range_it {pins : List (Addr × Obj)} {σ : St} {H : Hp} {s : Shared} {R : It → Hp → Prop} {E : Value → Shared → Prop} {lo hi : Int} {t u v : Tok} {tk : Nat} (I : Inv X pins σ H s) (h1 : -(2 ^ 62) ≤ lo) (h2 : lo < 2 ^ 62) (h3 : -(2 ^ 62) ≤ hi) (h4 : hi < 2 ^ 62)
 (q : R (Itr lo (hi - lo).toNat) H) : wpAny (model X.prog X.w) X.A (pyIter (.ref s.heap.objs.size)) (PIE X pins σ tg R) E { s with heap := s.heap.push { cls := .type "range", data := .fields #[.int lo t, .int hi u, .int 1 v] }, toks := tk } := by
 refine wpAny_pyIter_range (IsRange.new ..) (small_one h1 h2 h3 h4) ?_
 have I1 : Inv X pins σ H { s with heap := s.heap.push { cls := .type "range", data := .fields #[.int lo t, .int hi u, .int 1 v] }, toks := tk } := I.kept fun b o e => Heap.get?_push_of_some _ e
 refine ⟨(s.heap.push { cls := .type "range", data := .fields #[.int lo t, .int hi u, .int 1 v] }).objs.size, [(s.heap.push { cls := .type "range", data := .fields #[.int lo t, .int hi u, .int 1 v] }).objs.size], _, _, H, rfl,
  I1.kept (t' := tk) fun b o e => Heap.get?_push_of_some _ e, turn_range _ lo (hi - lo).toNat, ?_, fun b hb => ?_, q⟩
 · have e1 : lo + ((0 : Nat) : Int) * 1 = lo := by simp
   have e2 : (((hi - lo).toNat : Nat) : Int) - ((0 : Nat) : Int) = Builtin.Range.rangeSize lo hi 1 := by rw [rangeSize_one]; split <;> omega
   show IsRangeIter _ _ (lo + ((0 : Nat) : Int) * 1) ((((hi - lo).toNat : Nat) : Int) - ((0 : Nat) : Int)) 1
   rw [e1, e2]
   exact Heap.get?_push_size _ rfl
 · have e : b = (s.heap.push { cls := .type "range", data := .fields #[.int lo t, .int hi u, .int 1 v] }).objs.size := by simpa using hb
   subst e
   exact I1.fpOk (Nat.le_refl _) (I1.hok.fresh (Nat.le_refl _))
def iRng1 (ta : TA) : TI := fun σ H R => ta σ H fun vs H1 => ∃ j : Int, vs = [.int j] ∧ -(2 ^ 62) ≤ j ∧ j < 2 ^ 62 ∧ R (Itr 0 j.toNat) H1
def iRng2 (ta : TA) : TI := fun σ H R => ta σ H fun vs H1 => ∃ i j : Int, vs = [.int i, .int j] ∧ (-(2 ^ 62) ≤ i ∧ i < 2 ^ 62 ∧ -(2 ^ 62) ≤ j ∧ j < 2 ^ 62) ∧ R (Itr i (j - i).toNat) H1
theorem pi_range1 {a : Expr} {ta : TA} {p pos : Pos} (hg : Gl X "range") (hm : X.mg "range" = none) (ha : PA X [a] ta) (hs : starEach [a] X.env = [(false, eval a X.env)] := by rfl) : PI X tg (.Call (.Name "range" p) [a] [] pos) (iRng1 ta) := by
 intro pins s σ H R I h
 refine Call_ (ld_blt I hg hm boot_range (PyProof.Rows.callWith_type1 (thn (ha pos pins s σ H _ I h) fun us s1 ⟨vs, H1, I1, r1, q1⟩ => ?_) hs rfl))
 obtain ⟨j, e, q1, q2, q⟩ := q1
 subst e
 cases r1 with
 | cons r rr =>
  cases rr
  obtain ⟨t, rfl⟩ := r
  exact call_range_1 (range_it I1 (by omega) (by omega) q1 q2 (by simpa using q))
def tFor (wi : TI) (g : TG) (tb : TS) : TS := fun D σ H => wi σ H fun J H1 => ∃ W : Nat → Nat → St → Hp → Prop, (∃ m, W 0 m σ H1) ∧ ∀ i m σ H, W i m σ H →
 (J.stop i H ∧ D.nx σ H) ∨ (J.go i H ∧ ∃ N : St → Hp → Prop, (∀ σ' H', N σ' H' → ∃ m', m' < m ∧ W (i + 1) m' σ' H') ∧ ∀ x H', J.yld i H x H' → g x σ H' fun σ2 H2 => tb { D with nx := N, ct := N, bk := D.nx } σ2 H2)
def pinsAt (fp : List Addr) (h : Heap) : List (Addr × Obj) := fp.filterMap fun b => (h.get? b).map fun o => (b, o)
theorem mem_pinsAt {fp : List Addr} {h : Heap} {b : Addr} {o : Obj} (hb : b ∈ fp) (e : h.get? b = some o) : (b, o) ∈ pinsAt fp h := List.mem_filterMap.mpr ⟨b, hb, by rw [e]; rfl⟩
theorem of_pinsAt {fp : List Addr} {h : Heap} {p : Addr × Obj} (hp : p ∈ pinsAt fp h) : p.1 ∈ fp ∧ h.get? p.1 = some p.2 := by
 obtain ⟨b, hb, e⟩ := List.mem_filterMap.mp hp
 cases q : h.get? b with
 | none => rw [q] at e; cases e
 | some o =>
  rw [q] at e
  have e' : (b, o) = p := Option.some.inj e
  subst e'
  exact ⟨hb, q⟩
theorem Inv.pinned {pins : List (Addr × Obj)} {σ : St} {H : Hp} {s : Shared} {fp : List Addr} (I : Inv X pins σ H s) (hf : ∀ b ∈ fp, FpOk X pins H b) (ho : ∀ b ∈ fp, ∃ o, s.heap.get? b = some o ∧ ∀ v, o.data ≠ .cell v) : Inv X (pins ++ pinsAt fp s.heap) σ H s :=
 I.pins_of fun p hp => (List.mem_append.mp hp).elim (fun z => I.pin p (List.mem_append_right _ z)) fun z => by
  obtain ⟨hb, e⟩ := of_pinsAt z
  obtain ⟨f0, f1, f2, _⟩ := hf p.1 hb
  obtain ⟨o, e', d⟩ := ho p.1 hb
  rw [e] at e'; cases e'
  exact ⟨e, f0, f1, f2, d⟩
theorem Inv.unpinned {pins pl : List (Addr × Obj)} {σ : St} {H : Hp} {s : Shared} (I : Inv X (pins ++ pl) σ H s) : Inv X pins σ H s := I.pins_of fun p hp => I.pin p (List.mem_append_right _ (List.mem_append_left _ hp))
theorem ps_for {iter : Expr} {body : List Stmt} {wi : TI} {g : TG} {tb : TS} {pos : Pos} (hp : PassesOwn (model X.prog X.w) X.A X.env X.xe) (hc : X.calm = true) (hi : PI X tg iter wi) (hg : PG X tg g) (hb : PSs X body tb)
 (hs : ∀ x, foldedSetIterable iter X.env x = pure x := by intro _; rfl) : PS X (.For tg iter body [] pos) (tFor wi g tb) := by
 intro pins s σ H D I h
 refine wpAny_For (thn (hi pins s σ H _ I h) fun v s1 h1 => thn h1 fun itv s2 h2 => ?_) hs
 obtain ⟨it, fp, tn, J, H2, e, I2, T, st2, f2, W, ⟨m0, w0⟩, turn⟩ := h2
 subst e
 -- what stays true of the iterator's objects through the loop
 have stat : ∀ {H' : Hp}, (∀ b ∈ fp, H' b = none) → ∀ b ∈ fp, FpOk X pins H' b := fun hn b hb => ⟨hn b hb, (f2 b hb).2⟩
 refine codeAny_forLoop_any (fun n s' => ∃ i σ' H', Inv X pins σ' H' s' ∧ tn i s'.heap ∧ (∀ b ∈ fp, H' b = none) ∧ W i n σ' H') ?_ m0 ⟨0, σ, H2, I2, st2, fun b hb => (f2 b hb).1, w0⟩
 rintro n s3 ⟨i, σ3, H3, I3, st3, fr3, w3⟩
 rcases turn i n σ3 H3 w3 with ⟨stop, qn⟩ | ⟨go, N, hN, step⟩
 · refine wpAny_passesOwn hp (thn (T.done X rfl rfl rfl hc i pins s3 σ3 H3 X.xe I3 (stat fr3) st3 stop) fun r s4 ⟨hr, I4⟩ => ?_)
   subst hr
   exact wpAny_execs_nil ⟨σ3, H3, I4, qn⟩
 · refine wpAny_passesOwn hp (thn (T.item X rfl rfl rfl hc i pins s3 σ3 H3 X.xe I3 (stat fr3) st3 go) fun r s4 ⟨u, hr, h4⟩ => ?_)
   subst hr
   refine wpAny_passesOwn hp (thn h4 fun _ s5 ⟨x, H5, I5, r5, y5, st5, fr5⟩ => ?_)
   have I5' := I5.pinned (stat fr5) (T.obj _ _ st5)
   refine wpAny_passesOwn hp (thn (hg _ s5 σ3 H5 x u _ I5' r5 (step x H5 y5)) fun _ s6 ⟨σ6, H6, I6, q6⟩ => ?_)
   refine wpAny_passesOwn hp (thn (hb _ s6 σ6 H6 _ I6 q6) fun f s7 q7 => ?_)
   have again : ∀ {σ7 : St} {H7 : Hp}, Inv X (pins ++ pinsAt fp s5.heap) σ7 H7 s7 → N σ7 H7 → ∃ m, m < n ∧ ∃ i σ' H', Inv X pins σ' H' s7 ∧ tn i s7.heap ∧ (∀ b ∈ fp, H' b = none) ∧ W i m σ' H' := fun {σ7 H7} I7 n7 => by
    obtain ⟨m', hm, w7⟩ := hN σ7 H7 n7
    refine ⟨m', hm, i + 1, σ7, H7, I7.unpinned, T.keep _ _ _ st5 fun b hb o e => (I7.pin (b, o) (List.mem_append_right _ (List.mem_append_right _ (mem_pinsAt hb e)))).1, fun b hb => ?_, w7⟩
    obtain ⟨o, e, d⟩ := T.obj _ _ st5 b hb
    exact (I7.pin (b, o) (List.mem_append_right _ (List.mem_append_right _ (mem_pinsAt hb e)))).2.1
   cases f with
   | next => obtain ⟨σ7, H7, I7, n7⟩ := q7; exact again I7 n7
   | cont => obtain ⟨σ7, H7, I7, n7⟩ := q7; exact again I7 n7
   | brk => obtain ⟨σ7, H7, I7, q7⟩ := q7; exact ⟨σ7, H7, I7.unpinned, q7⟩
   | ret v => obtain ⟨x7, σ7, H7, I7, r7, q7⟩ := q7; exact ⟨x7, σ7, H7, I7.unpinned, r7, q7⟩
end
theorem for_list {K : PySem.W.Frag} {a : Addr} {xs : List V} {g : TG} {tb : TS} {D : Ends} {σ : St} {H : Hp} (Pv : Nat → St → Hp → Prop) (h0 : Pv 0 σ H) (hl : ∀ i σ H, i ≤ xs.length → Pv i σ H → SqL K H a xs)
 (hs : ∀ i x σ H, xs[i]? = some x → Pv i σ H → g x σ H fun σ2 H2 => tb { D with nx := Pv (i + 1), ct := Pv (i + 1), bk := D.nx } σ2 H2) (hd : ∀ σ H, Pv xs.length σ H → D.nx σ H) :
 ∃ W : Nat → Nat → St → Hp → Prop, (∃ m, W 0 m σ H) ∧ ∀ i m σ H, W i m σ H →
  ((Itl K a).stop i H ∧ D.nx σ H) ∨ ((Itl K a).go i H ∧ ∃ N : St → Hp → Prop, (∀ σ' H', N σ' H' → ∃ m', m' < m ∧ W (i + 1) m' σ' H') ∧ ∀ x H', (Itl K a).yld i H x H' → g x σ H' fun σ2 H2 => tb { D with nx := N, ct := N, bk := D.nx } σ2 H2) := by
 refine ⟨fun i m σ H => m = xs.length - i ∧ i ≤ xs.length ∧ Pv i σ H, ⟨xs.length, by simp, Nat.zero_le _, h0⟩, ?_⟩
 rintro i m σ H ⟨rfl, hi, p⟩
 have q := hl i σ H hi p
 by_cases hlt : i < xs.length
 · refine .inr ⟨⟨xs, xs[i], q, by simp [hlt]⟩, Pv (i + 1), fun σ' H' p' => ⟨xs.length - (i + 1), by omega, rfl, hlt, p'⟩, fun x H' y => ?_⟩
   obtain ⟨e, y⟩ := y
   subst e
   exact hs i x σ _ (y xs q) p
 · have e : i = xs.length := by omega
   subst e
   exact .inl ⟨⟨xs, q, Nat.le_refl _⟩, hd σ H p⟩
theorem for_tup {K : PySem.W.Frag} {a : Addr} {xs : List V} {g : TG} {tb : TS} {D : Ends} {σ : St} {H : Hp} (Pv : Nat → St → Hp → Prop) (h0 : Pv 0 σ H) (hl : ∀ i σ H, i ≤ xs.length → Pv i σ H → SqT K H a xs)
 (hs : ∀ i x σ H, xs[i]? = some x → Pv i σ H → g x σ H fun σ2 H2 => tb { D with nx := Pv (i + 1), ct := Pv (i + 1), bk := D.nx } σ2 H2) (hd : ∀ σ H, Pv xs.length σ H → D.nx σ H) :
 ∃ W : Nat → Nat → St → Hp → Prop, (∃ m, W 0 m σ H) ∧ ∀ i m σ H, W i m σ H →
  ((Itt K a).stop i H ∧ D.nx σ H) ∨ ((Itt K a).go i H ∧ ∃ N : St → Hp → Prop, (∀ σ' H', N σ' H' → ∃ m', m' < m ∧ W (i + 1) m' σ' H') ∧ ∀ x H', (Itt K a).yld i H x H' → g x σ H' fun σ2 H2 => tb { D with nx := N, ct := N, bk := D.nx } σ2 H2) := by
 refine ⟨fun i m σ H => m = xs.length - i ∧ i ≤ xs.length ∧ Pv i σ H, ⟨xs.length, by simp, Nat.zero_le _, h0⟩, ?_⟩
 rintro i m σ H ⟨rfl, hi, p⟩
 have q := hl i σ H hi p
 by_cases hlt : i < xs.length
 · refine .inr ⟨⟨xs, xs[i], q, by simp [hlt]⟩, Pv (i + 1), fun σ' H' p' => ⟨xs.length - (i + 1), by omega, rfl, hlt, p'⟩, fun x H' y => ?_⟩
   obtain ⟨e, y⟩ := y
   subst e
   exact hs i x σ _ (y xs q) p
 · have e : i = xs.length := by omega
   subst e
   exact .inl ⟨⟨xs, q, Nat.le_refl _⟩, hd σ H p⟩
theorem for_range {lo : Int} {n : Nat} {g : TG} {tb : TS} {D : Ends} {σ : St} {H : Hp} (Pv : Nat → St → Hp → Prop) (h0 : Pv 0 σ H)
 (hs : ∀ i σ H, i < n → Pv i σ H → g (.int (lo + i)) σ H fun σ2 H2 => tb { D with nx := Pv (i + 1), ct := Pv (i + 1), bk := D.nx } σ2 H2) (hd : ∀ σ H, Pv n σ H → D.nx σ H) :
 ∃ W : Nat → Nat → St → Hp → Prop, (∃ m, W 0 m σ H) ∧ ∀ i m σ H, W i m σ H →
  ((Itr lo n).stop i H ∧ D.nx σ H) ∨ ((Itr lo n).go i H ∧ ∃ N : St → Hp → Prop, (∀ σ' H', N σ' H' → ∃ m', m' < m ∧ W (i + 1) m' σ' H') ∧ ∀ x H', (Itr lo n).yld i H x H' → g x σ H' fun σ2 H2 => tb { D with nx := N, ct := N, bk := D.nx } σ2 H2) := by
 refine ⟨fun i m σ H => m = n - i ∧ i ≤ n ∧ Pv i σ H, ⟨n, by simp, Nat.zero_le _, h0⟩, ?_⟩
 rintro i m σ H ⟨rfl, hi, p⟩
 by_cases hlt : i < n
 · refine .inr ⟨hlt, Pv (i + 1), fun σ' H' p' => ⟨n - (i + 1), by omega, rfl, hlt, p'⟩, fun x H' y => ?_⟩
   obtain ⟨e, y⟩ := y
   subst e y
   exact hs i σ _ hlt p
 · have e : i = n := by omega
   subst e
   exact .inl ⟨Nat.le_refl _, hd σ H p⟩
end L2
namespace L2
open PySem PySem.Spec PyProof.Rows
abbrev R2 := V → V → Hp → VK → Prop
def OpR (X : Cx) (f : Value → Value → Sem Value) (r : R2) : Prop :=
 ∀ (pins : List (Addr × Obj)) (s : Shared) (σ : St) (H : Hp) (x y : V) (v u : Value) (Q : VK), Inv X pins σ H s → RelV x v → RelV y u → r x y H Q →
  wpAny (model X.prog X.w) X.A (f v u) (EP X pins σ Q) X.xe s
def UnR (X : Cx) (f : Value → Sem Value) (r : V → Hp → VK → Prop) : Prop :=
 ∀ (pins : List (Addr × Obj)) (s : Shared) (σ : St) (H : Hp) (x : V) (v : Value) (Q : VK), Inv X pins σ H s → RelV x v → r x H Q →
  wpAny (model X.prog X.w) X.A (f v) (EP X pins σ Q) X.xe s
def CallR (X : Cx) (f : Value) (r : List V → Hp → VK → Prop) : Prop :=
 ∀ (pins : List (Addr × Obj)) (s : Shared) (σ : St) (H : Hp) (xs : List V) (us : List Value) (Q : VK), Inv X pins σ H s → Vals xs us → r xs H Q →
  wpAny (model X.prog X.w) X.A (call f us) (EP X pins σ Q) X.xe s
def tOp (r : R2) (ta tb : TE) : TE := fun σ H Q => ta σ H fun x H1 => tb σ H1 fun y H2 => r x y H2 Q
def tUn (r : V → Hp → VK → Prop) (ta : TE) : TE := fun σ H Q => ta σ H fun x H1 => r x H1 Q
def rI (C : Int → Int → Prop) (g : Int → Int → V) : R2 := fun x y H Q => ∃ i j, x = .int i ∧ y = .int j ∧ C i j ∧ Q (g i j) H
def rI0 (g : Int → Int → V) : R2 := fun x y H Q => ∃ i j, x = .int i ∧ y = .int j ∧ Q (g i j) H
def rU (g : Int → V) : V → Hp → VK → Prop := fun x H Q => ∃ i, x = .int i ∧ Q (g i) H
section
variable {X : Cx} {a b c : Expr} {ta tb tc : TE} {pos : Pos}
theorem binT (ha : PE X a ta) (hb : PE X b tb) {pins : List (Addr × Obj)} {s : Shared} {σ : St} {H : Hp} {R : V → V → Hp → Prop} (I : Inv X pins σ H s)
 (h : ta σ H fun x H1 => tb σ H1 fun y H2 => R x y H2) {Q : Value → Shared → Prop} {f : Value → Value → Sem Value}
 (hf : ∀ v u s2 x y H2, Inv X pins σ H2 s2 → RelV x v → RelV y u → R x y H2 → wpAny (model X.prog X.w) X.A (f v u) Q X.xe s2) :
 wpAny (model X.prog X.w) X.A (eval a X.env) (fun v s₁ => wpAny (model X.prog X.w) X.A (eval b X.env) (fun u s₂ => wpAny (model X.prog X.w) X.A (f v u) Q X.xe s₂) X.xe s₁) X.xe s := by
 refine thn (ha pins s σ H _ I h) fun v s1 ⟨x, H1, I1, r1, q1⟩ => ?_
 refine thn (hb pins s1 σ H1 _ I1 q1) fun u s2 ⟨y, H2, I2, r2, q2⟩ => ?_
 exact hf v u s2 x y H2 I2 r1 r2 q2
theorem pe_op {op : Operator} {r : R2} (ho : OpR X (binaryOp op) r) (ha : PE X a ta) (hb : PE X b tb) : PE X (.BinOp a op b pos) (tOp r ta tb) := by
 intro pins s σ H Q I h
 exact wpAny_BinOp (binT ha hb I h fun v u s2 x y H2 I2 rx ry q => ho pins s2 σ H2 x y v u Q I2 rx ry q)
theorem opI {f : Value → Value → Sem Value} {C : Int → Int → Prop} {g : Int → Int → Int}
 (rule : ∀ (i j : Int) (t u : Tok) (s : Shared) (Q : Value → Shared → Prop) (E : Value → Shared → Prop), C i j → Q (.int (g i j) s.toks) { s with toks := s.toks + 1 } → wpAny (model X.prog X.w) X.A (f (.int i t) (.int j u)) Q E s) :
 OpR X f (rI C fun i j => .int (g i j)) := by
 intro pins s σ H x y v u Q I rx ry h
 obtain ⟨i, j, rfl, rfl, hc, q⟩ := h
 obtain ⟨t, rfl⟩ := rx
 obtain ⟨t', rfl⟩ := ry
 exact rule i j t t' s _ _ hc ⟨.int (g i j), H, I.tok _, ⟨_, rfl⟩, q⟩
theorem opI0 {f : Value → Value → Sem Value} {g : Int → Int → Int}
 (rule : ∀ (i j : Int) (t u : Tok) (s : Shared) (Q : Value → Shared → Prop) (E : Value → Shared → Prop), Q (.int (g i j) s.toks) { s with toks := s.toks + 1 } → wpAny (model X.prog X.w) X.A (f (.int i t) (.int j u)) Q E s) :
 OpR X f (rI0 fun i j => .int (g i j)) := by
 intro pins s σ H x y v u Q I rx ry h
 obtain ⟨i, j, rfl, rfl, q⟩ := h
 obtain ⟨t, rfl⟩ := rx
 obtain ⟨t', rfl⟩ := ry
 exact rule i j t t' s _ _ ⟨.int (g i j), H, I.tok _, ⟨_, rfl⟩, q⟩
theorem opB0 {f : Value → Value → Sem Value} {g : Int → Int → Bool}
 (rule : ∀ (i j : Int) (t u : Tok) (s : Shared) (Q : Value → Shared → Prop) (E : Value → Shared → Prop), Q (.bool (g i j)) s → wpAny (model X.prog X.w) X.A (f (.int i t) (.int j u)) Q E s) :
 OpR X f (rI0 fun i j => .bl (g i j)) := by
 intro pins s σ H x y v u Q I rx ry h
 obtain ⟨i, j, rfl, rfl, q⟩ := h
 obtain ⟨t, rfl⟩ := rx
 obtain ⟨t', rfl⟩ := ry
 exact rule i j t t' s _ _ ⟨.bl (g i j), H, I, rfl, q⟩
def CMul (i j : Int) : Prop := (-(2 ^ 64) < i ∧ i < 2 ^ 64) ∨ (-(2 ^ 64) < j ∧ j < 2 ^ 64)
theorem CMul.ok {i j : Int} (h : CMul i j) : IntMulOk i j := by
 rcases h with ⟨h1, h2⟩ | ⟨h1, h2⟩
 · exact .of_left (intBits_le_64 h1 h2)
 · exact .of_right (intBits_le_64 h1 h2)
theorem op_add : OpR X (binaryOp .Add) (rI0 fun i j => .int (i + j)) := opI0 fun _ _ _ _ _ _ _ q => add_int q
theorem op_sub : OpR X (binaryOp .Sub) (rI0 fun i j => .int (i - j)) := opI0 fun _ _ _ _ _ _ _ q => sub_int q
theorem op_mul : OpR X (binaryOp .Mult) (rI CMul fun i j => .int (i * j)) := opI fun _ _ _ _ _ _ _ hc q => mul_int q hc.ok
theorem op_mod : OpR X (binaryOp .Mod) (rI (fun _ j => 0 < j) fun i j => .int (i % j)) := opI fun i j _ _ _ _ _ hc q => by
 have h1 : (0 : Int) < j := hc
 exact mod_int' (by omega) (by rw [Int.fmod_eq_emod_of_nonneg i (by omega)]; exact q)
end
def scal : V → V → Bool
 | .non, .non => true | .non, .int _ => true | .int _, .non => true | .non, .bl _ => true | .bl _, .non => true | .non, .str _ => true | .str _, .non => true
 | .int _, .int _ => true | .bl _, .bl _ => true | .str _, .str _ => true | .byt _, .byt _ => true
 | .int _, .str _ => true | .str _, .int _ => true | .bl _, .str _ => true | .str _, .bl _ => true
 | _, _ => false
def rEq : R2 := fun x y H Q => scal x y = true ∧ Q (.bl (decide (x = y))) H
def rNe : R2 := fun x y H Q => scal x y = true ∧ Q (.bl (!decide (x = y))) H
theorem dec_int {i j : Int} : decide (V.int i = V.int j) = (i == j) := by
 rw [Bool.eq_iff_iff]
 simp
theorem dec_bl {i j : Bool} : decide (V.bl i = V.bl j) = (i == j) := by
 rw [Bool.eq_iff_iff]
 simp
theorem dec_str {i j : Str} : decide (V.str i = V.str j) = (i == j) := by
 rw [Bool.eq_iff_iff]
 simp
theorem dec_byt {i j : Array UInt8} : decide (V.byt i = V.byt j) = (i.toList == j.toList) := by
 rw [Bool.eq_iff_iff]
 cases i
 cases j
 simp
section
variable {X : Cx} {a b c : Expr} {ta tb tc : TE} {pos : Pos}
theorem fin_bl {pins : List (Addr × Obj)} {σ : St} {H : Hp} {s : Shared} {Q : VK} {k k' : Bool} (I : Inv X pins σ H s) (q : Q (.bl k) H) (e : k = k') : EP X pins σ Q (.bool k') s := by
 subst e
 exact ⟨.bl k, H, I, rfl, q⟩
theorem op_eq : OpR X (compareOp .Eq) rEq := by
 intro pins s σ H x y v u Q I rx ry h
 obtain ⟨hs, q⟩ := h
 cases x with
 | non =>
  cases rx
  cases y with
  | non => cases ry; exact PySem.EqNone.eq_none_none (fin_bl I q (by simp))
  | bl j => cases ry; exact PySem.EqNone.eq_none_bool (fin_bl I q (by simp))
  | int j => obtain ⟨t', rfl⟩ := ry; exact PySem.EqNone.eq_none_int (fin_bl I q (by simp))
  | str j => obtain ⟨t', rfl⟩ := ry; exact PySem.EqNone.eq_none_str (fin_bl I q (by simp))
  | _ => exact absurd (show false = true from hs) Bool.false_ne_true
 | bl i =>
  cases rx
  cases y with
  | non => cases ry; exact PySem.EqNone.eq_bool_none (fin_bl I q (by simp))
  | bl j => cases ry; exact eq_bool (fin_bl I q dec_bl)
  | str j => obtain ⟨t', rfl⟩ := ry; exact PySem.EqMixed.eq_bool_str (fin_bl I q (by simp))
  | _ => exact absurd (show false = true from hs) Bool.false_ne_true
 | int i =>
  obtain ⟨t, rfl⟩ := rx
  cases y with
  | non => cases ry; exact PySem.EqNone.eq_int_none (fin_bl I q (by simp))
  | int j => obtain ⟨t', rfl⟩ := ry; exact eq_int (fin_bl I q dec_int)
  | str j => obtain ⟨t', rfl⟩ := ry; exact PySem.EqMixed.eq_int_str (fin_bl I q (by simp))
  | _ => exact absurd (show false = true from hs) Bool.false_ne_true
 | str i =>
  obtain ⟨t, rfl⟩ := rx
  cases y with
  | non => cases ry; exact PySem.EqNone.eq_str_none (fin_bl I q (by simp))
  | bl j => cases ry; exact PySem.EqMixed.eq_str_bool (fin_bl I q (by simp))
  | int j => obtain ⟨t', rfl⟩ := ry; exact PySem.EqMixed.eq_str_int (fin_bl I q (by simp))
  | str j => obtain ⟨t', rfl⟩ := ry; exact eq_str (fin_bl I q dec_str)
  | _ => exact absurd (show false = true from hs) Bool.false_ne_true
 | byt i =>
  obtain ⟨t, rfl⟩ := rx
  cases y with
  | byt j => obtain ⟨t', rfl⟩ := ry; exact PySem.W.eq_bytes (fin_bl I q dec_byt)
  | _ => exact absurd (show false = true from hs) Bool.false_ne_true
 | _ => cases y <;> exact absurd (show false = true from hs) Bool.false_ne_true
theorem op_ne : OpR X (compareOp .NotEq) rNe := by
 intro pins s σ H x y v u Q I rx ry h
 obtain ⟨hs, q⟩ := h
 cases x with
 | non =>
  cases rx
  cases y with
  | non => cases ry; exact PySem.EqNone.ne_none_none (fin_bl I q (by simp))
  | bl j => cases ry; exact PySem.EqNone.ne_none_bool (fin_bl I q (by simp))
  | int j => obtain ⟨t', rfl⟩ := ry; exact PySem.EqNone.ne_none_int (fin_bl I q (by simp))
  | str j => obtain ⟨t', rfl⟩ := ry; exact PySem.EqNone.ne_none_str (fin_bl I q (by simp))
  | _ => exact absurd (show false = true from hs) Bool.false_ne_true
 | bl i =>
  cases rx
  cases y with
  | non => cases ry; exact PySem.EqNone.ne_bool_none (fin_bl I q (by simp))
  | bl j => cases ry; exact ne_bool (fin_bl I q (congrArg not dec_bl))
  | str j => obtain ⟨t', rfl⟩ := ry; exact PySem.EqMixed.ne_bool_str (fin_bl I q (by simp))
  | _ => exact absurd (show false = true from hs) Bool.false_ne_true
 | int i =>
  obtain ⟨t, rfl⟩ := rx
  cases y with
  | non => cases ry; exact PySem.EqNone.ne_int_none (fin_bl I q (by simp))
  | int j => obtain ⟨t', rfl⟩ := ry; exact ne_int (fin_bl I q (congrArg not dec_int))
  | str j => obtain ⟨t', rfl⟩ := ry; exact PySem.EqMixed.ne_int_str (fin_bl I q (by simp))
  | _ => exact absurd (show false = true from hs) Bool.false_ne_true
 | str i =>
  obtain ⟨t, rfl⟩ := rx
  cases y with
  | non => cases ry; exact PySem.EqNone.ne_str_none (fin_bl I q (by simp))
  | bl j => cases ry; exact PySem.EqMixed.ne_str_bool (fin_bl I q (by simp))
  | int j => obtain ⟨t', rfl⟩ := ry; exact PySem.EqMixed.ne_str_int (fin_bl I q (by simp))
  | str j => obtain ⟨t', rfl⟩ := ry; exact ne_str (fin_bl I q (congrArg not dec_str))
  | _ => exact absurd (show false = true from hs) Bool.false_ne_true
 | byt i =>
  obtain ⟨t, rfl⟩ := rx
  cases y with
  | byt j => obtain ⟨t', rfl⟩ := ry; exact PySem.W.ne_bytes (fin_bl I q (congrArg not dec_byt))
  | _ => exact absurd (show false = true from hs) Bool.false_ne_true
 | _ => cases y <;> exact absurd (show false = true from hs) Bool.false_ne_true
theorem op_lt : OpR X (compareOp .Lt) (rI0 fun i j => .bl (decide (i < j))) := opB0 fun _ _ _ _ _ _ _ q => lt_int q
theorem op_le : OpR X (compareOp .LtE) (rI0 fun i j => .bl (decide (i ≤ j))) := opB0 fun _ _ _ _ _ _ _ q => le_int q
theorem op_gt : OpR X (compareOp .Gt) (rI0 fun i j => .bl (decide (j < i))) := opB0 fun _ _ _ _ _ _ _ q => gt_int q
theorem op_ge : OpR X (compareOp .GtE) (rI0 fun i j => .bl (decide (j ≤ i))) := opB0 fun _ _ _ _ _ _ _ q => ge_int q
theorem nomark (b : Expr) {op : CmpOp} (h : op ≠ .In := by decide) (h2 : op ≠ .NotIn := by decide) : behindInMarks op b = false := by
 have e1 : (op == CmpOp.In) = false := by cases op <;> first | rfl | exact absurd rfl h
 have e2 : (op == CmpOp.NotIn) = false := by cases op <;> first | rfl | exact absurd rfl h2
 cases b <;> simp [behindInMarks, e1, e2]
theorem pe_cmpR {op : CmpOp} {r : R2} (ho : OpR X (compareOp op) r) (ha : PE X a ta) (hb : PE X b tb) (hm : behindInMarks op b = false) : PE X (.Compare a [op] [b] pos) (tOp r ta tb) := by
 intro pins s σ H Q I h
 exact wpAny_Compare1 (binT ha hb I h fun v u s2 x y H2 I2 rx ry q => ho pins s2 σ H2 x y v u Q I2 rx ry q) hm
def tTest (t : TE) : TT := fun σ H Q => t σ H fun x H' => ∃ k, x = .bl k ∧ Q k H'
theorem pt_cmpR {op : CmpOp} {r : R2} (ho : OpR X (compareOp op) r) (ha : PE X a ta) (hb : PE X b tb) (hm : behindInMarks op b = false) : PT X (.Compare a [op] [b] pos) (tTest (tOp r ta tb)) := by
 intro pins s σ H Q I h
 refine wpAny_isTrue_Compare1 (thn (ha pins s σ H _ I h) fun v s1 ⟨x, H1, I1, r1, q1⟩ => thn (hb pins s1 σ H1 _ I1 q1) fun u s2 ⟨y, H2, I2, r2, q2⟩ =>
  thn (ho pins s2 σ H2 x y v u _ I2 r1 r2 q2) fun c s3 ⟨z, H3, I3, r3, k, e, q3⟩ => ?_) hm
 subst e
 cases r3
 exact wpAny_truthy_bool ⟨H3, I3, q3⟩
def tChain (r r' : R2) (ta tb tc : TE) : TE := fun σ H Q => ta σ H fun x H1 => tb σ H1 fun y H2 => r x y H2 fun z H3 => ∃ k, z = .bl k ∧
 (if k = true then tc σ H3 fun w' H4 => r' y w' H4 Q else Q (.bl false) H3)
theorem line63 : (sizeLine : Nat) < 2 ^ 63 := by rw [sizeLine_eq]; decide
theorem op_add_str : OpR X (binaryOp .Add) (fun x y H Q => ∃ i j, x = .str i ∧ y = .str j ∧ i.length + j.length ≤ sizeLine ∧ Q (.str (i ++ j)) H) := by
 intro pins s σ H x y v u Q I rx ry h
 obtain ⟨i, j, rfl, rfl, hz, q⟩ := h
 obtain ⟨t, rfl⟩ := rx
 obtain ⟨t', rfl⟩ := ry
 exact add_str (fun t' tk => ⟨.str (i ++ j), H, I.tok _, ⟨_, rfl⟩, q⟩) hz
theorem vals1 {x : V} {us : List Value} (r : Vals [x] us) : ∃ u, us = [u] ∧ RelV x u := by
 cases r with
 | cons r1 r2 => cases r2; exact ⟨_, rfl, r1⟩
theorem vals2 {x y : V} {us : List Value} (r : Vals [x, y] us) : ∃ u w', us = [u, w'] ∧ RelV x u ∧ RelV y w' := by
 cases r with
 | cons r1 r2 =>
  cases r2 with
  | cons r3 r4 => cases r4; exact ⟨_, _, rfl, r1, r3⟩
end
end L2
namespace L2
open PySem PySem.Spec PyProof.Rows
structure ObjM (h : Heap) (x dx C : Addr) (mA : Str → Option Value) : Prop where
 obj : h.get? x = some (PySem.W.instObj C dx)
 ns : h.Ns1 dx mA
 ne : dx ≠ x
theorem lookIn_ns {h : Heap} {dx : Addr} {mA : Str → Option Value} (n : h.Ns1 dx mA) : ∃ od, h.get? dx = some od ∧ ∀ name, PySem.W.lookIn name od = some (mA name) := by
 obtain ⟨o, es, ep, ho, hd, hk, _, hm⟩ := n
 refine ⟨o, ho, fun name => ?_⟩
 have e := hm name
 unfold nsFind findBy at e
 rw [← Array.find?_toList] at e
 unfold PySem.W.lookIn
 rw [hd]
 dsimp only
 split
 · rename_i y q
   rw [q] at e
   exact congrArg some e
 · rename_i q
   rw [q] at e
   have a : es.toList.any (·.refKey) = false := by
    rw [List.any_eq_false]
    intro y hy
    obtain ⟨z, t, hkey⟩ := hk y (Array.mem_toList_iff.mp hy)
    simp [DictEntry.refKey, hkey]
   have a' : ¬ es.toList.any (·.refKey) = true := by rw [a]; exact Bool.false_ne_true
   rw [if_neg a']
   exact congrArg some e
theorem ObjM.look {h : Heap} {x dx C : Addr} {mA : Str → Option Value} (I : ObjM h x dx C mA) : ∃ od, PySem.W.InstAt h x (PySem.W.instObj C dx) C (some od) ∧ ∀ name, PySem.W.lookIn name od = some (mA name) :=
 let ⟨od, ho, hl⟩ := lookIn_ns I.ns
 ⟨od, ⟨I.obj, rfl, rfl, ho⟩, hl⟩
section
variable {prog : Program} {w : World} {A : Around} {E : Value → Shared → Prop} {s : Shared} {K : PySem.W.Frag} {x dx C f : Addr} {mA : Str → Option Value} {name : Str} {v : Value}
theorem get_map {expr : Bool} {Q : Value → Shared → Prop} (X : K.In s.heap) (I : ObjM s.heap x dx C mA) (hg : PySem.W.plainGet K C name = true) (hh : PySem.W.hasDictIn K C = true)
 (ha : PySem.W.findIn K (.ref C) name = some none) (hv : mA name = some v) (hv' : PySem.W.handedIn v = true) (h : Q v { s with toks := s.toks + 1 }) :
 wpAny (model prog w) A (getAttr (.ref x) name expr) Q E s := by
 obtain ⟨od, J, hl⟩ := I.look
 exact PySem.W.get_value X J (PySem.W.plainGet_of hg).1 (PySem.W.findObj_own hh ha rfl (by rw [hl, hv])) hv' h
theorem get_meth {pl : Sem Bool} {Q : Value × List Value → Shared → Prop} (X : K.In s.heap) (I : ObjM s.heap x dx C mA) (hg : PySem.W.plainGet K C name = true)
 (hf : PySem.W.findIn K (.ref C) name = some (some (.ref f))) (ht : PySem.W.isFn K (.ref f) = true) (hv : mA name = none) (h : Q (.ref f, [.ref x]) s) :
 wpAny (model prog w) A (getMethod (.ref x) name pl) Q E s := by
 obtain ⟨od, J, hl⟩ := I.look
 exact PySem.W.method_fn X J (PySem.W.plainGet_of hg).1 (PySem.W.plainGet_of hg).2 hf (beq_iff_eq.mp ht) (by show (PySem.W.lookIn name od).map (·.isSome) = some false; rw [hl, hv]; rfl) h
theorem set_map {ns : List Str} {Q : Unit → Shared → Prop} (X : K.In s.heap) (I : ObjM s.heap x dx C mA)
 (hs : PySem.W.findIn K (.ref C) "__setattr__" = some (some (.builtin "object.__setattr__"))) (hp : PySem.W.plainOver K C = true) (ht : PySem.W.takerIn K C name = some none) (hh : PySem.W.hasDictIn K C = true)
 (hw : PySem.Within mA ns) (hsz : ns.length ≤ sizeLine)
 (h : ∀ h', ObjM h' x dx C (fun y => if y = name then some v else mA y) → Heap.SameBut dx s.heap h' → Q () { s with heap := h', toks := s.toks + 2 }) :
 wpAny (model prog w) A (setAttr (.ref x) name v) Q E s := by
 obtain ⟨od, J, hl⟩ := I.look
 refine PySem.W.set_plain X J hs (PySem.W.osa_open (s := { s with toks := s.toks + 1 }) (r := none) X J hp ht fun b => ?_)
 obtain ⟨cd, hc, hd'⟩ := PySem.W.any_some hh
 have hx : s.heap.get? x = some ⟨.ref C, some dx, .plain, #[]⟩ := I.obj
 refine wpAny_bind (wpAny_pure (wpAny_bind (wpAny_bind (wpAny_loadPart hx (wpAny_bind (PySem.W.Looks.here (s := { s with toks := s.toks + 1 }) (PySem.W.looks_clsIn X hc) ?_))))))
 rw [hd']
 refine wpAny_pure (a := some dx) (wpAny_bind (wpAny_pure (wpAny_bind ?_)))
 refine wpAny_nsSet1 (s := { s with toks := s.toks + 1 }) I.ns fun h' hn2 hs2 => ?_
 obtain ⟨oD, esD, epD, hoD, hdD, hcD⟩ := hn2.count (PySem.Within.cons name v hw)
 refine wpAny_bind (wpAny_lookBehind hoD (by rw [hdD]; exact pastItsLine_dict (Nat.le_trans hcD (by rw [List.length_cons]; omega))) ?_)
 exact wpAny_pure (h _ ⟨(hs2.2 _ (Ne.symm I.ne)).trans I.obj, hn2, I.ne⟩ hs2)
theorem make_map {R : Result → Shared → Prop} {vs : List Value} {kw : List (Str × Value)} (X : K.In s.heap) (hm : PySem.W.makesIn K C = true)
 (hi : PySem.W.findIn K (.ref C) "__init__" = some (some (.ref f))) (hf : PySem.W.typeIn K (.ref f) = some (.type "function"))
 (h : codeAny (model prog w) (A.under (.builtin "type.__call__" ⟨.ref C :: vs, kw⟩)) (.call (.ref f) ⟨.ref (s.heap.objs.size + 1) :: vs, kw⟩) (PySem.W.InitBack (s.heap.objs.size + 1) R)
   { s with heap := (s.heap.push PySem.W.emptyDict).push (PySem.W.instObj C s.heap.objs.size) }) :
 codeAny (model prog w) A (.call (.ref C) ⟨vs, kw⟩) R s := by
 obtain ⟨hh, g, d, t, os⟩ := s
 exact PySem.W.make_core (PySem.W.makes_of X hm) (PySem.W.looks_findIn X hi) (fun self => PySem.W.bind_fn X self hf) (.inl rfl) h
end
def putF (f : Str) (v : V) : List (Str × V) → List (Str × V)
 | [] => [(f, v)]
 | (g, x) :: r => if g = f then (g, v) :: r else (g, x) :: putF f v r
theorem lookup_putF (f g : Str) (v : V) : ∀ fs : List (Str × V), (putF f v fs).lookup g = if g = f then some v else fs.lookup g
 | [] => by
  show List.lookup g [(f, v)] = _
  by_cases h : g = f
  · have hb : (g == f) = true := beq_iff_eq.mpr h
    simp only [List.lookup, hb, if_pos h]
  · have hb : (g == f) = false := beq_eq_false_iff_ne.mpr h
    simp only [List.lookup, hb, if_neg h]
 | (k, x) :: r => by
  have ih := lookup_putF f g v r
  rw [show putF f v ((k, x) :: r) = (if k = f then (k, v) :: r else (k, x) :: putF f v r) from rfl]
  by_cases hk : k = f
  · rw [if_pos hk]
    by_cases h : g = k
    · have hb : (g == k) = true := beq_iff_eq.mpr h
      simp only [List.lookup, hb, if_pos (h.trans hk)]
    · have hb : (g == k) = false := beq_eq_false_iff_ne.mpr h
      simp only [List.lookup, hb, if_neg (fun e : g = f => h (e.trans hk.symm))]
  · rw [if_neg hk]
    by_cases h : g = k
    · have hb : (g == k) = true := beq_iff_eq.mpr h
      simp only [List.lookup, hb, if_neg (fun e : g = f => hk (h.symm.trans e))]
    · have hb : (g == k) = false := beq_eq_false_iff_ne.mpr h
      simp only [List.lookup, hb]
      exact ih
theorem keys_putF (f : Str) (v : V) : ∀ fs : List (Str × V), f ∈ (putF f v fs).map (·.1) ∧ ∀ g, g ∈ fs.map (·.1) → g ∈ (putF f v fs).map (·.1)
 | [] => ⟨by simp [putF], fun g h => by simp at h⟩
 | (k, x) :: r => by
  obtain ⟨i1, i2⟩ := keys_putF f v r
  rw [show putF f v ((k, x) :: r) = (if k = f then (k, v) :: r else (k, x) :: putF f v r) from rfl]
  by_cases hk : k = f
  · rw [if_pos hk]
    subst hk
    exact ⟨by simp, fun g h => by simpa using h⟩
  · rw [if_neg hk]
    refine ⟨?_, fun g h => ?_⟩
    · rw [List.map_cons]
      exact List.mem_cons_of_mem _ i1
    · rw [List.map_cons] at h ⊢
      rcases List.mem_cons.mp h with e | e
      · exact List.mem_cons.mpr (.inl e)
      · exact List.mem_cons_of_mem _ (i2 g e)
theorem length_putF (f : Str) (v : V) : ∀ fs : List (Str × V), (putF f v fs).length ≤ fs.length + 1
 | [] => by simp [putF]
 | (k, x) :: r => by
  have ih := length_putF f v r
  rw [show putF f v ((k, x) :: r) = (if k = f then (k, v) :: r else (k, x) :: putF f v r) from rfl]
  by_cases hk : k = f
  · rw [if_pos hk, List.length_cons, List.length_cons]; omega
  · rw [if_neg hk, List.length_cons, List.length_cons]; omega
theorem RelO.some_of {v : V} {o : Option Value} (r : RelO (some v) o) : ∃ u, o = some u ∧ RelV v u := by
 cases o with
 | none => exact (show False from r).elim
 | some u => exact ⟨u, rfl, r⟩
theorem RelO.none_of {o : Option Value} (r : RelO none o) : o = none := by
 cases o with
 | none => rfl
 | some u => exact (show False from r).elim
theorem handed_of {v : V} {u : Value} (r : RelV v u) : PySem.W.handedIn u = true := by
 cases v with
 | non => cases (show u = Value.none from r); rfl
 | bl b => cases (show u = Value.bool b from r); rfl
 | int i => obtain ⟨t, e⟩ := (show ∃ t, u = Value.int i t from r); cases e; rfl
 | str x => obtain ⟨t, e⟩ := (show ∃ t, u = Value.str x t from r); cases e; rfl
 | byt b => obtain ⟨t, e⟩ := (show ∃ t, u = Value.bytes b t from r); cases e; rfl
 | flt b => obtain ⟨t, e⟩ := (show ∃ t, u = Value.float b t from r); cases e; rfl
 | ref a => cases (show u = Value.ref a from r); rfl
 | ty n => cases (show u = Value.type n from r); rfl
section
variable {P : Program} {w : World} {H H' : Hp} {h h' : Heap} {a C dx : Addr} {fs fs' : List (Str × V)}
theorem ins_get (hok : HOk P w H h) (e : H a = some (.ins C dx fs)) : ∃ mA, ObjM h a dx C mA ∧ (∀ f, RelO (fs.lookup f) (mA f)) ∧ PySem.Within mA (fs.map (·.1)) ∧ fs.length ≤ 1000 ∧ H dx = some (.own a) := by
 obtain ⟨d, z, ne, ob, mA, n, r, q⟩ := (show ObjOk P w H h a (.ins C dx fs) from hok a _ e)
 exact ⟨mA, ⟨ob, n, ne⟩, r, q, z, d⟩
end
structure Cls (K : PySem.W.Frag) (C : Addr) : Prop where
 pg : PySem.W.plainGet K C Str.empty = true
 hd : PySem.W.hasDictIn K C = true
 po : PySem.W.plainOver K C = true
 sa : PySem.W.findIn K (.ref C) "__setattr__" = some (some (.builtin "object.__setattr__"))
theorem Cls.get {K : PySem.W.Frag} {C : Addr} (c : Cls K C) (f : Str) : PySem.W.plainGet K C f = true := c.pg
def NoAttr (K : PySem.W.Frag) (C : Addr) (f : Str) : Prop := PySem.W.findIn K (.ref C) f = some none
theorem NoAttr.taker {K : PySem.W.Frag} {C : Addr} {f : Str} (n : NoAttr K C f) : PySem.W.takerIn K C f = some none := by
 unfold PySem.W.takerIn
 rw [show PySem.W.findIn K (.ref C) f = some none from n]
 rfl
structure Con (K : PySem.W.Frag) (C : Addr) (f : Str) (v : V) (u : Value) : Prop where
 at_ : PySem.W.findIn K (.ref C) f = some (some u)
 rel : RelV v u
 get : PySem.W.specialIn K u "__get__" = some none
 cp : PySem.W.copiedNames.contains f = false
structure Meth (K : PySem.W.Frag) (C : Addr) (m : Str) (f : Addr) : Prop where
 at_ : PySem.W.findIn K (.ref C) m = some (some (.ref f))
 fn : PySem.W.isFn K (.ref f) = true
 kp : PySem.W.keepIn K (.ref f) = true
section
variable {X : Cx} {pins : List (Addr × Obj)} {σ : St} {H : Hp} {s : Shared} {a C dx : Addr} {fs : List (Str × V)} {f : Str} {v : V} {A : Around} {E : Value → Shared → Prop}
theorem getattr_ok {b : Bool} {Q : Value → Shared → Prop} (I : Inv X pins σ H s) (e : H a = some (.ins C dx fs)) (c : Cls X.K C) (n : NoAttr X.K C f) (l : fs.lookup f = some v)
 (h : ∀ u s', Inv X pins σ H s' → RelV v u → Q u s') : wpAny (model X.prog X.w) A (getAttr (.ref a) f b) Q E s := by
 obtain ⟨mA, O, r, _, _, _⟩ := ins_get I.hok e
 obtain ⟨u, hu, ru⟩ := RelO.some_of (v := v) (o := mA f) (by rw [← l]; exact r f)
 exact get_map I.kIn O (c.get f) c.hd n hu (handed_of ru) (h u _ (I.tok _) ru)
theorem getmeth_ok {m : Str} {g : Addr} {pl : Sem Bool} {Q : Value × List Value → Shared → Prop} (I : Inv X pins σ H s) (e : H a = some (.ins C dx fs)) (c : Cls X.K C) (k : Meth X.K C m g) (l : fs.lookup m = none)
 (h : Q (.ref g, [.ref a]) s) : wpAny (model X.prog X.w) A (getMethod (.ref a) m pl) Q E s := by
 obtain ⟨mA, O, r, _, _, _⟩ := ins_get I.hok e
 have hn : mA m = none := RelO.none_of (by rw [← l]; exact r m)
 exact get_meth I.kIn O (c.get m) k.at_ k.fn hn h
theorem setattr_ok {y : V} {u : Value} {Q : Unit → Shared → Prop} (I : Inv X pins σ H s) (e : H a = some (.ins C dx fs)) (c : Cls X.K C) (n : NoAttr X.K C f) (hl : fs.length < 1000) (ry : RelV y u)
 (h : ∀ s', Inv X pins σ (upd H a (.ins C dx (putF f y fs))) s' → Q () s') : wpAny (model X.prog X.w) A (setAttr (.ref a) f u) Q E s := by
 obtain ⟨mA, O, r, wi, _, ho⟩ := ins_get I.hok e
 have hz : (fs.map (·.1)).length ≤ sizeLine := by rw [List.length_map, sizeLine_eq]; omega
 refine set_map I.kIn O c.sa c.po n.taker c.hd wi hz fun h' O' sb => h _ ?_
 have hd : ∃ o, h'.get? dx = some o := let ⟨o, _, _, e', _⟩ := O'.ns; ⟨o, e'⟩
 refine I.write (x := a) (e := dx) (by rw [e]; exact True.intro) (.inr ho) (fun b q hb z => (sb.2 b hb).trans z) hd ?_
 refine ⟨by rw [upd_ne O.ne]; exact ho, ?_, O.ne, O'.obj, _, O'.ns, fun g => ?_, fun g hg => ?_⟩
 · have := length_putF f y fs; omega
 · show RelO ((putF f y fs).lookup g) (if g = f then some u else mA g)
   rw [lookup_putF]
   by_cases q : g = f
   · rw [if_pos q, if_pos q]; exact ry
   · rw [if_neg q, if_neg q]; exact r g
 · by_cases q : g = f
   · rw [q]; exact (keys_putF f y fs).1
   · refine (keys_putF f y fs).2 g (wi g fun z => hg ?_)
     show (if g = f then some u else mA g) = none
     rw [if_neg q]; exact z
theorem Inv.made (I : Inv X pins σ H s) : Inv X pins σ (upd (upd H s.heap.objs.size (.own (s.heap.objs.size + 1))) (s.heap.objs.size + 1) (.ins C s.heap.objs.size []))
 { s with heap := (s.heap.push PySem.W.emptyDict).push (PySem.W.instObj C s.heap.objs.size) } := by
 have e1 : (s.heap.push PySem.W.emptyDict).get? s.heap.objs.size = some PySem.W.emptyDict := Heap.get?_push_size s.heap rfl
 have e2 : ((s.heap.push PySem.W.emptyDict).push (PySem.W.instObj C s.heap.objs.size)).get? (s.heap.objs.size + 1) = some (PySem.W.instObj C s.heap.objs.size) := by
  have := Heap.get?_push_size (s.heap.push PySem.W.emptyDict) (o := PySem.W.instObj C s.heap.objs.size) rfl
  rwa [Heap.size_push] at this
 have e3 : (s.heap.push PySem.W.emptyDict).Ns s.heap.objs.size (fun _ => none) := ⟨PySem.W.emptyDict, #[], _, e1, rfl, (fun e he => absurd he (by simp)), fun _ => rfl⟩
 have I1 := I.laid (a := s.heap.objs.size) (o := .own (s.heap.objs.size + 1)) (h' := s.heap.push PySem.W.emptyDict) (t' := s.toks) (fun b u q => Heap.get?_push_of_some _ q) (Nat.le_refl _) ⟨_, e1⟩
 refine I1.laid (a := s.heap.objs.size + 1) (o := .ins C s.heap.objs.size []) (t' := s.toks) (fun b u q => Heap.get?_push_of_some _ q) (Nat.le_of_eq (Heap.size_push _ _)) ?_
 have ne : s.heap.objs.size ≠ s.heap.objs.size + 1 := Nat.ne_of_lt (Nat.lt_succ_self _)
 refine ⟨by rw [upd_ne ne, upd_same], Nat.zero_le _, ne, e2, fun _ => none, (Heap.Ns1.of_empty e3).at fun o q => Heap.get?_push_of_some _ q, fun _ => True.intro, fun y hy => absurd rfl hy⟩
theorem attr_of {prog : Program} {w : World} {env : Env} {e : Expr} {f : Str} {pos : Pos} {s : Shared} {Q : Value → Shared → Prop} (hb : attributeBase e f env (eval e env) = eval e env)
 (h : wpAny (model prog w) A (eval e env) (fun o s₁ => wpAny (model prog w) A (getAttr o f true) Q E s₁) E s) : wpAny (model prog w) A (eval (.Attribute e f pos) env) Q E s :=
 Attribute_any_ h (by rw [arm_eval_Attribute, hb])
end
def tFld (K : PySem.W.Frag) (ta : TE) (f : Str) : TE := fun σ H Q => ta σ H fun x H1 => ∃ a C dx fs v, x = .ref a ∧ H1 a = some (.ins C dx fs) ∧ Cls K C ∧ NoAttr K C f ∧ fs.lookup f = some v ∧ Q v H1
def sFld (K : PySem.W.Frag) (ta tv : TE) (f : Str) : TS := fun D σ H => tv σ H fun y H1 => ta σ H1 fun x H2 => ∃ a C dx fs, x = .ref a ∧ H2 a = some (.ins C dx fs) ∧ Cls K C ∧ NoAttr K C f ∧ fs.length < 1000 ∧
 D.nx σ (upd H2 a (.ins C dx (putF f y fs)))
def InOp (X : Cx) (op : Operator) (rd : V → V → Hp → VK → Prop) : Prop :=
 ∀ (pins : List (Addr × Obj)) (s : Shared) (σ : St) (H : Hp) (x y : V) (u v : Value) (Q : VK), Inv X pins σ H s → RelV x u → RelV y v → rd x y H Q → wpAny (model X.prog X.w) X.A (inplaceOp op u v) (EP X pins σ Q) X.xe s
def sFldAug (K : PySem.W.Frag) (ta tv : TE) (rd : V → V → Hp → VK → Prop) (f : Str) : TS := fun D σ H => ta σ H fun x H1 => ∃ a C dx fs v, x = .ref a ∧ H1 a = some (.ins C dx fs) ∧ Cls K C ∧ NoAttr K C f ∧ fs.lookup f = some v ∧
 tv σ H1 fun y H2 => rd v y H2 fun z H3 => ∃ dx' fs', H3 a = some (.ins C dx' fs') ∧ fs'.length < 1000 ∧ D.nx σ (upd H3 a (.ins C dx' (putF f z fs')))
section
variable {X : Cx} {o e value : Expr} {f : Str} {pos pos' tpos : Pos} {ta tv : TE}
theorem pe_fld (he : PE X e ta) (hb : attributeBase e f X.env (eval e X.env) = eval e X.env) : PE X (.Attribute e f pos) (tFld X.K ta f) := by
 intro pins s σ H Q I h
 refine attr_of hb (thn (he pins s σ H _ I h) fun u s1 hz => ?_)
 obtain ⟨x, H1, I1, rx, a, C, dx, fs, v, ex, ea, c, n, l, q⟩ := hz
 subst ex
 obtain rfl : u = Value.ref a := rx
 exact getattr_ok I1 ea c n l fun u' s2 I2 ru => ⟨v, H1, I2, ru, q⟩
theorem ps_fld (ha : PE X o ta) (hv : PE X value tv) (hs : swapsWith value (some (.Attribute o f pos')) pos.line X.env = pure false) : PS X (.Assign [.Attribute o f pos'] value pos) (sFld X.K ta tv f) := by
 intro pins s σ H D I h
 refine plainObj_wpAny_Assign_Attribute (thn (hv pins s σ H _ I h) fun u s1 ⟨y, H1, I1, ry, q⟩ => thn (ha pins s1 σ H1 _ I1 q) fun ov s2 hz => ?_) hs
 obtain ⟨x, H2, I2, rx, a, C, dx, fs, ex, ea, c, n, l, q2⟩ := hz
 subst ex
 obtain rfl : ov = Value.ref a := rx
 exact setattr_ok I2 ea c n l ry fun s3 I3 => ⟨σ, _, I3, q2⟩
theorem ps_fldaug {op : Operator} {rd : V → V → Hp → VK → Prop} (ha : PE X o ta) (hv : PE X value tv) (hop : InOp X op rd) : PS X (.AugAssign (.Attribute o f tpos) op value pos) (sFldAug X.K ta tv rd f) := by
 intro pins s σ H D I h
 refine wpAny_AugAssign_AttributeAny (thn (ha pins s σ H _ I h) fun ov s1 hz => ?_)
 obtain ⟨x, H1, I1, rx, a, C, dx, fs, v, ex, ea, c, n, l, q⟩ := hz
 subst ex
 obtain rfl : ov = Value.ref a := rx
 refine getattr_ok I1 ea c n l fun u s2 I2 ru => thn (hv pins s2 σ H1 _ I2 q) fun w3 s3 ⟨y, H2, I3, ry, q3⟩ => thn (hop pins s3 σ H2 v y u w3 _ I3 ru ry q3) fun w4 s4 ⟨z, H3, I4, rz, dx', fs', ea', l', q4⟩ => ?_
 exact setattr_ok I4 ea' c n l' rz fun s5 I5 => ⟨σ, _, I5, q4⟩
def rAdd : V → V → Hp → VK → Prop := fun x y H Q => ∃ i j, x = .int i ∧ y = .int j ∧ Q (.int (i + j)) H
def rSub : V → V → Hp → VK → Prop := fun x y H Q => ∃ i j, x = .int i ∧ y = .int j ∧ Q (.int (i - j)) H
theorem in_add : InOp X .Add rAdd := by
 rintro pins s σ H x y u v Q I rx ry ⟨i, j, rfl, rfl, q⟩
 obtain ⟨t, rfl⟩ := (show ∃ t, u = Value.int i t from rx)
 obtain ⟨t', rfl⟩ := (show ∃ t', v = Value.int j t' from ry)
 exact PyProof.Rows.iadd_int ⟨.int (i + j), H, I.tok _, ⟨_, rfl⟩, q⟩
end
section
variable {X : Cx} {pins : List (Addr × Obj)} {σ : St} {H : Hp} {s : Shared} {A : Around} {E : Value → Shared → Prop} {Q : Value → Shared → Prop} {c : Value} {b : Bool}
inductive TyOf (K : PySem.W.Frag) (H : Hp) : V → Value → Prop where
 | non : TyOf K H .non (.type "NoneType")
 | bl (x : Bool) : TyOf K H (.bl x) (.type "bool")
 | int (i : Int) : TyOf K H (.int i) (.type "int")
 | str (x : Str) : TyOf K H (.str x) (.type "str")
 | flt (x : UInt64) : TyOf K H (.flt x) (.type "float")
 | lst {a : Addr} {xs : List V} (e : H a = some (.lst xs)) : TyOf K H (.ref a) (.type "list")
 | frz {a : Addr} {o : Obj} {xs : List V} (e : H a = some (.frz o (.lst xs))) : TyOf K H (.ref a) (.type "list")
 | tup {a : Addr} {xs : List V} (e : H a = some (.tup xs)) : TyOf K H (.ref a) (.type "tuple")
 | dK {a : Addr} {kvs : List (Key × V)} (e : H a = some (.dK kvs)) : TyOf K H (.ref a) (.type "dict")
 | dT {a : Addr} {kvs : List (List Key × V)} (e : H a = some (.dT kvs)) : TyOf K H (.ref a) (.type "dict")
 | ins {a C dx : Addr} {fs : List (Str × V)} (e : H a = some (.ins C dx fs)) (cl : Cls K C) (ha : PySem.W.findIn K (.ref C) "__class__" = some (some (.builtin "object.__class__")))
  (hn : PySem.W.specialIn K (.builtin "object.__class__") "__get__" = some (some (.builtin "getset_descriptor.__get__"))) (htk : PySem.W.takesIn K (.builtin "object.__class__") = some true)
  (hm : PySem.W.mroIn K C (.type "object") = some true) : TyOf K H (.ref a) (.ref C)
theorem isinst_ok {x : V} {u t : Value} (I : Inv X pins σ H s) (rx : RelV x u) (ty : TyOf X.K H x t) (e : PySem.W.kitOne X.K t c = some b) (h : ∀ tk, Q (.bool b) { s with toks := tk }) :
 wpAny (model X.prog X.w) A (call (.builtin "isinstance") [u, c]) Q E s := by
 cases ty with
 | non => cases (show u = Value.none from rx); exact PySem.W.kia_one PySem.W.kitx_none I.kIn True.intro e (fun z => nomatch z) h
 | bl y => cases (show u = Value.bool y from rx); exact PySem.W.kia_one PySem.W.kitx_bool I.kIn True.intro e (fun z => nomatch z) h
 | int i => obtain ⟨t, q⟩ := (show ∃ t, u = Value.int i t from rx); cases q; exact PySem.W.kia_one PySem.W.kitx_int I.kIn True.intro e (fun z => nomatch z) h
 | str y => obtain ⟨t, q⟩ := (show ∃ t, u = Value.str y t from rx); cases q; exact PySem.W.kia_one PySem.W.kitx_str I.kIn True.intro e (fun z => nomatch z) h
 | flt y => obtain ⟨t, q⟩ := (show ∃ t, u = Value.float y t from rx); cases q; exact PySem.W.kia_one PySem.W.kitx_float I.kIn True.intro e (fun z => nomatch z) h
 | @lst a xs ea =>
  cases (show u = Value.ref a from rx)
  obtain ⟨_, _, n, _, h1⟩ := (show ObjOk X.prog X.w H s.heap a (.lst xs) from I.hok a _ ea)
  exact PySem.W.kia_one PySem.W.kitx_list I.kIn ⟨_, h1, rfl⟩ e (fun z => nomatch z) h
 | @frz a ob xs ea =>
  cases (show u = Value.ref a from rx)
  obtain ⟨_, _, _, n, _, h1⟩ := (show ObjOk X.prog X.w H s.heap a (.frz ob (.lst xs)) from I.hok a _ ea)
  exact PySem.W.kia_one PySem.W.kitx_list I.kIn ⟨_, h1, rfl⟩ e (fun z => nomatch z) h
 | @tup a xs ea =>
  cases (show u = Value.ref a from rx)
  obtain ⟨_, _, _, p⟩ := (show ObjOk X.prog X.w H s.heap a (.tup xs) from I.hok a _ ea)
  obtain ⟨o, h1, h2, _⟩ := p
  exact PySem.W.kia_one PySem.W.kitx_tuple I.kIn ⟨o, h1, h2⟩ e (fun z => nomatch z) h
 | @dK a kvs ea =>
  cases (show u = Value.ref a from rx)
  obtain ⟨_, _, vs, _, p⟩ := (show ObjOk X.prog X.w H s.heap a (.dK kvs) from I.hok a _ ea)
  obtain ⟨o, es, ep, h1, h2, _⟩ := p
  exact PySem.W.kia_one PySem.W.kitx_dict I.kIn ⟨o, h1, h2.1⟩ e (fun z => nomatch z) h
 | @dT a kvs ea =>
  cases (show u = Value.ref a from rx)
  obtain ⟨_, _, xs, _, o, es, ep, h1, h2, _⟩ := (show ObjOk X.prog X.w H s.heap a (.dT kvs) from I.hok a _ ea)
  exact PySem.W.kia_one PySem.W.kitx_dict I.kIn ⟨o, h1, h2.1⟩ e (fun z => nomatch z) h
 | @ins a C dx fs ea cl ha hn htk hm =>
  cases (show u = Value.ref a from rx)
  obtain ⟨mA, O, _⟩ := ins_get I.hok ea
  obtain ⟨od, J, _⟩ := O.look
  exact PySem.W.kia_one (PySem.W.kitx_own (cl.get _) cl.hd ha hn htk hm) I.kIn J e (fun z => nomatch z) h
end
end L2
namespace L2
open PySem PySem.Spec PyProof.Rows
structure Room (k : Nat) (A : Around) : Prop where
 hd : A.handled = none
 dp : A.depth + 3 * k + 5 < recursionLimit
 un : A.units + 16 * k + 200 < cLine
theorem Room.mono {j k : Nat} {A : Around} (r : Room k A) (h : j ≤ k) : Room j A := ⟨r.hd, by have := r.dp; omega, by have := r.un; omega⟩
theorem Room.deeper {k : Nat} {A : Around} (r : Room (k + 1) A) (env : Env) : Room k (A.deeper env) :=
 ⟨r.hd, by have := r.dp; show A.depth + 1 + 3 * k + 5 < _; omega, by have := r.un; show A.units + 3 + 16 * k + 200 < _; omega⟩
theorem Room.in1 {k : Nat} {A : Around} (r : Room (k + 1) A) : Room k A.in1 :=
 ⟨r.hd, by have := r.dp; show A.depth + 3 * k + 5 < _; omega, by have := r.un; show A.units + 1 + 16 * k + 200 < _; omega⟩
theorem make_depth {A : Around} {C : Addr} {us : List Value} {kw : List (Str × Value)} : (A.under (.builtin "type.__call__" ⟨.ref C :: us, kw⟩)).depth = A.depth + 1 := by
 first | rfl | simp [Around.under, Code.weight, Code.isCreation, Code.isGuard, Code.isCaller, Code.frames, Code.isFrame, guardIds]
theorem make_units {A : Around} {C : Addr} {us : List Value} {kw : List (Str × Value)} : (A.under (.builtin "type.__call__" ⟨.ref C :: us, kw⟩)).units = A.units + 1 := by
 first | rfl | simp [Around.under, Code.cUnits, Code.frames, Code.isFrame]
theorem Room.make {k : Nat} {A : Around} (r : Room (k + 1) A) (C : Addr) (us : List Value) (kw : List (Str × Value)) : Room k (A.under (.builtin "type.__call__" ⟨.ref C :: us, kw⟩)) :=
 ⟨r.hd, by have := r.dp; rw [make_depth]; omega, by have := r.un; rw [make_units]; omega⟩
theorem Room.depth {k : Nat} {A : Around} (r : Room k A) : A.depth < recursionLimit := by have := r.dp; omega
theorem Room.units {k : Nat} {A : Around} (r : Room k A) : A.units + 64 < cLine := by have := r.un; omega
def tNil : TA := fun _ H Q => Q [] H
def tCons (ta : TE) (tr : TA) : TA := fun σ H Q => ta σ H fun x H1 => tr σ H1 fun xs H2 => Q (x :: xs) H2
section
variable {X : Cx} {e : Expr} {es : List Expr} {te : TE} {t : TA} {pos : Pos}
theorem pa_nil : PA X [] tNil := fun _ _ _ _ H Q I h => Calls.spliced_nil ⟨[], H, I, .nil, h⟩
theorem pa_cons (ha : PE X e te) (hr : PA X es t) (hs : starEach (e :: es) X.env = (false, eval e X.env) :: starEach es X.env := by rfl) : PA X (e :: es) (tCons te t) := by
 intro pos pins s σ H Q I h
 rw [hs]
 show wpAny _ _ (spliced ((false, eval e X.env) :: backTo pos (starEach es X.env))) _ _ s
 refine Calls.spliced_cons (thn (ha pins s σ H _ I h) fun u s1 ⟨x, H1, I1, r1, q1⟩ => ?_)
 exact thn (hr pos pins s1 σ H1 _ I1 q1) fun us s2 ⟨xs, H2, I2, r2, q2⟩ => ⟨x :: xs, H2, I2, .cons r1 r2, q2⟩
def tTup (t : TA) : TE := fun σ H Q => t σ H fun xs H1 => xs.length ≤ sizeLine ∧ ∀ p, H1 p = none → Q (.ref p) (upd H1 p (.tup xs))
def tLst (t : TA) : TE := fun σ H Q => t σ H fun xs H1 => xs.length ≤ sizeLine ∧ ∀ p, H1 p = none → Q (.ref p) (upd H1 p (.lst xs))
theorem pe_tup {x1} (h : PA X es t) : PE X (.Tuple es x1 pos) (tTup t) := by
 intro pins s σ H Q I hq
 refine wpAny_Tuple_spliced (thn (h pos pins s σ H _ I hq) fun us s1 ⟨xs, H1, I1, r, z, q⟩ => ⟨by rw [← r.length]; exact z, ?_⟩)
 have hf : H1 s1.heap.objs.size = none := I1.hok.fresh (Nat.le_refl _)
 refine ⟨.ref s1.heap.objs.size, upd H1 s1.heap.objs.size (.tup xs), I1.laid (t' := s1.toks) (fun b u e => Heap.get?_push_of_some _ e) (Nat.le_refl _) ?_, rfl, q _ hf⟩
 exact ⟨z, us, r, ⟨_, Heap.get?_push_size _ rfl, rfl, _, rfl⟩⟩
theorem pe_lst (h : PA X es t) : PE X (.List es pos) (tLst t) := by
 intro pins s σ H Q I hq
 refine wpAny_List_spliced (thn (h pos pins s σ H _ I hq) fun us s1 ⟨xs, H1, I1, r, z, q⟩ => ⟨by rw [← r.length]; exact z, ?_⟩)
 have hf : H1 s1.heap.objs.size = none := I1.hok.fresh (Nat.le_refl _)
 refine ⟨.ref s1.heap.objs.size, upd H1 s1.heap.objs.size (.lst xs), I1.laid (t' := s1.toks) (fun b u e => Heap.get?_push_of_some _ e) (Nat.le_refl _) ?_, rfl, q _ hf⟩
 exact ⟨z, us, 0, r, Heap.get?_push_size _ rfl⟩
end
abbrev Sp := List V → Hp → VK → XK → Prop
abbrev CXT := List Env → Hp → Shared → XK → Value → Shared → Prop
structure Env0 (P : Program) (w : World) (K : PySem.W.Frag) (mg : Str → Option Value) (base : Heap) (A : Around) (outer : List Env) (s : Shared) (H : Hp) : Prop where
 frames : A.frames = some outer
 mod : Mod K mg base
 bs : ∀ b o, base.get? b = some o → s.heap.get? b = some o ∧ H b = none
 bsz : base.objs.size ≤ s.heap.objs.size
 funs : s.heap.FunFrames base outer
 frf : ∀ b ∈ frs outer, H b = none
 hok : HOk P w H s.heap
 bare : AllBare s.gens
def CE (outer : List Env) (P : Program) (w : World) (H : Hp) (s : Shared) (Q : VK) (u : Value) (s' : Shared) : Prop :=
 ∃ v H', s'.os = s.os ∧ AllBare s'.gens ∧ Un (frs outer) [] H H' s.heap s'.heap ∧ HOk P w H' s'.heap ∧ RelV v u ∧ Q v H'
def CR (CX : CXT) (outer : List Env) (P : Program) (w : World) (H : Hp) (s : Shared) (Q : VK) (E : XK) (r : Result) (s' : Shared) : Prop :=
 match r with
 | .ok (.ret u) => CE outer P w H s Q u s'
 | .ok _ => False
 | .error e => CX outer H s E e s'
structure FnOk (P : Program) (w : World) (K : PySem.W.Frag) (mg : Str → Option Value) (base : Heap) (CX : CXT) (k : Nat) (f : Addr) (fd : FuncData) (ps : List Str) (sp : Sp) : Prop where
 len : ∀ vs H Q E, sp vs H Q E → vs.length = ps.length
 run : ∀ (A : Around) (outer : List Env) (s : Shared) (H : Hp) (args : Args) (us : List Value) (vs : List V) (Q : VK) (E : XK), Room k A → Env0 P w K mg base A outer s H → BindsTo s fd args (ps.zip us) → Vals vs us → sp vs H Q E →
  codeAny (model P w) A (.call (.ref f) args) (CR CX outer P w H s Q E) s
theorem FnOk.mono {P : Program} {w : World} {K : PySem.W.Frag} {mg : Str → Option Value} {base : Heap} {CX : CXT} {j k : Nat} {f : Addr} {fd : FuncData} {ps : List Str} {sp : Sp} (F : FnOk P w K mg base CX j f fd ps sp) (h : j ≤ k) :
 FnOk P w K mg base CX k f fd ps sp := ⟨F.len, fun A outer s H args us vs Q E hr => F.run A outer s H args us vs Q E (hr.mono h)⟩
theorem Env0.make {P : Program} {w : World} {K : PySem.W.Frag} {mg : Str → Option Value} {base : Heap} {A : Around} {outer : List Env} {s : Shared} {H : Hp} (e : Env0 P w K mg base A outer s H) (C : Addr) (us : List Value) (kw : List (Str × Value)) :
 Env0 P w K mg base (A.under (.builtin "type.__call__" ⟨.ref C :: us, kw⟩)) outer s H := ⟨by first | exact e.frames | (simpa [Around.under, Code.envs, Code.isFrame, pushEnvs] using e.frames), e.mod, e.bs, e.bsz, e.funs, e.frf, e.hok, e.bare⟩
theorem Env0.in1 {P : Program} {w : World} {K : PySem.W.Frag} {mg : Str → Option Value} {base : Heap} {A : Around} {outer : List Env} {s : Shared} {H : Hp} (e : Env0 P w K mg base A outer s H) :
 Env0 P w K mg base A.in1 outer s H := ⟨e.frames, e.mod, e.bs, e.bsz, e.funs, e.frf, e.hok, e.bare⟩
section
variable {X : Cx} {pins : List (Addr × Obj)} {σ : St} {H : Hp} {s s' : Shared}
theorem Inv.env0 (I : Inv X pins σ H s) : Env0 X.prog X.w X.K X.mg X.base X.A X.stack s H :=
 ⟨I.ok.frames, I.ok.mod, I.bs, Nat.le_trans I.ok.bsz I.sz, I.stack, I.stkFree, I.hok, I.bare⟩
theorem Inv.after {Q : VK} {u : Value} (I : Inv X pins σ H s) (h : CE X.stack X.prog X.w H s Q u s') : EP X pins σ Q u s' := by
 obtain ⟨v, H', os, bare, un, hok, r, q⟩ := h
 obtain ⟨hh, g, d, t, os'⟩ := s'
 obtain rfl : os' = s.os := os
 exact ⟨v, H', I.call (h' := hh) (g' := g) (d' := d) (t' := t) (ch := []) un hok bare (fun b z => absurd z (by simp)), r, q⟩
end
def tCall (sp : Sp) (dvs : List V) (E : XK) (t : TA) : TE := fun σ H Q => t σ H fun vs H1 => sp (vs ++ dvs) H1 Q E
def tMeth (C : Addr) (m : Str) (sp : Sp) (dvs : List V) (E : XK) (ta : TE) (t : TA) : TE := fun σ H Q => ta σ H fun x H1 => ∃ a dx fs, x = .ref a ∧ H1 a = some (.ins C dx fs) ∧ fs.lookup m = none ∧
 t σ H1 fun vs H2 => sp (x :: (vs ++ dvs)) H2 Q E
def tMake (C : Addr) (sp : Sp) (dvs : List V) (E : XK) (t : TA) : TE := fun σ H Q => t σ H fun vs H1 => ∀ x dx, H1 x = none → H1 dx = none → dx ≠ x →
 sp (.ref x :: (vs ++ dvs)) (upd (upd H1 dx (.own x)) x (.ins C dx [])) (fun v H2 => v = .non ∧ Q (.ref x) H2) E
def Binds (K : PySem.W.Frag) (fd : FuncData) (ps : List Str) (ds : List Value) : Prop :=
 ∀ (s : Shared) (us : List Value), K.In s.heap → (us ++ ds).length = ps.length → BindsTo s fd ⟨us, []⟩ (ps.zip (us ++ ds))
theorem Binds.all {K : PySem.W.Frag} {fd : FuncData} {ps : List Str} (h : ∀ us : List Value, us.length = ps.length → bindArgs fd ⟨us, []⟩ = pure (ps.zip us)) : Binds K fd ps [] := fun s us _ hl => by
 rw [List.append_nil] at hl ⊢
 exact .of_eq (h us hl)
def Passes (CX : CXT) (X : Cx) (E : XK) : Prop := ∀ (pins : List (Addr × Obj)) (σ : St) (H : Hp) (s : Shared) (e : Value) (s' : Shared), Inv X pins σ H s → CX X.stack H s E e s' → X.xe e s'
section
variable {X : Cx} {CX : CXT} {k : Nat} {f C : Addr} {fd : FuncData} {ps : List Str} {sp : Sp} {dvs : List V} {ds : List Value} {E : XK} {x m : Str} {p pos apos : Pos} {e o : Expr} {es : List Expr} {ta : TE} {t : TA}
theorem run_fn {pins : List (Addr × Obj)} {σ : St} {H : Hp} {s : Shared} {Q : VK} {us : List Value} {vs : List V} (F : FnOk X.prog X.w X.K X.mg X.base CX k f fd ps sp) (hr : Room k X.A) (hb : Binds X.K fd ps ds) (hd : Vals dvs ds) (hx : Passes CX X E)
 (I : Inv X pins σ H s) (r : Vals vs us) (h : sp (vs ++ dvs) H Q E) : wpAny (model X.prog X.w) X.A (call (.ref f) us) (EP X pins σ Q) X.xe s := by
 have r2 : Vals (vs ++ dvs) (us ++ ds) := r.append hd
 have hl : (us ++ ds).length = ps.length := by rw [← r2.length]; exact F.len _ _ _ _ h
 refine wpAny_call (codeAny_mono (F.run X.A X.stack s H ⟨us, []⟩ (us ++ ds) (vs ++ dvs) Q E hr I.env0 (hb s us I.kIn hl) r2 h) fun r s' hq => ?_)
 cases r with
 | error e => exact hx pins σ H s e s' I hq
 | ok fl =>
  cases fl with
  | ret u => exact I.after hq
  | next => exact False.elim hq
  | brk => exact False.elim hq
  | cont => exact False.elim hq
theorem pe_call (F : FnOk X.prog X.w X.K X.mg X.base CX k f fd ps sp) (hr : Room k X.A) (hg : Gl X x) (hm : X.mg x = some (.ref f)) (hk : PySem.W.keepIn X.K (.ref f) = true) (hb : Binds X.K fd ps ds) (hd : Vals dvs ds) (hx : Passes CX X E)
 (ha : PA X (e :: es) t) (hdb : (x == ("__debug__" : Str)) = false := by decide) (he : starEach (e :: es) X.env = (false, eval e X.env) :: starEach es X.env := by rfl) (hpl : (backTo pos (starEach es X.env)).any (·.1) = false := by rfl) :
 PE X (.Call (.Name x p) (e :: es) [] pos) (tCall sp dvs E t) := by
 intro pins s σ H Q I h
 refine wpAny_Call_Name_kw (ld_glob I hg hm ?_ hdb)
 refine PySem.W.callWith_K (h₀ := X.base) I.ok.mod.kin hk (thn (ha pos pins s σ H _ I h) fun us s1 ⟨vs, H1, I1, r, q⟩ => ⟨I1.kIn, ?_⟩) he hpl
 exact run_fn F hr hb hd hx I1 r q
theorem pe_meth {pl : Sem Bool} (he : PE X o ta) (c : Cls X.K C) (hm : Meth X.K C m f) (F : FnOk X.prog X.w X.K X.mg X.base CX k f fd ps sp) (hr : Room k X.A) (hb : Binds X.K fd ps ds) (hd : Vals dvs ds) (hx : Passes CX X E) (ha : PA X (e :: es) t)
 (hst : starEach (e :: es) X.env = (false, eval e X.env) :: starEach es X.env := by rfl) (hpl : (backTo pos (starEach es X.env)).any (·.1) = false := by rfl)
 (ht : eval (.Call (.Attribute o m apos) (e :: es) [] pos) X.env = (do
   let ov ← eval o X.env
   standAt apos.atName
   let (f, first) ← holding [ov] (getMethod ov m pl)
   callWith pos f first (backTo pos (starEach (e :: es) X.env)) (backToKw pos (keywordEach [] X.env))) := by rfl) :
 PE X (.Call (.Attribute o m apos) (e :: es) [] pos) (tMeth C m sp dvs E ta t) := by
 intro pins s σ H Q I h
 refine PySem.W.methodCall_KW (pl := pl) (thn (he pins s σ H _ I h) fun u s1 hz => ?_) ht
 obtain ⟨x, H1, I1, rx, a, dx, fs, ex, ea, l, q⟩ := hz
 subst ex
 obtain rfl : u = Value.ref a := rx
 refine getmeth_ok I1 ea c hm l ?_
 refine PySem.W.callWith_K (first := [.ref a]) (h₀ := X.base) I.ok.mod.kin hm.kp (thn (ha pos pins s1 σ H1 _ I1 q) fun us s2 ⟨vs, H2, I2, r, q2⟩ => ⟨I2.kIn, ?_⟩) hst hpl
 exact run_fn (us := .ref a :: us) (vs := .ref a :: vs) F hr hb hd hx I2 (.cons rfl r) q2
theorem pe_meth0 {pl : Sem Bool} (he : PE X o ta) (c : Cls X.K C) (hm : Meth X.K C m f) (F : FnOk X.prog X.w X.K X.mg X.base CX k f fd ps sp) (hr : Room k X.A) (hb : Binds X.K fd ps ds) (hd : Vals dvs ds) (hx : Passes CX X E)
 (ht : eval (.Call (.Attribute o m apos) [] [] pos) X.env = (do
   let ov ← eval o X.env
   standAt apos.atName
   let (f, first) ← holding [ov] (getMethod ov m pl)
   callWith pos f first (backTo pos (starEach [] X.env)) (backToKw pos (keywordEach [] X.env))) := by rfl) :
 PE X (.Call (.Attribute o m apos) [] [] pos) (tMeth C m sp dvs E ta tNil) := by
 intro pins s σ H Q I h
 refine PySem.W.methodCall_KW (pl := pl) (thn (he pins s σ H _ I h) fun u s1 hz => ?_) ht
 obtain ⟨x, H1, I1, rx, a, dx, fs, ex, ea, l, q⟩ := hz
 subst ex
 obtain rfl : u = Value.ref a := rx
 refine getmeth_ok I1 ea c hm l ?_
 exact PySem.W.callWith_K0 (first := [.ref a]) I1.kIn hm.kp (run_fn (us := [.ref a]) (vs := [.ref a]) F hr hb hd hx I1 (.cons rfl .nil) q)
structure Mk (K : PySem.W.Frag) (C f : Addr) : Prop where
 makes : PySem.W.makesIn K C = true
 init : PySem.W.findIn K (.ref C) "__init__" = some (some (.ref f))
 fn : PySem.W.isFn K (.ref f) = true
 kp : PySem.W.keepIn K (.ref C) = true
theorem run_make {pins : List (Addr × Obj)} {σ : St} {H : Hp} {s : Shared} {Q : VK} {us : List Value} {vs : List V} (M : Mk X.K C f) (F : FnOk X.prog X.w X.K X.mg X.base CX k f fd ps sp) (hr : Room (k + 1) X.A) (hb : Binds X.K fd ps ds) (hd : Vals dvs ds)
 (hx : Passes CX X E) (I : Inv X pins σ H s) (r : Vals vs us)
 (h : ∀ x dx, H x = none → H dx = none → dx ≠ x → sp (.ref x :: (vs ++ dvs)) (upd (upd H dx (.own x)) x (.ins C dx [])) (fun v H2 => v = .non ∧ Q (.ref x) H2) E) :
 wpAny (model X.prog X.w) X.A (call (.ref C) us) (EP X pins σ Q) X.xe s := by
 have hq := h (s.heap.objs.size + 1) s.heap.objs.size (I.hok.fresh (Nat.le_succ _)) (I.hok.fresh (Nat.le_refl _)) (Nat.ne_of_lt (Nat.lt_succ_self _))
 have I2 := Inv.made (C := C) I
 have r2 : Vals (V.ref (s.heap.objs.size + 1) :: (vs ++ dvs)) (Value.ref (s.heap.objs.size + 1) :: (us ++ ds)) := .cons rfl (r.append hd)
 have hl : (Value.ref (s.heap.objs.size + 1) :: us ++ ds).length = ps.length := by
  have e := r2.length
  rw [F.len _ _ _ _ hq] at e
  exact e.symm
 refine wpAny_call (make_map (f := f) I.kIn M.makes M.init (beq_iff_eq.mp M.fn) (codeAny_mono (F.run _ X.stack _ _ ⟨Value.ref (s.heap.objs.size + 1) :: us, []⟩ (Value.ref (s.heap.objs.size + 1) :: (us ++ ds)) _ _ E (hr.make C us [])
  (I2.env0.make C us []) (hb _ (Value.ref (s.heap.objs.size + 1) :: us) I2.kIn hl) r2 hq) fun r s' hq' => ?_))
 cases r with
 | error e => exact hx pins σ _ _ e s' I2 hq'
 | ok fl =>
  cases fl with
  | ret u =>
   obtain ⟨v, H', I3, rv, ev, q3⟩ := I2.after hq'
   subst ev
   exact ⟨rv, ⟨V.ref (s.heap.objs.size + 1), H', I3, rfl, q3⟩⟩
  | next => exact False.elim hq'
  | brk => exact False.elim hq'
  | cont => exact False.elim hq'
theorem pe_make (M : Mk X.K C f) (F : FnOk X.prog X.w X.K X.mg X.base CX k f fd ps sp) (hr : Room (k + 1) X.A) (hg : Gl X x) (hm : X.mg x = some (.ref C)) (hb : Binds X.K fd ps ds) (hd : Vals dvs ds) (hx : Passes CX X E)
 (ha : PA X (e :: es) t) (hdb : (x == ("__debug__" : Str)) = false := by decide) (he : starEach (e :: es) X.env = (false, eval e X.env) :: starEach es X.env := by rfl) (hpl : (backTo pos (starEach es X.env)).any (·.1) = false := by rfl) :
 PE X (.Call (.Name x p) (e :: es) [] pos) (tMake C sp dvs E t) := by
 intro pins s σ H Q I h
 refine wpAny_Call_Name_kw (ld_glob I hg hm ?_ hdb)
 refine PySem.W.callWith_K (h₀ := X.base) I.ok.mod.kin M.kp (thn (ha pos pins s σ H _ I h) fun us s1 ⟨vs, H1, I1, r, q⟩ => ⟨I1.kIn, ?_⟩) he hpl
 exact run_make M F hr hb hd hx I1 r q
end
section
variable {X : Cx} {CX : CXT} {k : Nat} {f C : Addr} {fd : FuncData} {ps ks : List Str} {sp : Sp} {E : XK} {x m : Str} {p pos apos kpos : Pos} {e o : Expr} {es : List Expr} {kws : List Keyword} {te ta : TE} {t tk : TA} {nm : Option Str}
structure KBinds (K : PySem.W.Frag) (fd : FuncData) (ps ks : List Str) (g : List Value → List Value → List Value) (gV : List V → List V → List V) : Prop where
 to : ∀ (s : Shared) (us ws : List Value), K.In s.heap → (g us ws).length = ps.length → BindsTo s fd ⟨us, ks.zip ws⟩ (ps.zip (g us ws))
 rel : ∀ {vs : List V} {us : List Value} {zs : List V} {ws : List Value}, Vals vs us → Vals zs ws → Vals (gV vs zs) (g us ws)
variable {g : List Value → List Value → List Value} {gV : List V → List V → List V}
end
structure FnScope (N P : List Str) (sc : Scope) : Prop where
 kind : sc.kind = .function
 co : sc.isCoroutine = false
 gen : sc.isGenerator = false
 nd : N.Nodup
 pre : N.take P.length = P
 par : ∀ x ∈ P, sc.names.lookup x = some .local ∨ sc.names.lookup x = some .cell
 nofree : ∀ y ∈ sc.names, y.2 ≠ .free
theorem bindL_out {kindOf : Str → Option NameKind} {x : Str} : ∀ {binds : List (Str × Value)} {m : Str → Option Value}, (∀ v, (x, v) ∉ binds) → bindL kindOf binds m x = m x
 | [], _, _ => rfl
 | (n, v) :: r, m, h => by
  unfold bindL
  rw [bindL_out fun w hw => h w (List.mem_cons_of_mem _ hw)]
  split
  · have : x ≠ n := by rintro rfl; exact h v List.mem_cons_self
    simp [this]
  · rfl
theorem bindC_out {kindOf : Str → Option NameKind} {x : Str} : ∀ {binds : List (Str × Value)} {m : Str → Option Value}, (∀ v, (x, v) ∉ binds) → bindC kindOf binds m x = m x
 | [], _, _ => rfl
 | (n, v) :: r, m, h => by
  unfold bindC
  rw [bindC_out fun w hw => h w (List.mem_cons_of_mem _ hw)]
  split
  · rfl
  · have : x ≠ n := by rintro rfl; exact h v List.mem_cons_self
    simp [this]
theorem bindL_get {kindOf : Str → Option NameKind} {x : Str} {v : Value} : ∀ {P : List Str} {vs : List Value} {i : Nat} {m : Str → Option Value}, P.Nodup → P[i]? = some x → vs[i]? = some v → kindOf x = some .local →
 bindL kindOf (P.zip vs) m x = some v
 | [], _, _, _, _, h, _, _ => by simp at h
 | _ :: _, [], _, _, _, _, h, _ => by simp at h
 | p :: P, w :: vs, 0, m, nd, h1, h2, hk => by
  simp at h1 h2; subst h1; subst h2
  show bindL kindOf ((p, w) :: P.zip vs) m p = _
  unfold bindL
  rw [bindL_out fun v hv => (List.nodup_cons.mp nd).1 (List.of_mem_zip hv).1, if_pos hk]
  simp
 | p :: P, w :: vs, i + 1, m, nd, h1, h2, hk => by
  show bindL kindOf ((p, w) :: P.zip vs) m x = _
  unfold bindL
  exact bindL_get (i := i) (List.nodup_cons.mp nd).2 (by simpa using h1) (by simpa using h2) hk
theorem bindC_get {kindOf : Str → Option NameKind} {x : Str} {v : Value} : ∀ {P : List Str} {vs : List Value} {i : Nat} {m : Str → Option Value}, P.Nodup → P[i]? = some x → vs[i]? = some v → kindOf x ≠ some .local →
 bindC kindOf (P.zip vs) m x = some v
 | [], _, _, _, _, h, _, _ => by simp at h
 | _ :: _, [], _, _, _, _, h, _ => by simp at h
 | p :: P, w :: vs, 0, m, nd, h1, h2, hk => by
  simp at h1 h2; subst h1; subst h2
  show bindC kindOf ((p, w) :: P.zip vs) m p = _
  unfold bindC
  rw [bindC_out fun v hv => (List.nodup_cons.mp nd).1 (List.of_mem_zip hv).1, if_neg hk]
  simp
 | p :: P, w :: vs, i + 1, m, nd, h1, h2, hk => by
  show bindC kindOf ((p, w) :: P.zip vs) m x = _
  unfold bindC
  exact bindC_get (i := i) (List.nodup_cons.mp nd).2 (by simpa using h1) (by simpa using h2) hk
def start (N : List Str) (vs : List V) : St := vs.map some ++ List.replicate (N.length - vs.length) none
def cxOf (CX : CXT) (P : Program) (w : World) (K : PySem.W.Frag) (mg : Str → Option Value) (base : Heap) (N : List Str) (qual : Str) (scope : Scope) (f : Addr) (cd : Value) (A : Around) (outer : List Env) (s : Shared) (H : Hp) (E : XK) : Cx where
 prog := P
 w := w
 K := K
 mg := mg
 base := base
 A := A.deeper (envOfC qual scope s.heap.objs.size f cd)
 N := N
 s₀ := s
 H₀ := H
 env := envOfC qual scope s.heap.objs.size f cd
 outer := outer
 stack := envOfC qual scope s.heap.objs.size f cd :: outer
 ex := []
 calm := true
 fn := fun _ => true
 pn := []
 xe := fun e s' => wpAny (model P w) (A.deeper (envOfC qual scope s.heap.objs.size f cd)) (leaving (envOfC qual scope s.heap.objs.size f cd) e) (fun _ s'' => CX outer H s E e s'') (fun e' s'' => CX outer H s E e' s'') s'
theorem cell_has {sc : Scope} {n : Nat} {x : Str} (h : sc.names.lookup x = some .cell) : ∃ c, (cellsFrom n sc.names []).lookup x = some c := by
 have q := PySem.W.cellsFrom_some sc.names n [] (.inl h)
 exact Option.isSome_iff_exists.mp q
theorem inv_start {CX : CXT} {P : Program} {w : World} {K : PySem.W.Frag} {mg : Str → Option Value} {base : Heap} {N ps : List Str} {qual : Str} {scope : Scope} {f : Addr} {cd : Value} {A : Around} {outer : List Env} {s s1 : Shared} {H : Hp} {E : XK} {us : List Value} {vs : List V}
 (S : FnScope N ps scope) (hd : A.handled = none) (e0 : Env0 P w K mg base A outer s H) (hl : vs.length = ps.length) (r : Vals vs us)
 (x : InCallC s s.heap.objs.size (bindL (envOfC qual scope s.heap.objs.size f cd).kindOf (ps.zip us) fun _ => none) (cellsFrom (s.heap.objs.size + 1) scope.names []) (bindC (envOfC qual scope s.heap.objs.size f cd).kindOf (ps.zip us) fun _ => none) s1) :
 Inv (cxOf CX P w K mg base N qual scope f cd A outer s H E) [] (start N vs) H s1 := by
 have hpl : ps.length ≤ N.length := by have := congrArg List.length S.pre; rw [List.length_take] at this; omega
 obtain ⟨h1, tk, rfl, hk⟩ := x.done
 have noA : ∀ b : Addr, b ∉ (cxOf CX P w K mg base N qual scope f cd A outer s H E).ex := fun b z => absurd (show b ∈ ([] : List Addr) from z) (by simp)
 refine ⟨⟨e0.mod, S.kind, rfl, rfl, Nat.le_refl _, fun y z c h1 h2 => ?_, fun y hy => ?_, fun y c _ h => ?_, fun _ => hd, Around.frames_deeper e0.frames, .inr ⟨rfl, rfl⟩, fun b z => absurd z (noA b), e0.bs, e0.bsz, fun b _ _ => noA b, fun b z => absurd z (noA b), e0.funs, e0.frf⟩,
  rfl, e0.bare, Un.kept hk, ⟨_, x.toInCall.ns, fun i y v h1 h2 h3 => ?_⟩, fun y c h => ⟨_, x.cell y c h⟩, e0.hok.fresh (Nat.le_refl _), fun y c h => ?_, fun p hp => absurd (show p ∈ ([] : List (Addr × Obj)) from hp) (by simp), e0.hok.kept hk, ?_⟩
 · exact name_of_addr x.apart (PySem.mem_of_lookup h1) (PySem.mem_of_lookup h2)
 · have hy : scope.names.lookup y = some .cell ∨ scope.names.lookup y = some .free := hy
   rcases hy with hy | hy
   · exact cell_has hy
   · exact absurd rfl (S.nofree _ (PySem.mem_of_lookup hy))
 · exact Nat.le_of_lt (x.above y c (PySem.mem_of_lookup h))
 · have hi : i < vs.length := by
    unfold start at h2
    by_cases hi : i < vs.length
    · exact hi
    · rw [List.getElem?_append_right (by simpa using hi)] at h2
      rw [List.getElem?_replicate] at h2
      split at h2 <;> cases h2
   have ha : vs[i]? = some v := by
    unfold start at h2
    rw [List.getElem?_append_left (by simpa using hi), List.getElem?_map] at h2
    cases e : vs[i]? with
    | none => rw [e] at h2; cases h2
    | some a => rw [e] at h2; cases h2; rfl
   obtain ⟨u, hu, rv⟩ := r.get ha
   have hp : ps[i]? = some y := by
    rw [← S.pre, List.getElem?_take_of_lt (by omega)]; exact h1
   have ndP : ps.Nodup := by rw [← S.pre]; exact S.nd.sublist (List.take_sublist _ _)
   refine ⟨u, rv, ?_⟩
   rcases S.par y (List.mem_of_getElem? hp) with k | k
   · exact .inl ⟨k, bindL_get ndP hp hu k⟩
   · obtain ⟨c, e⟩ := cell_has (n := s.heap.objs.size + 1) k
     refine .inr ⟨.inl k, c, e, ?_⟩
     have q := x.cell y c e
     rw [bindC_get ndP hp hu (by show scope.names.lookup y ≠ _; rw [k]; decide)] at q
     exact q
 · exact e0.hok.fresh (Nat.le_of_lt (x.above y c (PySem.mem_of_lookup h)))
 · unfold start
   show _ = N.length
   rw [List.length_append, List.length_map, List.length_replicate]
   omega
theorem fn_of {CX : CXT} {P : Program} {w : World} {K : PySem.W.Frag} {mg : Str → Option Value} {base : Heap} {k : Nat} {f : Addr} {name qual : Str} {params : Arguments} {body : List Stmt} {scope : Scope} {dV kV doc pm cdv ct oc : Value} {an od : Option Addr}
 {osl : Array (Option Value)} {N ps : List Str} {sp : Sp} (lk : K.lookup f = some ⟨oc, od, .func (PySem.W.fnOf name qual params body scope dV kV doc pm an cdv ct), osl⟩) (hcd : PySem.W.codeIn K cdv qual = true) (S : FnScope N ps scope)
 (len : ∀ vs H Q E, sp vs H Q E → vs.length = ps.length)
 (hbody : ∀ (A : Around) (outer : List Env) (s : Shared) (H : Hp) (vs : List V) (Q : VK) (E : XK), Room k (A.deeper (envOfC qual scope s.heap.objs.size f cdv)) → sp vs H Q E →
   ∃ t, PSs (cxOf CX P w K mg base N qual scope f cdv A outer s H E) body t ∧ t { nx := fun _ H' => Q .non H', rt := Q } (start N vs) H) :
 FnOk P w K mg base CX (k + 1) f (PySem.W.fnOf name qual params body scope dV kV doc pm an cdv ct) ps sp := by
 refine ⟨len, fun A outer s H args us vs Q E hr e0 hb r hsp => ?_⟩
 have hl := len _ _ _ _ hsp
 have KX : K.In s.heap := e0.mod.kin.keeps fun b o e => (e0.bs b o e).1
 have lim : s.heap.NoLimit := e0.mod.nolimit.keeps fun b o e => (e0.bs b o e).1
 have hkind : ∀ y ∈ ps.zip us, scope.names.lookup y.1 = some .local ∨ (scope.names.lookup y.1 = some .cell ∧ ((cellsFrom (s.heap.objs.size + 1) scope.names []).lookup y.1).isSome = true) := fun ⟨n, v⟩ hy => by
  rcases S.par n (List.of_mem_zip hy).1 with q | q
  · exact .inl q
  · exact .inr ⟨q, PySem.W.cellsFrom_some _ _ _ (.inl q)⟩
 refine codeAny_call_function hr.depth (KX _ _ lk) rfl S.co S.gen rfl (PySem.W.codeRec_of KX hcd) (hb _ _ _ _ ?_)
 refine wpAny_newFunctionEnv_cells S.kind hkind fun env he s1 x => ?_
 subst he
 refine ⟨lim.keeps x.toInCall.keep, codeAny_func ?_⟩
 obtain ⟨t, ht, hq⟩ := hbody A outer s H vs Q E (hr.deeper _) hsp
 have I : Inv (cxOf CX P w K mg base N qual scope f cdv A outer s H E) [] (start N vs) H s1 := inv_start S hr.hd e0 hl r x
 refine wpAny_mono (ht [] s1 (start N vs) H _ I hq) (fun fl s' hs => ?_) fun e s' hs => hs
 have fin : ∀ {σ' : St} {H' : Hp} {v : V} {u : Value}, Inv (cxOf CX P w K mg base N qual scope f cdv A outer s H E) [] σ' H' s' → RelV v u → Q v H' → CE outer P w H s Q u s' :=
  fun {σ' H' v u} J rv q => ⟨v, H', J.os, J.bare, J.base, J.hok, rv, q⟩
 cases fl with
 | ret u =>
  obtain ⟨v, σ', H', J, rv, q⟩ := hs
  exact fin J rv q
 | next =>
  obtain ⟨σ', H', J, q⟩ := hs
  exact fin (v := V.non) (u := Value.none) J rfl q
 | brk =>
  obtain ⟨_, _, _, q⟩ := hs
  exact False.elim q
 | cont =>
  obtain ⟨_, _, _, q⟩ := hs
  exact False.elim q
end L2
namespace L2
open PySem PySem.Spec PyProof.Rows
section
variable {X : Cx} {x : Str} {p pos : Pos} {e : Expr} {es : List Expr} {t : TA} {id T : String} {r : List V → Hp → VK → Prop}
def tCB (r : List V → Hp → VK → Prop) (t : TA) : TE := fun σ H Q => t σ H fun vs H1 => r vs H1 Q
theorem pe_callB (hc : CallR X (.builtin id) r) (hg : Gl X x) (hm : X.mg x = none) (hv : bootBuiltins x = some (.builtin id)) (ha : PA X (e :: es) t) (hn : x ≠ "__name__" := by decide) (hdb : (x == ("__debug__" : Str)) = false := by decide)
 (he : starEach (e :: es) X.env = (false, eval e X.env) :: starEach es X.env := by rfl) (hpl : (backTo pos (starEach es X.env)).any (·.1) = false := by rfl) : PE X (.Call (.Name x p) (e :: es) [] pos) (tCB r t) := by
 intro pins s σ H Q I h
 refine wpAny_Call_Name_kw (ld_blt I hg hm hv ?_ hn hdb)
 exact PyProof.Rows.callWith_builtin1 (thn (ha pos pins s σ H _ I h) fun us s1 ⟨vs, H1, I1, r1, q1⟩ => hc pins s1 σ H1 vs us Q I1 r1 q1) he hpl
theorem pe_callTy (hc : CallR X (.type T) r) (hg : Gl X x) (hm : X.mg x = none) (hv : bootBuiltins x = some (.type T)) (ha : PA X (e :: es) t) (hn : x ≠ "__name__" := by decide) (hdb : (x == ("__debug__" : Str)) = false := by decide)
 (he : starEach (e :: es) X.env = (false, eval e X.env) :: starEach es X.env := by rfl) (hpl : (backTo pos (starEach es X.env)).any (·.1) = false := by rfl) : PE X (.Call (.Name x p) (e :: es) [] pos) (tCB r t) := by
 intro pins s σ H Q I h
 refine wpAny_Call_Name_kw (ld_blt I hg hm hv ?_ hn hdb)
 exact PyProof.Rows.callWith_type1 (thn (ha pos pins s σ H _ I h) fun us s1 ⟨vs, H1, I1, r1, q1⟩ => hc pins s1 σ H1 vs us Q I1 r1 q1) he hpl
end
end L2
namespace HT
open PySem PyProof.Rows
section
open PySem.SeqAt
open PySem.AutoSeq1 (wpAny_loadPart')
open PySem.MeetsSeq PySem.MeetsSeq2 PySem.MeetsSeq3
end
section
variable {prog : Program} {w : World} {A : Around} {E : Value → Shared → Prop} {s : Shared}
theorem cat_tup {t b : Addr} {vs ws : List Value} {Q : Value → Shared → Prop} (ht : IsTup s.heap t vs.toArray) (hb : IsTup s.heap b ws.toArray) (hv : vs ≠ [])
 (h1 : ws = [] → Q (.ref t) s) (h2 : ws ≠ [] → Q (.ref s.heap.objs.size) { s with heap := s.heap.push { cls := .type "tuple", data := .seq (vs ++ ws).toArray } })
 (hsz : vs.length + ws.length ≤ sizeLine) : wpAny (model prog w) A (binaryOp .Add (.ref t) (.ref b)) Q E s := by
 obtain ⟨⟨cls, dd, data, sl⟩, ho, hc, n, hd⟩ := id ht
 obtain ⟨⟨cls2, dd2, data2, sl2⟩, ho2, hc2, n2, hd2⟩ := id hb
 simp only at hc hd hc2 hd2
 subst hc hd hc2 hd2
 have e : vs.toArray ++ ws.toArray = (vs ++ ws).toArray := by simp
 by_cases hw : ws = []
 · exact concat_meets ⟨_, ho, rfl⟩ ⟨_, ho2, rfl⟩ noFill_tuple_add seq_tuple_add PySem.F.slot_tuple_add PySem.F.entry_tuple_add (PySem.F.args_tuple_add_2 _ _)
    (tuple_addW1 t b vs.toArray ws.toArray n n2 dd dd2 sl sl2 (by simpa using hv) (by simp [hw])) ⟨ho, ho2, h1 hw⟩
 · refine concat_meets ⟨_, ho, rfl⟩ ⟨_, ho2, rfl⟩ noFill_tuple_add seq_tuple_add PySem.F.slot_tuple_add PySem.F.entry_tuple_add (PySem.F.args_tuple_add_2 _ _)
    (tuple_addW2 t b vs.toArray ws.toArray n n2 dd dd2 sl sl2 (by simpa using hv) (by simpa using hw) (by rw [List.size_toArray, List.size_toArray]; exact hsz)) ⟨ho, ho2, ?_⟩
   rw [e]
   exact h2 hw
def sIx (n d : Nat) : Option Int → Nat
 | none => d
 | some v => if v < 0 then (v + (n : Int)).toNat else min v.toNat n
theorem sIx_none (n d : Nat) : sIx n d none = d := rfl
theorem sIx_nat (n d k : Nat) : sIx n d (some (k : Int)) = min k n := by
 show (if (k : Int) < 0 then ((k : Int) + (n : Int)).toNat else min (k : Int).toNat n) = min k n
 rw [if_neg (by omega), Int.toNat_natCast]
theorem sIx_le (n d : Nat) (hd : d ≤ n) (o : Option Int) : sIx n d o ≤ n := by
 cases o with
 | none => exact hd
 | some v =>
  show (if v < 0 then (v + (n : Int)).toNat else min v.toNat n) ≤ n
  by_cases hv : v < 0
  · rw [if_pos hv]; omega
  · rw [if_neg hv]; exact Nat.min_le_right _ _
theorem clip_eq (v : Int) (n d : Nat) : (if v < 0 then max (v + (n : Int)) 0 else min v (n : Int)) = ((sIx n d (some v) : Nat) : Int) := by
 show (if v < 0 then max (v + (n : Int)) 0 else min v (n : Int)) = (((if v < 0 then (v + (n : Int)).toNat else min v.toNat n) : Nat) : Int)
 by_cases hv : v < 0
 · simp only [if_pos hv]; omega
 · simp only [if_neg hv]; omega
theorem adjust_gen (lo hi : Option Int) (n : Nat) : Builtin.Slice.sliceAdjust lo hi 1 (n : Int) = (((sIx n 0 lo : Nat) : Int), ((sIx n n hi : Nat) : Int)) := by
 have h1 : ¬ ((1 : Int) < 0) := by omega
 unfold Builtin.Slice.sliceAdjust
 simp only [h1, if_false]
 refine Prod.ext ?_ ?_
 · cases lo with
   | none => rfl
   | some v => exact clip_eq v n 0
 · cases hi with
   | none => rfl
   | some v => exact clip_eq v n n
theorem places_gen (i j : Nat) : Builtin.Slice.slicePlaces (i : Int) (j : Int) 1 = j - i := by
 unfold Builtin.Slice.slicePlaces
 have h1 : (1 : Int) > 0 := by omega
 simp only [h1, if_true, Int.ediv_one]
 split <;> omega
theorem slicePart_ {v : Value} {o : Option Int} {Q : Option Int → Shared → Prop} (p : IsPart v o) (h : Q o s) : wpAny (model prog w) A (Builtin.Slice.slicePartIndex v) Q E s := by
 cases p with
 | none => exact slicePart_none h
 | int i t => exact slicePart_int h
theorem sliceApplied_gen {sl : Addr} {vl vu : Value} {lo hi : Option Int} {n : Nat} {Q : Int × Int × Nat → Shared → Prop} (hs : s.heap.IsSliceOf sl vl vu .none) (pl : IsPart vl lo) (pu : IsPart vu hi)
 (h : Q (((sIx n 0 lo : Nat) : Int), 1, sIx n n hi - sIx n 0 lo) s) : wpAny (model prog w) A (Builtin.Slice.sliceApplied (.ref sl) (pure (n : Int))) Q E s := by
 obtain ⟨os, hos, hcs, hds⟩ := id hs
 unfold Builtin.Slice.sliceApplied Builtin.Slice.sliceFields
 refine wpAny_bind (wpAny_bind (wpAny_field hos hds (x := vl) rfl (wpAny_bind (wpAny_field hos hds (x := vu) rfl (wpAny_bind (wpAny_field hos hds (x := .none) rfl (wpAny_pure ?_)))))))
 refine wpAny_bind (slicePart_none ?_)
 show wpAny _ _ (if ((1 : Int) == 0) = true then _ else _) _ _ s
 rw [if_neg (by decide)]
 refine wpAny_bind (slicePart_ pl (wpAny_bind (slicePart_ pu (wpAny_bind (wpAny_pure ?_)))))
 show wpAny _ _ (match Builtin.Slice.sliceAdjust lo hi 1 (n : Int) with | (lo, hi) => pure (lo, (1 : Int), Builtin.Slice.slicePlaces lo hi 1)) _ _ s
 rw [adjust_gen lo hi n]
 show wpAny _ _ (pure (((sIx n 0 lo : Nat) : Int), (1 : Int), Builtin.Slice.slicePlaces ((sIx n 0 lo : Nat) : Int) ((sIx n n hi : Nat) : Int) 1)) _ _ s
 rw [places_gen]
 exact wpAny_pure h
theorem pick_gen (xs : Array Value) (i k : Nat) : ((List.range k).filterMap fun (m : Nat) => xs[((i : Int) + (m : Int) * 1).toNat]?).toArray = ((xs.toList.drop i).take k).toArray := by
 have e : (fun (m : Nat) => xs[((i : Int) + (m : Int) * 1).toNat]?) = fun m => xs[i + m]? := by
  funext m
  have : ((i : Int) + (m : Int) * 1).toNat = i + m := by omega
  rw [this]
 rw [e]
 have := pick_run xs i k
 rw [List.filterMap_map] at this
 have e2 : ((fun x => xs[x]?) ∘ fun x => i + x) = fun m => xs[i + m]? := rfl
 rw [e2] at this
 rw [this]
theorem getItem_tuple_cut {t sl : Addr} {items : Array Value} {vl vu : Value} {lo hi : Option Int} {Q : Value → Shared → Prop} (ht : IsTup s.heap t items) (hs : s.heap.IsSliceOf sl vl vu .none) (pl : IsPart vl lo) (pu : IsPart vu hi)
 (hw : ¬ (sIx items.size 0 lo = 0 ∧ sIx items.size items.size hi = items.size))
 (h : Q (.ref s.heap.objs.size) { s with heap := s.heap.push { cls := .type "tuple", data := .seq ((items.toList.drop (sIx items.size 0 lo)).take (sIx items.size items.size hi - sIx items.size 0 lo)).toArray } })
 (hsz : items.size ≤ sizeLine) : wpAny (model prog w) A (getItem (.ref t) (.ref sl)) Q E s := by
 have htake : sizeOk (.seq ((items.toList.drop (sIx items.size 0 lo)).take (sIx items.size items.size hi - sIx items.size 0 lo)).toArray) := by
  show ((items.toList.drop (sIx items.size 0 lo)).take (sIx items.size items.size hi - sIx items.size 0 lo)).toArray.size ≤ sizeLine
  rw [List.size_toArray, List.length_take, List.length_drop, Array.length_toList]
  omega
 have hj : sIx items.size items.size hi ≤ items.size := sIx_le _ _ (Nat.le_refl _) hi
 obtain ⟨os, hos, hcs, hds⟩ := id hs
 have hTs : s.TypeIs (.ref sl) "slice" := ⟨os, hos, hcs⟩
 unfold getItem
 try with_reducible refine wpAny_holding ?_
 first | refine wpAny_bind (wpAny_pure ?_) | skip
 refine wpAny_bind (wpAny_sequenceKey ht.typeIs (by decide) ?_)
 refine wpAny_bind (wpAny_callSpecial?_slot (name := Str.ofString "__getitem__") ht.typeIs PyProof.Rows.slot_tuple_getitem
  (wpAny_call_entry PyProof.Rows.slot_tuple_getitem ht.typeIs entry_tuple_getitem ?_ (args_tuple_getitem _ _)))
 show wpAny _ _ (Builtin.Tuple.tupleItemsOf (.ref t) >>= _) _ _ s
 refine wpAny_bind (tupleItemsOf_ ht ?_)
 refine wpAny_bind (wpAny_typeOf hTs ?_)
 rw [if_pos (by decide)]
 refine wpAny_bind (sliceApplied_gen hs pl pu ?_)
 have hno : ¬ ((((sIx items.size 0 lo : Nat) : Int) == 0 && (1 : Int) == 1 && (sIx items.size items.size hi - sIx items.size 0 lo) == items.size) = true) := by
  intro q
  rw [Bool.and_eq_true, Bool.and_eq_true] at q
  have q1 : ((sIx items.size 0 lo : Nat) : Int) = 0 := eq_of_beq q.1.1
  have q2 : sIx items.size items.size hi - sIx items.size 0 lo = items.size := eq_of_beq q.2
  exact hw ⟨by omega, by omega⟩
 show wpAny _ _ (if (((sIx items.size 0 lo : Nat) : Int) == 0 && (1 : Int) == 1 && (sIx items.size items.size hi - sIx items.size 0 lo) == items.size) = true then _ else _) _ _ s
 rw [if_neg hno, pick_gen]
 first
  | exact wpAny_bind (m := Builtin.Tuple.tupleExact _) (wpAny_newObj_type (wpAny_pure ⟨_, rfl, wpAny_pure h⟩) htake)
  | exact wpAny_bind (m := Builtin.Tuple.tupleExact _) (wpAny_newObj_type (wpAny_bind (wpAny_pure (wpAny_pure ⟨_, rfl, wpAny_pure h⟩))) htake)
  | exact wpAny_bind (wpAny_bind (m := Builtin.Tuple.tupleExact _) (wpAny_newObj_type (wpAny_pure (wpAny_pure ⟨_, rfl, wpAny_pure h⟩)) htake))
  | exact wpAny_bind (wpAny_bind (m := Builtin.Tuple.tupleExact _) (wpAny_newObj_type (wpAny_pure ⟨_, rfl, wpAny_pure h⟩) htake))
end
end HT
namespace L2
open PySem PySem.Spec PyProof.Rows
abbrev TO := St → Hp → (Option Int → Hp → Prop) → Prop
def PO (X : Cx) (e : Option Expr) (t : TO) : Prop :=
 ∀ (pins : List (Addr × Obj)) (s : Shared) (σ : St) (H : Hp) (Q : Option Int → Hp → Prop), Inv X pins σ H s → t σ H Q →
  wpAny (model X.prog X.w) X.A (evalPart e X.env) (fun u s' => ∃ o H', Inv X pins σ H' s' ∧ IsPart u o ∧ Q o H') X.xe s
def tNoPart : TO := fun _ H Q => Q none H
def tPart (t : TE) : TO := fun σ H Q => t σ H fun x H1 => ∃ i, x = .int i ∧ Q (some i) H1
section
variable {X : Cx} {e : Expr} {te : TE} {lo hi : Option Expr} {tl th : TO} {pos p2 : Pos}
theorem po_none : PO X none tNoPart := by
 intro pins s σ H Q I h
 rw [evalPart_none]
 exact wpAny_pure ⟨none, H, I, .none, h⟩
theorem po_some (h : PE X e te) : PO X (some e) (tPart te) := by
 intro pins s σ H Q I hw
 rw [evalPart_some]
 refine thn (h pins s σ H _ I hw) fun u s1 ⟨x, H1, I1, r1, q1⟩ => ?_
 obtain ⟨i, rfl, q⟩ := q1
 obtain ⟨t, rfl⟩ := r1
 exact ⟨some i, H1, I1, .int i t, q⟩
def SlR (X : Cx) (r : V → Option Int → Option Int → Hp → VK → Prop) : Prop :=
 ∀ (pins : List (Addr × Obj)) (s : Shared) (σ : St) (H : Hp) (x : V) (v vl vu : Value) (lo hi : Option Int) (sl : Addr) (Q : VK), Inv X pins σ H s → RelV x v → s.heap.IsSliceOf sl vl vu .none → IsPart vl lo → IsPart vu hi → r x lo hi H Q →
  ∃ T id, typeLookup (.type T) "__getitem__" = pure (some (.builtin id)) ∧ s.TypeIs v T ∧ wpAny (model X.prog X.w) X.A (getItem v (.ref sl)) (EP X pins σ Q) X.xe s
def tSl (r : V → Option Int → Option Int → Hp → VK → Prop) (te : TE) (tl th : TO) : TE := fun σ H Q => te σ H fun x H1 => tl σ H1 fun l H2 => th σ H2 fun u H3 => r x l u H3 Q
theorem pe_slice {r : V → Option Int → Option Int → Hp → VK → Prop} (hr : SlR X r) (he : PE X e te) (hl : PO X lo tl) (hu : PO X hi th) : PE X (.Subscript e (.Slice lo hi none p2) pos) (tSl r te tl th) := by
 intro pins s σ H Q I h
 refine Subscript_ (thn (he pins s σ H _ I h) fun v s1 ⟨x, H1, I1, r1, q1⟩ => ?_)
 refine wpAny_Slice (thn (hl pins s1 σ H1 _ I1 q1) fun vl s2 ⟨l, H2, I2, pl, q2⟩ => thn (hu pins s2 σ H2 _ I2 q2) fun vu s3 ⟨u, H3, I3, pu, q3⟩ => ?_)
 rw [evalPart_none]
 refine wpAny_pure ?_
 have I4 : Inv X pins σ H3 { s3 with heap := s3.heap.push { cls := .type "slice", data := .fields #[vl, vu, .none] } } := I3.kept (t' := s3.toks) fun b ob q => Heap.get?_push_of_some _ q
 obtain ⟨T, id, hT, ht, hg⟩ := hr pins { s3 with heap := s3.heap.push { cls := .type "slice", data := .fields #[vl, vu, .none] } } σ H3 x v vl vu l u s3.heap.objs.size Q I4 r1 (Heap.IsSliceOf.new ..) pl pu q3
 show wpAny (model X.prog X.w) X.A (subscriptTail e (.Slice lo hi none p2) v (.ref s3.heap.objs.size)) (EP X pins σ Q) X.xe { s3 with heap := s3.heap.push { cls := .type "slice", data := .fields #[vl, vu, .none] } }
 exact tail_any (ops := [.ref s3.heap.objs.size, v]) ht hT hg (by with_unfolding_all rfl)
def cutV (xs : List V) (lo hi : Option Int) : List V := (xs.drop (HT.sIx xs.length 0 lo)).take (HT.sIx xs.length xs.length hi - HT.sIx xs.length 0 lo)
theorem cutV_length (xs : List V) (lo hi : Option Int) : (cutV xs lo hi).length ≤ xs.length := by
 unfold cutV
 rw [List.length_take, List.length_drop]
 omega
def rSlT (K : PySem.W.Frag) : V → Option Int → Option Int → Hp → VK → Prop := fun x lo hi H Q => ∃ a xs, x = .ref a ∧ SqT K H a xs ∧
 ¬ (HT.sIx xs.length 0 lo = 0 ∧ HT.sIx xs.length xs.length hi = xs.length) ∧ ∀ p, H p = none → Q (.ref p) (upd H p (.tup (cutV xs lo hi)))
theorem sl_tup : SlR X (rSlT X.K) := by
 intro pins s σ H x v vl vu lo hi sl Q I rx hs pl pu h
 obtain ⟨a, xs, rfl, hx, hw, q⟩ := h
 cases rx
 obtain ⟨its, r, ht, hz⟩ := I.tuple hx
 have hlen : its.toArray.size = xs.length := by rw [List.size_toArray]; exact r.length.symm
 refine ⟨"tuple", _, PyProof.Rows.slot_tuple_getitem.lookup, ht.typeIs, ?_⟩
 refine HT.getItem_tuple_cut ht hs pl pu (by rw [hlen]; exact hw) ?_ (by rw [hlen]; exact hz)
 rw [hlen]
 refine ⟨.ref s.heap.objs.size, _, I.laid (t' := s.toks) (o := .tup (cutV xs lo hi)) (fun b ob q => Heap.get?_push_of_some _ q) (Nat.le_refl _) ?_, rfl, q _ (I.hok.fresh (Nat.le_refl _))⟩
 exact ⟨Nat.le_trans (cutV_length xs lo hi) hz, _, (r.drop (HT.sIx xs.length 0 lo)).take (HT.sIx xs.length xs.length hi - HT.sIx xs.length 0 lo), IsTup.new _ _⟩
def rCatT (K : PySem.W.Frag) : R2 := fun x y H Q => ∃ a b xs ys, x = .ref a ∧ y = .ref b ∧ SqT K H a xs ∧ SqT K H b ys ∧ xs ≠ [] ∧ xs.length + ys.length ≤ sizeLine ∧
 (ys = [] → Q (.ref a) H) ∧ (ys ≠ [] → ∀ p, H p = none → Q (.ref p) (upd H p (.tup (xs ++ ys))))
theorem Vals.nil_iff {xs : List V} {us : List Value} (r : Vals xs us) : us = [] ↔ xs = [] := by
 cases r with
 | nil => simp
 | cons _ _ => simp
theorem op_catT : OpR X (binaryOp .Add) (rCatT X.K) := by
 intro pins s σ H x y v u Q I rx ry h
 obtain ⟨a, b, xs, ys, rfl, rfl, ha, hb, hx, hz, q1, q2⟩ := h
 cases rx
 cases ry
 obtain ⟨its, r1, p1, _⟩ := I.tuple ha
 obtain ⟨its2, r2, p2, _⟩ := I.tuple hb
 refine HT.cat_tup p1 p2 (fun z => hx (r1.nil_iff.mp z)) (fun z => ⟨.ref a, H, I, rfl, q1 (r2.nil_iff.mp z)⟩) (fun z => ?_) (by rw [← r1.length, ← r2.length]; exact hz)
 refine ⟨.ref s.heap.objs.size, _, I.laid (t' := s.toks) (o := .tup (xs ++ ys)) (fun b ob q => Heap.get?_push_of_some _ q) (Nat.le_refl _) ?_, rfl, q2 (fun w => z (r2.nil_iff.mpr w)) _ (I.hok.fresh (Nat.le_refl _))⟩
 exact ⟨by rw [List.length_append]; exact hz, _, r1.append r2, IsTup.new _ _⟩
end
end L2
namespace L2
open PySem PySem.Spec PyProof.Rows
def ixN (n : Nat) (i : Int) : Option Nat := if 0 ≤ i then (if i < n then some i.toNat else none) else if -(n : Int) ≤ i then some (i + n).toNat else none
def atI {α : Type} (xs : List α) (i : Int) : Option α := (ixN xs.length i).bind fun j => xs[j]?
theorem ixN_seq {n : Nat} {i : Int} {j : Nat} (h : ixN n i = some j) : seqIndex? i n = some j ∧ j < n ∧ -(n : Int) ≤ i ∧ i < n := by
 unfold ixN at h
 by_cases h0 : 0 ≤ i
 · rw [if_pos h0] at h
   by_cases h1 : i < n
   · rw [if_pos h1] at h
     have e : i.toNat = j := Option.some.inj h
     exact ⟨by rw [seqIndex_of h0 h1, e], by omega, by omega, h1⟩
   · rw [if_neg h1] at h; cases h
 · rw [if_neg h0] at h
   by_cases h1 : -(n : Int) ≤ i
   · rw [if_pos h1] at h
     have e : (i + n).toNat = j := Option.some.inj h
     exact ⟨by rw [seqIndex_neg (by omega) h1, e], by omega, h1, by omega⟩
   · rw [if_neg h1] at h; cases h
theorem atI_get {α : Type} {xs : List α} {i : Int} {v : α} (h : atI xs i = some v) : ∃ j, seqIndex? i xs.length = some j ∧ xs[j]? = some v ∧ j < xs.length ∧ -(xs.length : Int) ≤ i ∧ i < xs.length := by
 unfold atI at h
 cases e : ixN xs.length i with
 | none => rw [e] at h; cases h
 | some j =>
  rw [e] at h
  obtain ⟨h1, h2, h3, h4⟩ := ixN_seq e
  exact ⟨j, h1, h, h2, h3, h4⟩
theorem atI_nat {α : Type} {xs : List α} {j : Nat} {v : α} (h : xs[j]? = some v) : atI xs (j : Int) = some v := by
 have hj : j < xs.length := (List.getElem?_eq_some_iff.mp h).1
 have e : ixN xs.length (j : Int) = some j := by
  unfold ixN
  rw [if_pos (by omega), if_pos (by omega)]; simp
 unfold atI; rw [e]; exact h
def PlainIx (b : Expr) : Prop := ∀ o i, subscripted b false o i = operate [o, i] (getItem o i)
def IxR (X : Cx) (r : R2) : Prop :=
 ∀ (value slice : Expr) (pins : List (Addr × Obj)) (s : Shared) (σ : St) (H : Hp) (x y : V) (v u : Value) (Q : VK), Inv X pins σ H s → RelV x v → RelV y u → r x y H Q →
  subscripted slice false v u = operate [v, u] (getItem v u) → wpAny (model X.prog X.w) X.A (subscriptTail value slice v u) (EP X pins σ Q) X.xe s
def MtR (X : Cx) (id : String) (r : V → List V → Hp → VK → Prop) : Prop :=
 ∀ (pins : List (Addr × Obj)) (s : Shared) (σ : St) (H : Hp) (x : V) (xs : List V) (v : Value) (us : List Value) (Q : VK), Inv X pins σ H s → RelV x v → Vals xs us → r x xs H Q →
  wpAny (model X.prog X.w) X.A (call (.builtin id) (v :: us)) (EP X pins σ Q) X.xe s
section
variable {X : Cx} {a b : Expr} {ta tb : TE} {pos : Pos}
theorem pe_ix {r : R2} (hr : IxR X r) (ha : PE X a ta) (hb : PE X b tb) (hs : PlainIx b) : PE X (.Subscript a b pos) (tOp r ta tb) := by
 intro pins s σ H Q I h
 exact Subscript_ (binT ha hb I h fun v u s2 x y H2 I2 rx ry q => hr a b pins s2 σ H2 x y v u Q I2 rx ry q (hs _ _))
def rIxL (K : PySem.W.Frag) : R2 := fun x y H Q => ∃ p xs i v, x = .ref p ∧ y = .int i ∧ SqL K H p xs ∧ atI xs i = some v ∧ Q v H
def rIxT (K : PySem.W.Frag) : R2 := fun x y H Q => ∃ p xs i v, x = .ref p ∧ y = .int i ∧ SqT K H p xs ∧ atI xs i = some v ∧ Q v H
def rIxS : R2 := fun x y H Q => ∃ z i c, x = .str z ∧ y = .int i ∧ z.length ≤ sizeLine ∧ atI z.cps.toList i = some c ∧ Q (.str ⟨#[c]⟩) H
theorem ix_list : IxR X (rIxL X.K) := by
 intro value slice pins s σ H x y v u Q I rx ry h hs
 obtain ⟨p, xs, i, z, rfl, rfl, hq, he, q⟩ := h
 cases rx
 obtain ⟨t, rfl⟩ := ry
 obtain ⟨its, r, pl, hz⟩ := I.list hq
 obtain ⟨j, h1, h2, h3, h4, h5⟩ := atI_get he
 obtain ⟨w, ew, rw'⟩ := r.get h2
 have hl := r.length
 have hn := line63
 have fin : EP X pins σ Q w s := ⟨z, H, I, rw', q⟩
 by_cases h0 : 0 ≤ i
 · have hj : i.toNat = j := by
    rw [seqIndex_of h0 h5] at h1
    exact Option.some.inj h1
   exact item_listR pl.isList h0 (by omega) (by rw [hj]; simpa using ew) fin hs
 · have hj : (i + (its.toArray.size : Int)).toNat = j := by
    rw [seqIndex_neg (by omega) h4] at h1
    rw [List.size_toArray, ← hl]
    exact Option.some.inj h1
   exact subscriptTail_builtinR (x := w) pl.isList.typeIs slot_list_getitem.lookup
    (wpAny_getItem_list_neg (Q := fun r s' => r = w ∧ EP X pins σ Q r s') pl.isList (by omega) (by rw [List.size_toArray] <;> omega) (by omega) (by rw [hj]; simpa using ew) ⟨rfl, fin⟩) hs
theorem ix_tup : IxR X (rIxT X.K) := by
 intro value slice pins s σ H x y v u Q I rx ry h hs
 obtain ⟨p, xs, i, z, rfl, rfl, hq, he, q⟩ := h
 cases rx
 obtain ⟨t, rfl⟩ := ry
 obtain ⟨its, r, pl, hz⟩ := I.tuple hq
 obtain ⟨j, h1, h2, h3, h4, h5⟩ := atI_get he
 obtain ⟨w, ew, rw'⟩ := r.get h2
 have hl := r.length
 have hn := line63
 have fin : EP X pins σ Q w s := ⟨z, H, I, rw', q⟩
 exact subscriptTail_builtinR (x := w) pl.typeIs slot_tuple_getitem.lookup
  (getItem_tuple (j := j) (Q := fun r s' => r = w ∧ EP X pins σ Q r s') pl (by omega) (by omega) (by rw [List.size_toArray, ← hl]; exact h1) (by simpa using ew) ⟨rfl, fin⟩) hs
theorem ix_str : IxR X rIxS := by
 intro value slice pins s σ H x y v u Q I rx ry h hs
 obtain ⟨z, i, c, rfl, rfl, hz, he, q⟩ := h
 obtain ⟨t, rfl⟩ := rx
 obtain ⟨t', rfl⟩ := ry
 obtain ⟨j, h1, h2, h3, h4, h5⟩ := atI_get he
 have hl : z.cps.toList.length = z.length := by simp [Str.length]
 rw [hl] at h1 h4 h5
 have hn := line63
 exact tail_any (typeIs_str s z t) slot_str_getitem.lookup (getItem_str (c := c) (by
  have e1 : decide (i < -(2 ^ 63 : Int)) = false := decide_eq_false (by omega)
  have e2 : decide (i ≥ 2 ^ 63) = false := decide_eq_false (by omega)
  rw [e1, e2, Bool.or_false]) (by rw [h1]; simpa using h2) ⟨.str ⟨#[c]⟩, H, I.tok _, ⟨_, rfl⟩, q⟩) hs
theorem mapSeq_set (its : List Value) (n j : Nat) (u : Value) : Obj.mapSeq (·.setIfInBounds j u) { cls := .type "list", data := .seq its.toArray n } = { cls := .type "list", data := .seq (its.set j u).toArray n } := by
 simp [Obj.mapSeq]
theorem Inv.lst {pins : List (Addr × Obj)} {σ : St} {H : Hp} {s : Shared} {p : Addr} {xs : List V} (I : Inv X pins σ H s) (h : H p = some (.lst xs)) :
 ∃ (its : List Value) (n : Nat), Vals xs its ∧ s.heap.get? p = some { cls := .type "list", data := .seq its.toArray n } ∧ xs.length ≤ sizeLine := by
 obtain ⟨z, its, n, r, e⟩ := I.hok p _ h
 exact ⟨its, n, r, e, z⟩
theorem Inv.lstUpd {pins : List (Addr × Obj)} {σ : St} {H : Hp} {s : Shared} {p : Addr} {xs ys : List V} {its its' : List Value} {n n' : Nat} {f : Obj → Obj} (I : Inv X pins σ H s) (h : H p = some (.lst xs))
 (ho : s.heap.get? p = some { cls := .type "list", data := .seq its.toArray n }) (hf : f { cls := .type "list", data := .seq its.toArray n } = { cls := .type "list", data := .seq its'.toArray n' }) (r : Vals ys its') (hz : ys.length ≤ sizeLine) (t : Nat) :
 Inv X pins σ (upd H p (.lst ys)) { s with heap := s.heap.update p f, toks := t } := by
 have e : (s.heap.update p f).get? p = some { cls := .type "list", data := .seq its'.toArray n' } := by
  rw [Heap.get?_update_self f ho (by rw [hf] <;> rfl), hf]
 refine I.write (x := p) (e := p) (by rw [h]; trivial) (.inl rfl) (fun b u hb q => (Heap.get?_update_other _ _ (Ne.symm hb)).trans q) ⟨_, e⟩ ?_
 exact ⟨hz, its', n', r, e⟩
def rSetL : V → V → V → Hp → (Hp → Prop) → Prop := fun o i v H Q => ∃ p xs k j, o = .ref p ∧ i = .int k ∧ H p = some (.lst xs) ∧ ixN xs.length k = some j ∧ Q (upd H p (.lst (xs.set j v)))
theorem set_list : PSet X rSetL := by
 intro pins s σ H o i v ov iv u Q I ro ri rv h
 obtain ⟨p, xs, k, j, rfl, rfl, hp, hj, q⟩ := h
 cases ro
 obtain ⟨t, rfl⟩ := ri
 obtain ⟨its, n, r, ho, hz⟩ := I.lst hp
 obtain ⟨h1, h2, h3, h4⟩ := ixN_seq hj
 have hl := r.length
 have hn := line63
 have I' : Inv X pins σ (upd H p (.lst (xs.set j v))) { s with heap := s.heap.update p (Obj.mapSeq (·.setIfInBounds j u)) } :=
  I.lstUpd hp ho (mapSeq_set its n j u) (r.set rv j) (by rw [List.length_set]; exact hz) s.toks
 by_cases h0 : 0 ≤ k
 · have hk : k.toNat = j := by
    rw [seqIndex_of h0 h4] at h1
    exact Option.some.inj h1
   exact PySem.W.ki_setAt ho h0 (by omega) (by rw [List.size_toArray, ← hl]; exact h4) (by rw [hk]; exact ⟨_, I', q⟩)
 · have hk : (k + (its.toArray.size : Int)).toNat = j := by
    rw [seqIndex_neg (by omega) h3] at h1
    rw [List.size_toArray, ← hl]
    exact Option.some.inj h1
   exact PySem.W.ki_setBack ho (by omega) (by rw [List.size_toArray, ← hl]; exact h3) (by omega) (by rw [hk]; exact ⟨_, I', q⟩)
theorem slice_bounds (lo hi : Option Int) (n : Nat) : (sliceBounds lo hi none n).1 = ((HT.sIx n 0 lo : Nat) : Int) ∧ (sliceBounds lo hi none n).2.1 = ((HT.sIx n n hi : Nat) : Int) ∧ (sliceBounds lo hi none n).2.2 = 1 := by
 refine ⟨?_, ?_, rfl⟩
 · cases lo with
   | none => simp [sliceBounds, HT.sIx]
   | some i =>
    simp only [sliceBounds, HT.sIx, Option.getD_none, show (1 : Int) > 0 by decide, if_true]
    by_cases h : i < 0
    · simp only [h, if_true] <;> omega
    · simp only [h, if_false] <;> omega
 · cases hi with
   | none => simp [sliceBounds, HT.sIx]
   | some i =>
    simp only [sliceBounds, HT.sIx, Option.getD_none, show (1 : Int) > 0 by decide, if_true]
    by_cases h : i < 0
    · simp only [h, if_true] <;> omega
    · simp only [h, if_false] <;> omega
theorem slicePick_cut (its : List Value) (lo hi : Option Int) : slicePick its.toArray lo hi none = ((its.drop (HT.sIx its.length 0 lo)).take (HT.sIx its.length its.length hi - HT.sIx its.length 0 lo)).toArray := by
 obtain ⟨h1, h2, h3⟩ := slice_bounds lo hi its.toArray.size
 unfold slicePick
 rw [h1, h2, h3]
 simp only [sliceRange_one, pick_run, List.size_toArray] <;> rfl
def rSlL (K : PySem.W.Frag) : V → Option Int → Option Int → Hp → VK → Prop := fun x lo hi H Q => ∃ a xs, x = .ref a ∧ SqL K H a xs ∧ ∀ p, H p = none → Q (.ref p) (upd H p (.lst (cutV xs lo hi)))
theorem sl_list : SlR X (rSlL X.K) := by
 intro pins s σ H x v vl vu lo hi sl Q I rx hs pl pu h
 obtain ⟨a, xs, rfl, hx, q⟩ := h
 cases rx
 obtain ⟨its, r, ht, hz⟩ := I.list hx
 have hlen := r.length
 refine ⟨"list", _, slot_list_getitem.lookup, ht.isList.typeIs, ?_⟩
 refine wpAny_getItem_list_slice ht.isList hs pl pu .none (by simp) ?_ (by rw [List.size_toArray] <;> omega)
 rw [slicePick_cut, ← hlen]
 refine ⟨.ref s.heap.objs.size, _, I.laid (t' := s.toks) (o := .lst (cutV xs lo hi)) (fun b ob q => Heap.get?_push_of_some _ q) (Nat.le_refl _) ?_, rfl, q _ (I.hok.fresh (Nat.le_refl _))⟩
 exact ⟨Nat.le_trans (cutV_length xs lo hi) hz, _, 0, (r.drop (HT.sIx xs.length 0 lo)).take (HT.sIx xs.length xs.length hi - HT.sIx xs.length 0 lo), Heap.get?_push_size _ rfl⟩
def flatV : V → Bool
 | .non => true
 | .bl _ => true
 | .int _ => true
 | .str _ => true
 | _ => false
def eqV : V → V → Bool
 | .non, .non => true
 | .bl a, .bl b => a == b
 | .bl a, .int b => (if a then 1 else 0) == b
 | .int a, .bl b => a == (if b then 1 else 0)
 | .int a, .int b => a == b
 | .str a, .str b => a == b
 | _, _ => false
theorem eqAt_V {A : Around} {s : Shared} {y x : V} {u v : Value} (ry : RelV y u) (rx : RelV x v) (fy : flatV y = true) (fx : flatV x = true) : SeqAt.EqAt A s u v (eqV y x) := by
 cases y with
 | non =>
  cases ry
  cases x with
  | non => cases rx; exact SeqAt.EqAt.same _
  | bl b => cases rx; exact SeqAt.EqAt.none_bool b
  | int b => obtain ⟨t, rfl⟩ := rx; exact SeqAt.EqAt.none_int b t
  | str b => obtain ⟨t, rfl⟩ := rx; exact SeqAt.EqAt.none_str b t
  | _ => exact absurd (show false = true from fx) Bool.false_ne_true
 | bl a =>
  cases ry
  cases x with
  | non => cases rx; exact SeqAt.EqAt.bool_none a
  | bl b => cases rx; exact SeqAt.EqAt.bool_bool a b
  | int b => obtain ⟨t, rfl⟩ := rx; exact SeqAt.EqAt.bool_int a b t
  | str b => obtain ⟨t, rfl⟩ := rx; exact SeqAt.EqAt.bool_str a b t
  | _ => exact absurd (show false = true from fx) Bool.false_ne_true
 | int a =>
  obtain ⟨t', rfl⟩ := ry
  cases x with
  | non => cases rx; exact SeqAt.EqAt.int_none a t'
  | bl b => cases rx; exact SeqAt.EqAt.int_bool a t' b
  | int b => obtain ⟨t, rfl⟩ := rx; exact SeqAt.EqAt.int_int a t' b t
  | str b => obtain ⟨t, rfl⟩ := rx; exact SeqAt.EqAt.int_str a t' b t
  | _ => exact absurd (show false = true from fx) Bool.false_ne_true
 | str a =>
  obtain ⟨t', rfl⟩ := ry
  cases x with
  | non => cases rx; exact SeqAt.EqAt.str_none a t'
  | bl b => cases rx; exact SeqAt.EqAt.str_bool a t' b
  | int b => obtain ⟨t, rfl⟩ := rx; exact SeqAt.EqAt.str_int a t' b t
  | str b => obtain ⟨t, rfl⟩ := rx; exact SeqAt.EqAt.str_str a t' b t
  | _ => exact absurd (show false = true from fx) Bool.false_ne_true
 | _ => exact absurd (show false = true from fy) Bool.false_ne_true
def inV (x : V) (xs : List V) : Bool := xs.any fun y => eqV y x
theorem call_len_seq : CallR X (.builtin "len") (fun xs H Q => ∃ p ys, xs = [.ref p] ∧ (SqL X.K H p ys ∨ SqT X.K H p ys) ∧ Q (.int ys.length) H) := by
 intro pins s σ H xs us Q I r h
 obtain ⟨p, ys, rfl, hq, q⟩ := h
 obtain ⟨u, rfl, rx⟩ := vals1 r
 cases rx
 have hn := line63
 rcases hq with hq | hq
 · obtain ⟨its, r', pl, hz⟩ := I.list hq
   have hlen := r'.length
   exact Calls.call_len_list pl.isList (by simp only [List.size_toArray] <;> omega) ⟨.int ys.length, H, I.tok _, ⟨s.toks + 1, by rw [List.size_toArray, hlen]⟩, q⟩
 · obtain ⟨its, r', pl, hz⟩ := I.tuple hq
   have hlen := r'.length
   exact len_tuple pl (by simp only [List.size_toArray] <;> omega) ⟨.int ys.length, H, I.tok _, ⟨s.toks + 1, by rw [List.size_toArray, hlen]⟩, q⟩
theorem call_len_str : CallR X (.builtin "len") (fun xs H Q => ∃ z, xs = [.str z] ∧ z.length ≤ sizeLine ∧ Q (.int z.length) H) := by
 intro pins s σ H xs us Q I r h
 obtain ⟨z, rfl, hz, q⟩ := h
 obtain ⟨u, rfl, t, rfl⟩ := vals1 r
 have hn := line63
 exact len_str (by omega) ⟨.int z.length, H, I.tok _, ⟨_, rfl⟩, q⟩
theorem call_list_of : CallR X (.type "list") (fun xs H Q => ∃ p ys, xs = [.ref p] ∧ (SqL X.K H p ys ∨ SqT X.K H p ys) ∧ ∀ l, H l = none → Q (.ref l) (upd H l (.lst ys))) := by
 intro pins s σ H xs us Q I r h
 obtain ⟨p, ys, rfl, hq, q⟩ := h
 obtain ⟨u, rfl, rx⟩ := vals1 r
 cases rx
 have fin : ∀ (its : List Value), Vals ys its → ys.length ≤ sizeLine → ∀ (h' : Heap) (c' : Nat), (∀ b o', s.heap.get? b = some o' → h'.get? b = some o') →
  h'.get? s.heap.objs.size = some { cls := .type "list", dict := none, data := .seq its.toArray c', slots := #[] } → EP X pins σ Q (.ref s.heap.objs.size) { s with heap := h' } := fun its r' hz h' c' kp e =>
  ⟨.ref s.heap.objs.size, _, I.laid (t' := s.toks) kp (Nat.le_refl _) (show ObjOk X.prog X.w _ h' _ (.lst ys) from ⟨hz, its, c', r', e⟩), rfl, q _ (I.hok.fresh (Nat.le_refl _))⟩
 rcases hq with hq | hq
 · obtain ⟨its, r', pl, hz⟩ := I.list hq
   have hlen := r'.length
   obtain ⟨o, ho, hc, n, hd⟩ := pl.isList
   exact call_list_seq p (.inl rfl) ho hc hd (fun h' c' kp e => fin its r' hz h' c' kp e) (by simp only [List.size_toArray] <;> omega)
 · obtain ⟨its, r', pl, hz⟩ := I.tuple hq
   have hlen := r'.length
   obtain ⟨o, ho, hc, n, hd⟩ := pl
   exact call_list_seq p (.inr rfl) ho hc hd (fun h' c' kp e => fin its r' hz h' c' kp e) (by simp only [List.size_toArray] <;> omega)
theorem call_tuple_of : CallR X (.type "tuple") (fun xs H Q => ∃ p ys, xs = [.ref p] ∧ ((SqL X.K H p ys ∧ ∀ l, H l = none → Q (.ref l) (upd H l (.tup ys))) ∨ (SqT X.K H p ys ∧ Q (.ref p) H))) := by
 intro pins s σ H xs us Q I r h
 obtain ⟨p, ys, rfl, h⟩ := h
 obtain ⟨u, rfl, rx⟩ := vals1 r
 cases rx
 rcases h with ⟨hq, q⟩ | ⟨hq, q⟩
 · obtain ⟨its, r', pl, hz⟩ := I.list hq
   have hlen := r'.length
   refine call_tuple_list pl.isList (fun h' kp => ?_) (by simp only [List.size_toArray] <;> omega)
   have I1 : Inv X pins σ H { s with heap := h' } := I.kept (t' := s.toks) kp
   have I2 : Inv X pins σ (upd H h'.objs.size (.tup ys)) { s with heap := h'.push { cls := .type "tuple", data := .seq its.toArray } } :=
    I1.laid (t' := s.toks) (fun b o e => Heap.get?_push_of_some _ e) (Nat.le_refl _) (show ObjOk X.prog X.w _ _ _ (.tup ys) from ⟨hz, its, r', IsTup.new _ _⟩)
   exact ⟨.ref h'.objs.size, _, I2, rfl, q _ (I1.hok.fresh (Nat.le_refl _))⟩
 · obtain ⟨its, r', pl, hz⟩ := I.tuple hq
   exact call_tuple_same pl ⟨.ref p, H, I, rfl, q⟩
def tyV (K : PySem.W.Frag) (T : String) (x : V) (H : Hp) : Prop := match x with
 | .str _ => T = "str"
 | .int _ => T = "int"
 | .ref p => (T = "list" ∧ ∃ xs, SqL K H p xs) ∨ (T = "tuple" ∧ ∃ o, K.lookup p = some o ∧ o.cls = .type "tuple" ∧ o.dict = none) ∨
  (T = "dict" ∧ ((∃ kvs, H p = some (.dK kvs)) ∨ ∃ kvs, H p = some (.dT kvs))) ∨ (T = "set" ∧ ∃ S n, H p = some (.set S n))
 | _ => False
theorem tyV_is {pins : List (Addr × Obj)} {σ : St} {H : Hp} {s : Shared} {T : String} {x : V} {v : Value} (I : Inv X pins σ H s) (r : RelV x v) (ty : tyV X.K T x H) :
 s.TypeIs v T ∧ ∀ a, v = .ref a → ∃ ob, s.heap.get? a = some ob ∧ ob.dict = none := by
 cases x with
 | str z =>
  obtain ⟨t, rfl⟩ := r
  cases (show T = "str" from ty)
  exact ⟨typeIs_str s z t, fun _ e => nomatch e⟩
 | int i =>
  obtain ⟨t, rfl⟩ := r
  cases (show T = "int" from ty)
  exact ⟨typeIs_int s i t, fun _ e => nomatch e⟩
 | ref p =>
  cases r
  rcases ty with ⟨rfl, xs, hq⟩ | ⟨rfl, o, hk, hc, hd⟩ | ⟨rfl, hk⟩ | ⟨rfl, S, n, hk⟩
  · obtain ⟨its, _, pl, _⟩ := I.list hq
    refine ⟨pl.isList.typeIs, fun a e => ?_⟩
    cases e
    obtain ⟨o, n, e, c, hd, _⟩ := pl
    exact ⟨o, e, hd⟩
  · refine ⟨⟨o, I.kIn p o hk, hc⟩, fun a e => ?_⟩
    cases e
    exact ⟨o, I.kIn _ o hk, hd⟩
  · have z : ∃ o, s.heap.get? p = some o ∧ o.ExactDict := by
     rcases hk with ⟨kvs, hk⟩ | ⟨kvs, hk⟩
     · obtain ⟨_, _, _, _, o, _, _, e, ex, _⟩ := I.hok p _ hk
       exact ⟨o, e, ex⟩
     · obtain ⟨_, _, _, _, o, _, _, e, ex, _⟩ := I.hok p _ hk
       exact ⟨o, e, ex⟩
    obtain ⟨o, e, ex⟩ := z
    refine ⟨⟨o, e, ex.1⟩, fun a e2 => ?_⟩
    cases e2
    exact ⟨o, e, ex.2.1⟩
  · obtain ⟨o, _, _, _, e, ex, _⟩ := I.hok p _ hk
    refine ⟨⟨o, e, ex.1⟩, fun a e2 => ?_⟩
    cases e2
    exact ⟨o, e, ex.2.1⟩
 | _ => exact False.elim ty
variable {o e : Expr} {es : List Expr} {to : TE} {t : TA} {name : Str} {apos cpos : Pos} {T id : String} {r : V → List V → Hp → VK → Prop}
end
end L2
namespace L2
open PySem PySem.Spec PyProof.Rows
def MtM (X : Cx) (id : String) (r : V → List V → Hp → VK → Prop) : Prop :=
 ∀ (pins : List (Addr × Obj)) (s : Shared) (σ : St) (H : Hp) (x : V) (xs : List V) (v : Value) (us : List Value) (Q : VK), Inv X pins σ H s → RelV x v → Vals xs us → r x xs H Q →
  wpAny (model X.prog X.w) X.A (call (.builtin id) (v :: us)) (EP X pins σ Q) X.xe s
theorem Vals.one {x : V} {us : List Value} (h : Vals [x] us) : ∃ u, us = [u] ∧ RelV x u := by
 cases h with | cons r t => cases t; exact ⟨_, rfl, r⟩
theorem Vals.zero : ∀ {us : List Value}, Vals [] us → us = []
 | _, .nil => rfl
theorem Vals.dropLast {xs : List V} {us : List Value} (h : Vals xs us) : Vals xs.dropLast us.dropLast := by
 induction h with
 | nil => exact .nil
 | cons r t ih =>
  cases t with
  | nil => exact .nil
  | cons q t' => exact .cons r ih
theorem Vals.rep {xs : List V} {us : List Value} (h : Vals xs us) : ∀ k : Nat, Vals (List.replicate k xs).flatten (List.replicate k us).flatten
 | 0 => .nil
 | k + 1 => by
  rw [List.replicate_succ, List.replicate_succ, List.flatten_cons, List.flatten_cons]
  exact Vals.append h (Vals.rep h k)
theorem foldl_rep (its : List Value) : ∀ (k : Nat) (acc : List Value),
 List.foldl (fun x1 x2 => x1 ++ x2) acc.toArray (List.replicate k its.toArray) = (acc ++ (List.replicate k its).flatten).toArray
 | 0, acc => by simp
 | k + 1, acc => by
  have e : acc.toArray ++ its.toArray = (acc ++ its).toArray := by simp
  have e2 : (acc ++ its) ++ (List.replicate k its).flatten = acc ++ (List.replicate (k + 1) its).flatten := by
   rw [List.replicate_succ, List.flatten_cons, List.append_assoc]
  rw [← e2, ← foldl_rep its k (acc ++ its), ← e, List.replicate_succ, List.foldl_cons]
section
variable {X : Cx} {pins : List (Addr × Obj)} {σ : St} {H : Hp} {s : Shared} {l b : Addr} {xs ys zs : List V}
theorem Inv.lset {its its' : List Value} {n : Nat} {f : Array Value → Array Value} {t' : Nat} (I : Inv X pins σ H s) (hH : H l = some (.lst xs))
 (e : s.heap.get? l = some { cls := .type "list", data := .seq its.toArray n }) (hf : f its.toArray = its'.toArray) (hv : Vals ys its') (hz : ys.length ≤ sizeLine) :
 Inv X pins σ (upd H l (.lst ys)) { s with heap := s.heap.update l (Obj.mapSeq f), toks := t' } := by
 have q := PySem.IsL.update e f
 rw [hf] at q
 refine I.write (x := l) (e := l) (by rw [hH]; exact trivial) (.inl rfl) (fun b' u hb hu => (Heap.get?_update_other s.heap (Obj.mapSeq f) (Ne.symm hb)).trans hu) ⟨_, q⟩ ?_
 exact ⟨hz, its', _, hv, q⟩
theorem Inv.lnew {its : List Value} {t' : Nat} (I : Inv X pins σ H s) (hv : Vals ys its) (hz : ys.length ≤ sizeLine) :
 Inv X pins σ (upd H s.heap.objs.size (.lst ys)) { s with heap := s.heap.push { cls := .type "list", data := .seq its.toArray }, toks := t' } :=
 I.laid (fun _ _ q => Heap.get?_push_of_some _ q) (Nat.le_refl _) ⟨hz, its, 0, hv, Heap.get?_push_size _ rfl⟩
theorem Inv.fresh (I : Inv X pins σ H s) : H s.heap.objs.size = none := I.hok.fresh (Nat.le_refl _)
theorem Inv.lstM (I : Inv X pins σ H s) (hH : H l = some (.lst xs)) : xs.length ≤ sizeLine ∧ ∃ (its : List Value) (n : Nat), Vals xs its ∧ xs.length = its.length ∧ s.heap.get? l = some { cls := .type "list", data := .seq its.toArray n } := by
 obtain ⟨z, its, n, r, e⟩ := I.hok l _ hH
 exact ⟨z, its, n, r, r.length, e⟩
theorem notLongL {n : Nat} (h : n ≤ sizeLine) : Builtin.List.listTooLong n = false := by
 unfold Builtin.List.listTooLong
 exact decide_eq_false (by omega)
end
section
variable {X : Cx}
def rAppend : V → List V → Hp → VK → Prop := fun x vs H Q => ∃ l xs y, x = .ref l ∧ vs = [y] ∧ H l = some (.lst xs) ∧ xs.length < sizeLine ∧ Q .non (upd H l (.lst (xs ++ [y])))
theorem mt_append : MtM X "list.append" rAppend := by
 intro pins s σ H x vs v us Q I rx rv h
 obtain ⟨l, xs, y, rfl, rfl, hH, hz, q⟩ := h
 cases rx
 obtain ⟨u, rfl, ru⟩ := rv.one
 obtain ⟨z, its, n, r, hl, e⟩ := I.lstM hH
 refine call_meets F.slot_list_append ⟨_, e, rfl⟩ F.entry_list_append (F.args_list_append_2 _ _) (PySem.list_append l its.toArray n u (by rw [List.size_toArray]; omega)) ⟨e, ?_⟩
 refine ⟨.non, _, I.lset (its' := its ++ [u]) hH e (by simp) (r.append (.cons ru .nil)) ?_, rfl, q⟩
 rw [List.length_append, List.length_singleton]
 omega
def rExtend : V → List V → Hp → VK → Prop := fun x vs H Q => ∃ l b xs zs, x = .ref l ∧ vs = [.ref b] ∧ H l = some (.lst xs) ∧ H b = some (.lst zs) ∧ xs.length + zs.length ≤ sizeLine ∧ Q .non (upd H l (.lst (xs ++ zs)))
def rPop : V → List V → Hp → VK → Prop := fun x vs H Q => ∃ l xs y, x = .ref l ∧ vs = [] ∧ H l = some (.lst xs) ∧ xs[xs.length - 1]? = some y ∧ Q y (upd H l (.lst xs.dropLast))
def rClear : V → List V → Hp → VK → Prop := fun x vs H Q => ∃ l xs, x = .ref l ∧ vs = [] ∧ H l = some (.lst xs) ∧ Q .non (upd H l (.lst []))
def rCat : R2 := fun x y H Q => ∃ l b xs zs, x = .ref l ∧ y = .ref b ∧ H l = some (.lst xs) ∧ H b = some (.lst zs) ∧ xs.length + zs.length ≤ sizeLine ∧ ∀ p, H p = none → Q (.ref p) (upd H p (.lst (xs ++ zs)))
theorem op_cat : OpR X (binaryOp .Add) rCat := by
 intro pins s σ H x y v u Q I rx ry h
 obtain ⟨l, b, xs, zs, rfl, rfl, hH, hB, hz, q⟩ := h
 cases rx
 cases ry
 obtain ⟨z, its, n, r, hl, e⟩ := I.lstM hH
 obtain ⟨z2, its2, n2, r2, hl2, e2⟩ := I.lstM hB
 refine PySem.P.add_list e e2 ?_ (by rw [List.size_toArray, List.size_toArray]; omega)
 have ea : its.toArray ++ its2.toArray = (its ++ its2).toArray := by simp
 rw [ea]
 exact ⟨.ref _, _, I.lnew (t' := s.toks) (r.append r2) (by rw [List.length_append]; omega), rfl, q _ I.fresh⟩
def rRep : R2 := fun x y H Q => ∃ l k xs, x = .ref l ∧ y = .int k ∧ H l = some (.lst xs) ∧ -(2 ^ 63) ≤ k ∧ k < 2 ^ 63 ∧ xs.length * k.toNat ≤ sizeLine ∧
 ∀ p, H p = none → Q (.ref p) (upd H p (.lst (List.replicate k.toNat xs).flatten))
theorem len_rep {α : Type} (xs : List α) (k : Nat) : (List.replicate k xs).flatten.length = k * xs.length := by
 induction k with
 | zero => simp
 | succ k ih => rw [List.replicate_succ, List.flatten_cons, List.length_append, ih, Nat.succ_mul, Nat.add_comm]
theorem op_rep : OpR X (binaryOp .Mult) rRep := by
 intro pins s σ H x y v u Q I rx ry h
 obtain ⟨l, k, xs, rfl, rfl, hH, h1, h2, hz, q⟩ := h
 cases rx
 obtain ⟨t, rfl⟩ := ry
 obtain ⟨z, its, n, r, hl, e⟩ := I.lstM hH
 have hlen : its.toArray.size * k.toNat ≤ sizeLine := by rw [List.size_toArray, ← hl]; exact hz
 have hcap : ¬ its.toArray.size * k.toNat > (2 ^ 63 - 1) / 8 := by
  have : (sizeLine : Nat) ≤ (2 ^ 63 - 1) / 8 := by decide
  omega
 have hfit : ¬ (!Builtin.List.listFitsIndex k) = true := by
  rw [fitsIndex_both h1 h2]
  exact Bool.false_ne_true
 have hlong : ¬ Builtin.List.listTooLong (its.toArray.size * k.toNat) = true := by
  rw [notLongL hlen]
  exact Bool.false_ne_true
 have hnew : List.foldl (fun x1 x2 => x1 ++ x2) #[] (List.replicate (if its.toArray.isEmpty = true then 0 else k.toNat) its.toArray) = (List.replicate k.toNat its).flatten.toArray := by
  have f0 : ∀ m : Nat, List.foldl (fun x1 x2 => x1 ++ x2) #[] (List.replicate m its.toArray) = (List.replicate m its).flatten.toArray := fun m => by
   have := foldl_rep its m []
   rw [List.nil_append] at this
   exact this
  rw [f0]
  cases its with
  | nil => simp
  | cons a r' => rw [if_neg (by simp)]
 refine wpAny_binaryOp_repeat_ref (T := "list") (U := "int") (by decide) ⟨_, e, rfl⟩ (fun s' => typeIs_int s' k t) noFill_list_mul F.fills_int_mul F.slot_int_rmul repeat_list F.slot_int_index.lookup
  (call_meets F.slot_int_rmul (typeIs_int s k t) F.entry_int_rmul (F.args_int_rmul_2 _ _) (int___rmul___int_list k t l its.toArray n)
    ⟨e, rfl, ⟨_, e, rfl⟩, call_meets F.slot_list_mul ⟨_, e, rfl⟩ F.entry_list_mul (F.args_list_mul_2 _ _) (AutoListH.list___mul___list_int_3 l its.toArray n k t hfit hcap hlong) ⟨e, ?_⟩⟩)
 rw [hnew]
 exact ⟨.ref _, _, I.lnew (t' := s.toks) (r.rep k.toNat) (by rw [len_rep, Nat.mul_comm]; exact hz), rfl, q _ I.fresh⟩
end
section
variable {prog : Program} {w : World} {A : Around} {E : Value → Shared → Prop} {s : Shared}
end
section
variable {X : Cx}
end
end L2
namespace L2
open PySem PySem.Spec PyProof.Rows
section
variable {κ : Type} [DecidableEq κ]
def valV (kvs : List (κ × V)) (k : κ) : Option V := (kvs.find? fun kv => decide (kv.1 = k)).map (·.2)
def putK (kvs : List (κ × V)) (k : κ) (v : V) : List (κ × V) :=
 if (kvs.any fun kv => decide (kv.1 = k)) = true then kvs.map (fun kv => if kv.1 = k then (kv.1, v) else kv) else kvs ++ [(k, v)]
def dropK (kvs : List (κ × V)) (k : κ) : List (κ × V) := kvs.filter fun kv => decide (kv.1 ≠ k)
theorem valV_pos {p : κ × V} {r : List (κ × V)} {k : κ} (e : p.1 = k) : valV (p :: r) k = some p.2 := by simp [valV, List.find?_cons, e]
theorem valV_neg {p : κ × V} {r : List (κ × V)} {k : κ} (e : ¬ p.1 = k) : valV (p :: r) k = valV r k := by simp [valV, List.find?_cons, e]
theorem valV_any (k : κ) : ∀ kvs : List (κ × V), (kvs.any fun kv => decide (kv.1 = k)) = (valV kvs k).isSome
 | [] => rfl
 | p :: r => by
  rw [List.any_cons]
  by_cases e : p.1 = k
  · simp only [valV_pos e, decide_eq_true e, Bool.true_or, Option.isSome_some]
  · rw [valV_neg e, decide_eq_false e, Bool.false_or]; exact valV_any k r
theorem length_putK (kvs : List (κ × V)) (k : κ) (v : V) : (putK kvs k v).length ≤ kvs.length + 1 := by
 unfold putK
 split
 · rw [List.length_map]; omega
 · rw [List.length_append, List.length_cons, List.length_nil]; omega
theorem RelO.isSome_eq {o : Option V} {u : Option Value} (r : RelO o u) : o.isSome = u.isSome := by
 cases o with
 | none => cases u with
  | none => rfl
  | some _ => exact (show False from r).elim
 | some _ => cases u with
  | none => exact (show False from r).elim
  | some _ => rfl
theorem RelO.getD {o : Option V} {u : Option Value} {d : V} {d' : Value} (r : RelO o u) (rd : RelV d d') : RelV (o.getD d) (u.getD d') := by
 cases o with
 | none => cases u with
  | none => exact rd
  | some _ => exact (show False from r).elim
 | some _ => cases u with
  | none => exact (show False from r).elim
  | some _ => exact r
theorem KV.val {kvs : List (κ × V)} {vs : List (κ × Value)} (r : KV kvs vs) (k : κ) : RelO (valV kvs k) (valueAt vs k) := by
 unfold KV at r
 induction r with
 | nil => exact True.intro
 | @cons p q ps qs h t ih =>
  obtain ⟨h1, h2⟩ := h
  by_cases e : p.1 = k
  · have e' : q.1 = k := h1.symm.trans e
    have b : valueAt (q :: qs) k = some q.2 := by simp [valueAt, List.find?_cons, e']
    rw [valV_pos e, b]; exact h2
  · have e' : ¬ q.1 = k := fun z => e (h1.trans z)
    have b : valueAt (q :: qs) k = valueAt qs k := by simp [valueAt, List.find?_cons, e']
    rw [valV_neg e, b]; exact ih
theorem KV.any {kvs : List (κ × V)} {vs : List (κ × Value)} (r : KV kvs vs) (k : κ) : (kvs.any fun kv => decide (kv.1 = k)) = vs.any fun kv => decide (kv.1 = k) := by
 unfold KV at r
 induction r with
 | nil => rfl
 | cons h t ih => rw [List.any_cons, List.any_cons, ih, h.1]
theorem KV.repl {kvs : List (κ × V)} {vs : List (κ × Value)} (r : KV kvs vs) (k : κ) {y : V} {u : Value} (ry : RelV y u) :
 KV (kvs.map fun kv => if kv.1 = k then (kv.1, y) else kv) (vs.map fun kv => if kv.1 = k then (kv.1, u) else kv) := by
 unfold KV at r ⊢
 induction r with
 | nil => exact .nil
 | @cons p q ps qs h t ih =>
  rw [List.map_cons, List.map_cons]
  refine .cons ?_ ih
  obtain ⟨h1, h2⟩ := h
  by_cases e : p.1 = k
  · rw [if_pos e, if_pos (h1.symm.trans e)]; exact ⟨h1, ry⟩
  · rw [if_neg e, if_neg (fun z => e (h1.trans z))]; exact ⟨h1, h2⟩
theorem KV.put {kvs : List (κ × V)} {vs : List (κ × Value)} (r : KV kvs vs) (k : κ) {y : V} {u : Value} (ry : RelV y u) : KV (putK kvs k y) (stored vs k u) := by
 unfold putK stored
 rw [r.any k]
 by_cases e : (vs.any fun kv => decide (kv.1 = k)) = true
 · rw [if_pos e, if_pos e]; exact r.repl k ry
 · rw [if_neg e, if_neg e]; exact Paired.snoc r ⟨rfl, ry⟩
theorem KV.drop {kvs : List (κ × V)} {vs : List (κ × Value)} (r : KV kvs vs) (k : κ) : KV (dropK kvs k) (without vs k) := by
 unfold KV at r ⊢
 unfold dropK without
 induction r with
 | nil => exact .nil
 | @cons p q ps qs h t ih =>
  obtain ⟨h1, h2⟩ := h
  rw [List.filter_cons, List.filter_cons]
  by_cases e : p.1 = k
  · have a : ¬ decide (p.1 ≠ k) = true := by simp [e]
    have b : ¬ decide (q.1 ≠ k) = true := by simp [h1.symm.trans e]
    rw [if_neg a, if_neg b]; exact ih
  · have e' : ¬ q.1 = k := fun z => e (h1.trans z)
    have a : decide (p.1 ≠ k) = true := by simp [e]
    have b : decide (q.1 ≠ k) = true := by simp [e']
    rw [if_pos a, if_pos b]; exact .cons ⟨h1, h2⟩ ih
theorem KV.keys {kvs : List (κ × V)} {vs : List (κ × Value)} (r : KV kvs vs) : kvs.map (·.1) = vs.map (·.1) := by
 unfold KV at r
 induction r with
 | nil => rfl
 | cons h t ih => rw [List.map_cons, List.map_cons, ih, h.1]
theorem KV.length {kvs : List (κ × V)} {vs : List (κ × Value)} (r : KV kvs vs) : kvs.length = vs.length := Paired.length r
end
theorem kV_is {P : Program} {w : World} {k : Key} {u : Value} (r : RelV (kV k) u) : (mixKind P w).is k u = true := by
 cases k with
 | inl i => obtain ⟨t, e⟩ := (show ∃ t, u = Value.int i t from r); subst e; exact mixKind_int P w i t
 | inr x => obtain ⟨t, e⟩ := (show ∃ t, u = Value.str x t from r); subst e; exact mixKind_str P w x t
theorem items_are {P : Program} {w : World} : ∀ {ks : List Key} {us : List Value}, Vals (ks.map kV) us → ItemsAre (mixKind P w) ks us
 | [], _, r => by rw [List.map_nil] at r; cases r; exact .nil
 | k :: ks, _, r => by
  rw [List.map_cons] at r
  cases r with
  | cons h t => exact .cons (kV_is h) (items_are t)
abbrev KT (H : Hp) : List (List Key × V) → List (List Key × Addr × Value) → Prop := Paired fun p q => p.1 = q.1 ∧ H q.2.1 = some (.tup (p.1.map kV)) ∧ RelV p.2 q.2.2
theorem KT.val {H : Hp} {kvs : List (List Key × V)} {xs : List (List Key × Addr × Value)} (r : KT H kvs xs) (k : List Key) : RelO (valV kvs k) ((atKey xs k).map (·.2)) := by
 induction r with
 | nil => exact True.intro
 | @cons p q ps qs h t ih =>
  obtain ⟨h1, _, h2⟩ := h
  by_cases e : p.1 = k
  · have e' : q.1 = k := h1.symm.trans e
    have b : atKey (q :: qs) k = some q.2 := by simp [atKey, List.find?_cons, e']
    rw [valV_pos e, b]; exact h2
  · have e' : ¬ q.1 = k := fun z => e (h1.trans z)
    have b : atKey (q :: qs) k = atKey qs k := by simp [atKey, List.find?_cons, e']
    rw [valV_neg e, b]; exact ih
theorem KT.repl {H : Hp} {kvs : List (List Key × V)} {xs : List (List Key × Addr × Value)} (r : KT H kvs xs) (k : List Key) {y : V} {u : Value} (ry : RelV y u) :
 KT H (kvs.map fun kv => if kv.1 = k then (kv.1, y) else kv) (xs.map (putAt k u)) := by
 induction r with
 | nil => exact .nil
 | @cons p q ps qs h t ih =>
  rw [List.map_cons, List.map_cons]
  refine .cons ?_ ih
  obtain ⟨h1, h2, h3⟩ := h
  unfold putAt
  by_cases e : p.1 = k
  · rw [if_pos e, if_pos (h1.symm.trans e)]; exact ⟨h1, h2, ry⟩
  · rw [if_neg e, if_neg (fun z => e (h1.trans z))]; exact ⟨h1, h2, h3⟩
theorem KT.put {H : Hp} {kvs : List (List Key × V)} {xs : List (List Key × Addr × Value)} (r : KT H kvs xs) (k : List Key) {b : Addr} {y : V} {u : Value} (hb : H b = some (.tup (k.map kV))) (ry : RelV y u) :
 KT H (putK kvs k y) (storedH xs k b u) := by
 have e : (kvs.any fun kv => decide (kv.1 = k)) = (atKey xs k).isSome := by
  rw [valV_any, (r.val k).isSome_eq, Option.isSome_map]
 unfold putK storedH
 rw [e]
 by_cases q : (atKey xs k).isSome = true
 · rw [if_pos q, if_pos q]; exact r.repl k ry
 · rw [if_neg q, if_neg q]; exact Paired.snoc r ⟨rfl, hb, ry⟩
theorem KT.keeps {H H' : Hp} {kvs : List (List Key × V)} {xs : List (List Key × Addr × Value)} (r : KT H kvs xs) (ht : ∀ b ys, H b = some (.tup ys) → H' b = some (.tup ys)) : KT H' kvs xs :=
 Paired.mapP r fun _ _ z => ⟨z.1, ht _ _ z.2.1, z.2.2⟩
section
variable {P : Program} {w : World} {H : Hp} {h : Heap} {a : Addr}
theorem rd_of {u : HO} (ok : HOk P w H h) (e : Rd H a u) : ObjOk P w H h a u := e.ok ok
theorem dk_rd {kvs : List (Key × V)} (ok : HOk P w H h) (e : Rd H a (.dK kvs)) : kvs.length ≤ sizeLine ∧ (a == sysModules) = false ∧ ∃ vs, KV kvs vs ∧ h.DictOf (mixKind P w) a vs :=
 show ObjOk P w H h a (.dK kvs) from rd_of ok e
theorem dk_of {kvs : List (Key × V)} (ok : HOk P w H h) (e : H a = some (.dK kvs)) : kvs.length ≤ sizeLine ∧ (a == sysModules) = false ∧ ∃ vs, KV kvs vs ∧ h.DictOf (mixKind P w) a vs := dk_rd ok (.inl e)
theorem key_of {ks : List Key} (ok : HOk P w H h) (e : H a = some (.tup (ks.map kV))) : (tupleKind (mixKind P w)).is h ks a := by
 obtain ⟨_, its, r, o, h1, h2, n, h3⟩ := (show ObjOk P w H h a (.tup (ks.map kV)) from ok a _ e)
 exact ⟨o, its.toArray, n, h1, h2, h3, by simpa using items_are r⟩
theorem dt_rd {kvs : List (List Key × V)} (ok : HOk P w H h) (e : Rd H a (.dT kvs)) : kvs.length ≤ sizeLine ∧ (a == sysModules) = false ∧
 ∃ xs, KT H kvs xs ∧ h.DictOfH (tupleKind (mixKind P w)) a xs := by
 obtain ⟨z, y, xs, r, o, es, ep, h1, h2, h3, h4, h5⟩ := (show ObjOk P w H h a (.dT kvs) from rd_of ok e)
 refine ⟨z, y, xs, r, o, es, ep, h1, h2, h3, h4, fun x hx => ?_, h5⟩
 have all : ∀ {l : List (List Key × V)} {m : List (List Key × Addr × Value)}, KT H l m → ∀ x ∈ m, (tupleKind (mixKind P w)).is h x.1 x.2.1 := by
  intro l m q
  induction q with
  | nil => intro x hx; exact nomatch hx
  | @cons p q ps qs hq t ih =>
   intro x hx
   rcases List.mem_cons.mp hx with e | hx
   · subst e
     exact key_of ok (by rw [← hq.1]; exact hq.2.1)
   · exact ih x hx
 exact all r x hx
theorem dt_of {kvs : List (List Key × V)} (ok : HOk P w H h) (e : H a = some (.dT kvs)) : kvs.length ≤ sizeLine ∧ (a == sysModules) = false ∧
 ∃ xs, KT H kvs xs ∧ h.DictOfH (tupleKind (mixKind P w)) a xs := dt_rd ok (.inl e)
end
def DGet (H : Hp) (a : Addr) (y : V) (r : Option V) : Prop :=
 (∃ kvs k, Rd H a (.dK kvs) ∧ y = kV k ∧ r = valV kvs k) ∨ ∃ kvs k b, Rd H a (.dT kvs) ∧ y = .ref b ∧ H b = some (.tup (k.map kV)) ∧ r = valV kvs k
def DPut (H : Hp) (a : Addr) (y v : V) (H' : Hp) : Prop :=
 (∃ kvs k, H a = some (.dK kvs) ∧ y = kV k ∧ kvs.length < sizeLine ∧ H' = upd H a (.dK (putK kvs k v))) ∨
 ∃ kvs k b, H a = some (.dT kvs) ∧ y = .ref b ∧ H b = some (.tup (k.map kV)) ∧ kvs.length < sizeLine ∧ H' = upd H a (.dT (putK kvs k v))
theorem DGet.k {H : Hp} {a : Addr} {kvs : List (Key × V)} {k : Key} (e : H a = some (.dK kvs)) : DGet H a (kV k) (valV kvs k) := .inl ⟨kvs, k, .inl e, rfl, rfl⟩
theorem DGet.t {H : Hp} {a b : Addr} {kvs : List (List Key × V)} {k : List Key} (e : H a = some (.dT kvs)) (eb : H b = some (.tup (k.map kV))) : DGet H a (.ref b) (valV kvs k) := .inr ⟨kvs, k, b, .inl e, rfl, eb, rfl⟩
theorem DPut.k {H : Hp} {a : Addr} {kvs : List (Key × V)} {k : Key} {v : V} (e : H a = some (.dK kvs)) (hl : kvs.length < sizeLine) : DPut H a (kV k) v (upd H a (.dK (putK kvs k v))) := .inl ⟨kvs, k, e, rfl, hl, rfl⟩
theorem DPut.t {H : Hp} {a b : Addr} {kvs : List (List Key × V)} {k : List Key} {v : V} (e : H a = some (.dT kvs)) (eb : H b = some (.tup (k.map kV))) (hl : kvs.length < sizeLine) :
 DPut H a (.ref b) v (upd H a (.dT (putK kvs k v))) := .inr ⟨kvs, k, b, e, rfl, eb, hl, rfl⟩
section
variable {X : Cx} {pins : List (Addr × Obj)} {σ : St} {H : Hp} {s : Shared} {a : Addr} {y v : V} {u r : Value} {o : Option V} {A : Around} {E : Value → Shared → Prop}
theorem d_getItem {Q : Value → Shared → Prop} (hu : A.units + 1 < cLine) (I : Inv X pins σ H s) (g : DGet H a y (some v)) (ry : RelV y u) (h : ∀ w' s', Inv X pins σ H s' → RelV v w' → Q w' s') :
 wpAny (model X.prog X.w) A (getItem (.ref a) u) Q E s := by
 rcases g with ⟨kvs, k, e, ey, l⟩ | ⟨kvs, k, b, e, ey, eb, l⟩
 · subst ey
   obtain ⟨z, hd, vs, rel, dd⟩ := dk_rd I.hok e
   obtain ⟨w', hw, rw'⟩ := RelO.some_of (v := v) (o := valueAt vs k) (by rw [l]; exact rel.val k)
   exact wpAny_getItem_of (kV_is ry) dd.mapOf hw (h w' _ (I.tok _) rw')
 · subst ey
   cases (show u = Value.ref b from ry)
   obtain ⟨z, hd, xs, rel, dd⟩ := dt_rd I.hok e
   obtain ⟨w', hw, rw'⟩ := RelO.some_of (v := v) (o := (atKey xs k).map (·.2)) (by rw [l]; exact rel.val k)
   obtain ⟨p, hp, hp2⟩ := Option.map_eq_some_iff.mp hw
   refine wpAny_getItem_heap (tupleKind_room_in1 hu) (key_of I.hok eb) dd hp ?_
   rw [hp2]
   exact h w' _ (I.tok _) rw'
theorem d_write {h' : Heap} {t' : Nat} {ob : HO} (I : Inv X pins σ H s) (mu : Mut (H a)) (hs : Heap.SameBut a s.heap h') (he : ∃ q, h'.get? a = some q) (new : ObjOk X.prog X.w (upd H a ob) h' a ob) :
 Inv X pins σ (upd H a ob) { s with heap := h', toks := t' } :=
 I.write (x := a) (e := a) mu (.inl rfl) (fun b q hb z => (hs.2 b hb).trans z) he new
theorem dk_new {P : Program} {w : World} {H' : Hp} {h' : Heap} {kvs : List (Key × V)} {vs : List (Key × Value)} (z : kvs.length ≤ sizeLine) (hd : (a == sysModules) = false) (rel : KV kvs vs) (dd : h'.DictOf (mixKind P w) a vs) :
 ObjOk P w H' h' a (.dK kvs) := ⟨z, hd, vs, rel, dd⟩
theorem d_setItem {H' : Hp} {Q : Unit → Shared → Prop} (hu : A.units + 1 < cLine) (I : Inv X pins σ H s) (g : DPut H a y v H') (ry : RelV y u) (rv : RelV v r) (h : ∀ s', Inv X pins σ H' s' → Q () s') :
 wpAny (model X.prog X.w) A (setItem (.ref a) u r) Q E s := by
 rcases g with ⟨kvs, k, e, ey, l, eH⟩ | ⟨kvs, k, b, e, ey, eb, l, eH⟩
 · subst ey eH
   obtain ⟨z, hd, vs, rel, dd⟩ := dk_of I.hok e
   have hz : vs.length ≤ sizeLine := by rw [← rel.length]; exact z
   have hl : (putK kvs k v).length ≤ sizeLine := by have := length_putK kvs k v; omega
   refine wpAny_setItem_pairs (hsz := hz) (kV_is ry) dd fun h' dd' hs => h _ ?_
   have he : ∃ q, h'.get? a = some q := let ⟨q, _, _, hq, _⟩ := dd'; ⟨q, hq⟩
   exact d_write I (by rw [e]; exact True.intro) hs he (dk_new hl hd (rel.put k rv) dd')
 · subst ey eH
   cases (show u = Value.ref b from ry)
   obtain ⟨z, hd, xs, rel, dd⟩ := dt_of I.hok e
   have hz : xs.length ≤ sizeLine := by rw [← Paired.length rel]; exact z
   have hl : (putK kvs k v).length ≤ sizeLine := by have := length_putK kvs k v; omega
   refine wpAny_setItem_heap (hsz := hz) (tupleKind_room_in1 hu) (key_of I.hok eb) dd fun h' dd' hs => h _ ?_
   obtain ⟨q, es, ep, hq, h2, h3, h4, _, h5⟩ := dd'
   refine d_write I (by rw [e]; exact True.intro) hs ⟨q, hq⟩ ⟨hl, hd, _, (rel.put k eb rv).keeps fun c ys ec => ?_, q, es, ep, hq, h2, h3, h4, h5⟩
   rw [upd_ne (ne_of ec e (fun z => nomatch z))]
   exact ec
end
section
variable {X : Cx} {pins : List (Addr × Obj)} {σ : St} {H : Hp} {s : Shared} {a : Addr} {kvs : List (Key × V)} {k : Key} {u : Value} {A : Around} {E : Value → Shared → Prop}
theorem d_len {Q : Value → Shared → Prop} (I : Inv X pins σ H s) (e : Rd H a (.dK kvs)) (h : ∀ t s', Inv X pins σ H s' → Q (.int kvs.length t) s') : wpAny (model X.prog X.w) A (call (.builtin "len") [.ref a]) Q E s := by
 obtain ⟨z, hd, vs, rel, dd⟩ := dk_rd I.hok e
 refine call_len_dict hd dd (by rw [← rel.length]; rw [sizeLine_eq] at z; omega) ?_
 rw [← rel.length]
 exact h _ _ (I.tok _)
end
theorem dict_typeIs {X : Cx} {pins : List (Addr × Obj)} {σ : St} {H : Hp} {s : Shared} {a : Addr} {y : V} {o : Option V} (I : Inv X pins σ H s) (g : DGet H a y o) : s.TypeIs (.ref a) "dict" := by
 rcases g with ⟨kvs, k, e, _, _⟩ | ⟨kvs, k, b, e, _, _, _⟩
 · obtain ⟨_, _, vs, _, dd⟩ := dk_rd I.hok e
   exact dd.typeIs
 · obtain ⟨_, _, xs, _, dd⟩ := dt_rd I.hok e
   exact dd.typeIs
section
variable {X : Cx} {o i e value : Expr} {pos pos' tpos : Pos} {td ty tv : TE}
end
def tDNewK : TE := fun _ H Q => ∀ p, H p = none → Q (.ref p) (upd H p (.dK []))
section
variable {X : Cx} {pos : Pos}
end
structure M1 (X : Cx) (o : Expr) (m : Str) (apos : Pos) (e : Expr) (cpos : Pos) : Prop where
 base : attributeBase o m X.env (eval o X.env) = eval o X.env
 few : ((backTo cpos (starEach [e] X.env)).all (fun x => !x.1) && (backToKw cpos (keywordEach [] X.env)).all (fun x => x.1.isSome)
  && decide (([e] : List Expr).length + ([] : List Keyword).length + (if ([] : List Keyword).isEmpty then 0 else 1) < 30)) = true
 line : (apos.endLine == cpos.line) = true
 trees : backTo cpos (starEach [e] X.env) = [(false, eval e X.env)]
structure M2 (X : Cx) (o : Expr) (m : Str) (apos : Pos) (e f : Expr) (cpos : Pos) : Prop where
 base : attributeBase o m X.env (eval o X.env) = eval o X.env
 few : ((backTo cpos (starEach [e, f] X.env)).all (fun x => !x.1) && (backToKw cpos (keywordEach [] X.env)).all (fun x => x.1.isSome)
  && decide (([e, f] : List Expr).length + ([] : List Keyword).length + (if ([] : List Keyword).isEmpty then 0 else 1) < 30)) = true
 line : (apos.endLine == cpos.line) = true
 trees : backTo cpos (starEach [e, f] X.env) = [(false, eval e X.env), (false, eval f X.env)]
section
variable {X : Cx} {pins : List (Addr × Obj)} {σ : St} {H : Hp} {s : Shared} {a : Addr} {y d : V} {u r : Value} {o : Option V} {A : Around} {E : Value → Shared → Prop}
end
section
variable {X : Cx} {o e f : Expr} {apos cpos : Pos} {td ty tx : TE}
end
section
variable {X : Cx} {pins : List (Addr × Obj)} {σ : St} {H : Hp} {s : Shared} {a : Addr} {kvs : List (Key × V)} {A : Around} {E : Value → Shared → Prop}
end
section
variable {X : Cx} {pins : List (Addr × Obj)} {σ : St} {H : Hp} {s : Shared} {a : Addr} {y : V} {u : Value} {A : Around} {E : Value → Shared → Prop}
end
end L2
namespace Att
open PySem PySem.W PySem.Calls PyProof.Rows
theorem ints_of_wellAll {P : Params} {h : Heap} : ∀ (ns : List Int) (vs : List Value), WellAll P h vs (ns.map WData.int) → IntsAre vs ns := by
 intro ns
 induction ns with
 | nil =>
  intro vs w
  rw [List.map_nil] at w
  cases w
  exact .nil
 | cons n ns ih =>
  intro vs w
  rw [List.map_cons] at w
  cases w with
  | cons a b =>
   cases a
   exact .cons _ _ (ih _ b)
theorem script_of {l : OpenLaw} {n : Nat} (hn : l.most = some n) {P : Params} {h : Heap} {args : List WData} {vals : List Value}
 (hpre : l.row.toRowW.claim.pre args = true) (hwl : WellAll P h vals args) :
 ∃ a vs ns, vals = [Value.ref a] ∧ args = [WData.list (ns.map WData.int)] ∧ h.get? a = some { cls := .type "list", data := .seq vs.toArray } ∧ IntsAre vs ns ∧ ns.length ≤ n := by
 have hsh : WShape.hasAll [] args [.list .int] = true := (pre_splitW hpre).1
 have hc : l.pre.holds [] { args := args } = true := (pre_splitW hpre).2
 obtain ⟨d, r, rfl, h1, h2⟩ := hasAllW_cons hsh
 obtain rfl := hasAllW_nil h2
 obtain ⟨xs, rfl, h3⟩ := hasW_list h1
 obtain ⟨ns, rfl⟩ := items_int h3
 have hlen : ns.length ≤ n := by
  unfold OpenLaw.pre at hc
  have h4 : (WTm.not (.lt (.lit (.int (n : Int))) (.len (.arg 0)))).holds [] { args := [.list (ns.map .int)] } = true := by
   have h4 := (holds_andW hc).1
   rw [hn] at h4
   exact h4
  have h5 := condW_of h4 (w_not (w_lt w_lit (w_len_list (w_arg rfl))))
  rw [List.length_map] at h5
  refine Nat.le_of_not_lt fun q => ?_
  have q' : (n : Int) < ((ns.length : Nat) : Int) := by omega
  first
   | (rw [decide_eq_true q'] at h5; exact absurd h5 (by decide))
   | (simp at h5; omega)
 cases hwl with
 | cons w1 w2 =>
  cases w2
  cases w1 with
  | list ho hall => exact ⟨_, _, ns, rfl, rfl, ho, ints_of_wellAll ns _ hall, hlen⟩
theorem post_true (l : OpenLaw) (args : List WData) : l.row.toRowW.claim.post args (.bool true) args = true :=
 postW_of (r := l.row.toRowW) (X := (true == true))
  (show WShape.has [] (.bool true) .bool = true by first | rfl | decide | simp [WShape.has, WShape.arms, WShape.armsAll])
  (show (WTm.eq .res (.lit (.bool true))).value [] { args := args, res := some (.bool true), after := args } = some (.bool (true == true)) from w_eq_bool (w_res rfl) w_lit) rfl
theorem attach_call {l : OpenLaw} {n : Nat} {q : Program} {loose : List Str} {XP : (Str → Option Value) → Heap → Prop} {YP : World → Heap → Prop} {d : DefRec}
 (hn : l.most = some n) (hdf : d.params.defaults = [])
 (call : ∀ (w : World) (s₀ s₁ : Shared) (mg mb : Str → Option Value) (fa : Addr) (o : Obj) (pm cd doc : Value) (a : Addr) (vs : List Value) (ns : List Int),
   Ground q loose [] XP w s₀ mg mb s₁.heap → YP w s₁.heap →
   s₁.heap.get? fa = some o → o.data = .func (docDef d.name d.params d.body d.scope pm cd doc) → s₁.heap.CodeRec cd d.name → mg d.name = some (.ref fa) →
   s₁.heap.get? a = some { cls := .type "list", data := .seq vs.toArray } → IntsAre vs ns → ns.length ≤ n → s₁.gens = #[] →
   codeAny (model l.prog w) callerA (.call (.ref fa) ⟨[.ref a], []⟩) (fun r s' => r = .ok (.ret (.bool true)) ∧ OldK s₁.heap s'.heap ∧ s'.os = s₁.os ∧ AllBare s'.gens) s₁) :
 WalkO q loose XP YP l.row.toRowW d [] (fun f vs => PySem.call f vs) := by
 intro w s₀ s₁ mg mb G Y fa o pm cd doc dV kV ho hd hcd hD hmg hg args vals as hpre hlay hrd hwl hlo
 obtain rfl : dV = .none := Dflts.none hD hdf
 obtain rfl : kV = .none := Dflts.noKw hD
 obtain ⟨a, vs, ns, rfl, rfl, hobj, hints, hlen⟩ := script_of hn hpre hwl
 refine enter_call (codeAny_mono (call w s₀ s₁ mg mb fa o pm cd doc a vs ns G Y ho (fd_plain hd) hcd hmg hobj hints hlen hg) fun r s' hq => ?_)
 obtain ⟨rfl, h2, h3, h4⟩ := hq
 exact ⟨.inl ⟨.bool true, .bool true, [], rfl, fun _ => rfl, .bool true, post_true l _, fun _ => ⟨List.Pairwise.nil, fun _ hm => (nomatch hm)⟩⟩, h2, h3, h4⟩
section
variable {prog : Program} {w : World} {A : Around} {E : Value → Shared → Prop} {s : Shared} {K : Frag}
end
end Att
namespace L2
open PySem PySem.Spec PyProof.Rows
theorem vals_ints : ∀ {vs : List Value} {ns : List Int}, IntsAre vs ns → Vals (ns.map V.int) vs
 | _, _, .nil => .nil
 | _, _, .cons n t h => .cons ⟨t, rfl⟩ (vals_ints h)
def Only (H : Hp) : Prop := ∀ b, H b = none ∨ ∃ o xs, H b = some (.frz o (.lst xs))
theorem law_call {P : Program} {w : World} {K : PySem.W.Frag} {mg mb : Str → Option Value} {CX : CXT} {k : Nat} {fa a : Addr} {fd : FuncData} {x : Str} {sp : Sp} {s₁ : Shared} {vs : List Value} {ns : List Int}
 (KX : K.In s₁.heap) (hns : s₁.heap.Ns mainGlobals mg) (hb : s₁.heap.Ns builtinsNs mb) (hbb : ∀ x : Str, x ≠ "__name__" → mb x = bootBuiltins x) (hlim : s₁.heap.NoLimit) (hg : s₁.gens = #[])
 (ha : s₁.heap.get? a = some { cls := .type "list", data := .seq vs.toArray }) (hi : IntsAre vs ns) (hl : ns.length ≤ sizeLine) (hr : Room k callerA)
 (F : ∀ base : Heap, K.In base → base.Ns mainGlobals mg → FnOk P w K mg base CX k fa fd [x] sp) (hbind : ∀ (s : Shared) (u : Value), BindsTo s fd ⟨[u], []⟩ [(x, u)])
 (hsp : ∀ H : Hp, Only H → SqL K H a (ns.map V.int) → sp [.ref a] H (fun v _ => v = .bl true) fun _ _ _ => False)
 (hCX : ∀ H e s', CX [] H s₁ (fun _ _ _ => False) e s' → False) :
 codeAny (model P w) callerA (.call (.ref fa) ⟨[.ref a], []⟩) (fun r s' => r = .ok (.ret (.bool true)) ∧ OldK s₁.heap s'.heap ∧ s'.os = s₁.os ∧ AllBare s'.gens) s₁ := by
 have rv := vals_ints hi
 have lenV := hi.length
 -- from an abstract heap in which nothing but the script may be tracked
 have core : ∀ H : Hp, Only H → SqL K H a (ns.map V.int) → HOk P w H s₁.heap → (∀ b, H b ≠ none → b = a) → (H a ≠ none → K.lookup a = none) →
  codeAny (model P w) callerA (.call (.ref fa) ⟨[.ref a], []⟩) (fun r s' => r = .ok (.ret (.bool true)) ∧ OldK s₁.heap s'.heap ∧ s'.os = s₁.os ∧ AllBare s'.gens) s₁ := by
  intro H hO hS hok hA hK
  have base_of : ∀ {b : Addr} {o : Obj}, s₁.heap.get? b = some o → H b = none → (hidT s₁.heap H).get? b = some o := fun e n => hidT_get e n
  have noA : ∀ {b : Addr} {o : Obj} {es : Array DictEntry} {ep : Nat}, s₁.heap.get? b = some o → o.data = .dict es ep → H b = none := fun {b o es ep} e d => by
   cases q : H b with
   | none => rfl
   | some u =>
    have e' : b = a := hA b (by rw [q]; simp)
    subst e'
    rw [ha] at e; cases e
    have d' : Data.seq vs.toArray _ = Data.dict es ep := d
    cases d'
  have nsK : ∀ {b : Addr} {m : Str → Option Value}, s₁.heap.Ns b m → (hidT s₁.heap H).Ns b m := fun {b m} ⟨o, es, ep, e, d, r⟩ => ⟨o, es, ep, base_of e (noA e d), d, r⟩
  have hKb : K.In (hidT s₁.heap H) := fun b o e => base_of (KX b o e) (by
   cases q : H b with
   | none => rfl
   | some u =>
    have e' : b = a := hA b (by rw [q]; simp)
    subst e'
    rw [hK (by rw [q]; simp)] at e; cases e)
  have hM : Mod K mg (hidT s₁.heap H) := ⟨hKb, nsK hns, ⟨mb, nsK hb, hbb⟩, let ⟨mc, h1, h2⟩ := hlim; ⟨mc, nsK h1, h2⟩⟩
  have e0 : Env0 P w K mg (hidT s₁.heap H) callerA [] s₁ H := ⟨rfl, hM, fun b o e => of_hidT e, Nat.le_of_eq (hidT_size _ _), trivial, fun b hb => absurd (show b ∈ ([] : List Addr) from hb) (by simp), hok, .of_eq hg⟩
  refine codeAny_mono ((F _ hKb (nsK hns)).run callerA [] s₁ H ⟨[.ref a], []⟩ [.ref a] [.ref a] _ _ hr e0 (hbind s₁ (.ref a)) (.cons rfl .nil) (hsp H hO hS)) fun r s' h => ?_
  cases r with
  | error e => exact (hCX H e s' h).elim
  | ok fl =>
   cases fl with
   | next => exact False.elim h
   | brk => exact False.elim h
   | cont => exact False.elim h
   | ret u =>
    obtain ⟨v, H', os, bare, un, hok', r', q⟩ := h
    have q' : v = .bl true := q
    subst q'
    obtain rfl : u = Value.bool true := r'
    refine ⟨rfl, OldK.of_keep fun b o e => ?_, os, bare⟩
    cases q : H b with
    | none => exact un.keep b o e q (by intro z; exact absurd (show b ∈ ([] : List Addr) from z) (by simp)) (by simp)
    | some u =>
     rcases hO b with z | ⟨ob, xs, z⟩
     · rw [q] at z; cases z
     · have z2 := un.frzs b ob _ z
       obtain ⟨e1, _⟩ := hok b _ z
       obtain ⟨e2, _⟩ := hok' b _ z2
       rw [e] at e1; cases e1
       exact e2
 cases hk : K.lookup a with
 | some o =>
  -- the script is one of the module's own objects
  have e := KX a o hk
  rw [ha] at e
  cases e
  refine core (fun _ => none) (fun _ => .inl rfl) (.inr ⟨_, vs.toArray, _, hk, rfl, rfl, rfl, by rw [List.size_toArray, lenV]; exact hl, by simpa using rv⟩) (fun b u z => by have z' : (none : Option HO) = some u := z; cases z') (fun b z => absurd rfl z) fun z => absurd rfl z
 | none =>
  refine core (fun b => if b = a then some (.frz { cls := .type "list", data := .seq vs.toArray } (.lst (ns.map V.int))) else none) (fun b => ?_) (.inl (.inr ⟨{ cls := .type "list", data := .seq vs.toArray }, if_pos rfl⟩)) (fun b u z => ?_) (fun b z => ?_) fun _ => hk
  · by_cases hb : b = a
    · exact .inr ⟨_, _, if_pos hb⟩
    · exact .inl (if_neg hb)
  · by_cases hb : b = a
    · have z' := (if_pos hb).symm.trans z
      cases z'
      subst hb
      exact ⟨ha, by rw [List.length_map]; exact hl, vs, _, rv, ha⟩
    · have z' := (if_neg hb).symm.trans z
      cases z'
  · by_cases hb : b = a
    · exact hb
    · exact absurd (if_neg hb) z
end L2
namespace L2
open PySem PySem.Spec PyProof.Rows
theorem walk_of {l : PySem.W.OpenLaw} {n k : Nat} {q : Program} {loose : List Str} {XP : (Str → Option Value) → Heap → Prop} {YP : World → Heap → Prop} {d : DefRec} {K : Params → PySem.W.Frag} {CX : World → CXT} {sp : World → Sp} {x : Str}
 (hn : l.most = some n) (hn2 : n ≤ sizeLine) (hdf : d.params.defaults = []) (hr : Room k callerA)
 (hY : ∀ (w : World) (h : Heap), YP w h → (K w.params).In h)
 (F : ∀ (w : World) (mg : Str → Option Value) (fa : Addr) (h : Heap), (K w.params).In h → h.Ns mainGlobals mg → mg d.name = some (.ref fa) →
   ∃ fd : FuncData, (∀ (s : Shared) (u : Value), BindsTo s fd ⟨[u], []⟩ [(x, u)]) ∧
    ∀ base : Heap, (K w.params).In base → base.Ns mainGlobals mg → FnOk l.prog w (K w.params) mg base (CX w) k fa fd [x] (sp w))
 (hsp : ∀ (w : World) (H : Hp) (a : Addr) (ns : List Int), ns.length ≤ n → Only H → SqL (K w.params) H a (ns.map V.int) → sp w [.ref a] H (fun v _ => v = .bl true) fun _ _ _ => False)
 (hCX : ∀ (w : World) (H : Hp) (s : Shared) (e : Value) (s' : Shared), CX w [] H s (fun _ _ _ => False) e s' → False) :
 PySem.W.WalkO q loose XP YP l.row.toRowW d [] (fun f vs => PySem.call f vs) := by
 refine Att.attach_call hn hdf fun w s₀ s₁ mg mb fa o pm cd doc a vs ns G Y ho hd hcd hmg hobj hints hlen hg => ?_
 have KX := hY w _ Y
 obtain ⟨fd, hb, hF⟩ := F w mg fa _ KX G.T.g hmg
 exact law_call KX G.T.g G.T.b G.T.builtins G.T.nolimit hg hobj hints (Nat.le_trans hlen hn2) hr hF hb (fun H hO hS => hsp w H a ns hlen hO hS) fun H e s' => hCX w H s₁ e s'
end L2
namespace L2
open PySem PySem.Spec PyProof.Rows
def inClass (s : Stmt) (j : Nat) : Stmt := match s with
 | .ClassDef _ _ _ body _ _ _ _ _ _ _ => body.getD j (.Pass ⟨0, 0, 0, 0⟩)
 | _ => .Pass ⟨0, 0, 0, 0⟩
def defArgs (s : Stmt) : Arguments := match s with
 | .FunctionDef _ a _ _ _ _ _ _ _ _ => a
 | _ => { posonlyargs := [], args := [], vararg := none, kwonlyargs := [], kw_defaults := [], kwarg := none, defaults := [] }
def defBody (s : Stmt) : List Stmt := match s with
 | .FunctionDef _ _ b _ _ _ _ _ _ _ => b
 | _ => []
def defScope (s : Stmt) : Scope := match s with
 | .FunctionDef _ _ _ _ _ _ sc _ _ _ => sc
 | _ => { kind := .function, names := [], isGenerator := false, isCoroutine := false }
abbrev CX0 : CXT := fun _ _ _ _ _ _ => False
abbrev E0 : XK := fun _ _ _ => False
structure Fun (K : PySem.W.Frag) (x qual : Str) (st : Stmt) (f : Addr) (fd : FuncData) : Prop where
 ex : ∃ (oc : Value) (od : Option Addr) (kV doc pm : Value) (an : Option Addr) (cdv ct : Value) (osl : Array (Option Value)),
  fd = PySem.W.fnOf x qual (defArgs st) (defBody st) (defScope st) .none kV doc pm an cdv ct ∧ K.lookup f = some ⟨oc, od, .func fd, osl⟩ ∧ PySem.W.codeIn K cdv qual = true
 kp : PySem.W.keepIn K (.ref f) = true
section
variable {P : Program} {w : World} {K : PySem.W.Frag} {mg : Str → Option Value} {base : Heap}
theorem Fun.ok {x qual : Str} {st : Stmt} {f : Addr} {fd : FuncData} {N ps : List Str} {k : Nat} {sp : Sp} (F : Fun K x qual st f fd) (S : FnScope N ps (defScope st)) (len : ∀ vs H Q E, sp vs H Q E → vs.length = ps.length)
 (hbody : ∀ (cdv : Value) (A : Around) (outer : List Env) (s : Shared) (H : Hp) (vs : List V) (Q : VK) (E : XK), Room k (A.deeper (envOfC qual (defScope st) s.heap.objs.size f cdv)) → sp vs H Q E →
   ∃ t, PSs (cxOf CX0 P w K mg base N qual (defScope st) f cdv A outer s H E).nox (defBody st) t ∧ t { nx := fun _ H' => Q .non H', rt := Q } (start N vs) H) : FnOk P w K mg base CX0 (k + 1) f fd ps sp := by
 obtain ⟨oc, od, kV, doc, pm, an, cdv, ct, osl, rfl, lk, hcd⟩ := F.ex
 refine fn_of lk hcd S len fun A outer s H vs Q E hr hsp => ?_
 obtain ⟨t, h, q⟩ := hbody cdv A outer s H vs Q E hr hsp
 exact ⟨t, h.nox, q⟩
theorem Fun.binds {x qual : Str} {st : Stmt} {f : Addr} {fd : FuncData} {ps : List Str} (F : Fun K x qual st f fd)
 (h : ∀ (kV doc pm : Value) (an : Option Addr) (cdv ct : Value) (us : List Value), us.length = ps.length → bindArgs (PySem.W.fnOf x qual (defArgs st) (defBody st) (defScope st) .none kV doc pm an cdv ct) ⟨us, []⟩ = pure (ps.zip us)) : Binds K fd ps [] := by
 obtain ⟨oc, od, kV, doc, pm, an, cdv, ct, osl, rfl, lk, hcd⟩ := F.ex
 exact .all (h kV doc pm an cdv ct)
theorem fun_mk {x qual : Str} {st : Stmt} {f : Addr} {oc : Value} {od an : Option Addr} {osl : Array (Option Value)} {kV doc pm cdv ct : Value} (l : K.lookup f = some ⟨oc, od, .func (PySem.W.fnOf x qual (defArgs st) (defBody st) (defScope st) .none kV doc pm an cdv ct), osl⟩)
 (c : PySem.W.codeIn K cdv qual = true) (k : PySem.W.keepIn K (.ref f) = true) : Fun K x qual st f (PySem.W.fnOf x qual (defArgs st) (defBody st) (defScope st) .none kV doc pm an cdv ct) := ⟨⟨oc, od, kV, doc, pm, an, cdv, ct, osl, rfl, l, c⟩, k⟩
end
theorem hu_of {A : Around} {k : Nat} (hr : Room k A) : A.units + 1 < cLine := Nat.lt_of_le_of_lt (Nat.add_le_add_left (by decide : 1 ≤ 64) _) hr.units
theorem small1000 {n : Nat} (h : n ≤ 1000) : n < sizeLine := Nat.lt_of_le_of_lt h (by decide)
section
variable {X : Cx}
theorem pv (i : Nat) {x : Str} {pos : Pos} (hN : X.N[i]? = some x := by rfl) (hv : Vis X.env.scope x := by first | exact Or.inl rfl | exact Or.inr (Or.inl rfl) | exact Or.inr (Or.inr rfl)) (hd : (x == ("__debug__" : Str)) = false := by decide)
 (hcd : (x == ("__classdict__" : Str)) = false := by decide) : PE X (.Name x pos) (tVar i) := pe_var hN hv hd hcd
end
def Same (H H' : Hp) : Prop := ∀ b o, H b = some o → H' b = some o
theorem Same.refl (H : Hp) : Same H H := fun _ _ h => h
theorem Same.trans {H H1 H2 : Hp} (a : Same H H1) (b : Same H1 H2) : Same H H2 := fun c o h => b c o (a c o h)
theorem Same.free {H H' : Hp} (e : Same H H') {l : Addr} (h : H' l = Option.none) : H l = Option.none := by
 cases q : H l with
 | none => rfl
 | some o =>
  rw [e l o q] at h
  cases h
theorem Same.seq {K : PySem.W.Frag} {H H' : Hp} {a : Addr} {xs : List V} (e : Same H H') (h : SqL K H a xs) : SqL K H' a xs := by
 rcases h with (h | ⟨o, h⟩) | h
 · exact .inl (.inl (e _ _ h))
 · exact .inl (.inr ⟨o, e _ _ h⟩)
 · exact .inr h
end L2
namespace L2
open PySem PySem.Spec PyProof.Rows
section
variable {κ : Type} [DecidableEq κ]
end
end L2
set_option Elab.async false
set_option linter.all false
set_option maxRecDepth 100000
set_option compiler.extract_closed false
namespace L2
open PySem PySem.Spec PyProof.Rows
def sqOf : Option HO → Option (List V)
 | some (.lst xs) => some xs
 | some (.frz _ (.lst xs)) => some xs
 | some (.tup xs) => some xs
 | _ => none
theorem sqOf_cases {K : PySem.W.Frag} {H : Hp} {p : Addr} {xs : List V} (h : sqOf (H p) = some xs) : SqL K H p xs ∨ SqT K H p xs := by
 cases e : H p with
 | none => rw [e] at h; cases h
 | some o =>
  rw [e] at h
  cases o with
  | lst ys => cases h; exact .inl (.inl (.inl e))
  | tup ys => cases h; exact .inr (.inl (.inl e))
  | frz ob u =>
   cases u with
   | lst ys => cases h; exact .inl (.inl (.inr ⟨ob, e⟩))
   | _ => cases h
  | _ => cases h
def keyV : V → Option Key
 | .int i => some (.inl i)
 | .str x => some (.inr x)
 | _ => none
theorem keyV_eq {y : V} {k : Key} (h : keyV y = some k) : y = kV k := by
 cases y with
 | int i => cases h; rfl
 | str x => cases h; rfl
 | _ => cases h
section
variable {X : Cx} {a b : Expr} {ta tb : TE} {pos : Pos}
def fIx : R2 := fun x y H Q => match x with
 | .ref p => (match sqOf (H p) with
  | some xs => ∃ i v, y = .int i ∧ atI xs i = some v ∧ Q v H
  | none => ∃ kvs k v, H p = some (.dK kvs) ∧ keyV y = some k ∧ valV kvs k = some v ∧ Q v H)
 | .str z => ∃ i c, y = .int i ∧ z.length ≤ sizeLine ∧ atI z.cps.toList i = some c ∧ Q (.str ⟨#[c]⟩) H
 | _ => False
theorem ix_f (hu : X.A.units + 1 < cLine) : IxR X fIx := by
 intro value slice pins s σ H x y v u Q I rx ry h hs
 cases x with
 | ref p =>
  simp only [fIx] at h
  cases e : sqOf (H p) with
  | some xs =>
   rw [e] at h
   obtain ⟨i, z, rfl, hv, q⟩ := h
   rcases sqOf_cases (K := X.K) e with k | k
   · exact ix_list value slice pins s σ H _ _ v u Q I rx ry ⟨p, xs, i, z, rfl, rfl, k, hv, q⟩ hs
   · exact ix_tup value slice pins s σ H _ _ v u Q I rx ry ⟨p, xs, i, z, rfl, rfl, k, hv, q⟩ hs
  | none =>
   rw [e] at h
   obtain ⟨kvs, k, z, hk, ek, hv, q⟩ := h
   obtain rfl := keyV_eq ek
   obtain rfl : v = Value.ref p := rx
   have g : DGet H p (kV k) (some z) := .inl ⟨kvs, k, .inl hk, rfl, hv.symm⟩
   exact tail_any (dict_typeIs I g) PySem.F.slot_dict_getitem.lookup (d_getItem hu I g ry fun w' s3 I3 rw' => ⟨z, H, I3, rw', q⟩) hs
 | str z =>
  obtain ⟨i, c, rfl, hz, hc, q⟩ := h
  exact ix_str value slice pins s σ H _ _ v u Q I rx ry ⟨z, i, c, rfl, rfl, hz, hc, q⟩ hs
 | _ => exact h.elim
theorem pe_idx (hu : X.A.units + 1 < cLine) (ha : PE X a ta) (hb : PE X b tb) (hs : PlainIx b) : PE X (.Subscript a b pos) (tOp fIx ta tb) := pe_ix (ix_f hu) ha hb hs
def fSl : V → Option Int → Option Int → Hp → VK → Prop := fun x lo hi H Q => match x with
 | .ref p => (match H p with
  | some (.tup xs) => ¬ (HT.sIx xs.length 0 lo = 0 ∧ HT.sIx xs.length xs.length hi = xs.length) ∧ ∀ q, H q = none → Q (.ref q) (upd H q (.tup (cutV xs lo hi)))
  | o => ∃ xs, sqOf o = some xs ∧ ∀ q, H q = none → Q (.ref q) (upd H q (.lst (cutV xs lo hi))))
 | _ => False
theorem sl_f : SlR X fSl := by
 intro pins s σ H x v vl vu lo hi sl Q I rx hs pl pu h
 cases x with
 | ref p =>
  simp only [fSl] at h
  split at h
  · rename_i xs e
    exact sl_tup pins s σ H _ v vl vu lo hi sl Q I rx hs pl pu ⟨p, xs, rfl, .inl (.inl e), h.1, h.2⟩
  · rename_i o ne
    obtain ⟨xs, e, q⟩ := h
    rcases sqOf_cases (K := X.K) e with k | k
    · exact sl_list pins s σ H _ v vl vu lo hi sl Q I rx hs pl pu ⟨p, xs, rfl, k, q⟩
    · exfalso
      cases e2 : H p with
      | none => rw [e2] at e; cases e
      | some o =>
       rw [e2] at e
       cases o with
       | tup ys => exact ne ys e2
       | lst ys =>
        obtain ⟨_, its, n, r, hg⟩ := I.hok p _ e2
        obtain ⟨its2, _, ht, _⟩ := I.tuple k
        obtain ⟨ob, h1, h2, _⟩ := ht
        rw [hg] at h1; cases h1; exact absurd (show Value.type "list" = Value.type "tuple" from h2) (by intro z; injection z with z; exact absurd z (by decide))
       | frz ob u =>
        cases u with
        | lst ys =>
         obtain ⟨_, _, its, n, r, hg⟩ := I.hok p _ e2
         obtain ⟨its2, _, ht, _⟩ := I.tuple k
         obtain ⟨ob, h1, h2, _⟩ := ht
         rw [hg] at h1; cases h1; exact absurd (show Value.type "list" = Value.type "tuple" from h2) (by intro z; injection z with z; exact absurd z (by decide))
        | _ => cases e
       | _ => cases e
 | _ => exact h.elim
def fLen : List V → Hp → VK → Prop := fun xs H Q => match xs with
 | [.ref p] => (match sqOf (H p) with
  | some ys => Q (.int ys.length) H
  | none => ∃ kvs, H p = some (.dK kvs) ∧ Q (.int kvs.length) H)
 | [.str z] => z.length ≤ sizeLine ∧ Q (.int z.length) H
 | _ => False
theorem call_len_f : CallR X (.builtin "len") fLen := by
 intro pins s σ H xs us Q I r h
 unfold fLen at h
 split at h
 · rename_i p
   split at h
   · rename_i ys e
     exact call_len_seq pins s σ H _ us Q I r ⟨p, ys, rfl, sqOf_cases e, h⟩
   · obtain ⟨kvs, hk, q⟩ := h
     obtain ⟨u, rfl, ru⟩ := vals1 r
     obtain rfl : u = Value.ref p := ru
     exact d_len I (.inl hk) fun t s' I' => ⟨.int kvs.length, H, I', ⟨t, rfl⟩, q⟩
 · rename_i z
   exact call_len_str pins s σ H _ us Q I r ⟨z, rfl, h.1, h.2⟩
 · exact h.elim
def fList : List V → Hp → VK → Prop := fun xs H Q => ∃ p ys, xs = [.ref p] ∧ sqOf (H p) = some ys ∧ ∀ l, H l = none → Q (.ref l) (upd H l (.lst ys))
theorem call_list_f : CallR X (.type "list") fList := fun pins s σ H xs us Q I r ⟨p, ys, e, h, q⟩ => call_list_of pins s σ H xs us Q I r ⟨p, ys, e, sqOf_cases h, q⟩
def fTuple : List V → Hp → VK → Prop := fun xs H Q => ∃ p, xs = [.ref p] ∧ match H p with
 | some (.tup _) => Q (.ref p) H
 | some (.lst ys) => ∀ l, H l = none → Q (.ref l) (upd H l (.tup ys))
 | _ => False
theorem call_tuple_f : CallR X (.type "tuple") fTuple := by
 intro pins s σ H xs us Q I r h
 obtain ⟨p, rfl, h⟩ := h
 split at h
 · rename_i ys e
   exact call_tuple_of pins s σ H _ us Q I r ⟨p, ys, rfl, .inr ⟨.inl (.inl e), h⟩⟩
 · rename_i ys e
   exact call_tuple_of pins s σ H _ us Q I r ⟨p, ys, rfl, .inl ⟨.inl (.inl e), h⟩⟩
 · exact h.elim
def fIn (neg : Bool) : R2 := fun x y H Q => match y with
 | .ref p => (match sqOf (H p) with
  | some xs => flatV x = true ∧ xs.all flatV = true ∧ Q (.bl (if neg then !inV x xs else inV x xs)) H
  | none => ∃ kvs k, H p = some (.dK kvs) ∧ keyV x = some k ∧ Q (.bl (if neg then !(valV kvs k).isSome else (valV kvs k).isSome)) H)
 | _ => False
def fIs (neg : Bool) : R2 := fun x y H Q => match y with
 | .non => Q (.bl (if neg then !decide (x = .non) else decide (x = .non))) H
 | .bl c => Q (.bl (if neg then !decide (x = .bl c) else decide (x = .bl c))) H
 | _ => False
theorem RelV.bool_iff {x : V} {v : Value} {c : Bool} (r : RelV x v) : (v == Value.bool c) = decide (x = .bl c) := by
 cases x with
 | bl d =>
  cases (show v = Value.bool d from r)
  by_cases e : d = c
  · subst e; simp
  · rw [decide_eq_false (by intro z; injection z with z; exact e z)]
    exact beq_eq_false_iff_ne.mpr (by intro z; injection z with z; exact e z)
 | non => cases (show v = Value.none from r); rfl
 | int _ => obtain ⟨t, rfl⟩ := r; rfl
 | str _ => obtain ⟨t, rfl⟩ := r; rfl
 | byt _ => obtain ⟨t, rfl⟩ := r; rfl
 | flt _ => obtain ⟨t, rfl⟩ := r; rfl
 | ref _ => cases r; rfl
 | ty _ => cases r; rfl
theorem RelV.plain {x : V} {v : Value} {c : Bool} (r : RelV x v) : plainIs v (.bool c) = true := by
 cases x with
 | bl d => cases (show v = Value.bool d from r); rfl
 | non => cases (show v = Value.none from r); rfl
 | int _ => obtain ⟨t, rfl⟩ := r; rfl
 | str _ => obtain ⟨t, rfl⟩ := r; rfl
 | byt _ => obtain ⟨t, rfl⟩ := r; rfl
 | flt _ => obtain ⟨t, rfl⟩ := r; rfl
 | ref _ => cases r; rfl
 | ty _ => cases r; rfl
theorem op_is_f : OpR X (compareOp .Is) (fIs false) := by
 intro pins s σ H x y v u Q I rx ry h
 cases y with
 | non =>
  cases (show u = Value.none from ry)
  exact is_none_gen ⟨.bl _, H, I, by rw [rx.none_iff]; rfl, h⟩
 | bl c =>
  cases (show u = Value.bool c from ry)
  exact wpAny_is_plain rx.plain ⟨.bl _, H, I, by rw [rx.bool_iff]; rfl, h⟩
 | _ => exact h.elim
theorem op_isnot_f : OpR X (compareOp .IsNot) (fIs true) := by
 intro pins s σ H x y v u Q I rx ry h
 cases y with
 | non =>
  cases (show u = Value.none from ry)
  exact isnot_none_gen ⟨.bl _, H, I, by rw [rx.none_iff]; rfl, h⟩
 | bl c =>
  cases (show u = Value.bool c from ry)
  exact wpAny_isNot_plain rx.plain ⟨.bl _, H, I, by rw [rx.bool_iff]; rfl, h⟩
 | _ => exact h.elim
def tyN : V → Hp → Option String
 | .non, _ => some "NoneType"
 | .bl _, _ => some "bool"
 | .int _, _ => some "int"
 | .str _, _ => some "str"
 | .ref p, H => (match H p with
  | some (.lst _) => some "list"
  | some (.frz _ (.lst _)) => some "list"
  | some (.tup _) => some "tuple"
  | some (.dK _) => some "dict"
  | _ => none)
 | _, _ => none
def subT (t c : String) : Bool := t == c || (t == "bool" && c == "int")
def okT (c : String) : Bool := c == "int" || c == "bool" || c == "str" || c == "list" || c == "tuple" || c == "dict"
def fIsi : List V → Hp → VK → Prop := fun xs H Q => ∃ x c t, xs = [x, .ty c] ∧ okT c = true ∧ tyN x H = some t ∧ Q (.bl (subT t c)) H
theorem tyN_of {K : PySem.W.Frag} {H : Hp} {x : V} {t : String} (h : tyN x H = some t) : TyOf K H x (.type t) ∧ (t = "NoneType" ∨ okT t = true) := by
 unfold tyN at h
 split at h
 · cases h; exact ⟨.non, .inl rfl⟩
 · cases h; exact ⟨.bl _, .inr rfl⟩
 · cases h; exact ⟨.int _, .inr rfl⟩
 · cases h; exact ⟨.str _, .inr rfl⟩
 · split at h
   · rename_i e; cases h; exact ⟨.lst e, .inr rfl⟩
   · rename_i e; cases h; exact ⟨.frz e, .inr rfl⟩
   · rename_i e; cases h; exact ⟨.tup e, .inr rfl⟩
   · rename_i e; cases h; exact ⟨.dK e, .inr rfl⟩
   · cases h
 · cases h
end
end L2
namespace L2
open PySem PySem.Spec PyProof.Rows
theorem kit_f (K : PySem.W.Frag) {t c : String} (ht : t = "NoneType" ∨ okT t = true) (hc : okT c = true) : PySem.W.kitOne K (.type t) (.type c) = some (subT t c) := by
 simp only [okT, Bool.or_eq_true, beq_iff_eq] at ht hc
 rcases ht with rfl | ((((rfl | rfl) | rfl) | rfl) | rfl) | rfl <;> rcases hc with ((((rfl | rfl) | rfl) | rfl) | rfl) | rfl <;> first | rfl | (with_unfolding_all rfl) | decide +kernel
section
variable {X : Cx} {a b o e f value : Expr} {ta tb to te tf tv : TE} {pos pos' apos cpos : Pos}
theorem call_isi_f : CallR X (.builtin "isinstance") fIsi := by
 intro pins s σ H xs us Q I r h
 obtain ⟨x, c, t, rfl, hc, ht, q⟩ := h
 obtain ⟨u, w', rfl, ru, rw'⟩ := vals2 r
 obtain rfl : w' = Value.type c := rw'
 obtain ⟨ty, tt⟩ := tyN_of (K := X.K) ht
 exact isinst_ok I ru ty (kit_f X.K tt hc) fun tk => ⟨.bl _, H, I.tok tk, rfl, q⟩
inductive EqH (H : Hp) : V → V → Bool → Prop
 | flat {x y : V} : flatV x = true → flatV y = true → EqH H x y (eqV x y)
 | same {p : Addr} : EqH H (.ref p) (.ref p) true
 | lsts {p q : Addr} {xs ys : List V} (e : Nat → Bool) : p ≠ q → H p = some (.lst xs) → H q = some (.lst ys) → xs.length = ys.length → (∀ j x y, xs[j]? = some x → ys[j]? = some y → EqH H x y (e j)) →
  EqH H (.ref p) (.ref q) ((List.range xs.length).all e)
 | lstsN {p q : Addr} {xs ys : List V} : p ≠ q → H p = some (.lst xs) → H q = some (.lst ys) → xs.length ≠ ys.length → EqH H (.ref p) (.ref q) false
 | tups {p q : Addr} {xs ys : List V} (e : Nat → Bool) : p ≠ q → H p = some (.tup xs) → H q = some (.tup ys) → (∀ j x y, xs[j]? = some x → ys[j]? = some y → EqH H x y (e j)) →
  EqH H (.ref p) (.ref q) ((List.range (min xs.length ys.length)).all e && xs.length == ys.length)
inductive EqHd (H : Hp) : Nat → V → V → Bool → Prop
 | flat {n : Nat} {x y : V} : flatV x = true → flatV y = true → EqHd H n x y (eqV x y)
 | same {n : Nat} {p : Addr} : EqHd H n (.ref p) (.ref p) true
 | lsts {n : Nat} {p q : Addr} {xs ys : List V} (e : Nat → Bool) : p ≠ q → H p = some (.lst xs) → H q = some (.lst ys) → xs.length = ys.length → (∀ j x y, xs[j]? = some x → ys[j]? = some y → EqHd H n x y (e j)) →
  EqHd H (n + 1) (.ref p) (.ref q) ((List.range xs.length).all e)
 | lstsN {n : Nat} {p q : Addr} {xs ys : List V} : p ≠ q → H p = some (.lst xs) → H q = some (.lst ys) → xs.length ≠ ys.length → EqHd H (n + 1) (.ref p) (.ref q) false
 | tups {n : Nat} {p q : Addr} {xs ys : List V} (e : Nat → Bool) : p ≠ q → H p = some (.tup xs) → H q = some (.tup ys) → (∀ j x y, xs[j]? = some x → ys[j]? = some y → EqHd H n x y (e j)) →
  EqHd H (n + 1) (.ref p) (.ref q) ((List.range (min xs.length ys.length)).all e && xs.length == ys.length)
theorem eqAt_of {pins : List (Addr × Obj)} {σ : St} {H : Hp} {s : Shared} (I : Inv X pins σ H s) : ∀ {n : Nat} {x y : V} {k : Bool}, EqHd H n x y k → ∀ {v u : Value} {A : Around}, RelV x v → RelV y u → A.units + n < cLine → SeqAt.EqAt A s v u k := by
 intro n x y k h
 induction h with
 | flat fx fy => intro v u A rx ry _; exact eqAt_V rx ry fx fy
 | @same n p =>
  intro v u A rx ry _
  obtain rfl : v = Value.ref p := rx
  obtain rfl : u = Value.ref p := ry
  exact SeqAt.EqAt.same _
 | @lsts n p q xs ys e ne hp hq hl _ ih =>
  intro v u A rx ry hu
  obtain rfl : v = Value.ref p := rx
  obtain rfl : u = Value.ref q := ry
  obtain ⟨its, r1, p1, _⟩ := I.list (SqL.of (K := X.K) hp)
  obtain ⟨its2, r2, p2, _⟩ := I.list (SqL.of (K := X.K) hq)
  have e1 := r1.length
  have e2 := r2.length
  have z := SeqAt.RcAt.lists (A := A) (e := e) p1.isList p2.isList (by rw [List.size_toArray, List.size_toArray, ← e1, ← e2]; exact hl) (by omega) fun j h1 h2 => by
   rw [List.size_toArray] at h1 h2
   have j1 : j < xs.length := by omega
   have j2 : j < ys.length := by omega
   obtain ⟨u1, g1, q1⟩ := r1.get (List.getElem?_eq_getElem j1)
   obtain ⟨u2, g2, q2⟩ := r2.get (List.getElem?_eq_getElem j2)
   have := ih j _ _ (List.getElem?_eq_getElem j1) (List.getElem?_eq_getElem j2) (A := A.in1) q1 q2 (by show A.units + 1 + n < cLine; omega)
   have k1 : its.toArray[j] = u1 := by simpa [List.getElem?_eq_getElem h1] using g1
   have k2 : its2.toArray[j] = u2 := by simpa [List.getElem?_eq_getElem h2] using g2
   rw [k1, k2]; exact this
  rw [List.size_toArray, ← e1] at z
  exact SeqAt.EqAt.of_refs ne z
 | @lstsN n p q xs ys ne hp hq hl =>
  intro v u A rx ry hu
  obtain rfl : v = Value.ref p := rx
  obtain rfl : u = Value.ref q := ry
  obtain ⟨its, r1, p1, _⟩ := I.list (SqL.of (K := X.K) hp)
  obtain ⟨its2, r2, p2, _⟩ := I.list (SqL.of (K := X.K) hq)
  have e1 := r1.length
  have e2 := r2.length
  exact SeqAt.EqAt.of_refs ne (SeqAt.RcAt.lists_lengths p1.isList p2.isList (by rw [List.size_toArray, List.size_toArray, ← e1, ← e2]; simpa using hl) (by omega))
 | @tups n p q xs ys e ne hp hq _ ih =>
  intro v u A rx ry hu
  obtain rfl : v = Value.ref p := rx
  obtain rfl : u = Value.ref q := ry
  obtain ⟨its, r1, p1, _⟩ := I.tuple (SqT.of (K := X.K) hp)
  obtain ⟨its2, r2, p2, _⟩ := I.tuple (SqT.of (K := X.K) hq)
  have e1 := r1.length
  have e2 := r2.length
  have z := SeqAt.RcAt.tuples (A := A) (e := e) (show s.heap.IsTuple p its.toArray from p1) (show s.heap.IsTuple q its2.toArray from p2) (by omega) fun j h1 h2 => by
   rw [List.size_toArray] at h1 h2
   have j1 : j < xs.length := by omega
   have j2 : j < ys.length := by omega
   obtain ⟨u1, g1, q1⟩ := r1.get (List.getElem?_eq_getElem j1)
   obtain ⟨u2, g2, q2⟩ := r2.get (List.getElem?_eq_getElem j2)
   have := ih j _ _ (List.getElem?_eq_getElem j1) (List.getElem?_eq_getElem j2) (A := A.in1) q1 q2 (by show A.units + 1 + n < cLine; omega)
   have k1 : its.toArray[j] = u1 := by simpa [List.getElem?_eq_getElem h1] using g1
   have k2 : its2.toArray[j] = u2 := by simpa [List.getElem?_eq_getElem h2] using g2
   rw [k1, k2]; exact this
  rw [List.size_toArray, List.size_toArray, ← e1, ← e2] at z
  exact SeqAt.EqAt.of_refs ne z
end
end L2
namespace L2
open PySem PySem.Spec PyProof.Rows
section
variable {X : Cx} {a b o e f value : Expr} {ta tb to te tf tv : TE} {pos pos' apos cpos : Pos}
def EqRef (d : Nat) (H : Hp) (x y : V) (k : Bool) : Prop := ∃ p q, x = .ref p ∧ y = .ref q ∧
 ((∃ xs ys e, H p = some (.lst xs) ∧ H q = some (.lst ys) ∧ xs.length = ys.length ∧ (∀ j u v, xs[j]? = some u → ys[j]? = some v → EqHd H d u v (e j)) ∧ k = (List.range xs.length).all e) ∨
  (∃ xs ys, H p = some (.lst xs) ∧ H q = some (.lst ys) ∧ xs.length ≠ ys.length ∧ k = false) ∨
  (∃ xs ys e, H p = some (.tup xs) ∧ H q = some (.tup ys) ∧ (∀ j u v, xs[j]? = some u → ys[j]? = some v → EqHd H d u v (e j)) ∧ k = ((List.range (min xs.length ys.length)).all e && xs.length == ys.length)))
theorem elems_at {pins : List (Addr × Obj)} {σ : St} {H : Hp} {s : Shared} {d : Nat} {xs ys : List V} {its its2 : List Value} {e : Nat → Bool} {A : Around} (I : Inv X pins σ H s) (r1 : Vals xs its) (r2 : Vals ys its2)
 (he : ∀ j u v, xs[j]? = some u → ys[j]? = some v → EqHd H d u v (e j)) (hu : A.units + 1 + d < cLine) :
 ∀ j (h1 : j < its.toArray.size) (h2 : j < its2.toArray.size), SeqAt.EqAt A.in1 s its.toArray[j] its2.toArray[j] (e j) := fun j h1 h2 => by
 have e1 := r1.length
 have e2 := r2.length
 rw [List.size_toArray] at h1 h2
 have j1 : j < xs.length := by omega
 have j2 : j < ys.length := by omega
 obtain ⟨u1, g1, q1⟩ := r1.get (List.getElem?_eq_getElem j1)
 obtain ⟨u2, g2, q2⟩ := r2.get (List.getElem?_eq_getElem j2)
 have := eqAt_of I (he j _ _ (List.getElem?_eq_getElem j1) (List.getElem?_eq_getElem j2)) (A := A.in1) q1 q2 (by show A.units + 1 + d < cLine; omega)
 have k1 : its.toArray[j] = u1 := by simpa [List.getElem?_eq_getElem h1] using g1
 have k2 : its2.toArray[j] = u2 := by simpa [List.getElem?_eq_getElem h2] using g2
 rw [k1, k2]; exact this
def fEq (d : Nat) : R2 := fun x y H Q => if scal x y = true then Q (.bl (decide (x = y))) H else ∃ k, EqRef d H x y k ∧ Q (.bl k) H
def fNe (d : Nat) : R2 := fun x y H Q => if scal x y = true then Q (.bl (!decide (x = y))) H else ∃ k, EqRef d H x y k ∧ Q (.bl (!k)) H
theorem op_eq_f {d : Nat} (hu : X.A.units + 1 + d < cLine) : OpR X (compareOp .Eq) (fEq d) := by
 intro pins s σ H x y v u Q I rx ry h
 unfold fEq at h
 split at h
 · rename_i hs
   exact op_eq pins s σ H x y v u Q I rx ry ⟨hs, h⟩
 · obtain ⟨k, ⟨p, q, rfl, rfl, c⟩, hq⟩ := h
   obtain rfl : v = Value.ref p := rx
   obtain rfl : u = Value.ref q := ry
   rcases c with ⟨xs, ys, e, h1, h2, hl, he, rfl⟩ | ⟨xs, ys, h1, h2, hl, rfl⟩ | ⟨xs, ys, e, h1, h2, he, rfl⟩
   · obtain ⟨its, r1, p1, _⟩ := I.list (SqL.of (K := X.K) h1)
     obtain ⟨its2, r2, p2, _⟩ := I.list (SqL.of (K := X.K) h2)
     have e1 := r1.length
     have e2 := r2.length
     refine SeqAt.eq_listAt (e := e) p1.isList p2.isList (by rw [List.size_toArray, List.size_toArray, ← e1, ← e2]; exact hl) (by omega) (elems_at I r1 r2 he hu) ⟨.bl _, H, I, ?_, hq⟩
     rw [List.size_toArray, ← e1]; rfl
   · obtain ⟨its, r1, p1, _⟩ := I.list (SqL.of (K := X.K) h1)
     obtain ⟨its2, r2, p2, _⟩ := I.list (SqL.of (K := X.K) h2)
     have e1 := r1.length
     have e2 := r2.length
     exact SeqAt.eq_list_lengthsAt p1.isList p2.isList (by rw [List.size_toArray, List.size_toArray, ← e1, ← e2]; simpa using hl) (by omega) ⟨.bl _, H, I, rfl, hq⟩
   · obtain ⟨its, r1, p1, _⟩ := I.tuple (SqT.of (K := X.K) h1)
     obtain ⟨its2, r2, p2, _⟩ := I.tuple (SqT.of (K := X.K) h2)
     have e1 := r1.length
     have e2 := r2.length
     refine SeqAt.eq_tupleAt (e := e) (show s.heap.IsTuple p its.toArray from p1) (show s.heap.IsTuple q its2.toArray from p2) (by omega) (elems_at I r1 r2 he hu) ⟨.bl _, H, I, ?_, hq⟩
     rw [List.size_toArray, List.size_toArray, ← e1, ← e2]; rfl
theorem op_ne_f {d : Nat} (hu : X.A.units + 1 + d < cLine) : OpR X (compareOp .NotEq) (fNe d) := by
 intro pins s σ H x y v u Q I rx ry h
 unfold fNe at h
 split at h
 · rename_i hs
   exact op_ne pins s σ H x y v u Q I rx ry ⟨hs, h⟩
 · obtain ⟨k, ⟨p, q, rfl, rfl, c⟩, hq⟩ := h
   obtain rfl : v = Value.ref p := rx
   obtain rfl : u = Value.ref q := ry
   rcases c with ⟨xs, ys, e, h1, h2, hl, he, rfl⟩ | ⟨xs, ys, h1, h2, hl, rfl⟩ | ⟨xs, ys, e, h1, h2, he, rfl⟩
   · obtain ⟨its, r1, p1, _⟩ := I.list (SqL.of (K := X.K) h1)
     obtain ⟨its2, r2, p2, _⟩ := I.list (SqL.of (K := X.K) h2)
     have e1 := r1.length
     have e2 := r2.length
     refine EqBoolInt.of_rcne (SeqAt.RcNeAt.lists (e := e) p1.isList p2.isList (by rw [List.size_toArray, List.size_toArray, ← e1, ← e2]; exact hl) (by omega) (elems_at I r1 r2 he hu)) ⟨.bl _, H, I, ?_, hq⟩
     rw [List.size_toArray, ← e1]; rfl
   · obtain ⟨its, r1, p1, _⟩ := I.list (SqL.of (K := X.K) h1)
     obtain ⟨its2, r2, p2, _⟩ := I.list (SqL.of (K := X.K) h2)
     have e1 := r1.length
     have e2 := r2.length
     exact EqBoolInt.of_rcne (SeqAt.RcNeAt.lists_lengths p1.isList p2.isList (by rw [List.size_toArray, List.size_toArray, ← e1, ← e2]; simpa using hl) (by omega)) ⟨.bl _, H, I, rfl, hq⟩
   · obtain ⟨its, r1, p1, _⟩ := I.tuple (SqT.of (K := X.K) h1)
     obtain ⟨its2, r2, p2, _⟩ := I.tuple (SqT.of (K := X.K) h2)
     have e1 := r1.length
     have e2 := r2.length
     refine EqBoolInt.of_rcne (SeqAt.RcNeAt.tuples (e := e) (show s.heap.IsTuple p its.toArray from p1) (show s.heap.IsTuple q its2.toArray from p2) (by omega) (elems_at I r1 r2 he hu)) ⟨.bl _, H, I, ?_, hq⟩
     rw [List.size_toArray, List.size_toArray, ← e1, ← e2]; rfl
def NewTup (H : Hp) (q : Addr) (xs : List V) (H' : Hp) : Prop := (H' = H ∧ H q = some (.tup xs)) ∨ (H q = none ∧ H' = upd H q (.tup xs))
theorem NewTup.at {H H' : Hp} {q : Addr} {xs : List V} (h : NewTup H q xs H') : H' q = some (.tup xs) := by
 rcases h with ⟨rfl, h⟩ | ⟨_, rfl⟩
 · exact h
 · exact upd_same
theorem NewTup.same {H H' : Hp} {q : Addr} {xs : List V} (h : NewTup H q xs H') : Same H H' := by
 rcases h with ⟨rfl, h⟩ | ⟨n, rfl⟩
 · exact Same.refl _
 · exact fun b o e => by rw [upd_ne (ne_of_none e n)]; exact e
theorem cat_tup0 {prog : Program} {w : World} {A : Around} {E : Value → Shared → Prop} {s : Shared} {t b : Addr} {ws : List Value} {Q : Value → Shared → Prop} (ht : IsTup s.heap t ([] : List Value).toArray) (hb : IsTup s.heap b ws.toArray)
 (h1 : Q (.ref b) s) : wpAny (model prog w) A (binaryOp .Add (.ref t) (.ref b)) Q E s := by
 obtain ⟨⟨cls, dd, data, sl⟩, ho, hc, n, hd⟩ := id ht
 obtain ⟨⟨cls2, dd2, data2, sl2⟩, ho2, hc2, n2, hd2⟩ := id hb
 simp only at hc hd hc2 hd2
 subst hc hd hc2 hd2
 exact concat_meets ⟨_, ho, rfl⟩ ⟨_, ho2, rfl⟩ noFill_tuple_add seq_tuple_add PySem.F.slot_tuple_add PySem.F.entry_tuple_add (PySem.F.args_tuple_add_2 _ _)
  (tuple_addW0 t b ([] : List Value).toArray ws.toArray n n2 dd dd2 sl sl2 (by simp)) ⟨ho, ho2, h1⟩
def fAdd : R2 := fun x y H Q => match x with
 | .int i => ∃ j, y = .int j ∧ Q (.int (i + j)) H
 | .str z => ∃ z', y = .str z' ∧ z.length + z'.length ≤ sizeLine ∧ Q (.str (z ++ z')) H
 | .ref p => ∃ q, y = .ref q ∧ ((∃ xs ys, H p = some (.lst xs) ∧ H q = some (.lst ys) ∧ xs.length + ys.length ≤ sizeLine ∧ ∀ l, H l = none → Q (.ref l) (upd H l (.lst (xs ++ ys)))) ∨
  (∃ xs ys, H p = some (.tup xs) ∧ H q = some (.tup ys) ∧ xs.length + ys.length ≤ sizeLine ∧ ∀ l H', NewTup H l (xs ++ ys) H' → Q (.ref l) H'))
 | _ => False
theorem op_add_f : OpR X (binaryOp .Add) fAdd := by
 intro pins s σ H x y v u Q I rx ry h
 cases x with
 | int i =>
  obtain ⟨j, rfl, q⟩ := h
  exact op_add pins s σ H _ _ v u Q I rx ry ⟨i, j, rfl, rfl, q⟩
 | str z =>
  obtain ⟨z', rfl, hz, q⟩ := h
  exact op_add_str pins s σ H _ _ v u Q I rx ry ⟨z, z', rfl, rfl, hz, q⟩
 | ref p =>
  obtain ⟨q, rfl, c⟩ := h
  rcases c with ⟨xs, ys, h1, h2, hz, k⟩ | ⟨xs, ys, h1, h2, hz, k⟩
  · exact op_cat pins s σ H _ _ v u Q I rx ry ⟨p, q, xs, ys, rfl, rfl, h1, h2, hz, k⟩
  · by_cases hx : xs = []
    · subst hx
      obtain rfl : v = Value.ref p := rx
      obtain rfl : u = Value.ref q := ry
      obtain ⟨its, r1, p1, _⟩ := I.tuple (SqT.of (K := X.K) h1)
      obtain ⟨its2, r2, p2, _⟩ := I.tuple (SqT.of (K := X.K) h2)
      obtain rfl : its = [] := r1.zero
      exact cat_tup0 p1 p2 ⟨.ref q, H, I, rfl, k q H (.inl ⟨rfl, h2⟩)⟩
    · refine op_catT pins s σ H _ _ v u Q I rx ry ⟨p, q, xs, ys, rfl, rfl, .inl (.inl h1), .inl (.inl h2), hx, hz, fun e => ?_, fun _ l hl => k l _ (.inr ⟨hl, rfl⟩)⟩
      subst e
      exact k p H (.inl ⟨rfl, by rw [List.append_nil]; exact h1⟩)
 | _ => exact h.elim
def fMul : R2 := fun x y H Q => match x with
 | .int i => ∃ j, y = .int j ∧ CMul i j ∧ Q (.int (i * j)) H
 | .ref p => ∃ k xs, y = .int k ∧ H p = some (.lst xs) ∧ (-(2 ^ 63) ≤ k ∧ k < 2 ^ 63) ∧ xs.length * k.toNat ≤ sizeLine ∧ ∀ l, H l = none → Q (.ref l) (upd H l (.lst (List.replicate k.toNat xs).flatten))
 | _ => False
theorem op_mul_f : OpR X (binaryOp .Mult) fMul := by
 intro pins s σ H x y v u Q I rx ry h
 cases x with
 | int i =>
  obtain ⟨j, rfl, c, q⟩ := h
  exact op_mul pins s σ H _ _ v u Q I rx ry ⟨i, j, rfl, rfl, c, q⟩
 | ref p =>
  obtain ⟨k, xs, rfl, h1, ⟨h2, h3⟩, hz, q⟩ := h
  exact op_rep pins s σ H _ _ v u Q I rx ry ⟨p, k, xs, rfl, rfl, h1, h2, h3, hz, q⟩
 | _ => exact h.elim
def fSet : TSet := fun o i v H Q => match o with
 | .ref p => (∃ xs k j, H p = some (.lst xs) ∧ i = .int k ∧ ixN xs.length k = some j ∧ Q (upd H p (.lst (xs.set j v)))) ∨
  (∃ kvs k, H p = some (.dK kvs) ∧ keyV i = some k ∧ kvs.length < sizeLine ∧ Q (upd H p (.dK (putK kvs k v))))
 | _ => False
theorem set_f (hu : X.A.units + 1 < cLine) : PSet X fSet := by
 intro pins s σ H o i v ov iv u Q I ro ri rv h
 cases o with
 | ref p =>
  rcases h with ⟨xs, k, j, h1, rfl, hj, q⟩ | ⟨kvs, k, h1, ek, hz, q⟩
  · exact set_list pins s σ H _ _ v ov iv u Q I ro ri rv ⟨p, xs, k, j, rfl, rfl, h1, hj, q⟩
  · obtain rfl := keyV_eq ek
    obtain rfl : ov = Value.ref p := ro
    exact d_setItem hu I (.inl ⟨kvs, k, h1, rfl, hz, rfl⟩) ri rv fun s' I' => ⟨_, I', q⟩
 | _ => exact h.elim
def isLst (x : V) (H : Hp) : Prop := ∃ p xs, x = .ref p ∧ H p = some (.lst xs)
def isDct (x : V) (H : Hp) : Prop := ∃ p kvs, x = .ref p ∧ H p = some (.dK kvs)
theorem isLst.ty {K : PySem.W.Frag} {x : V} {H : Hp} (h : isLst x H) : tyV K "list" x H := by
 obtain ⟨p, xs, rfl, e⟩ := h
 exact .inl ⟨rfl, xs, SqL.of e⟩
theorem isDct.ty {K : PySem.W.Frag} {x : V} {H : Hp} (h : isDct x H) : tyV K "dict" x H := by
 obtain ⟨p, kvs, rfl, e⟩ := h
 exact .inr (.inr (.inl ⟨rfl, .inl ⟨kvs, e⟩⟩))
def tBMf (c : V → Hp → Prop) (r : V → List V → Hp → VK → Prop) (to : TE) (t : TA) : TE := fun σ H Q => to σ H fun x H1 => c x H1 ∧ t σ H1 fun xs H2 => r x xs H2 Q
def tBMf0 (c : V → Hp → Prop) (r : V → List V → Hp → VK → Prop) (to : TE) : TE := fun σ H Q => to σ H fun x H1 => c x H1 ∧ r x [] H1 Q
variable {es : List Expr} {t : TA} {name : Str} {T id : String} {r : V → List V → Hp → VK → Prop} {c : V → Hp → Prop}
theorem pe_bmf (hc : ∀ x H, c x H → tyV X.K T x H) (pa : PlainAttrs T) (slot : Slot T name id) (hty : typeOf (.builtin id) = pure (.type "method_descriptor")) (hm : MtM X id r) (ho : PE X o to) (ha : PA X (e :: es) t)
 (hbase : attributeBase o name X.env (eval o X.env) = eval o X.env := by rfl)
 (hfew : ((backTo cpos (starEach (e :: es) X.env)).all (fun x => !x.1) && (backToKw cpos (keywordEach [] X.env)).all (fun x => x.1.isSome)
   && decide ((e :: es).length + ([] : List Keyword).length + (if ([] : List Keyword).isEmpty then 0 else 1) < 30)) = true := by rfl)
 (hline : (apos.endLine == cpos.line) = true := by rfl) (hs : starEach (e :: es) X.env = (false, eval e X.env) :: starEach es X.env := by rfl) (hplain : (backTo cpos (starEach es X.env)).any (·.1) = false := by rfl) :
 PE X (.Call (.Attribute o name apos) (e :: es) [] cpos) (tBMf c r to t) := by
 intro pins s σ H Q I h
 refine wpAny_Call_method_late hbase hfew hline rfl (thn (ho pins s σ H _ I h) fun v s1 ⟨x, H1, I1, r1, ty, q1⟩ => ?_)
 obtain ⟨h1, h2⟩ := tyV_is I1 r1 (hc _ _ ty)
 refine ⟨T, id, pa, slot, hty, h1, h2, ?_⟩
 have hA := ha cpos pins s1 σ H1 _ I1 q1
 rw [hs] at hA ⊢
 refine Calls.callWith_builtin (by show (false || (backTo cpos (starEach es X.env)).any (·.1)) = false; rw [hplain] <;> rfl) (Calls.evalArgs_plain ?_)
 exact thn hA fun us s2 ⟨vs, H2, I2, r2, q2⟩ => hm pins s2 σ H2 x vs v us Q I2 r1 r2 q2
theorem pe_append (ho : PE X o to) (he : PE X e te)
 (hbase : attributeBase o "append" X.env (eval o X.env) = eval o X.env := by rfl)
 (hfew : ((backTo cpos (starEach [e] X.env)).all (fun x => !x.1) && (backToKw cpos (keywordEach [] X.env)).all (fun x => x.1.isSome)
   && decide (([e] : List Expr).length + ([] : List Keyword).length + (if ([] : List Keyword).isEmpty then 0 else 1) < 30)) = true := by rfl)
 (hline : (apos.endLine == cpos.line) = true := by rfl) (hs : starEach [e] X.env = (false, eval e X.env) :: starEach [] X.env := by rfl) (hplain : (backTo cpos (starEach [] X.env)).any (·.1) = false := by rfl) :
 PE X (.Call (.Attribute o "append" apos) [e] [] cpos) (tBMf isLst rAppend to (tCons te tNil)) :=
 pe_bmf (fun _ _ h => h.ty) PySem.F.plainAttrs_list PySem.F.slot_list_append PySem.F.type_list_append mt_append ho (pa_cons he pa_nil hs) hbase hfew hline hs hplain
def rGet2 : V → List V → Hp → VK → Prop := fun x vs H Q => ∃ p kvs y z k, x = .ref p ∧ vs = [y, z] ∧ H p = some (.dK kvs) ∧ keyV y = some k ∧ Q ((valV kvs k).getD z) H
def iSeq (K : PySem.W.Frag) (tl : TE) : TI := fun σ H R => tl σ H fun x H1 => ∃ p, x = .ref p ∧ match H1 p with
 | some (.tup _) => R (Itt K p) H1
 | o => ∃ xs, sqOf o = some xs ∧ R (Itl K p) H1
theorem pi_seq {tg l : Expr} {tl : TE} (hl : PE X l tl) : PI X tg l (iSeq X.K tl) := by
 intro pins s σ H R I h
 refine thn (hl pins s σ H _ I h) fun v s1 ⟨x, H1, I1, r1, p, ex, q1⟩ => ?_
 subst ex
 obtain rfl : v = Value.ref p := r1
 split at q1
 · rename_i xs e
   obtain ⟨its, rv, pt, hz⟩ := I1.tuple (SqT.of (K := X.K) e)
   refine wpAny_pyIter_tuple (show s1.heap.IsTuple p its.toArray from pt) ?_
   refine ⟨s1.heap.objs.size, [s1.heap.objs.size], _, _, H1, rfl, I1.kept (t' := s1.toks) fun b o e => Heap.get?_push_of_some _ e, turn_tuple p _, ⟨_, Heap.get?_push_size _ rfl, rfl, rfl⟩, fun b hb => ?_, q1⟩
   have e : b = s1.heap.objs.size := by simpa using hb
   subst e
   exact I1.fpOk (Nat.le_refl _) (I1.hok.fresh (Nat.le_refl _))
 · rename_i o ne
   obtain ⟨xs, e, q⟩ := q1
   have k : SqL X.K H1 p xs := by
    rcases sqOf_cases (K := X.K) e with k | k
    · exact k
    · cases e2 : H1 p with
      | none => rw [e2] at e; cases e
      | some o =>
       rw [e2] at e
       cases o with
       | tup ys => exact absurd e2 (ne ys)
       | lst ys => cases e; exact .inl (.inl e2)
       | frz ob u =>
        cases u with
        | lst ys => cases e; exact .inl (.inr ⟨ob, e2⟩)
        | _ => cases e
       | _ => cases e
   obtain ⟨its, rv, pt, hz⟩ := I1.list k
   refine wpAny_pyIter_list pt.isList ?_
   refine ⟨s1.heap.objs.size, [s1.heap.objs.size], _, _, H1, rfl, I1.kept (t' := s1.toks) fun b o e => Heap.get?_push_of_some _ e, turn_list p _, ⟨_, Heap.get?_push_size _ rfl, rfl, rfl⟩, fun b hb => ?_, q⟩
   have e : b = s1.heap.objs.size := by simpa using hb
   subst e
   exact I1.fpOk (Nat.le_refl _) (I1.hok.fresh (Nat.le_refl _))
end
theorem for_seq {K : PySem.W.Frag} {p : Addr} {xs : List V} {g : TG} {tb : TS} {D : Ends} {σ : St} {H : Hp} (hx : sqOf (H p) = some xs) (Pv : Nat → St → Hp → Prop) (h0 : Pv 0 σ H) (hl : ∀ i σ H', i ≤ xs.length → Pv i σ H' → H' p = H p)
 (hs : ∀ i x σ H, xs[i]? = some x → Pv i σ H → g x σ H fun σ2 H2 => tb { D with nx := Pv (i + 1), ct := Pv (i + 1), bk := D.nx } σ2 H2) (hd : ∀ σ H, Pv xs.length σ H → D.nx σ H) :
 match H p with
 | some (.tup _) => ∃ W : Nat → Nat → St → Hp → Prop, (∃ m, W 0 m σ H) ∧ ∀ i m σ H, W i m σ H →
  ((Itt K p).stop i H ∧ D.nx σ H) ∨ ((Itt K p).go i H ∧ ∃ N : St → Hp → Prop, (∀ σ' H', N σ' H' → ∃ m', m' < m ∧ W (i + 1) m' σ' H') ∧ ∀ x H', (Itt K p).yld i H x H' → g x σ H' fun σ2 H2 => tb { D with nx := N, ct := N, bk := D.nx } σ2 H2)
 | o => ∃ ys, sqOf o = some ys ∧ ∃ W : Nat → Nat → St → Hp → Prop, (∃ m, W 0 m σ H) ∧ ∀ i m σ H, W i m σ H →
  ((Itl K p).stop i H ∧ D.nx σ H) ∨ ((Itl K p).go i H ∧ ∃ N : St → Hp → Prop, (∀ σ' H', N σ' H' → ∃ m', m' < m ∧ W (i + 1) m' σ' H') ∧ ∀ x H', (Itl K p).yld i H x H' → g x σ H' fun σ2 H2 => tb { D with nx := N, ct := N, bk := D.nx } σ2 H2) := by
 split
 · rename_i ys e
   rw [e] at hx
   cases hx
   exact for_tup (xs := xs) Pv h0 (fun i σ' H' hi h => SqT.of ((hl i σ' H' hi h).trans e)) hs hd
 · rename_i o ne
   refine ⟨xs, hx, for_list (xs := xs) Pv h0 (fun i σ' H' hi h => ?_) hs hd⟩
   have k := hl i σ' H' hi h
   have hx' : sqOf (H' p) = some xs := by rw [k]; exact hx
   cases e2 : H p with
   | none => rw [e2] at hx; cases hx
   | some o =>
    rw [e2] at hx
    cases o with
    | tup ys => exact absurd e2 (ne ys)
    | lst ys => cases hx; exact .inl (.inl (k.trans e2))
    | frz ob u =>
     cases u with
     | lst ys => cases hx; exact .inl (.inr ⟨ob, k.trans e2⟩)
     | _ => cases hx
    | _ => cases hx
end L2
namespace L2
open PySem PySem.Spec PyProof.Rows
def blk (X : Cx) (pins : List (Addr × Obj)) (scope : Scope) (cl : List (Str × Addr)) (C : Addr) (s : Shared) (H : Hp) (fp : List Addr) : Cx :=
 { X with s₀ := s, H₀ := H, env := compEnvC scope cl C X.env, outer := X.stack, ex := fp, fn := fun _ => false, pn := X.pn ++ pins, xe := fun _ _ => False }
structure CompScope (X : Cx) (scope : Scope) (cl : List (Str × Addr)) (x : Str) : Prop where
 clos : closureFor scope X.env = pure cl
 nocell : ∀ y ∈ scope.names, y.2 ≠ .cell
 kind : scope.kind = .function
 names : ∀ y ∈ scope.names, y.2 = .local → scope.names.lookup y.1 = some .local
 var : scope.names.lookup x = some .local
 sub : ∀ y c, cl.lookup y = some c → X.env.cells.lookup y = some c
 has : ∀ y, ((relabel scope X.env).names.lookup y = some .cell ∨ (relabel scope X.env).names.lookup y = some .free) →
  (∃ c, cl.lookup y = some c) ∧ (X.env.kindOf y = some .cell ∨ X.env.kindOf y = some .free)
 loc : ∀ y, (relabel scope X.env).names.lookup y = some .local → y = x ∨ y ∉ X.N
section
variable {X : Cx} {pins : List (Addr × Obj)} {σ : St} {H : Hp} {s : Shared} {scope : Scope} {cl : List (Str × Addr)} {x : Str} {fp : List Addr} {i : Nat}
theorem blk_ok (S : CompScope X scope cl x) (I : Inv X pins σ H s) (hf : ∀ b ∈ fp, FpOk X pins H b) (ho : ∀ b ∈ fp, ∃ o, s.heap.get? b = some o) {C : Addr} (hC : s.heap.objs.size ≤ C) :
 (blk X pins scope cl C s H fp).Ok where
 mod := I.ok.mod
 kind := by show (relabel scope X.env).kind = _; exact S.kind
 glob := I.ok.glob
 blt := I.ok.blt
 above := hC
 inj := fun y z c h1 h2 => I.ok.inj y z c (S.sub y c h1) (S.sub z c h2)
 has := fun y hy => (S.has y hy).1
 cab := fun y c h _ => nomatch h
 hd := I.ok.hd
 frames := I.ok.frames
 stk := .inl rfl
 exf := fun b hb => by
  obtain ⟨o, e⟩ := ho b hb
  exact ⟨Nat.ne_of_lt (Nat.lt_of_lt_of_le (Heap.lt_size e) hC), fun y c e2 => (hf b hb).2.2.2.2.1 y c (S.sub y c e2)⟩
 bs := I.bs
 bsz := Nat.le_trans I.ok.bsz I.sz
 noex := fun b o e hb => by
  rcases (hf b hb).2.2.2.1 with z | z
  · exact I.ok.noex b o e z
  · exact absurd (Nat.lt_of_lt_of_le (Nat.lt_of_lt_of_le (Heap.lt_size e) I.ok.bsz) z) (Nat.lt_irrefl _)
 exfs := fun b hb z => (List.mem_cons.mp (I.stkSub b z)).elim (fun q => (hf b hb).2.1 q) (fun q => (hf b hb).2.2.1 q)
 funs := I.stack
 frf := I.stkFree
theorem blk_start (S : CompScope X scope cl x) (hN : X.N.Nodup) (hi : X.N[i]? = some x) (I : Inv X pins σ H s) (hf : ∀ b ∈ fp, FpOk X pins H b) (ho : ∀ b ∈ fp, ∃ o, s.heap.get? b = some o)
 {C D : Addr} {h' : Heap} {t' : Nat} {m : Str → Option Value} (hD : s.heap.objs.size ≤ D) (hC : s.heap.objs.size ≤ C) (hDC : C ≠ D) (k : ∀ b u, s.heap.get? b = some u → h'.get? b = some u) (hn : h'.Ns C m)
 (new : ObjOk X.prog X.w (upd H D (.lst [])) h' D (.lst [])) :
 Inv (blk X pins scope cl C s H fp) [] (σ.set i none) (upd H D (.lst [])) { s with heap := h', toks := t' } := by
 have hDn : H D = none := I.hok.fresh hD
 have ltD : ∀ b o, s.heap.get? b = some o → b ≠ D := fun b o e => Nat.ne_of_lt (Nat.lt_of_lt_of_le (Heap.lt_size e) hD)
 have ltC : ∀ b o, s.heap.get? b = some o → b ≠ C := fun b o e => Nat.ne_of_lt (Nat.lt_of_lt_of_le (Heap.lt_size e) hC)
 refine ⟨blk_ok S I hf ho hC, rfl, I.bare, Un.laid k hD hDn, ⟨m, hn, fun j y v h1 h2 h3 => ?_⟩, fun y c e => ?_, ?_, fun y c e => ?_, fun p hp => ?_, I.hok.laid k hD new, ?_⟩
 · have hj : j ≠ i := fun e => by
    subst e
    rw [List.getElem?_set_self' ] at h2
    cases q : σ[j]? with
    | none => rw [q] at h2; simp at h2
    | some a => rw [q] at h2; simp at h2
   have hv : σ[j]? = some (some v) := by rw [List.getElem?_set_ne (Ne.symm hj)] at h2; exact h2
   have hyx : y ≠ x := fun e => hj (nodup_ix hN (by rw [e] at h1; exact h1) hi)
   have nl : (relabel scope X.env).names.lookup y ≠ some .local := fun q => by
    rcases S.loc y q with z | z
    · exact hyx z
    · exact z (List.mem_of_getElem? h1)
   have hk : (relabel scope X.env).names.lookup y = some .cell ∨ (relabel scope X.env).names.lookup y = some .free := by
    rcases h3 with q | q | q
    · exact absurd q nl
    · exact .inl q
    · exact .inr q
   obtain ⟨⟨c, hc⟩, hko⟩ := S.has y hk
   obtain ⟨m0, hn0, hl0⟩ := I.loc
   have vis : Vis X.env.scope y := by
    rcases hko with q | q
    · exact .inr (.inl q)
    · exact .inr (.inr q)
   obtain ⟨u, r, l⟩ := hl0 j y v h1 hv vis
   refine ⟨u, r, .inr ⟨hk, c, hc, ?_⟩⟩
   rcases l with ⟨q, _⟩ | ⟨_, c', hc', o, ho, hd⟩
   · rcases hko with z | z <;> (rw [q] at z; cases z)
   · have e := S.sub y c hc
     rw [hc'] at e; cases e
     exact ⟨o, k _ o ho, hd⟩
 · obtain ⟨v, o, ho, hd⟩ := I.cell y c (S.sub y c e)
   exact ⟨v, o, k _ o ho, hd⟩
 · show upd H D (.lst []) C = none
   rw [upd_ne hDC]
   exact I.hok.fresh hC
 · show upd H D (.lst []) c = none
   obtain ⟨v, o, ho, hd⟩ := I.cell y c (S.sub y c e)
   rw [upd_ne (ltD c o ho)]
   exact I.freeC y c (S.sub y c e)
 · have hp' : p ∈ X.pn ++ pins := by simpa [blk] using hp
   obtain ⟨e, n, ne, nf, d⟩ := I.pin p hp'
   refine ⟨k _ _ e, ?_, ltC _ _ e, fun z => (List.mem_cons.mp (I.stkSub _ z)).elim ne nf, d⟩
   show upd H D (.lst []) p.1 = none
   rw [upd_ne (ltD _ _ e)]
   exact n
 · show (σ.set i none).length = X.N.length
   rw [List.length_set]; exact I.len
theorem blk_end {H' : Hp} {s' : Shared} {C : Addr} {h' : Heap} {σ' : St} (I : Inv X pins σ H s) (hf : ∀ b ∈ fp, FpOk X pins H b) (hC : s.heap.objs.size ≤ C)
 (J : Inv (blk X pins scope cl C s H fp) [] σ' H' s') (sb : Heap.SameBut C s'.heap h') : Inv X pins σ H' { s' with heap := h' } := by
 have hCn : H' C = none := J.free
 have nC : ∀ b o, s.heap.get? b = some o → b ≠ C := fun b o e => Nat.ne_of_lt (Nat.lt_of_lt_of_le (Heap.lt_size e) hC)
 have kp : ∀ b, b ≠ C → h'.get? b = s'.heap.get? b := fun b hb => sb.2 b hb
 have u := J.base
 refine I.call' (s' := { s' with heap := h' }) (ch := fp) J.os ?_ ?_ J.bare fun b hb => ⟨(hf b hb).2.2.2.1, (hf b hb).2.1, (hf b hb).2.2.2.2.1, (hf b hb).2.2.2.2.2⟩
 · refine ⟨fun b o e n hb hx => ?_, fun b o e n hb hx => ?_, u.free, fun b o e hx => ?_, u.tups, u.frzs, u.tbls⟩
   · show h'.get? b = _
     rw [kp b (nC b o e)]; exact u.keep b o e n hb hx
   · obtain ⟨sl, q⟩ := u.slot b o e n hb hx
     exact ⟨sl, by show h'.get? b = _; rw [kp b (nC b o e)]; exact q⟩
   · obtain ⟨o', q⟩ := u.there b o e hx
     exact ⟨o', by show h'.get? b = _; rw [kp b (nC b o e)]; exact q⟩
 · intro a o e
   refine (J.hok a o e).stay (fun b v hb q => ?_) (fun _ q => q) fun _ _ q => q
   show h'.get? b = _
   rw [kp b ?_]
   · exact q
   · rintro rfl
     rcases hb with z | z
     · rw [← z] at e; rw [hCn] at e; cases e
     · rw [hCn] at z; cases z
end
def PTs (X : Cx) (ifs : List Expr) (t : TT) : Prop :=
 ∀ (pins : List (Addr × Obj)) (s : Shared) (σ : St) (H : Hp) (Q : Bool → Hp → Prop), Inv X pins σ H s → t σ H Q →
  wpAny (model X.prog X.w) X.A (forIn ifs true fun c r => if r = true then do let ok ← isTrue c X.env (eval c X.env); pure (ForInStep.yield ok) else pure (ForInStep.yield r)) (TP X pins σ Q) X.xe s
def tTrue : TT := fun _ H Q => Q true H
theorem pts_nil {X : Cx} : PTs X [] tTrue := fun _ _ _ H _ I h => wpAny_tests_nil ⟨H, I, h⟩
theorem pts_one {X : Cx} {c : Expr} {t : TT} (h : PT X c t) : PTs X [c] t := fun pins s σ H Q I q => wpAny_tests_one (h pins s σ H Q I q)
theorem compLoopG {prog : Program} {w : World} {A : Around} {R : Result → Shared → Prop} {s : Shared} {elt target iter : Expr} {ifs : List Expr} {scope : Scope} {pos : Pos} {it acc : Value} {env : Env} (I : Nat → Shared → Prop)
 (turn : ∀ n s, I n s → wpAny (model prog w) A (pyNext it) (fun r s₁ => match r with
   | none => R (.ok .next) s₁
   | some v => wpAny (model prog w) A (letOwnedTupleGo target it v) (fun _ s₁ => wpAny (model prog w) A (assign target env v) (fun _ s₂ =>
    wpAny (model prog w) A (forIn ifs true fun c r => if r = true then do let ok ← isTrue c env (eval c env); pure (ForInStep.yield ok) else pure (ForInStep.yield r)) (fun ok s₃ =>
     if ok = true then wpAny (model prog w) A (eval elt env) (fun x s₄ =>
      wpAny (model prog w) A (call (.builtin "list.append") [acc, x]) (fun _ s₅ => ∃ m, m < n ∧ I m s₅) (fun _ _ => False) s₄) (fun _ _ => False) s₃
     else ∃ m, m < n ∧ I m s₃) (fun _ _ => False) s₂) (fun _ _ => False) s₁) (fun _ _ => False) s₁) (fun _ _ => False) s)
 (n : Nat) (h : I n s) :
 codeAny (model prog w) A (.compLoop (.ListComp elt [⟨target, iter, ifs, 0⟩] scope pos) 0 it acc env) R s := by
 refine codeAny_loop rfl I (fun n s hI => ?_) n h
 show wpAny _ A ((compTurn (.ListComp elt [⟨target, iter, ifs, 0⟩] scope pos) 0 it acc env).onRaise (fun x => do noteFrame x env; theTreesLotGoes x)) _ _ s
 refine wpAny_noted ?_
 rw [compTurn_list]
 refine wpAny_bind (wpAny_standAt (wpAny_bind (wpAny_mono (turn n s hI) (fun r s₁ h₁ => ?_) fun _ _ h' => h'.elim)))
 cases r with
 | none => exact wpAny_pure h₁
 | some v =>
  refine wpAny_bind (wpAny_mono h₁ (fun _ s₁' h₁' => ?_) fun _ _ h' => h'.elim)
  refine wpAny_bind (wpAny_mono h₁' (fun _ s₂ h₂ => wpAny_bind (wpAny_mono h₂ (fun ok s₃ h₃ => ?_) fun _ _ h' => h'.elim)) fun _ _ h' => h'.elim)
  cases ok with
  | false => exact wpAny_pure ⟨rfl, h₃⟩
  | true =>
   exact wpAny_bind (wpAny_bind (wpAny_mono h₃ (fun x s₄ h₄ => wpAny_bind (wpAny_mono h₄ (fun _ s₅ h₅ => wpAny_pure (wpAny_pure ⟨rfl, h₅⟩)) fun _ _ h' => h'.elim)) fun _ _ h' => h'.elim))
def tCompAt (i : Nat) (tt : TT) (te : TE) (D : Addr) (J : It) (σ : St) (H1 : Hp) (Q : Hp → Prop) : Prop :=
 ∃ W : Nat → Nat → List V → Hp → Prop, (∃ m, W 0 m [] (upd H1 D (.lst []))) ∧ ∀ j m ys H, W j m ys H → H D = some (.lst ys) ∧
  ((J.stop j H ∧ Q H) ∨ (J.go j H ∧ ∀ x H', J.yld j H x H' → tt (σ.set i (some x)) H' fun b H2 =>
    if b = true then te (σ.set i (some x)) H2 fun v H3 => H3 D = some (.lst ys) ∧ ys.length < sizeLine ∧ ∃ m', m' < m ∧ W (j + 1) m' (ys ++ [v]) (upd H3 D (.lst (ys ++ [v])))
    else ∃ m', m' < m ∧ W (j + 1) m' ys H2))
def tComp (i : Nat) (wi : TI) (tt : TT) (te : TE) : TE := fun σ H Q => wi σ H fun J H1 => ∀ D, H1 D = none → tCompAt i tt te D J σ H1 (Q (.ref D))
section
variable {X : Cx} {elt iter : Expr} {ifs : List Expr} {scope : Scope} {cl : List (Str × Addr)} {x : Str} {px pos : Pos} {i : Nat} {wi : TI} {tt : TT} {te : TE}
theorem set_set_same (σ : St) (i : Nat) (a b : Option V) : (σ.set i a).set i b = σ.set i b := by simp
theorem comp_loop {pins : List (Addr × Obj)} {σ : St} {H1 : Hp} {s₂ : Shared} {it : Addr} {fp : List Addr} {tn : Nat → Heap → Prop} {J : It} {Q : VK} {E : Value → Shared → Prop} {RR : Value → Addr → Result → Shared → Prop}
 (S : CompScope X scope cl x) (hN : X.N.Nodup) (hi : X.N[i]? = some x) (hc : X.calm = true)
 (ht : ∀ (C : Addr) (s : Shared) (H : Hp) (fp : List Addr), PTs (blk X pins scope cl C s H fp) ifs tt) (he : ∀ (C : Addr) (s : Shared) (H : Hp) (fp : List Addr), PE (blk X pins scope cl C s H fp) elt te)
 (I : Inv X pins σ H1 s₂) (T : Turn X.prog X.w X.K (.Name x px) J fp it tn) (st : tn 0 s₂.heap) (hf : ∀ b ∈ fp, FpOk X pins H1 b)
 (h : ∀ D, H1 D = none → tCompAt i tt te D J σ H1 (Q (.ref D)))
 (fin : ∀ (C D : Addr) (s' : Shared) (σ' : St) (H' : Hp), s₂.heap.objs.size ≤ C → H1 D = none → Inv (blk X pins scope cl C s₂ H1 fp) [] σ' H' s' → Q (.ref D) H' → (∀ h', Heap.SameBut C s'.heap h' → Inv X pins σ H' { s' with heap := h' }) → RR (.ref D) C (.ok .next) s') :
 wpAny (model X.prog X.w) X.A (newList []) (fun acc s₃ => wpAny (model X.prog X.w) X.A (newFunctionEnv scope X.env.globals cl [] X.env.qual none .none (some X.env)) (fun cenv s₄ =>
  codeAny (model X.prog X.w) X.A (.compStart (.ListComp elt [⟨.Name x px, iter, ifs, 0⟩] scope pos) 0 (.ref it) acc { cenv with scope := relabel scope X.env }) (RR acc cenv.locals) s₄) E s₃) E s₂ := by
 refine wpAny_newObj_type (wpAny_newFunctionEnv S.nocell (by intro y hy; simp at hy) (fun h₁ hns₁ hsb₁ => ?_) S.kind)
 dsimp only at hns₁ hsb₁ ⊢
 generalize hH2 : s₂.heap.push { cls := .type "list", dict := none, data := .seq ([] : List Value).toArray } = H2 at hns₁ hsb₁ ⊢
 have hC : H2.objs.size = s₂.heap.objs.size + 1 := by rw [← hH2, Heap.size_push]
 have hDC : H2.objs.size ≠ s₂.heap.objs.size := by rw [hC]; exact Nat.ne_of_gt (Nat.lt_succ_self _)
 have hCle : s₂.heap.objs.size ≤ H2.objs.size := by rw [hC]; exact Nat.le_succ _
 have old : ∀ b o, s₂.heap.get? b = some o → h₁.get? b = some o := fun b o e => hsb₁.extBut b o (Nat.ne_of_lt (Nat.lt_of_lt_of_le (Heap.lt_size e) hCle)) (Heap.get?_push_of_some _ (hH2 ▸ Heap.get?_push_of_some _ e))
 have hacc : h₁.get? s₂.heap.objs.size = some { cls := .type "list", dict := none, data := .seq ([] : List Value).toArray } := hsb₁.extBut _ _ (Ne.symm hDC) (Heap.get?_push_of_some _ (hH2 ▸ Heap.get?_push_size _ rfl))
 have hobj : ∀ b ∈ fp, ∃ o, s₂.heap.get? b = some o := fun b hb => let ⟨o, e, _⟩ := T.obj 0 _ st b hb; ⟨o, e⟩
 have hDn : H1 s₂.heap.objs.size = none := I.hok.fresh (Nat.le_refl _)
 obtain ⟨W, ⟨m0, w0⟩, turn⟩ := h s₂.heap.objs.size hDn
 have nfpD : ∀ b ∈ fp, b ≠ s₂.heap.objs.size := fun b hb => let ⟨o, e⟩ := hobj b hb; Nat.ne_of_lt (Heap.lt_size e)
 have fpk : ∀ {H' : Hp}, (∀ b ∈ fp, H' b = none) → ∀ b ∈ fp, FpOk (blk X pins scope cl H2.objs.size s₂ H1 fp) [] H' b := fun {H'} hn b hb => by
  refine ⟨hn b hb, ?_, ?_, .inl hb, fun y c e => (hf b hb).2.2.2.2.1 y c (S.sub y c e), fun p hp => (hf b hb).2.2.2.2.2 p (by simpa [blk] using hp)⟩
  · obtain ⟨o, e⟩ := hobj b hb
    exact Nat.ne_of_lt (Nat.lt_of_lt_of_le (Heap.lt_size e) hCle)
  · exact fun z => (List.mem_cons.mp (I.stkSub b z)).elim (fun q => (hf b hb).2.1 q) (fun q => (hf b hb).2.2.1 q)
 have loop : ∀ s₃ : Shared, s₃ = { s₂ with heap := h₁, toks := s₂.toks + ([] : List (Str × Value)).length } →
  codeAny (model X.prog X.w) X.A (.compLoop (.ListComp elt [⟨.Name x px, iter, ifs, 0⟩] scope pos) 0 (.ref it) (.ref s₂.heap.objs.size) (compEnvC scope cl H2.objs.size X.env))
   (RR (.ref s₂.heap.objs.size) H2.objs.size) s₃ := by
  rintro s₃ rfl
  have I0 : Inv (blk X pins scope cl H2.objs.size s₂ H1 fp) [] (σ.set i none) (upd H1 s₂.heap.objs.size (.lst [])) { s₂ with heap := h₁, toks := s₂.toks + ([] : List (Str × Value)).length } :=
   blk_start S hN hi I hf hobj (Nat.le_refl _) hCle hDC old hns₁ ⟨Nat.zero_le _, [], 0, .nil, hacc⟩
  refine compLoopG (fun n s' => ∃ j ys a H', Inv (blk X pins scope cl H2.objs.size s₂ H1 fp) [] (σ.set i a) H' s' ∧ tn j s'.heap ∧ (∀ b ∈ fp, H' b = none) ∧ W j n ys H') ?_ m0
   ⟨0, [], none, _, I0, T.keep _ _ _ st (fun b hb o e => old b o e), fun b hb => by rw [upd_ne (nfpD b hb)]; exact (hf b hb).1, w0⟩
  rintro n s' ⟨j, ys, a, H', Ij, stj, frj, wj⟩
  obtain ⟨hDl, tr⟩ := turn j n ys H' wj
  rcases tr with ⟨stop, q⟩ | ⟨go, step⟩
  · refine wpAny_mono (T.done (blk X pins scope cl H2.objs.size s₂ H1 fp) rfl rfl rfl hc j [] s' _ H' (fun _ _ => False) Ij (fpk frj) stj stop) (fun r s1 ⟨hr, I1⟩ => ?_) fun _ _ z => z.elim
    subst hr
    exact fin _ _ s1 _ H' hCle hDn I1 q fun h' sb => blk_end I hf hCle I1 sb
  · refine wpAny_mono (T.item (blk X pins scope cl H2.objs.size s₂ H1 fp) rfl rfl rfl hc j [] s' _ H' (fun _ _ => False) Ij (fpk frj) stj go) (fun r s1 ⟨u, hr, h4⟩ => ?_) fun _ _ z => z.elim
    subst hr
    refine wpAny_mono h4 (fun _ s1 ⟨y, H5, I5, r5, y5, st5, fr5⟩ => ?_) fun _ _ z => z.elim
    have I5' := I5.pinned (fpk fr5) (T.obj _ _ st5)
    have hkeep : ∀ {σ7 : St} {H7 : Hp} {s7 : Shared}, Inv (blk X pins scope cl H2.objs.size s₂ H1 fp) ([] ++ pinsAt fp s1.heap) σ7 H7 s7 → tn (j + 1) s7.heap ∧ ∀ b ∈ fp, H7 b = none := fun {σ7 H7 s7} I7 => by
     refine ⟨T.keep _ _ _ st5 fun b hb o e => (I7.pin (b, o) (List.mem_append_right _ (List.mem_append_right _ (mem_pinsAt hb e)))).1, fun b hb => ?_⟩
     obtain ⟨o, e, d⟩ := T.obj _ _ st5 b hb
     exact (I7.pin (b, o) (List.mem_append_right _ (List.mem_append_right _ (mem_pinsAt hb e)))).2.1
    have pg : PG (blk X pins scope cl H2.objs.size s₂ H1 fp) (.Name x px) (gName i) := pg_name (X := blk X pins scope cl H2.objs.size s₂ H1 fp) hN hi (.inl (lookup_relabel_local S.var)) (.inr (lookup_relabel_local S.var))
    refine wpAny_mono (pg _ s1 (σ.set i a) H5 y u (fun σ2 H2' => σ2 = σ.set i (some y) ∧ H2' = H5) I5' r5 ⟨set_set_same σ i a (some y), rfl⟩) (fun _ s6 ⟨σ6, H6, I6, e6, e6'⟩ => ?_) fun _ _ z => z.elim
    subst e6 e6'
    refine wpAny_mono (ht _ _ _ _ _ s6 _ _ _ I6 (step y _ y5)) (fun ok s7 ⟨H7, I7, q7⟩ => ?_) fun _ _ z => z.elim
    cases ok with
    | false =>
     rw [if_neg (by decide)] at q7 ⊢
     obtain ⟨m', hm, w7⟩ := q7
     obtain ⟨k1, k2⟩ := hkeep I7
     exact ⟨m', hm, j + 1, ys, some y, H7, I7.unpinned, k1, k2, w7⟩
    | true =>
     rw [if_pos rfl] at q7 ⊢
     refine wpAny_mono (he _ _ _ _ _ s7 _ _ _ I7 q7) (fun v s8 ⟨z, H8, I8, r8, h8, hz, m', hm, w8⟩ => ?_) fun _ _ z => z.elim
     refine wpAny_mono (mt_append (X := blk X pins scope cl H2.objs.size s₂ H1 fp) _ s8 _ H8 (.ref s₂.heap.objs.size) [z] (.ref s₂.heap.objs.size) [v] (fun r H9 => H9 = upd H8 s₂.heap.objs.size (.lst (ys ++ [z]))) I8 rfl (.cons r8 .nil) ⟨_, ys, z, rfl, rfl, h8, hz, rfl⟩)
      (fun _ s9 ⟨_, H9, I9, _, e9⟩ => ?_) fun _ _ z => z.elim
     subst e9
     obtain ⟨k1, k2⟩ := hkeep I9
     exact ⟨m', hm, j + 1, _, some y, _, I9.unpinned, k1, k2, w8⟩
 exact codeAny_compStart_list (loop _ rfl) (T.self _ 0 _ _ _ (T.keep _ _ _ st fun b hb o e => old b o e) (loop _ rfl))
theorem pe_comp (S : CompScope X scope cl x) (hN : X.N.Nodup) (hi : X.N[i]? = some x) (hc : X.calm = true) (hit : PI X (.Name x px) iter wi)
 (ht : ∀ (pins : List (Addr × Obj)) (C : Addr) (s : Shared) (H : Hp) (fp : List Addr), PTs (blk X pins scope cl C s H fp) ifs tt) (he : ∀ (pins : List (Addr × Obj)) (C : Addr) (s : Shared) (H : Hp) (fp : List Addr), PE (blk X pins scope cl C s H fp) elt te)
 (hs : ∀ v, foldedSetIterable iter X.env v = pure v := by intro _; rfl) : PE X (.ListComp elt [⟨.Name x px, iter, ifs, 0⟩] scope pos) (tComp i wi tt te) := by
 intro pins s σ H Q I h
 rw [eval_ListComp]
 refine wpAny_comprehension_free (use := none) rfl hs S.clos S.kind S.names (thn (hit pins s σ H _ I h) fun v s1 h1 => thn h1 fun itv s2 h2 => ?_)
 obtain ⟨it, fp, tn, J, H2, e, I2, T, st2, f2, hq⟩ := h2
 subst e
 refine comp_loop (Q := Q) (RR := fun acc C => compPost (model X.prog X.w) X.A X.xe none (EP X pins σ Q) acc C) S hN hi hc (ht pins) (he pins) I2 T st2 f2 hq ?_
 intro C D s' σ' H' hC hD J' q k
 obtain ⟨m, hn, _⟩ := J'.loc
 exact ⟨m, hn, fun h' sb => ⟨.ref D, H', k h' sb, rfl, q⟩⟩
def tSetComp (i j : Nat) (wi : TI) (tt : TT) (te : TE) : TS := fun D σ H => tComp i wi tt te σ H fun v H1 => D.nx (σ.set j (some v)) H1
theorem ps_setcomp {y : Str} {py spos : Pos} {j : Nat} (S : CompScope X scope cl x) (hN : X.N.Nodup) (hi : X.N[i]? = some x) (hj : X.N[j]? = some y) (hy : Loc X.env.scope y) (hc : X.calm = true) (hit : PI X (.Name x px) iter wi)
 (ht : ∀ (pins : List (Addr × Obj)) (C : Addr) (s : Shared) (H : Hp) (fp : List Addr), PTs (blk X pins scope cl C s H fp) ifs tt) (he : ∀ (pins : List (Addr × Obj)) (C : Addr) (s : Shared) (H : Hp) (fp : List Addr), PE (blk X pins scope cl C s H fp) elt te)
 (hs : ∀ v, foldedSetIterable iter X.env v = pure v := by intro _; rfl)
 (hsw : swapsWith (.ListComp elt [⟨.Name x px, iter, ifs, 0⟩] scope pos) (some (.Name y py)) spos.line X.env = pure true := by rfl)
 (hfn : X.fn y = true ∨ X.env.scope.names.lookup y = some .local := by first | exact .inl rfl | exact .inr rfl | assumption) :
 PS X (.Assign [.Name y py] (.ListComp elt [⟨.Name x px, iter, ifs, 0⟩] scope pos) spos) (tSetComp i j wi tt te) := by
 intro pins s σ H D I h
 rw [exec_Assign_Name_used _ _ _ _ hsw]
 refine wpAny_bind (wpAny_standAt (wpAny_bind ?_))
 show wpAny _ X.A (do let _ ← comprehension (.ListComp elt [⟨.Name x px, iter, ifs, 0⟩] scope pos) scope X.env _ (newList []) false (eval iter X.env) (some (assign (.Name y py) X.env))) _ _ s
 refine wpAny_bind (wpAny_mono (wpAny_comprehension_free (use := some (assign (.Name y py) X.env)) (Q := fun _ s' => SP X pins D .next s') rfl hs S.clos S.kind S.names
  (thn (hit pins s σ H _ I h) fun v s1 h1 => thn h1 fun itv s2 h2 => ?_)) (fun _ s' hq => wpAny_pure (wpAny_pure hq)) fun _ _ e => e)
 obtain ⟨it, fp, tn, J, H2, e, I2, T, st2, f2, hq⟩ := h2
 subst e
 refine comp_loop (Q := fun v H1 => D.nx (σ.set j (some v)) H1) (RR := fun acc C => compPost (model X.prog X.w) X.A X.xe (some (assign (.Name y py) X.env)) (fun _ s' => SP X pins D .next s') acc C) S hN hi hc (ht pins) (he pins) I2 T st2 f2 hq ?_
 intro C D' s' σ' H' hC hD J' q k
 show wpAny _ X.A (assign (.Name y py) X.env (.ref D')) _ _ s'
 have I' : Inv X pins σ H' s' := k s'.heap (Heap.SameBut.refl ..)
 obtain ⟨m, hnC, _⟩ := J'.loc
 obtain ⟨f0, f1, f2', f3, f4, f5⟩ := I2.fpOk (H' := H') hC J'.free
 refine wpAny_assign_Name (store_ok2 (v := .ref D') I' hN hj hy rfl (fun s'' I'' ⟨a, sb, ha⟩ => ?_) hfn)
 have nCa : C ≠ a := by
  rcases ha with z | z
  · rw [z]; exact f1
  · exact fun q => f4 y a z q.symm
 refine ⟨m, hnC.sameBut sb nCa, fun h' sb' => ⟨_, H', ?_, q⟩⟩
 exact I''.turned (t' := s''.toks) (fun b o hb e => (sb'.2 b hb).trans e) f0 f1 f3 f4 f5
end
end L2
namespace L2
open PySem PySem.Spec PyProof.Rows
section
variable {X : Cx} {D : Ends} {σ : St} {H : Hp} {Q : VK} {R : Bool → Hp → Prop} {S : List V → Hp → Prop} {t u : TS} {te ta tb tc : TE} {tt uu : TT} {tl tr : TA} {K : PySem.W.Frag} {g : TG} {gs : TGs} {i j : Nat} {v x y : V}
theorem ap_seq : tSeq t u D σ H = t { D with nx := u D } σ H := rfl
theorem ap_next : tNext D σ H = D.nx σ H := rfl
theorem ap_brk : tBreak D σ H = D.bk σ H := rfl
theorem ap_cont : tCont D σ H = D.ct σ H := rfl
theorem ap_drop : tDrop te D σ H = te σ H fun _ H1 => D.nx σ H1 := rfl
theorem ap_ret : tRet te D σ H = te σ H D.rt := rfl
theorem ap_retN : tRetN D σ H = D.rt .non H := rfl
theorem ap_ifS : tIfS tt t u D σ H = tt σ H fun b H1 => if b = true then t D σ H1 else u D σ H1 := rfl
theorem ap_asg : tAsg te g D σ H = te σ H fun x H1 => g x σ H1 D.nx := rfl
theorem ap_gName {P : St → Hp → Prop} : gName i v σ H P = P (σ.set i (some v)) H := rfl
theorem ap_gSub {ti : TE} {ts : TSet} {P : St → Hp → Prop} : gSub ta ti ts v σ H P = ta σ H fun o H1 => ti σ H1 fun k H2 => ts o k v H2 fun H3 => P σ H3 := rfl
theorem ap_gNil {vs : List V} {P : St → Hp → Prop} : gNil vs σ H P = (vs = [] ∧ P σ H) := rfl
theorem ap_gCons {vs : List V} {P : St → Hp → Prop} : gCons g gs vs σ H P = ∃ v r, vs = v :: r ∧ g v σ H fun σ' H' => gs r σ' H' P := rfl
theorem ap_test : tTest te σ H R = te σ H fun x H' => ∃ k, x = .bl k ∧ R k H' := rfl
theorem ap_B : tB te σ H R = te σ H fun x H1 => ∃ c, x = .bl c ∧ R c H1 := rfl
theorem ap_not : tNot tt σ H R = tt σ H fun c H1 => R (!c) H1 := rfl
theorem ap_and : tAnd tt uu σ H R = tt σ H fun c H1 => if c = true then uu σ H1 R else R false H1 := rfl
theorem ap_or : tOr tt uu σ H R = tt σ H fun c H1 => if c = true then R true H1 else uu σ H1 R := rfl
theorem ap_andV : tAndV ta tb σ H Q = ta σ H fun x H1 => ∃ c, x = .bl c ∧ if c = true then tb σ H1 Q else Q (.bl false) H1 := rfl
theorem ap_orV : tOrV ta tb σ H Q = ta σ H fun x H1 => ∃ c, x = .bl c ∧ if c = true then Q (.bl true) H1 else tb σ H1 Q := rfl
theorem ap_notV : tNotV ta σ H Q = ta σ H fun x H1 => ∃ c, x = .bl c ∧ Q (.bl (!c)) H1 := rfl
theorem ap_ifE : tIf tt ta tb σ H Q = tt σ H fun c H1 => if c = true then ta σ H1 Q else tb σ H1 Q := rfl
theorem ap_var : tVar i σ H Q = ∃ v, σ[i]? = some (some v) ∧ Q v H := rfl
theorem ap_C : tC v σ H Q = Q v H := rfl
theorem ap_op {r : R2} : tOp r ta tb σ H Q = ta σ H fun x H1 => tb σ H1 fun y H2 => r x y H2 Q := rfl
theorem ap_un {r : V → Hp → VK → Prop} : tUn r ta σ H Q = ta σ H fun x H1 => r x H1 Q := rfl
theorem ap_chain {r r' : R2} : tChain r r' ta tb tc σ H Q = ta σ H fun x H1 => tb σ H1 fun y H2 => r x y H2 fun z H3 => ∃ k, z = .bl k ∧ (if k = true then tc σ H3 fun w' H4 => r' y w' H4 Q else Q (.bl false) H3) := rfl
theorem ap_nil : tNil σ H S = S [] H := rfl
theorem ap_cons : tCons ta tl σ H S = ta σ H fun x H1 => tl σ H1 fun xs H2 => S (x :: xs) H2 := rfl
theorem ap_tup : tTup tl σ H Q = tl σ H fun xs H1 => xs.length ≤ sizeLine ∧ ∀ p, H1 p = none → Q (.ref p) (upd H1 p (.tup xs)) := rfl
theorem ap_lst : tLst tl σ H Q = tl σ H fun xs H1 => xs.length ≤ sizeLine ∧ ∀ p, H1 p = none → Q (.ref p) (upd H1 p (.lst xs)) := rfl
theorem ap_CB {r : List V → Hp → VK → Prop} : tCB r tl σ H Q = tl σ H fun vs H1 => r vs H1 Q := rfl
theorem ap_call {sp : Sp} {dvs : List V} {E : XK} : tCall sp dvs E tl σ H Q = tl σ H fun vs H1 => sp (vs ++ dvs) H1 Q E := rfl
theorem ap_meth {C : Addr} {m : Str} {sp : Sp} {dvs : List V} {E : XK} : tMeth C m sp dvs E ta tl σ H Q = ta σ H fun x H1 => ∃ a dx fs, x = .ref a ∧ H1 a = some (.ins C dx fs) ∧ fs.lookup m = none ∧ tl σ H1 fun vs H2 => sp (x :: (vs ++ dvs)) H2 Q E := rfl
theorem ap_make {C : Addr} {sp : Sp} {dvs : List V} {E : XK} : tMake C sp dvs E tl σ H Q = tl σ H fun vs H1 => ∀ x dx, H1 x = none → H1 dx = none → dx ≠ x →
 sp (.ref x :: (vs ++ dvs)) (upd (upd H1 dx (.own x)) x (.ins C dx [])) (fun v H2 => v = .non ∧ Q (.ref x) H2) E := rfl
theorem ap_fld {f : Str} : tFld K ta f σ H Q = ta σ H fun x H1 => ∃ a C dx fs v, x = .ref a ∧ H1 a = some (.ins C dx fs) ∧ Cls K C ∧ NoAttr K C f ∧ fs.lookup f = some v ∧ Q v H1 := rfl
theorem ap_sfld {f : Str} : sFld K ta tb f D σ H = tb σ H fun y H1 => ta σ H1 fun x H2 => ∃ a C dx fs, x = .ref a ∧ H2 a = some (.ins C dx fs) ∧ Cls K C ∧ NoAttr K C f ∧ fs.length < 1000 ∧ D.nx σ (upd H2 a (.ins C dx (putF f y fs))) := rfl
theorem ap_faug {f : Str} {rd : V → V → Hp → VK → Prop} : sFldAug K ta tb rd f D σ H = ta σ H fun x H1 => ∃ a C dx fs v, x = .ref a ∧ H1 a = some (.ins C dx fs) ∧ Cls K C ∧ NoAttr K C f ∧ fs.lookup f = some v ∧
 tb σ H1 fun y H2 => rd v y H2 fun z H3 => ∃ dx' fs', H3 a = some (.ins C dx' fs') ∧ fs'.length < 1000 ∧ D.nx σ (upd H3 a (.ins C dx' (putF f z fs'))) := rfl
theorem ap_aug {ti : TIp} : tAug i te ti D σ H = ∃ x, σ[i]? = some (some x) ∧ te σ H fun y H1 => ti x y H1 fun z H2 => D.nx (σ.set i (some z)) H2 := rfl
theorem ap_bmf {c : V → Hp → Prop} {r : V → List V → Hp → VK → Prop} : tBMf c r ta tl σ H Q = ta σ H fun x H1 => c x H1 ∧ tl σ H1 fun xs H2 => r x xs H2 Q := rfl
theorem ap_bmf0 {c : V → Hp → Prop} {r : V → List V → Hp → VK → Prop} : tBMf0 c r ta σ H Q = ta σ H fun x H1 => c x H1 ∧ r x [] H1 Q := rfl
theorem ap_dnew : tDNewK σ H Q = ∀ p, H p = none → Q (.ref p) (upd H p (.dK [])) := rfl
theorem ap_sl {r : V → Option Int → Option Int → Hp → VK → Prop} {tlo thi : TO} : tSl r te tlo thi σ H Q = te σ H fun x H1 => tlo σ H1 fun l H2 => thi σ H2 fun u H3 => r x l u H3 Q := rfl
theorem ap_noPart {P : Option Int → Hp → Prop} : tNoPart σ H P = P none H := rfl
theorem ap_part {P : Option Int → Hp → Prop} : tPart te σ H P = te σ H fun x H1 => ∃ i, x = .int i ∧ P (some i) H1 := rfl
theorem ap_true : tTrue σ H R = R true H := rfl
def ForW (J : It) (g : TG) (tb : TS) (D : Ends) (σ : St) (H : Hp) : Prop := ∃ W : Nat → Nat → St → Hp → Prop, (∃ m, W 0 m σ H) ∧ ∀ i m σ H, W i m σ H →
 (J.stop i H ∧ D.nx σ H) ∨ (J.go i H ∧ ∃ N : St → Hp → Prop, (∀ σ' H', N σ' H' → ∃ m', m' < m ∧ W (i + 1) m' σ' H') ∧ ∀ x H', J.yld i H x H' → g x σ H' fun σ2 H2 => tb { D with nx := N, ct := N, bk := D.nx } σ2 H2)
theorem ap_for1 {tbd : TS} : tFor (iRng1 tl) g tbd D σ H = tl σ H fun vs H1 => ∃ j : Int, vs = [.int j] ∧ -(2 ^ 62) ≤ j ∧ j < 2 ^ 62 ∧ ForW (Itr 0 j.toNat) g tbd D σ H1 := rfl
theorem ap_for2 {tbd : TS} : tFor (iRng2 tl) g tbd D σ H = tl σ H fun vs H1 => ∃ i j : Int, vs = [.int i, .int j] ∧ (-(2 ^ 62) ≤ i ∧ i < 2 ^ 62 ∧ -(2 ^ 62) ≤ j ∧ j < 2 ^ 62) ∧ ForW (Itr i (j - i).toNat) g tbd D σ H1 := rfl
def ForS (K : PySem.W.Frag) (p : Addr) (g : TG) (tb : TS) (D : Ends) (σ : St) (H : Hp) : Prop := match H p with
 | some (.tup _) => ForW (Itt K p) g tb D σ H
 | o => ∃ xs, sqOf o = some xs ∧ ForW (Itl K p) g tb D σ H
theorem ap_forS {tbd : TS} : tFor (iSeq K te) g tbd D σ H = te σ H fun x H1 => ∃ p, x = .ref p ∧ ForS K p g tbd D σ H1 := rfl
theorem forW_range {lo : Int} {n : Nat} {tbd : TS} (Pv : Nat → St → Hp → Prop) (h0 : Pv 0 σ H)
 (hs : ∀ i σ H, i < n → Pv i σ H → g (.int (lo + i)) σ H fun σ2 H2 => tbd { D with nx := Pv (i + 1), ct := Pv (i + 1), bk := D.nx } σ2 H2) (hd : ∀ σ H, Pv n σ H → D.nx σ H) : ForW (Itr lo n) g tbd D σ H := for_range Pv h0 hs hd
theorem forS_seq {p : Addr} {xs : List V} {tbd : TS} (hx : sqOf (H p) = some xs) (Pv : Nat → St → Hp → Prop) (h0 : Pv 0 σ H) (hl : ∀ i σ H', i ≤ xs.length → Pv i σ H' → H' p = H p)
 (hs : ∀ i x σ H, xs[i]? = some x → Pv i σ H → g x σ H fun σ2 H2 => tbd { D with nx := Pv (i + 1), ct := Pv (i + 1), bk := D.nx } σ2 H2) (hd : ∀ σ H, Pv xs.length σ H → D.nx σ H) : ForS K p g tbd D σ H := by
 have q := for_seq (K := K) (g := g) (tb := tbd) (D := D) hx Pv h0 hl hs hd
 unfold ForS ForW
 exact q
end
end L2
namespace L2
open PySem
theorem new_at {H H2 : Hp} {t : Addr} {o : HO} (e : upd H t o = H2) : H2 t = some o := by rw [← e]; exact upd_same
theorem same_new {H : Hp} {p : Addr} (h : H p = none) (o : HO) : Same H (upd H p o) := fun b u q => by rw [upd_ne (ne_of_none q h)]; exact q
theorem new_same {H H2 : Hp} {t : Addr} {o : HO} (ht : H t = none) (e : upd H t o = H2) : Same H H2 := by rw [← e]; exact same_new ht o
theorem wr_ne {H H2 : Hp} {t b : Addr} {o : HO} (e : upd H t o = H2) (h : b ≠ t) : H2 b = H b := by rw [← e]; exact upd_ne h
end L2
namespace L2
open PySem PySem.Spec PyProof.Rows
def Trc (h : Heap) (a T : Addr) (cls : Value) : Prop :=
 ∃ a0 oe vs oT ts, h.get? a = some oe ∧ (oe.cls = cls ∧ vs[0]? = some a0) ∧ oe.data = .fields vs ∧ vs[1]? = some (.ref T) ∧ T ≠ a ∧ h.get? T = some oT ∧ oT.data = .fields ts ∧ ts[3]? = some .none
def CXe (P : Program) (w : World) : CXT := fun outer H s E e s' => ∃ (a T : Addr) (cls : Value) (H' : Hp), e = .ref a ∧ s'.os = s.os ∧ AllBare s'.gens ∧ Un (frs outer) [] H H' s.heap s'.heap ∧ HOk P w H' s'.heap ∧
 s.heap.get? a = none ∧ s.heap.get? T = none ∧ H' a = none ∧ H' T = none ∧ Trc s'.heap a T cls ∧ E cls none H'
theorem ObjOk.there {P : Program} {w : World} {H : Hp} {h : Heap} {a : Addr} {o : HO} (x : ObjOk P w H h a o) : ∃ ob, h.get? a = some ob := by
 cases o with
 | lst xs => obtain ⟨_, _, _, _, e⟩ := x; exact ⟨_, e⟩
 | tup xs => obtain ⟨_, _, _, ob, e, _⟩ := x; exact ⟨ob, e⟩
 | dK kvs => obtain ⟨_, _, _, _, o, _, _, e, _⟩ := x; exact ⟨o, e⟩
 | dT kvs => obtain ⟨_, _, _, _, o, _, _, e, _⟩ := x; exact ⟨o, e⟩
 | set S n => obtain ⟨o, _, _, _, e, _⟩ := x; exact ⟨o, e⟩
 | ins C dx fs => obtain ⟨_, _, _, e, _⟩ := x; exact ⟨_, e⟩
 | own y => exact x
 | xd fs => obtain ⟨_, ⟨o, _, _, e, _⟩, _⟩ := x; exact ⟨o, e⟩
 | rng lo hi => obtain ⟨_, _, _, e⟩ := x; exact ⟨_, e⟩
 | frz ob u => obtain ⟨e, _⟩ := x; exact ⟨_, e⟩
 | tbl ps => exact ⟨_, x⟩
 | met f y => exact ⟨_, x⟩
 | ext φ => obtain ⟨_, e, _⟩ := x; exact e
section
variable {X : Cx} {pins : List (Addr × Obj)} {σ : List (Option V)} {H H' : Hp} {s : Shared} {h' : Heap}
theorem Inv.stepN {ch : List Addr} (I : Inv X pins σ H s)
 (hch : ∀ b ∈ ch, (b ∈ X.ex ∨ X.s₀.heap.get? b = none) ∧ b ≠ X.env.locals ∧ (∀ x c, X.env.cells.lookup x = some c → c ≠ b) ∧ ∀ p ∈ X.pn ++ pins, p.1 ≠ b)
 (keep : ∀ b o, b ≠ X.env.locals → b ∉ X.fs → b ∉ ch → s.heap.get? b = some o → H b = none → h'.get? b = some o)
 (slot : ∀ b o, b ≠ X.env.locals → b ∈ X.fs → b ∉ ch → s.heap.get? b = some o → H b = none → ∃ sl, h'.get? b = some { o with slots := sl })
 (there : ∀ b o, b ∉ ch → s.heap.get? b = some o → ∃ o', h'.get? b = some o')
 (ns : ∀ m, s.heap.Ns X.env.locals m → h'.Ns X.env.locals m) (hok : HOk X.prog X.w H h') :
 Inv X pins σ H { s with heap := h' } := by
 have neL : ∀ b o, X.s₀.heap.get? b = some o → b ≠ X.env.locals := fun b o e => Nat.ne_of_lt (Nat.lt_of_lt_of_le (Heap.lt_size e) I.ok.above)
 have neC : ∀ b o, X.s₀.heap.get? b = some o → b ∉ X.ex → b ∉ ch := fun b o e hx hb => by
  rcases (hch b hb).1 with z | z
  · exact hx z
  · rw [z] at e; cases e
 have cellK : ∀ x c, X.env.cells.lookup x = some c → ∀ v, s.heap.IsCell c v → h'.IsCell c v := fun x c e v ⟨o, ho, hd⟩ => by
  have nch : c ∉ ch := fun z => (hch c z).2.2.1 x c e rfl
  by_cases hc : c ∈ X.fs
  · obtain ⟨sl, q⟩ := slot c o (I.cne x c e) hc nch ho (I.freeC x c e)
    exact ⟨_, q, hd⟩
  · exact ⟨o, keep c o (I.cne x c e) hc nch ho (I.freeC x c e), hd⟩
 refine ⟨I.ok, I.os, I.bare, ⟨fun b o e n hb hx => ?_, fun b o e n hb hx => ?_, fun b o e n hx => I.base.free b o e n hx, fun b o e hx => ?_, fun b xs e => I.base.tups b xs e, fun b o xs e => I.base.frzs b o xs e, fun b ps e => I.base.tbls b ps e⟩, ?_, fun x c e => ?_, I.free, fun x c e => I.freeC x c e, fun p hp => ?_, hok, I.len⟩
 · exact keep b o (neL b o e) hb (neC b o e hx) (I.base.keep b o e n hb hx) (I.base.free b o e n hx)
 · obtain ⟨sl, e1⟩ := I.base.slot b o e n hb hx
   obtain ⟨sl', e2⟩ := slot b _ (neL b o e) hb (neC b o e hx) e1 (I.base.free b o e n hx)
   exact ⟨sl', e2⟩
 · obtain ⟨o', e1⟩ := I.base.there b o e hx
   exact there b o' (neC b o e hx) e1
 · obtain ⟨m, hn, hl⟩ := I.loc
   refine ⟨m, ns m hn, fun i x v e1 e2 e3 => ?_⟩
   obtain ⟨u, r, l⟩ := hl i x v e1 e2 e3
   refine ⟨u, r, ?_⟩
   rcases l with l | ⟨k, c, e, z⟩
   · exact .inl l
   · exact .inr ⟨k, c, e, cellK x c e _ z⟩
 · obtain ⟨v, z⟩ := I.cell x c e
   exact ⟨v, cellK x c e v z⟩
 · obtain ⟨e, n, ne, nf, d⟩ := I.pin p hp
   have nch : p.1 ∉ ch := fun z => (hch p.1 z).2.2.2 p hp rfl
   exact ⟨keep p.1 p.2 ne nf nch e n, n, ne, nf, d⟩
theorem Inv.noted {ch : List Addr} (I : Inv X pins σ H s) (hn : ∀ b ∈ ch, X.s₀.heap.get? b = none) (hf : ∀ b ∈ ch, H b = none) (hd : ∀ b ∈ ch, ∃ o vs, s.heap.get? b = some o ∧ o.data = .fields vs) (hp : ∀ b ∈ ch, ∀ p ∈ X.pn ++ pins, p.1 ≠ b)
 (stay : (PySem.W.hideAll s.heap (ch ++ frs X.stack)).StaysIn h') (slots : ∀ b o, s.heap.get? b = some o → (∀ vs, o.data ≠ .fields vs) → ∃ sl, h'.get? b = some { o with slots := sl }) :
 Inv X pins σ H { s with heap := h' } := by
 obtain ⟨m, hL, _⟩ := id I.loc
 obtain ⟨oL, es, ep, hoL, hdL, rL⟩ := hL
 have stk : ∀ b ∈ frs X.stack, ∃ o, s.heap.get? b = some o ∧ ∀ vs, o.data ≠ .fields vs := fun b hb => (I.stack.mem hb).2
 have old : ∀ b o, b ∉ ch → b ∉ frs X.stack → s.heap.get? b = some o → h'.get? b = some o := fun b o h1 h2 e => stay b o (PySem.W.hideAll_get _ e fun z => (List.mem_append.mp z).elim h1 h2)
 have sub : ∀ b, b ≠ X.env.locals → b ∉ X.fs → b ∉ frs X.stack := fun b h1 h2 z => (List.mem_cons.mp (I.stkSub b z)).elim h1 h2
 refine I.stepN (ch := ch) (fun b hb => ⟨.inr (hn b hb), ?_, fun x c e z => ?_, hp b hb⟩) (fun b o h1 h2 h3 e _ => old b o h3 (sub b h1 h2) e) (fun b o h1 h2 h3 e _ => ?_) (fun b o h3 e => ?_) (fun m' hm => ?_) (fun b o e => ?_)
 · rintro rfl
   obtain ⟨o, vs, e, d⟩ := hd _ hb
   rw [hoL] at e; cases e; rw [hdL] at d; cases d
 · obtain ⟨o, vs, e1, d⟩ := hd _ hb
   obtain ⟨v, o2, e2, d2⟩ := I.cell x c e
   rw [z, e1] at e2; cases e2; rw [d] at d2; cases d2
 · obtain ⟨_, o2, e2, d2⟩ := I.funs.mem h2
   rw [e] at e2; cases e2
   exact slots b o e d2
 · by_cases hb : b ∈ frs X.stack
   · obtain ⟨o2, e2, d2⟩ := stk b hb
     rw [e] at e2; cases e2
     obtain ⟨sl, q⟩ := slots b o e d2
     exact ⟨_, q⟩
   · exact ⟨o, old b o h3 hb e⟩
 · obtain ⟨o2, es2, ep2, e2, d2, r2⟩ := hm
   obtain ⟨sl, q⟩ := slots _ o2 e2 fun vs z => by rw [d2] at z; cases z
   exact ⟨_, es2, ep2, q, d2, r2⟩
 · refine (I.hok b o e).stay (fun c v hc q => ?_) (fun _ q => q) fun _ _ q => q
   have hcH : H c ≠ none := by
    rcases hc with z | z
    · rw [z, e]; exact fun z => nomatch z
    · rw [z]; exact fun z => nomatch z
   exact old c v (fun z => hcH (hf c z)) (fun z => hcH (I.stkFree c z)) q
end
theorem frames_hide {X : Cx} {pins : List (Addr × Obj)} {σ : St} {H : Hp} {s : Shared} {ch : List Addr} (I : Inv X pins σ H s) : s.heap.FunFrames (PySem.W.hideAll s.heap (ch ++ frs X.stack)) X.stack :=
 PySem.W.funFrames_hide I.stack fun env he a ha => List.mem_append_right _ (List.mem_filterMap.mpr ⟨env, he, ha⟩)
def RaiseOk (X : Cx) (E : XK) : Prop := ∀ (pins : List (Addr × Obj)) (σ : St) (H : Hp) (s : Shared) (h' : Heap) (a C : Addr) (args : List Value), Inv X pins σ H s → Heap.MadeExcOf s.heap h' a (.ref C) args → E (.ref C) none H → X.xe (.ref a) { s with heap := h' }
section
variable {P : Program} {w : World} {K : PySem.W.Frag} {mg : Str → Option Value} {base : Heap} {N : List Str} {qual : Str} {scope : Scope} {f : Addr} {cd : Value} {A : Around} {outer : List Env} {s₀ : Shared} {H₀ : Hp} {E : XK}
theorem left_out {X : Cx} {pins : List (Addr × Obj)} {σ : St} {H : Hp} {s : Shared} {h' : Heap} {a : Addr} {ch : List Addr} {cls a0 : Value} {env : Env} (hX : X.ex = []) (he : X.stack = env :: outer) (hfs : X.fs = frs outer)
 (I : Inv X pins σ H s) (ha : a ∈ ch) (hn : ∀ b ∈ ch, X.s₀.heap.get? b = none) (hf : ∀ b ∈ ch, H b = none) (hd : ∀ b ∈ ch, ∃ o vs, s.heap.get? b = some o ∧ o.data = .fields vs) (hp : ∀ b ∈ ch, ∀ p ∈ X.pn ++ pins, p.1 ≠ b)
 (L : Heap.LeftW (PySem.W.hideAll s.heap (ch ++ frs X.stack)) (env :: outer) a cls a0 s.heap h') (q : E cls none H) : CXe X.prog X.w outer X.H₀ X.s₀ E (.ref a) { s with heap := h' } := by
 obtain ⟨stay, funs, tr, slots⟩ := L
 have J : Inv X pins σ H { s with heap := h' } := I.noted hn hf hd hp stay slots
 obtain ⟨oe, vs, T, oT, ts, h1, h2, h3, h4, h5, h6, h7, h8, h9⟩ := tr
 have hT : T ∈ ch ∨ s.heap.get? T = none := by
  by_cases hc : T ∈ ch
  · exact .inl hc
  · refine .inr ?_
    by_cases hs : T ∈ frs X.stack
    · exfalso
      obtain ⟨_, o, eo, dn⟩ := I.stack.mem hs
      obtain ⟨sl, e2⟩ := slots T o eo dn
      rw [h7] at e2
      cases e2
      exact dn ts h8
    · cases e : s.heap.get? T with
      | none => rfl
      | some o =>
       have := PySem.W.hideAll_get (ch ++ frs X.stack) e fun z => (List.mem_append.mp z).elim hc hs
       rw [h5] at this; cases this
 have n0 : ∀ b, s.heap.get? b = none → X.s₀.heap.get? b = none := fun b hb => by
  cases e : X.s₀.heap.get? b with
  | none => rfl
  | some o =>
   obtain ⟨o', h⟩ := I.base.there b o e (by rw [hX]; exact fun z => nomatch z)
   rw [hb] at h; cases h
 have hTn : X.s₀.heap.get? T = none := hT.elim (hn T) (n0 T)
 have hTf : H T = none := hT.elim (hf T) fun z => by
  cases e : H T with
  | none => rfl
  | some o =>
   obtain ⟨ob, h⟩ := (I.hok T o e).there
   rw [z] at h; cases h
 have u := J.base
 rw [hX, hfs] at u
 exact ⟨a, T, cls, H, rfl, J.os, J.bare, u, J.hok, hn a ha, hTn, hf a ha, hTf, ⟨a0, oe, vs, oT, ts, h1, h2, h3, h4, h6, h7, h8, h9⟩, q⟩
theorem passE : Passes (CXe P w) (cxOf (CXe P w) P w K mg base N qual scope f cd A outer s₀ H₀ E) E := by
 intro pins σ H s e s' I cx
 obtain ⟨a, T, cls, H', rfl, os, bare, un, hok, na, nT, fa, fT, tr, q⟩ := cx
 have I' : Inv (cxOf (CXe P w) P w K mg base N qual scope f cd A outer s₀ H₀ E) pins σ H' s' := I.call' os un hok bare (fun b z => nomatch z)
 have n0 : ∀ b, s.heap.get? b = none → s₀.heap.get? b = none := fun b hb => by
  cases e : s₀.heap.get? b with
  | none => rfl
  | some o =>
   obtain ⟨o', h⟩ := I.base.there b o e (fun z => nomatch z)
   rw [hb] at h; cases h
 have hp : ∀ b ∈ [a, T], ∀ p ∈ (cxOf (CXe P w) P w K mg base N qual scope f cd A outer s₀ H₀ E).pn ++ pins, p.1 ≠ b := fun b hb p hp z => by
  obtain ⟨e, _⟩ := I.pin p hp
  rcases List.mem_cons.mp hb with r | r
  · rw [z, r, na] at e; cases e
  · rw [z, List.mem_singleton.mp r, nT] at e; cases e
 obtain ⟨a0, oe, vs, oT, ts, h1, h2, h3, h4, h6, h7, h8, h9⟩ := tr
 show wpAny (model P w) (A.deeper (envOfC qual scope s₀.heap.objs.size f cd)) (leaving (envOfC qual scope s₀.heap.objs.size f cd) (.ref a)) _ _ s'
 refine wpAny_leaving_nextW (a0 := a0) (base := PySem.W.hideAll s'.heap ([a, T] ++ frs (cxOf (CXe P w) P w K mg base N qual scope f cd A outer s₀ H₀ E).stack)) (outer := outer) (L := s₀.heap.objs.size) (cls := cls) I.ok.frames (frames_hide I') rfl
  ⟨oe, vs, T, oT, ts, h1, h2, h3, h4, PySem.W.hideAll_none _ (by simp), h6, h7, h8, h9⟩ (fun b o z => PySem.W.of_hideAll _ z) (PySem.W.hideAll_none _ (by simp)) fun h'' L => ?_
 refine left_out (X := cxOf (CXe P w) P w K mg base N qual scope f cd A outer s₀ H₀ E) (ch := [a, T]) (env := envOfC qual scope s₀.heap.objs.size f cd) rfl rfl rfl I' (by simp) (fun b hb => ?_) (fun b hb => ?_) (fun b hb => ?_) hp L q
 · rcases List.mem_cons.mp hb with r | r
   · rw [r]; exact n0 a na
   · rw [List.mem_singleton.mp r]; exact n0 T nT
 · rcases List.mem_cons.mp hb with r | r
   · rw [r]; exact fa
   · rw [List.mem_singleton.mp r]; exact fT
 · rcases List.mem_cons.mp hb with r | r
   · rw [r]; exact ⟨oe, vs, h1, h3⟩
   · rw [List.mem_singleton.mp r]; exact ⟨oT, ts, h7, h8⟩
theorem raiseE : RaiseOk (cxOf (CXe P w) P w K mg base N qual scope f cd A outer s₀ H₀ E) E := by
 intro pins σ H s h' a C args I me q
 have I' : Inv (cxOf (CXe P w) P w K mg base N qual scope f cd A outer s₀ H₀ E) pins σ H { s with heap := h' } := I.kept (t' := s.toks) me.keeps
 have n0 : ∀ b, s.heap.get? b = none → s₀.heap.get? b = none := fun b hb => by
  cases e : s₀.heap.get? b with
  | none => rfl
  | some o =>
   obtain ⟨o', h⟩ := I.base.there b o e (fun z => nomatch z)
   rw [hb] at h; cases h
 obtain ⟨t, h1, _, _⟩ := me.there
 show wpAny (model P w) (A.deeper (envOfC qual scope s₀.heap.objs.size f cd)) (leaving (envOfC qual scope s₀.heap.objs.size f cd) (.ref a)) _ _ { s with heap := h' }
 refine wpAny_leaving_firstW (base := PySem.W.hideAll h' ([a] ++ frs (cxOf (CXe P w) P w K mg base N qual scope f cd A outer s₀ H₀ E).stack)) (outer := outer) (L := s₀.heap.objs.size) I.ok.frames (frames_hide I') rfl
  h1 (fun b o z => PySem.W.of_hideAll _ z) (PySem.W.hideAll_none _ (by simp)) rfl rfl rfl fun h'' L => ?_
 refine left_out (X := cxOf (CXe P w) P w K mg base N qual scope f cd A outer s₀ H₀ E) (ch := [a]) (env := envOfC qual scope s₀.heap.objs.size f cd) rfl rfl rfl I' (by simp) (fun b hb => ?_) (fun b hb => ?_) (fun b hb => ?_) (fun b hb p hp z => ?_) L q
 · rw [List.mem_singleton.mp hb]; exact n0 a me.new
 · rw [List.mem_singleton.mp hb]
   cases e : H a with
   | none => rfl
   | some o =>
    obtain ⟨ob, h⟩ := (I.hok a o e).there
    rw [me.new] at h; cases h
 · rw [List.mem_singleton.mp hb]; exact ⟨_, _, h1, rfl⟩
 · obtain ⟨e, _⟩ := I.pin p hp
   rw [z, List.mem_singleton.mp hb, me.new] at e; cases e
end
end L2
namespace L2
open PySem PySem.Spec PyProof.Rows
abbrev bmV : List Value := [.type "ValueError", .type "Exception", .type "BaseException", .type "object"]
theorem own_obj {K : PySem.W.Frag} {h : Heap} {C : Addr} {bmB : List Value} {newId : String} (X : K.In h) (q : PySem.W.excIn K C bmB newId = true) :
 ∃ bm N nm qn bs hdct sn sub ab col dd k0 k1 k2 k3 k5 mN, h.get? C = some (excClassObj nm qn C N bs bm hdct sn sub ab col dd k0 k1 k2 k3 k5 newId) ∧ h.Ns N mN ∧ mN "__init__" = none ∧ OwnTail h bmB bm := by
 unfold PySem.W.excIn at q
 split at q
 · rename_i dd cd sl ho
   split at q
   · rename_i C' bm k0 k1 k2 k3 n k5 hm hs
     simp only [Bool.and_eq_true, beq_iff_eq, Bool.not_eq_true'] at q
     obtain ⟨⟨⟨⟨⟨rfl, rfl⟩, hdel⟩, ht⟩, hok⟩, hni⟩ := q
     obtain ⟨nm, bs, mro, ns, qn, hd, sn, sub, ab, col, del⟩ := cd
     dsimp only at hm hdel hok hni
     subst hm hdel
     have hsl : sl = #[k0, k1, k2, k3, some (.builtin n), k5] := by
      obtain ⟨l⟩ := sl
      simp only at hs
      rw [hs]
     subst hsl
     exact ⟨bm, ns, nm, qn, bs, hd, sn, sub, ab, col, dd, k0, k1, k2, k3, k5, _, X _ _ ho, .of_isNs (PySem.W.isNs_of_in X hok), PySem.W.nsMap_none_of_in X hok hni, PySem.W.tail_of_in X ht⟩
   · cases q
 · cases q
section
variable {X : Cx} {x : Str} {np cpos pos : Pos} {e₀ : Expr} {rest : List Expr} {C : Addr} {t : TA} {E : XK}
def tRaise (C : Addr) (E : XK) (t : TA) : TS := fun _ σ H => t σ H fun vs H1 => vs.length ≤ sizeLine ∧ E (.ref C) none H1
theorem ps_raise (hg : Gl X x) (hm : X.mg x = some (.ref C)) (q : PySem.W.excIn X.K C bmV "ValueError.__new__" = true) (hc : X.calm = true) (hr : RaiseOk X E) (ha : PA X (e₀ :: rest) t)
 (hd : (x == ("__debug__" : Str)) = false := by decide) (he : starEach (e₀ :: rest) X.env = (false, eval e₀ X.env) :: starEach rest X.env := by rfl) (hplain : (backTo cpos (starEach rest X.env)).any (·.1) = false := by rfl) :
 PS X (.Raise (some (.Call (.Name x np) (e₀ :: rest) [] cpos)) none pos) (tRaise C E t) := by
 intro pins s σ H D I h
 obtain ⟨tl, N, nm, qn, bs, hdct, sn, sub, ab, col, dd, k0, k1, k2, k3, k5, mN, hC, hN, hni, T⟩ := own_obj I.mod.kin q
 refine wpAny_Raise_call_subT (C := C) (nm := nm) (q := qn) (N := N) (bs := bs) (bm := tl) (hdct := hdct) (sn := sn) (sub := sub) (ab := ab) (col := col) (dd := dd) (k0 := k0) (k1 := k1) (k2 := k2) (k3 := k3) (k5 := k5)
  PySem.F.excBase_ValueError (mN := mN) (T.hasType PySem.F.excBase_ValueError.hasBase) (I.ok.hd hc) (by rw [he]; show (false || (backTo cpos (starEach rest X.env)).any (·.1)) = false; rw [hplain]; rfl) hni (ld_glob I hg hm ⟨rfl, ?_⟩ hd)
 have hA := ha cpos pins s σ H _ I h
 rw [he] at hA ⊢
 exact Calls.evalArgs_plain (wpAny_mono hA (fun us s₂ ⟨vs, H2, I2, r2, hz, q2⟩ => ⟨rfl, by rw [← r2.length]; exact hz, I2.bk _ _ hC, hN.keeps I2.bk, T.keeps I2.bk, fun h' e me => hr pins σ H2 s₂ h' e C us I2 me q2⟩) fun _ _ y => y)
end
def XP (X : Cx) (pins : List (Addr × Obj)) (Ex : St → XK) (e : Value) (s' : Shared) : Prop := ∃ σ H1 s1, Inv X pins σ H1 s1 ∧ CXe X.prog X.w X.stack H1 s1 (Ex σ) e s'
def PEx (X : Cx) (e : Expr) (t : XK → TE) : Prop :=
 ∀ (pins : List (Addr × Obj)) (s : Shared) (σ : St) (H : Hp) (Q : VK) (Ex : St → XK), Inv X pins σ H s → t (Ex σ) σ H Q → wpAny (model X.prog X.w) X.A (eval e X.env) (EP X pins σ Q) (XP X pins Ex) s
def PSx (X : Cx) (st : Stmt) (t : (St → XK) → TS) : Prop :=
 ∀ (pins : List (Addr × Obj)) (s : Shared) (σ : St) (H : Hp) (D : Ends) (Ex : St → XK), Inv X pins σ H s → t Ex D σ H → wpAny (model X.prog X.w) X.A (exec st X.env) (SP X pins D) (XP X pins Ex) s
def PSsx (X : Cx) (st : List Stmt) (t : (St → XK) → TS) : Prop :=
 ∀ (pins : List (Addr × Obj)) (s : Shared) (σ : St) (H : Hp) (D : Ends) (Ex : St → XK), Inv X pins σ H s → t Ex D σ H → wpAny (model X.prog X.w) X.A (execs st X.env) (SP X pins D) (XP X pins Ex) s
theorem EP.unwish {X : Cx} {E : Value → Shared → Prop} {pins : List (Addr × Obj)} {σ : St} {Q : VK} {u : Value} {s' : Shared} (h : EP (X.wish E) pins σ Q u s') : EP X pins σ Q u s' := by
 obtain ⟨v, H', I, r, q⟩ := h
 exact ⟨v, H', I.unwish, r, q⟩
section
variable {X : Cx} {k : Nat} {f C : Addr} {fd : FuncData} {ps : List Str} {sp : Sp} {dvs : List V} {ds : List Value} {x m : Str} {p pos apos : Pos} {e o : Expr} {es : List Expr} {ta : TE} {t : TA}
theorem run_fnE {pins : List (Addr × Obj)} {σ : St} {H : Hp} {s : Shared} {Q : VK} {us : List Value} {vs : List V} {Ex : St → XK} (F : FnOk X.prog X.w X.K X.mg X.base (CXe X.prog X.w) k f fd ps sp) (hr : Room k X.A) (hb : Binds X.K fd ps ds) (hd : Vals dvs ds)
 (I : Inv X pins σ H s) (r : Vals vs us) (h : sp (vs ++ dvs) H Q (Ex σ)) : wpAny (model X.prog X.w) X.A (call (.ref f) us) (EP X pins σ Q) (XP X pins Ex) s := by
 have r2 : Vals (vs ++ dvs) (us ++ ds) := r.append hd
 have hl : (us ++ ds).length = ps.length := by rw [← r2.length]; exact F.len _ _ _ _ h
 refine wpAny_call (codeAny_mono (F.run X.A X.stack s H ⟨us, []⟩ (us ++ ds) (vs ++ dvs) Q (Ex σ) hr I.env0 (hb s us I.kIn hl) r2 h) fun r s' hq => ?_)
 cases r with
 | error e => exact ⟨σ, H, s, I, hq⟩
 | ok fl =>
  cases fl with
  | ret u => exact I.after hq
  | next => exact False.elim hq
  | brk => exact False.elim hq
  | cont => exact False.elim hq
theorem pex_call (F : FnOk X.prog X.w X.K X.mg X.base (CXe X.prog X.w) k f fd ps sp) (hr : Room k X.A) (hg : Gl X x) (hm : X.mg x = some (.ref f)) (hk : PySem.W.keepIn X.K (.ref f) = true) (hb : Binds X.K fd ps ds) (hd : Vals dvs ds)
 (ha : PA X.nox (e :: es) t) (hdb : (x == ("__debug__" : Str)) = false := by decide) (he : starEach (e :: es) X.env = (false, eval e X.env) :: starEach es X.env := by rfl) (hpl : (backTo pos (starEach es X.env)).any (·.1) = false := by rfl) :
 PEx X (.Call (.Name x p) (e :: es) [] pos) (fun E => tCall sp dvs E t) := by
 intro pins s σ H Q Ex I h
 refine wpAny_Call_Name_kw (ld_glob I hg hm ?_ hdb)
 refine PySem.W.callWith_K (h₀ := X.base) I.ok.mod.kin hk (wpAny_mono (ha pos pins s σ H _ (I.wish _) h) (fun us s1 ⟨vs, H1, I1, r, q⟩ => ⟨I1.unwish.kIn, ?_⟩) fun _ _ z => z.elim) he hpl
 exact run_fnE F hr hb hd I1.unwish r q
variable {te : XK → TE} {st : Stmt} {rest a b : List Stmt} {tx ux : (St → XK) → TS} {ts : TS} {tc : TT} {cnd : Expr}
theorem psx_ret (he : PEx X e te) : PSx X (.Return (some e) pos) (fun Ex D σ H => te (Ex σ) σ H D.rt) := by
 intro pins s σ H D Ex I h
 exact wpAny_Return_some (thn (he pins s σ H _ Ex I h) fun v s1 ⟨x, H1, I1, r1, q1⟩ => ⟨x, σ, H1, I1, r1, q1⟩)
theorem psx_expr (he : PEx X e te) (hs : swapsWith e none pos.line X.env = pure false := by rfl) : PSx X (.Expr e pos) (fun Ex D σ H => te (Ex σ) σ H fun _ H1 => D.nx σ H1) := by
 intro pins s σ H D Ex I h
 exact wpAny_Expr_any (thn (he pins s σ H _ Ex I h) fun v s1 ⟨x, H1, I1, r1, q1⟩ => ⟨σ, H1, I1, q1⟩) I.quiet hs
theorem pssx_one (h1 : PSx X st tx) : PSsx X [st] tx := by
 intro pins s σ H D Ex I h
 refine wpAny_execs_cons (thn (h1 pins s σ H D Ex I h) fun f s1 q => ?_)
 cases f with
 | next => exact wpAny_execs_nil q
 | ret v => exact q
 | brk => exact q
 | cont => exact q
end
end L2
namespace L2
open PySem PySem.Spec PyProof.Rows
abbrev Cx.hnd (X : Cx) (a : Addr) : Cx := { X with A := X.A.mark (some (.ref a)), calm := false, xe := fun _ _ => False }
theorem Inv.hnd {X : Cx} {pins : List (Addr × Obj)} {σ : St} {H : Hp} {s : Shared} (I : Inv X pins σ H s) (a : Addr) : Inv (X.hnd a) pins σ H s :=
 ⟨⟨I.ok.mod, I.ok.kind, I.ok.glob, I.ok.blt, I.ok.above, I.ok.inj, I.ok.has, I.ok.cab, (fun h => nomatch h), I.ok.frames, I.ok.stk, I.ok.exf, I.ok.bs, I.ok.bsz, I.ok.noex, I.ok.exfs, I.ok.funs, I.ok.frf⟩,
  I.os, I.bare, I.base, I.loc, I.cell, I.free, I.freeC, I.pin, I.hok, I.len⟩
theorem Inv.unhnd {X : Cx} {pins : List (Addr × Obj)} {σ σ' : St} {H H' : Hp} {s s' : Shared} {a : Addr} (J : Inv X pins σ' H' s') (I : Inv (X.hnd a) pins σ H s) : Inv X pins σ H s :=
 ⟨J.ok, I.os, I.bare, I.base, I.loc, I.cell, I.free, I.freeC, I.pin, I.hok, I.len⟩
structure Caught (X : Cx) (pins : List (Addr × Obj)) (σ : St) (H : Hp) (a : Addr) (cls : Value) (s : Shared) : Prop where
 ex : ∃ (s1 : Shared) (T : Addr) (a0 : Value), Inv X pins σ H s1 ∧ X.s₀.heap.get? a = none ∧ X.s₀.heap.get? T = none ∧ H a = none ∧ H T = none ∧ (∀ p ∈ X.pn ++ pins, p.1 ≠ a ∧ p.1 ≠ T) ∧
  (∃ o vs, s1.heap.get? a = some o ∧ o.data = .fields vs) ∧ (∃ o vs, s1.heap.get? T = some o ∧ o.data = .fields vs) ∧ s = { s1 with heap := s.heap } ∧
  Heap.FlyingW (PySem.W.hideAll s1.heap ([a, T] ++ frs X.stack)) X.stack a cls a0 s.heap ∧ s1.heap.UpToSlots s.heap
theorem Caught.inv {X : Cx} {pins : List (Addr × Obj)} {σ : St} {H : Hp} {a : Addr} {cls : Value} {s : Shared} (c : Caught X pins σ H a cls s) : Inv X pins σ H s := by
 obtain ⟨s1, T, a0, I, n1, n2, f1, f2, hp, d1, d2, es, fl, sl⟩ := c.ex
 rw [es]
 refine I.noted (ch := [a, T]) (fun b hb => ?_) (fun b hb => ?_) (fun b hb => ?_) (fun b hb p hq => ?_) fl.1 sl
 · rcases List.mem_cons.mp hb with r | r
   · rw [r]; exact n1
   · rw [List.mem_singleton.mp r]; exact n2
 · rcases List.mem_cons.mp hb with r | r
   · rw [r]; exact f1
   · rw [List.mem_singleton.mp r]; exact f2
 · rcases List.mem_cons.mp hb with r | r
   · rw [r]; exact d1
   · rw [List.mem_singleton.mp r]; exact d2
 · rcases List.mem_cons.mp hb with r | r
   · rw [r]; exact (hp p hq).1
   · rw [List.mem_singleton.mp r]; exact (hp p hq).2
def PH (X : Cx) (hs : List ExceptHandler) (th : Value → TS) : Prop :=
 ∀ (pins : List (Addr × Obj)) (σ : St) (H : Hp) (D : Ends) (a : Addr) (cls : Value) (s : Shared), Caught X pins σ H a cls s → th cls D σ H → wpAny (model X.prog X.w) X.A (handleBy (.ref a) X.env hs) (SP X pins D) X.xe s
section
variable {X : Cx} {x : Str} {np pos : Pos} {b₀ : Stmt} {suite : List Stmt} {rest : List ExceptHandler} {c : Value} {tb : TS} {th : Value → TS}
theorem ph_nil : PH X [] (fun _ _ _ _ => False) := fun _ _ _ _ _ _ _ _ h => h.elim
def tHand (K : PySem.W.Frag) (c : Value) (tb : TS) (th : Value → TS) : Value → TS := fun cls D σ H => ∃ b, PySem.W.exmOne K cls c = some b ∧ if b = true then tb D σ H else th cls D σ H
theorem ph_cons (hg : Gl X x) (hm : X.mg x = some c) (hb : ∀ a, PSs (X.hnd a) (b₀ :: suite) tb) (hr : PH X rest th) (hd : (x == ("__debug__" : Str)) = false := by decide) :
 PH X (.ExceptHandler (some (.Name x np)) none (b₀ :: suite) pos :: rest) (tHand X.K c tb th) := by
 intro pins σ H D a cls s cg h
 obtain ⟨b, eb, h⟩ := h
 have I := cg.inv
 refine wpAny_handleBy_cons (codeAny_handlers_test (ld_glob (X := X.hnd a) (I.hnd a) hg hm ?_ hd)) (by intro q; cases q)
 have ty : PySem.W.Looks (model X.prog X.w) s.heap (typeOf (.ref a)) cls := by
  obtain ⟨_, _, _, _, _, _, _, _, _, _, _, _, fl, _⟩ := cg.ex
  obtain ⟨ob, e1, e2⟩ := fl.there
  subst e2
  exact (PySem.W.Looks.ld e1).andThen .now
 refine PySem.W.exm_one I.kIn ty eb _ _ _ _ (fun _ _ z => z) ?_
 cases b with
 | false =>
  rw [if_neg Bool.false_ne_true] at h
  exact hr pins σ H D a cls s cg h
 | true =>
  rw [if_pos rfl] at h
  refine codeAny_handlers_suite ?_
  obtain ⟨s1, T, a0, I1, n1, n2, f1, f2, hp, d1, d2, es, fl, sl⟩ := cg.ex
  refine lands_againW fl fun h6 fl6 sl6 => ?_
  have cg6 : Caught X pins σ H a cls { s with heap := h6 } := ⟨⟨s1, T, a0, I1, n1, n2, f1, f2, hp, d1, d2, by rw [es], fl6, sl.trans sl6⟩⟩
  refine wpAny_mono (hb a pins { s with heap := h6 } σ H D (cg6.inv.hnd a) h) (fun f s' q => ?_) fun _ _ z => z.elim
  cases f with
  | next => obtain ⟨σ', H', J, q⟩ := q; exact ⟨σ', H', I.unhnd J, q⟩
  | brk => obtain ⟨σ', H', J, q⟩ := q; exact ⟨σ', H', I.unhnd J, q⟩
  | cont => obtain ⟨σ', H', J, q⟩ := q; exact ⟨σ', H', I.unhnd J, q⟩
  | ret u => obtain ⟨v, σ', H', J, r, q⟩ := q; exact ⟨v, σ', H', I.unhnd J, r, q⟩
def tTry (tx : (St → XK) → TS) (th : Value → TS) : TS := fun D σ H => tx (fun σ' cls _ H' => th cls D σ' H') D σ H
theorem ps_try {body : List Stmt} {h₀ : ExceptHandler} {hs : List ExceptHandler} {tx : (St → XK) → TS} (hst : X.stack = X.env :: X.outer) (hfr : X.env.frame = some X.env.locals) (hex : X.ex = []) (hb : PSsx X body tx) (hh : PH X (h₀ :: hs) th) :
 PS X (.Try body (h₀ :: hs) [] [] pos) (tTry tx th) := by
 intro pins s σ H D I h
 refine wpAny_Try_except (wpAny_mono (hb pins s σ H D (fun σ' cls _ H' => th cls D σ' H') I h) (fun f s1 q => ?_) fun e s' q => ?_)
 · cases f with
   | next => exact wpAny_execs_nil q
   | brk => exact q
   | cont => exact q
   | ret u => exact q
 · obtain ⟨σ', H1, s1, I1, a, T, cls, H', rfl, os, bare, un, hok, na, nT, fa, fT, tr, q⟩ := q
   have I' : Inv X pins σ' H' s' := I1.call' os un hok bare (fun b z => nomatch z)
   have n0 : ∀ b, s1.heap.get? b = none → X.s₀.heap.get? b = none := fun b hb => by
    cases e : X.s₀.heap.get? b with
    | none => rfl
    | some o =>
     obtain ⟨o', h⟩ := I1.base.there b o e (by rw [hex]; exact fun z => nomatch z)
     rw [hb] at h; cases h
   have hp : ∀ p ∈ X.pn ++ pins, p.1 ≠ a ∧ p.1 ≠ T := fun p hp => by
    obtain ⟨e, _⟩ := I1.pin p hp
    exact ⟨(fun z => by rw [z, na] at e; cases e), (fun z => by rw [z, nT] at e; cases e)⟩
   obtain ⟨a0, oe, vs, oT, ts, h1, h2, h3, h4, h6, h7, h8, h9⟩ := tr
   have fl0 : Heap.FlyingW (PySem.W.hideAll s'.heap ([a, T] ++ frs X.stack)) (X.env :: X.outer) a cls a0 s'.heap :=
    ⟨fun b o z => PySem.W.of_hideAll _ z, PySem.W.hideAll_none _ (by simp), by rw [← hst]; exact frames_hide I', oe, vs, T, oT, ts, h1, h2, h3, h4, PySem.W.hideAll_none _ (by simp), h6, h7, h8, h9⟩
   refine wpAny_looks_onW (L := X.env.locals) (by rw [I.ok.frames, hst]) hfr fl0 fun h4' hd4 sl4 => ?_
   refine wpAny_landsW hd4 fun h5 fl5 sl5 => ?_
   refine hh pins σ' H' D a cls _ ⟨⟨s', T, a0, I', n0 a na, n0 T nT, fa, fT, hp, ⟨oe, vs, h1, h3⟩, ⟨oT, ts, h7, h8⟩, rfl, by rw [hst]; rw [hst] at fl5; exact fl5, sl4.trans sl5⟩⟩ q
end
theorem Fun.okE {P : Program} {w : World} {K : PySem.W.Frag} {mg : Str → Option Value} {base : Heap} {x qual : Str} {st : Stmt} {f : Addr} {fd : FuncData} {N ps : List Str} {k : Nat} {sp : Sp} (F : Fun K x qual st f fd) (S : FnScope N ps (defScope st)) (len : ∀ vs H Q E, sp vs H Q E → vs.length = ps.length)
 (hbody : ∀ (cdv : Value) (A : Around) (outer : List Env) (s : Shared) (H : Hp) (vs : List V) (Q : VK) (E : XK), Room k (A.deeper (envOfC qual (defScope st) s.heap.objs.size f cdv)) → sp vs H Q E →
   ∃ t, PSs (cxOf (CXe P w) P w K mg base N qual (defScope st) f cdv A outer s H E) (defBody st) t ∧ t { nx := fun _ H' => Q .non H', rt := Q } (start N vs) H) : FnOk P w K mg base (CXe P w) (k + 1) f fd ps sp := by
 obtain ⟨oc, od, kV, doc, pm, an, cdv, ct, osl, rfl, lk, hcd⟩ := F.ex
 exact fn_of lk hcd S len fun A outer s H vs Q E hr hsp => hbody cdv A outer s H vs Q E hr hsp
theorem Fun.okN {P : Program} {w : World} {K : PySem.W.Frag} {mg : Str → Option Value} {base : Heap} {x qual : Str} {st : Stmt} {f : Addr} {fd : FuncData} {N ps : List Str} {k : Nat} {sp : Sp} (F : Fun K x qual st f fd) (S : FnScope N ps (defScope st)) (len : ∀ vs H Q E, sp vs H Q E → vs.length = ps.length)
 (hbody : ∀ (cdv : Value) (A : Around) (outer : List Env) (s : Shared) (H : Hp) (vs : List V) (Q : VK) (E : XK), Room k (A.deeper (envOfC qual (defScope st) s.heap.objs.size f cdv)) → sp vs H Q E →
   ∃ t, PSs (cxOf (CXe P w) P w K mg base N qual (defScope st) f cdv A outer s H E).nox (defBody st) t ∧ t { nx := fun _ H' => Q .non H', rt := Q } (start N vs) H) : FnOk P w K mg base (CXe P w) (k + 1) f fd ps sp := by
 refine F.okE S len fun cdv A outer s H vs Q E hr hsp => ?_
 obtain ⟨t, h, q⟩ := hbody cdv A outer s H vs Q E hr hsp
 exact ⟨t, h.nox, q⟩
theorem passN {P : Program} {w : World} {X : Cx} : Passes (CXe P w) X E0 := by
 intro _ _ _ _ _ _ _ h
 obtain ⟨_, _, _, _, _, _, _, _, _, _, _, _, _, _, h⟩ := h
 exact h.elim
end L2
namespace L2
open PySem PySem.Spec PyProof.Rows
section
variable {H : Hp} {Q : VK} {p q : Addr} {i j k : Int} {x y v : V} {z z' : Str} {xs ys : List V} {kvs : List (Key × V)} {C dx : Addr} {fs : List (Str × V)} {c c' : Bool} {d : Nat} {o : Option HO}
theorem sq_lst : sqOf (some (.lst xs)) = some xs := rfl
theorem sq_tup : sqOf (some (.tup xs)) = some xs := rfl
theorem sq_frz {ob : Obj} : sqOf (some (.frz ob (.lst xs))) = some xs := rfl
theorem sq_dK : sqOf (some (.dK kvs)) = none := rfl
theorem sq_ins : sqOf (some (.ins C dx fs)) = none := rfl
def ixAt (s : Option (List V)) (o : Option HO) (y : V) (H : Hp) (Q : VK) : Prop := match s with
 | some xs => ∃ i v, y = .int i ∧ atI xs i = some v ∧ Q v H
 | none => ∃ kvs k v, o = some (.dK kvs) ∧ keyV y = some k ∧ valV kvs k = some v ∧ Q v H
theorem w_ix_ref : fIx (.ref p) y H Q = ixAt (sqOf (H p)) (H p) y H Q := rfl
theorem w_ix_sq : ixAt (some xs) o (.int i) H Q ↔ ∃ v, atI xs i = some v ∧ Q v H := by simp [ixAt]
theorem w_ix_dki : ixAt none (some (.dK kvs)) (.int i) H Q ↔ ∃ v, valV kvs (Sum.inl i) = some v ∧ Q v H := by simp [ixAt, keyV]
theorem w_ix_dks : ixAt none (some (.dK kvs)) (.str z) H Q ↔ ∃ v, valV kvs (Sum.inr z) = some v ∧ Q v H := by simp [ixAt, keyV]
theorem w_ix_str : fIx (.str z) (.int i) H Q ↔ (z.length ≤ sizeLine ∧ ∃ c, atI z.cps.toList i = some c ∧ Q (.str ⟨#[c]⟩) H) := by
 simp only [fIx]
 constructor
 · rintro ⟨i', c, e, h1, h2, h3⟩; cases e; exact ⟨h1, c, h2, h3⟩
 · rintro ⟨h1, c, h2, h3⟩; exact ⟨i, c, rfl, h1, h2, h3⟩
def slAt (o : Option HO) (lo hi : Option Int) (H : Hp) (Q : VK) : Prop := match o with
 | some (.tup xs) => ¬ (HT.sIx xs.length 0 lo = 0 ∧ HT.sIx xs.length xs.length hi = xs.length) ∧ ∀ q, H q = none → Q (.ref q) (upd H q (.tup (cutV xs lo hi)))
 | o => ∃ xs, sqOf o = some xs ∧ ∀ q, H q = none → Q (.ref q) (upd H q (.lst (cutV xs lo hi)))
theorem w_sl {lo hi : Option Int} : fSl (.ref p) lo hi H Q = slAt (H p) lo hi H Q := rfl
theorem w_sl_tup {lo hi : Option Int} : slAt (some (.tup xs)) lo hi H Q = (¬ (HT.sIx xs.length 0 lo = 0 ∧ HT.sIx xs.length xs.length hi = xs.length) ∧ ∀ q, H q = none → Q (.ref q) (upd H q (.tup (cutV xs lo hi)))) := rfl
theorem w_sl_lst {lo hi : Option Int} : slAt (some (.lst xs)) lo hi H Q ↔ ∀ q, H q = none → Q (.ref q) (upd H q (.lst (cutV xs lo hi))) := by simp [slAt, sqOf]
theorem w_sl_frz {lo hi : Option Int} {ob : Obj} : slAt (some (.frz ob (.lst xs))) lo hi H Q ↔ ∀ q, H q = none → Q (.ref q) (upd H q (.lst (cutV xs lo hi))) := by simp [slAt, sqOf]
def lenAt (s : Option (List V)) (o : Option HO) (H : Hp) (Q : VK) : Prop := match s with
 | some ys => Q (.int ys.length) H
 | none => ∃ kvs, o = some (.dK kvs) ∧ Q (.int kvs.length) H
theorem w_len_ref : fLen [.ref p] H Q = lenAt (sqOf (H p)) (H p) H Q := rfl
theorem w_len_sq : lenAt (some xs) o H Q = Q (.int xs.length) H := rfl
theorem w_len_dk : lenAt none (some (.dK kvs)) H Q ↔ Q (.int kvs.length) H := by simp [lenAt]
theorem w_len_str : fLen [.str z] H Q = (z.length ≤ sizeLine ∧ Q (.int z.length) H) := rfl
theorem w_list : fList [.ref p] H Q ↔ ∃ ys, sqOf (H p) = some ys ∧ ∀ l, H l = none → Q (.ref l) (upd H l (.lst ys)) := by
 constructor
 · rintro ⟨p', ys, e, h1, h2⟩; cases e; exact ⟨ys, h1, h2⟩
 · rintro ⟨ys, h1, h2⟩; exact ⟨p, ys, rfl, h1, h2⟩
def tupAt (o : Option HO) (p : Addr) (H : Hp) (Q : VK) : Prop := match o with
 | some (.tup _) => Q (.ref p) H
 | some (.lst ys) => ∀ l, H l = none → Q (.ref l) (upd H l (.tup ys))
 | _ => False
theorem w_tuple : fTuple [.ref p] H Q ↔ tupAt (H p) p H Q := by
 constructor
 · rintro ⟨p', e, h⟩; cases e; exact h
 · intro h; exact ⟨p, rfl, h⟩
theorem w_tuple_tup : tupAt (some (.tup xs)) p H Q = Q (.ref p) H := rfl
theorem w_tuple_lst : tupAt (some (.lst xs)) p H Q = ∀ l, H l = none → Q (.ref l) (upd H l (.tup xs)) := rfl
def inAt (neg : Bool) (s : Option (List V)) (o : Option HO) (x : V) (H : Hp) (Q : VK) : Prop := match s with
 | some xs => flatV x = true ∧ xs.all flatV = true ∧ Q (.bl (if neg then !inV x xs else inV x xs)) H
 | none => ∃ kvs k, o = some (.dK kvs) ∧ keyV x = some k ∧ Q (.bl (if neg then !(valV kvs k).isSome else (valV kvs k).isSome)) H
theorem w_in {neg : Bool} : fIn neg x (.ref p) H Q = inAt neg (sqOf (H p)) (H p) x H Q := rfl
theorem w_in_sq : inAt false (some xs) o x H Q = (flatV x = true ∧ xs.all flatV = true ∧ Q (.bl (inV x xs)) H) := rfl
theorem w_notin_sq : inAt true (some xs) o x H Q = (flatV x = true ∧ xs.all flatV = true ∧ Q (.bl (!inV x xs)) H) := rfl
theorem w_in_dki : inAt false none (some (.dK kvs)) (.int i) H Q ↔ Q (.bl (valV kvs (Sum.inl i)).isSome) H := by simp [inAt, keyV]
theorem w_notin_dki : inAt true none (some (.dK kvs)) (.int i) H Q ↔ Q (.bl (!(valV kvs (Sum.inl i)).isSome)) H := by simp [inAt, keyV]
theorem w_is_non : fIs false x .non H Q = Q (.bl (decide (x = .non))) H := rfl
theorem w_isnot_non : fIs true x .non H Q = Q (.bl (!decide (x = .non))) H := rfl
theorem w_is_bl : fIs false x (.bl c) H Q = Q (.bl (decide (x = .bl c))) H := rfl
theorem w_isnot_bl : fIs true x (.bl c) H Q = Q (.bl (!decide (x = .bl c))) H := rfl
def tyR : Option HO → Option String
 | some (.lst _) => some "list"
 | some (.frz _ (.lst _)) => some "list"
 | some (.tup _) => some "tuple"
 | some (.dK _) => some "dict"
 | _ => none
theorem ty_ref : tyN (.ref p) H = tyR (H p) := by
 show (match H p with | some (.lst _) => some "list" | some (.frz _ (.lst _)) => some "list" | some (.tup _) => some "tuple" | some (.dK _) => some "dict" | _ => none) = tyR (H p)
 cases H p with
 | none => rfl
 | some o =>
  cases o with
  | frz ob u => cases u <;> rfl
  | _ => rfl
theorem ty_non : tyN .non H = some "NoneType" := rfl
theorem ty_bl : tyN (.bl c) H = some "bool" := rfl
theorem ty_int : tyN (.int i) H = some "int" := rfl
theorem ty_str : tyN (.str z) H = some "str" := rfl
theorem tyR_lst : tyR (some (.lst xs)) = some "list" := rfl
theorem tyR_frz {ob : Obj} : tyR (some (.frz ob (.lst xs))) = some "list" := rfl
theorem tyR_tup : tyR (some (.tup xs)) = some "tuple" := rfl
theorem tyR_dK : tyR (some (.dK kvs)) = some "dict" := rfl
theorem w_isi {s : String} : fIsi [x, .ty s] H Q ↔ (okT s = true ∧ ∃ t, tyN x H = some t ∧ Q (.bl (subT t s)) H) := by
 constructor
 · rintro ⟨x', c, t, e, h1, h2, h3⟩
   have e1 : x = x' := by injection e
   have e2 : s = c := by injection e with _ e; injection e with e; injection e
   subst e1 e2
   exact ⟨h1, t, h2, h3⟩
 · rintro ⟨h1, t, h2, h3⟩; exact ⟨x, s, t, rfl, h1, h2, h3⟩
theorem w_eq_int : fEq d (.int i) (.int j) H Q ↔ Q (.bl (decide (i = j))) H := by
 show (if true = true then _ else _) ↔ _
 rw [if_pos rfl]
 simp only [V.int.injEq]
theorem w_eq_str : fEq d (.str z) (.str z') H Q ↔ Q (.bl (decide (z = z'))) H := by
 show (if true = true then _ else _) ↔ _
 rw [if_pos rfl]
 simp only [V.str.injEq]
theorem w_eq_bl : fEq d (.bl c) (.bl c') H Q ↔ Q (.bl (decide (c = c'))) H := by
 show (if true = true then _ else _) ↔ _
 rw [if_pos rfl]
 simp only [V.bl.injEq]
theorem w_eq_ni : fEq d .non (.int j) H Q ↔ Q (.bl false) H := by
 show (if true = true then _ else _) ↔ _
 rw [if_pos rfl]
 simp only [reduceCtorEq, decide_false]
theorem w_eq_in : fEq d (.int j) .non H Q ↔ Q (.bl false) H := by
 show (if true = true then _ else _) ↔ _
 rw [if_pos rfl]
 simp only [reduceCtorEq, decide_false]
theorem w_eq_nn : fEq d .non .non H Q ↔ Q (.bl true) H := by
 show (if true = true then _ else _) ↔ _
 rw [if_pos rfl]
 simp only [decide_true]
theorem w_eq_ref : fEq d (.ref p) (.ref q) H Q ↔ ∃ k, EqRef d H (.ref p) (.ref q) k ∧ Q (.bl k) H := by
 show (if false = true then _ else _) ↔ _
 rw [if_neg Bool.false_ne_true]
theorem w_ne_int : fNe d (.int i) (.int j) H Q ↔ Q (.bl (!decide (i = j))) H := by
 show (if true = true then _ else _) ↔ _
 rw [if_pos rfl]
 simp only [V.int.injEq]
theorem w_ne_str : fNe d (.str z) (.str z') H Q ↔ Q (.bl (!decide (z = z'))) H := by
 show (if true = true then _ else _) ↔ _
 rw [if_pos rfl]
 simp only [V.str.injEq]
theorem w_ne_bl : fNe d (.bl c) (.bl c') H Q ↔ Q (.bl (!decide (c = c'))) H := by
 show (if true = true then _ else _) ↔ _
 rw [if_pos rfl]
 simp only [V.bl.injEq]
theorem w_ne_ni : fNe d .non (.int j) H Q ↔ Q (.bl true) H := by
 show (if true = true then _ else _) ↔ _
 rw [if_pos rfl]
 simp only [reduceCtorEq, decide_false, Bool.not_false]
theorem w_ne_in : fNe d (.int j) .non H Q ↔ Q (.bl true) H := by
 show (if true = true then _ else _) ↔ _
 rw [if_pos rfl]
 simp only [reduceCtorEq, decide_false, Bool.not_false]
theorem w_ne_nn : fNe d .non .non H Q ↔ Q (.bl false) H := by
 show (if true = true then _ else _) ↔ _
 rw [if_pos rfl]
 simp only [decide_true, Bool.not_true]
theorem w_ne_ref : fNe d (.ref p) (.ref q) H Q ↔ ∃ k, EqRef d H (.ref p) (.ref q) k ∧ Q (.bl (!k)) H := by
 show (if false = true then _ else _) ↔ _
 rw [if_neg Bool.false_ne_true]
theorem w_add_int : fAdd (.int i) (.int j) H Q ↔ Q (.int (i + j)) H := by simp [fAdd]
theorem w_add_str : fAdd (.str z) (.str z') H Q ↔ (z.length + z'.length ≤ sizeLine ∧ Q (.str (z ++ z')) H) := by simp [fAdd]
def addAt (o o' : Option HO) (H : Hp) (Q : VK) : Prop :=
 (∃ xs ys, o = some (.lst xs) ∧ o' = some (.lst ys) ∧ xs.length + ys.length ≤ sizeLine ∧ ∀ l, H l = none → Q (.ref l) (upd H l (.lst (xs ++ ys)))) ∨
 (∃ xs ys, o = some (.tup xs) ∧ o' = some (.tup ys) ∧ xs.length + ys.length ≤ sizeLine ∧ ∀ l H', NewTup H l (xs ++ ys) H' → Q (.ref l) H')
theorem w_add_ref : fAdd (.ref p) (.ref q) H Q ↔ addAt (H p) (H q) H Q := by simp [fAdd, addAt]
theorem w_add_lst : addAt (some (.lst xs)) (some (.lst ys)) H Q ↔ (xs.length + ys.length ≤ sizeLine ∧ ∀ l, H l = none → Q (.ref l) (upd H l (.lst (xs ++ ys)))) := by simp [addAt]
theorem w_add_tup : addAt (some (.tup xs)) (some (.tup ys)) H Q ↔ (xs.length + ys.length ≤ sizeLine ∧ ∀ l H', NewTup H l (xs ++ ys) H' → Q (.ref l) H') := by simp [addAt]
theorem w_mul_int : fMul (.int i) (.int j) H Q ↔ (CMul i j ∧ Q (.int (i * j)) H) := by simp [fMul]
def mulAt (o : Option HO) (k : Int) (H : Hp) (Q : VK) : Prop := ∃ xs, o = some (.lst xs) ∧ (-(2 ^ 63) ≤ k ∧ k < 2 ^ 63) ∧ xs.length * k.toNat ≤ sizeLine ∧ ∀ l, H l = none → Q (.ref l) (upd H l (.lst (List.replicate k.toNat xs).flatten))
theorem w_mul_ref : fMul (.ref p) (.int k) H Q ↔ mulAt (H p) k H Q := by
 unfold mulAt
 constructor
 · rintro ⟨k', xs, e, h⟩; cases e; exact ⟨xs, h⟩
 · rintro ⟨xs, h⟩; exact ⟨k, xs, rfl, h⟩
theorem w_mul_lst : mulAt (some (.lst xs)) k H Q ↔ ((-(2 ^ 63) ≤ k ∧ k < 2 ^ 63) ∧ xs.length * k.toNat ≤ sizeLine ∧ ∀ l, H l = none → Q (.ref l) (upd H l (.lst (List.replicate k.toNat xs).flatten))) := by
 unfold mulAt
 constructor
 · rintro ⟨ys, e, h⟩; cases e; exact h
 · intro h; exact ⟨xs, rfl, h⟩
def setAt (o : Option HO) (p : Addr) (i v : V) (H : Hp) (R : Hp → Prop) : Prop :=
 (∃ xs k j, o = some (.lst xs) ∧ i = .int k ∧ ixN xs.length k = some j ∧ R (upd H p (.lst (xs.set j v)))) ∨ (∃ kvs k, o = some (.dK kvs) ∧ keyV i = some k ∧ kvs.length < sizeLine ∧ R (upd H p (.dK (putK kvs k v))))
theorem w_set {R : Hp → Prop} : fSet (.ref p) x v H R = setAt (H p) p x v H R := rfl
theorem w_set_lst {R : Hp → Prop} : setAt (some (.lst xs)) p (.int k) v H R ↔ ∃ j, ixN xs.length k = some j ∧ R (upd H p (.lst (xs.set j v))) := by simp [setAt]
theorem w_set_dki {R : Hp → Prop} : setAt (some (.dK kvs)) p (.int i) v H R ↔ (kvs.length < sizeLine ∧ R (upd H p (.dK (putK kvs (Sum.inl i) v)))) := by simp [setAt, keyV]
theorem w_min {Q : VK} : (∃ a b, ([V.int i, V.int j] : List V) = [V.int a, V.int b] ∧ Q (.int (if b < a then b else a)) H) ↔ Q (.int (if j < i then j else i)) H := by
 constructor
 · rintro ⟨a, b, e, h⟩; cases e; exact h
 · intro h; exact ⟨i, j, rfl, h⟩
end
end L2
namespace L2
open PySem PySem.Spec PyProof.Rows
def Scr (K : PySem.W.Frag) (H : Hp) (a : Addr) (L : List V) : Prop := (∃ o, H a = some (.frz o (.lst L))) ∨
 ∃ (o : Obj) (its : Array Value) (n : Nat), K.lookup a = some o ∧ o.cls = .type "list" ∧ o.dict = none ∧ o.data = .seq its n ∧ its.size ≤ sizeLine ∧ Vals L its.toList
theorem Scr.sq {K : PySem.W.Frag} {H : Hp} {a : Addr} {L : List V} (h : Scr K H a L) : SqL K H a L := by
 rcases h with ⟨o, h⟩ | h
 · exact .inl (.inr ⟨o, h⟩)
 · exact .inr h
theorem Scr.of {K : PySem.W.Frag} {H : Hp} {a : Addr} {L : List V} (hO : Only H) (h : SqL K H a L) : Scr K H a L := by
 rcases h with (h | ⟨o, h⟩) | h
 · rcases hO a with z | ⟨o, xs, z⟩
   · rw [h] at z; cases z
   · rw [h] at z; cases z
 · exact .inl ⟨o, h⟩
 · exact .inr h
theorem Scr.same {K : PySem.W.Frag} {H H' : Hp} {a : Addr} {L : List V} (h : Scr K H a L) (s : Same H H') : Scr K H' a L := by
 rcases h with ⟨o, h⟩ | h
 · exact .inl ⟨o, s _ _ h⟩
 · exact .inr h
theorem Scr.wr {K : PySem.W.Frag} {H H' : Hp} {a p : Addr} {L : List V} {o : HO} (h : Scr K H a L) (hm : Mut (H p)) (e : upd H p o = H') : Scr K H' a L := by
 rcases h with ⟨ob, h⟩ | h
 · refine .inl ⟨ob, (wr_ne e fun z => ?_).trans h⟩
   rw [← z, h] at hm
   exact hm
 · exact .inr h
section
variable {X : Cx} {s b : Expr} {ta tb : TE} {pos p2 p : Pos} {a : Addr} {L : List V}
def rIxS' (K : PySem.W.Frag) (a : Addr) (L : List V) : R2 := fun x y H Q => x = .ref a ∧ Scr K H a L ∧ ∃ i v, y = .int i ∧ atI L i = some v ∧ Q v H
theorem pe_ixS (a : Addr) (L : List V) (ha : PE X s ta) (hb : PE X b tb) (hs : PlainIx b) : PE X (.Subscript s b pos) (tOp (rIxS' X.K a L) ta tb) :=
 pe_ix (r := rIxS' X.K a L) (fun value slice pins st σ H x y v u Q I rx ry h hs => by
  obtain ⟨rfl, hS, i, z, rfl, hv, q⟩ := h
  exact ix_list value slice pins st σ H _ _ v u Q I rx ry ⟨a, L, i, z, rfl, rfl, hS.sq, hv, q⟩ hs) ha hb hs
def rLenS (K : PySem.W.Frag) (a : Addr) (L : List V) : List V → Hp → VK → Prop := fun xs H Q => xs = [.ref a] ∧ Scr K H a L ∧ Q (.int L.length) H
theorem call_lenS (a : Addr) (L : List V) : CallR X (.builtin "len") (rLenS X.K a L) := fun pins st σ H xs us Q I r ⟨e, hS, q⟩ => call_len_seq pins st σ H xs us Q I r ⟨a, L, e, .inl hS.sq, q⟩
def rSlS (K : PySem.W.Frag) (a : Addr) (L : List V) : V → Option Int → Option Int → Hp → VK → Prop := fun x lo hi H Q => x = .ref a ∧ Scr K H a L ∧ ∀ q, H q = none → Q (.ref q) (upd H q (.lst (cutV L lo hi)))
theorem sl_S (a : Addr) (L : List V) : SlR X (rSlS X.K a L) := fun pins st σ H x v vl vu lo hi sl Q I rx hs pl pu ⟨e, hS, q⟩ => by
 subst e
 exact sl_list pins st σ H _ v vl vu lo hi sl Q I rx hs pl pu ⟨a, L, rfl, hS.sq, q⟩
end
end L2
namespace L2
open PySem PySem.Spec PyProof.Rows
theorem cx_K {CX : CXT} {P : Program} {w : World} {K : PySem.W.Frag} {mg : Str → Option Value} {base : Heap} {N : List Str} {qual : Str} {scope : Scope} {f : Addr} {cd : Value} {A : Around} {outer : List Env} {s : Shared} {H : Hp} {E : XK} :
 (cxOf CX P w K mg base N qual scope f cd A outer s H E).K = K := rfl
end L2
namespace L2
open PySem
theorem ex_bn {P : Bool → Prop} {b : Bool} : (∃ k, b = !k ∧ P k) ↔ P (!b) := ⟨fun ⟨k, e, h⟩ => by rw [e, Bool.not_not]; exact h, fun h => ⟨!b, (Bool.not_not b).symm, h⟩⟩
theorem pe_fldB {X : Cx} {e : Expr} {f : Str} {pos : Pos} {ta : TE} {K : PySem.W.Frag} (hK : X.K = K) (he : PE X e ta) (hb : attributeBase e f X.env (eval e X.env) = eval e X.env) : PE X (.Attribute e f pos) (tFld K ta f) := by
 subst hK; exact pe_fld he hb
theorem PS.nox {X : Cx} {st : Stmt} {t : TS} (h : PS X.nox st t) : PS X st t := fun pins s σ H D I hw =>
 wpAny_mono (h pins s σ H D (I.wish _) hw) (fun f s' q => q.unwish) fun _ _ z => z.elim
def compOk (fsc scope : Scope) (clN N : List Str) (x : Str) : Bool :=
 decide (scope.kind = .function) && scope.names.all (fun y => !decide (y.2 = .cell)) && scope.names.all (fun y => !decide (y.2 = .local) || decide (scope.names.lookup y.1 = some .local)) && decide (scope.names.lookup x = some .local) &&
 scope.names.all (fun y => if y.2 = .free then clN.contains y.1 && (decide (fsc.names.lookup y.1 = some .cell) || decide (fsc.names.lookup y.1 = some .free)) else if y.2 = .local then decide (y.1 = x) || !N.contains y.1 else true)
theorem lookup_mem {β : Type} : ∀ {l : List (Str × β)} {y : Str} {b : β}, l.lookup y = some b → (y, b) ∈ l
 | [], _, _, h => nomatch h
 | (z, c) :: l, y, b, h => by
  rw [List.lookup_cons] at h
  by_cases e : (y == z) = true
  · rw [e] at h
    cases h
    rw [eq_of_beq e]; exact .head _
  · rw [Bool.eq_false_iff.mpr e] at h
    exact .tail _ (lookup_mem h)
theorem mem_lookup {β : Type} : ∀ {l : List (Str × β)} {y : Str}, y ∈ l.map (·.1) → ∃ b, l.lookup y = some b
 | [], _, h => nomatch h
 | (z, c) :: l, y, h => by
  rw [List.lookup_cons]
  by_cases e : (y == z) = true
  · rw [e]; exact ⟨_, rfl⟩
  · rw [Bool.eq_false_iff.mpr e]
    rcases List.mem_cons.mp h with q | q
    · exact absurd (by rw [q]; exact beq_self_eq_true _) e
    · exact mem_lookup q
theorem CompScope.mk' {X : Cx} {scope fsc : Scope} {cl : List (Str × Addr)} {x : Str} {clN N : List Str} (e1 : X.env.scope = fsc) (clos : closureFor scope X.env = pure cl) (sub : ∀ y c, cl.lookup y = some c → X.env.cells.lookup y = some c) (hn : cl.map (·.1) = clN) (hN : X.N = N)
 (H : compOk fsc scope clN N x = true) : CompScope X scope cl x := by
 simp only [compOk, Bool.and_eq_true, decide_eq_true_eq, List.all_eq_true, Bool.not_eq_true', decide_eq_false_iff_not, Bool.or_eq_true] at H
 obtain ⟨⟨⟨⟨h1, h2⟩, h3⟩, h4⟩, h5⟩ := H
 have rel : ∀ y k, (relabel scope X.env).names.lookup y = some k → ∃ k0, (y, k0) ∈ scope.names ∧ ((k0 = .free ∧ (k = .cell ∨ k = .free)) ∨ k = k0) := fun y k h => by
  have hm := lookup_mem h
  obtain ⟨⟨z, k0⟩, hz, e⟩ := List.mem_map.mp hm
  simp only at e
  split at e
  · rename_i q
    simp only [Bool.and_eq_true, beq_iff_eq] at q
    cases e
    exact ⟨_, hz, .inl ⟨q.1.1, .inl rfl⟩⟩
  · cases e
    exact ⟨_, hz, .inr rfl⟩
 refine ⟨clos, h2, h1, fun y hy hl => ?_, h4, sub, fun y h => ?_, fun y h => ?_⟩
 · rcases h3 y hy with q | q
   · exact absurd hl q
   · exact q
 · have hf : (y, NameKind.free) ∈ scope.names := by
    rcases h with h | h
    · obtain ⟨k0, hk, q | q⟩ := rel y _ h
      · rw [← q.1]; exact hk
      · exact absurd q.symm (h2 _ hk)
    · obtain ⟨k0, hk, q | q⟩ := rel y _ h
      · rw [← q.1]; exact hk
      · rw [q]; exact hk
   have := h5 _ hf
   simp only [if_true, Bool.and_eq_true, Bool.or_eq_true, decide_eq_true_eq] at this
   refine ⟨mem_lookup (by rw [hn]; exact List.contains_iff_mem.mp this.1), ?_⟩
   unfold Env.kindOf
   rw [e1]; exact this.2
 · obtain ⟨k0, hk, q | q⟩ := rel y _ h
   · rcases q.2 with z | z <;> cases z
   · subst q
     have := h5 _ hk
     simp only [reduceCtorEq, if_false, if_true, Bool.or_eq_true, decide_eq_true_eq, Bool.not_eq_true'] at this
     rcases this with z | z
     · exact .inl z
     · refine .inr fun hm => ?_
       rw [hN] at hm
       rw [List.contains_iff_mem.mpr hm] at z
       cases z
theorem sub_nil {cells : List (Str × Addr)} : ∀ p ∈ ([] : List (Str × Addr)), cells.lookup p.1 = some p.2 := fun _ h => nomatch h
theorem sub_cons {cells cl : List (Str × Addr)} {y : Str} {c : Addr} (h : cells.lookup y = some c) (t : ∀ p ∈ cl, cells.lookup p.1 = some p.2) : ∀ p ∈ (y, c) :: cl, cells.lookup p.1 = some p.2 := fun p hp => by
 rcases List.mem_cons.mp hp with z | z
 · rw [z]; exact h
 · exact t p z
theorem sub_of {cells cl : List (Str × Addr)} (h : ∀ p ∈ cl, cells.lookup p.1 = some p.2) (y : Str) (c : Addr) (e : cl.lookup y = some c) : cells.lookup y = some c := h (y, c) (lookup_mem e)
def CompS (K : PySem.W.Frag) (p : Addr) (i : Nat) (tt : TT) (te : TE) (σ : St) (H : Hp) (Q : VK) : Prop := match H p with
 | some (.tup _) => ∀ D, H D = none → tCompAt i tt te D (Itt K p) σ H (Q (.ref D))
 | o => ∃ xs, sqOf o = some xs ∧ ∀ D, H D = none → tCompAt i tt te D (Itl K p) σ H (Q (.ref D))
section
variable {K : PySem.W.Frag} {i j : Nat} {tt : TT} {te tl : TE} {σ : St} {H : Hp} {Q : VK} {ta : TA} {D : Ends}
theorem ap_compS : tComp i (iSeq K tl) tt te σ H Q = tl σ H fun x H1 => ∃ p, x = .ref p ∧ CompS K p i tt te σ H1 Q := rfl
theorem ap_compR : tComp i (iRng1 ta) tt te σ H Q = ta σ H fun vs H1 => ∃ j : Int, vs = [.int j] ∧ -(2 ^ 62) ≤ j ∧ j < 2 ^ 62 ∧ ∀ D, H1 D = none → tCompAt i tt te D (Itr 0 j.toNat) σ H1 (Q (.ref D)) := rfl
theorem comp_go {p : Addr} {xs : List V} {J : It} (hst : ∀ j H', H' p = H p → xs.length ≤ j → J.stop j H') (hgo : ∀ j H' x, H' p = H p → xs[j]? = some x → J.go j H' ∧ ∀ y H'', J.yld j H' y H'' → H'' = H' ∧ y = x) {D : Addr}
 (Pv : Nat → List V → Hp → Prop) (h0 : Pv 0 [] (upd H D (.lst []))) (hl : ∀ j ys H', j ≤ xs.length → Pv j ys H' → H' D = some (.lst ys) ∧ H' p = H p)
 (hs : ∀ j x ys H' (N : List V → Hp → Prop), (∀ ys' H'', Pv (j + 1) ys' H'' → N ys' H'') → xs[j]? = some x → Pv j ys H' →
   tt (σ.set i (some x)) H' fun b H2 => if b = true then te (σ.set i (some x)) H2 fun v H3 => H3 D = some (.lst ys) ∧ ys.length < sizeLine ∧ N (ys ++ [v]) (upd H3 D (.lst (ys ++ [v]))) else N ys H2)
 (hd : ∀ ys H', Pv xs.length ys H' → Q (.ref D) H') : tCompAt i tt te D J σ H (Q (.ref D)) := by
 refine ⟨fun j m ys H' => j ≤ xs.length ∧ m = xs.length - j ∧ Pv j ys H', ⟨_, Nat.zero_le _, rfl, h0⟩, fun j m ys H' ⟨hj, hm, hp⟩ => ?_⟩
 obtain ⟨e1, e2⟩ := hl j ys H' hj hp
 refine ⟨e1, ?_⟩
 by_cases hlt : j < xs.length
 · have ex : xs[j]? = some xs[j] := List.getElem?_eq_getElem hlt
   refine .inr ⟨(hgo j H' _ e2 ex).1, fun x H'' hy => ?_⟩
   obtain ⟨rfl, rfl⟩ := (hgo j H' _ e2 ex).2 x H'' hy
   have := hs j _ ys H'' (fun ys' H2 => ∃ m', m' < m ∧ (j + 1 ≤ xs.length ∧ m' = xs.length - (j + 1) ∧ Pv (j + 1) ys' H2)) (fun ys' H2 q => ⟨xs.length - (j + 1), by omega, by omega, rfl, q⟩) ex hp
   exact this
 · refine .inl ⟨hst j H' e2 (by omega), ?_⟩
   obtain rfl : j = xs.length := by omega
   exact hd ys H' hp
theorem comp_seq {p : Addr} {xs : List V} (hx : sqOf (H p) = some xs) (h : ∀ D, H D = none → ∃ Pv : Nat → List V → Hp → Prop, Pv 0 [] (upd H D (.lst [])) ∧ (∀ j ys H', j ≤ xs.length → Pv j ys H' → H' D = some (.lst ys) ∧ H' p = H p) ∧
 (∀ j x ys H' (N : List V → Hp → Prop), (∀ ys' H'', Pv (j + 1) ys' H'' → N ys' H'') → xs[j]? = some x → Pv j ys H' →
   tt (σ.set i (some x)) H' fun b H2 => if b = true then te (σ.set i (some x)) H2 fun v H3 => H3 D = some (.lst ys) ∧ ys.length < sizeLine ∧ N (ys ++ [v]) (upd H3 D (.lst (ys ++ [v]))) else N ys H2) ∧
 ∀ ys H', Pv xs.length ys H' → Q (.ref D) H') : CompS K p i tt te σ H Q := by
 unfold CompS
 split
 · rename_i ys e
   rw [e] at hx
   cases hx
   intro D hD
   obtain ⟨Pv, h0, hl, hs, hd⟩ := h D hD
   exact comp_go (p := p) (xs := xs) (J := Itt K p) (fun j H' e2 hj => ⟨xs, SqT.of (e2.trans e), hj⟩) (fun j H' x e2 hx => ⟨⟨xs, x, SqT.of (e2.trans e), hx⟩, fun y H'' ⟨z1, z2⟩ => ⟨z1, by have := z2 xs (SqT.of (e2.trans e)); rw [hx] at this; cases this; rfl⟩⟩) Pv h0 hl hs hd
 · rename_i o ne
   refine ⟨xs, hx, fun D hD => ?_⟩
   obtain ⟨Pv, h0, hl, hs, hd⟩ := h D hD
   have sq : ∀ H', H' p = H p → SqL K H' p xs := fun H' k => by
    cases e2 : H p with
    | none => rw [e2] at hx; cases hx
    | some o =>
     rw [e2] at hx
     cases o with
     | tup ys => exact absurd e2 (ne ys)
     | lst ys => cases hx; exact .inl (.inl (k.trans e2))
     | frz ob u =>
      cases u with
      | lst ys => cases hx; exact .inl (.inr ⟨ob, k.trans e2⟩)
      | _ => cases hx
     | _ => cases hx
   exact comp_go (p := p) (xs := xs) (J := Itl K p) (fun j H' e2 hj => ⟨xs, sq H' e2, hj⟩) (fun j H' x e2 hx => ⟨⟨xs, x, sq H' e2, hx⟩, fun y H'' ⟨z1, z2⟩ => ⟨z1, by have := z2 xs (sq H' e2); rw [hx] at this; cases this; rfl⟩⟩) Pv h0 hl hs hd
end
end L2
namespace L2
open PySem
section
variable {X : Cx}
def repS (z : Str) (n : Nat) : Str := ⟨(List.replicate n z.cps).foldl (· ++ ·) #[]⟩
def fMulS : R2 := fun x y H Q => ∃ (z : Str) (n : Int), x = .str z ∧ y = .int n ∧ (1 < n ∧ n ≤ 100) ∧ (0 < z.length ∧ z.length ≤ 1000) ∧ (repS z n.toNat).length ≤ sizeLine ∧ Q (.str (repS z n.toNat)) H
theorem op_mulS : OpR X (binaryOp .Mult) fMulS := by
 intro pins s σ H x y v u Q I rx ry h
 obtain ⟨z, n, rfl, rfl, ⟨h1, h2⟩, ⟨h3, h4⟩, hz, q⟩ := h
 obtain ⟨t, rfl⟩ := rx
 obtain ⟨t', rfl⟩ := ry
 have d1 : ¬ n < 1 := by omega
 have d2 : (n == 1 || z.length == 0) = false := by
  have e1 : (n == 1) = false := by simp; omega
  have e2 : (z.length == 0) = false := by simp; omega
  rw [e1, e2]; rfl
 refine PySem.P.mul_str (by
  have a1 : ¬ n < -(2 ^ 63 : Int) := by omega
  have a2 : ¬ n ≥ 2 ^ 63 := by omega
  rw [decide_eq_false a1, decide_eq_false a2]; rfl) (fun _ _ => ?_) (fun _ _ => ?_) ?_
 · have : (92233720368547758 : Int) ≤ (2 ^ 63 - 1) / n := by
    rw [Int.le_ediv_iff_mul_le (by omega)]; omega
   omega
 · refine decide_eq_false ?_
   have k : z.length * n.toNat ≤ 1000 * 100 := Nat.mul_le_mul h4 (by omega)
   have k2 : 100000 < sizeLine := by decide
   omega
 · rw [if_neg d1, if_neg (by rw [d2]; exact Bool.false_ne_true)]
   exact ⟨hz, .str _, H, I.tok _, ⟨_, rfl⟩, q⟩
end
end L2
namespace L2
open PySem
structure Nms (N : List Str) (bs : List Bool) (sc : Scope) : Prop where
 loc : ∀ p ∈ N.zip bs, p.2 = true → sc.names.lookup p.1 = some .local ∨ sc.names.lookup p.1 = some .cell
 dbg : ∀ x ∈ N, (x == ("__debug__" : Str)) = false
 cld : ∀ x ∈ N, (x == ("__classdict__" : Str)) = false
theorem Nms.of {N : List Str} {bs : List Bool} {sc : Scope} (n : Nms N bs sc) {i : Nat} {x : Str} (hi : N[i]? = some x) (hb : bs[i]? = some true) : Loc sc x :=
 n.loc (x, true) (List.mem_of_getElem? (i := i) (by rw [List.getElem?_zip_eq_some]; exact ⟨hi, hb⟩)) rfl
theorem Nms.at {X : Cx} {N : List Str} {bs : List Bool} {sc : Scope} (n : Nms N bs sc) (hs : X.env.scope = sc) {i : Nat} {x : Str} (hi : N[i]? = some x) (hb : bs[i]? = some true) : Loc X.env.scope x := by
 rw [hs]; exact n.of hi hb
theorem pvn {X : Cx} {N : List Str} {bs : List Bool} {sc : Scope} (n : Nms N bs sc) (hN : X.N = N) (hs : X.env.scope = sc) (i : Nat) {x : Str} {pos : Pos} (hi : N[i]? = some x) (hb : bs[i]? = some true) : PE X (.Name x pos) (tVar i) := by
 have hm := List.mem_of_getElem? hi
 refine pe_var (by rw [hN]; exact hi) ?_ (n.dbg x hm) (n.cld x hm)
 rw [hs]
 rcases n.of hi hb with h | h
 · exact .inl h
 · exact .inr (.inl h)
end L2
namespace L2
open PySem
section
variable {i j : Nat} {tt : TT} {te : TE} {wi : TI} {σ : St} {H : Hp} {D : Ends}
theorem ap_setC : tSetComp i j wi tt te D σ H = tComp i wi tt te σ H fun v H1 => D.nx (σ.set j (some v)) H1 := rfl
theorem comp_rng {lo : Int} {n : Nat} {A : Addr} {Q : Hp → Prop} (Pv : Nat → List V → Hp → Prop) (h0 : Pv 0 [] (upd H A (.lst []))) (hl : ∀ j ys H', j ≤ n → Pv j ys H' → H' A = some (.lst ys))
 (hs : ∀ j ys H' (N : List V → Hp → Prop), (∀ ys' H'', Pv (j + 1) ys' H'' → N ys' H'') → j < n → Pv j ys H' →
   tt (σ.set i (some (.int (lo + j)))) H' fun b H2 => if b = true then te (σ.set i (some (.int (lo + j)))) H2 fun v H3 => H3 A = some (.lst ys) ∧ ys.length < sizeLine ∧ N (ys ++ [v]) (upd H3 A (.lst (ys ++ [v]))) else N ys H2)
 (hd : ∀ ys H', Pv n ys H' → Q H') : tCompAt i tt te A (Itr lo n) σ H Q := by
 refine ⟨fun j m ys H' => j ≤ n ∧ m = n - j ∧ Pv j ys H', ⟨_, Nat.zero_le _, rfl, h0⟩, fun j m ys H' ⟨hj, hm, hp⟩ => ?_⟩
 refine ⟨hl j ys H' hj hp, ?_⟩
 by_cases hlt : j < n
 · refine .inr ⟨hlt, fun x H'' hy => ?_⟩
   obtain ⟨rfl, rfl⟩ := hy
   exact hs j ys H'' (fun ys' H2 => ∃ m', m' < m ∧ (j + 1 ≤ n ∧ m' = n - (j + 1) ∧ Pv (j + 1) ys' H2)) (fun ys' H2 q => ⟨n - (j + 1), by omega, by omega, rfl, q⟩) hlt hp
 · refine .inl ⟨Nat.le_of_not_lt hlt, ?_⟩
   obtain rfl : j = n := by omega
   exact hd ys H' hp
end
end L2
namespace L2
theorem step1 {s u : TS} {D : Ends} {σ : St} {H : Hp} (h : ∀ D' : Ends, (∀ σ H, u D σ H → D'.nx σ H) → (∀ v H, D.rt v H → D'.rt v H) → (∀ σ H, D.bk σ H → D'.bk σ H) → (∀ σ H, D.ct σ H → D'.ct σ H) → s D' σ H) : tSeq s u D σ H :=
 h { D with nx := u D } (fun _ _ x => x) (fun _ _ x => x) (fun _ _ x => x) (fun _ _ x => x)
theorem stepF {tt : TT} {a u : TS} {D : Ends} {σ : St} {H : Hp} (ht : ∀ R : Bool → Hp → Prop, R false H → tt σ H R) (k : u D σ H) : tSeq (tIfS tt a tNext) u D σ H := ht _ (by
 show if false = true then _ else _
 rw [if_neg Bool.false_ne_true]; exact k)
theorem stepT {tt : TT} {a b u : TS} {D : Ends} {σ : St} {H : Hp} (ht : ∀ R : Bool → Hp → Prop, R true H → tt σ H R) (k : ∀ D' : Ends, (∀ σ H, u D σ H → D'.nx σ H) → (∀ v H, D.rt v H → D'.rt v H) → (∀ σ H, D.bk σ H → D'.bk σ H) → (∀ σ H, D.ct σ H → D'.ct σ H) → a D' σ H) : tSeq (tIfS tt a b) u D σ H := ht _ (by
 show if true = true then _ else _
 rw [if_pos rfl]
 exact k { D with nx := u D } (fun _ _ x => x) (fun _ _ x => x) (fun _ _ x => x) (fun _ _ x => x))
end L2
namespace L2
end L2
namespace L2
theorem stepFs {tt : TT} {a u : TS} {D : Ends} {σ : St} {H : Hp} (ht : ∀ R : Bool → Hp → Prop, (∀ H1, Same H H1 → R false H1) → tt σ H R) (k : ∀ H1, Same H H1 → u D σ H1) : tSeq (tIfS tt a tNext) u D σ H := ht _ (fun H1 s => by
 show if false = true then _ else _
 rw [if_neg Bool.false_ne_true]; exact k H1 s)
theorem stepTs {tt : TT} {a b u : TS} {D : Ends} {σ : St} {H : Hp} (ht : ∀ R : Bool → Hp → Prop, (∀ H1, Same H H1 → R true H1) → tt σ H R) (k : ∀ (D' : Ends) (H1 : Hp), Same H H1 → (∀ σ H, u D σ H → D'.nx σ H) → (∀ v H, D.rt v H → D'.rt v H) → (∀ σ H, D.bk σ H → D'.bk σ H) → (∀ σ H, D.ct σ H → D'.ct σ H) → a D' σ H1) : tSeq (tIfS tt a b) u D σ H := ht _ (fun H1 s => by
 show if true = true then _ else _
 rw [if_pos rfl]
 exact k { D with nx := u D } H1 s (fun _ _ x => x) (fun _ _ x => x) (fun _ _ x => x) (fun _ _ x => x))
end L2
namespace L2
open PySem PySem.W PySem.Calls PyProof.Rows Builtin Builtin.ObjectAttr Builtin.Getset_descriptor
structure ExcCls (K : Frag) (C : Addr) : Prop where
 ga : findIn K (.ref C) "__getattribute__" = some (some (.builtin "BaseException.__getattribute__"))
 hk : findIn K (.ref C) "__getattr__" = some none
 ha : findIn K (.ref C) "__class__" = some (some (.builtin "object.__class__"))
 hm : mroIn K C (.type "object") = some true
 hb : mroIn K C (.type "BaseException") = some true
structure ClsGet (K : Frag) : Prop where
 hn : specialIn K (.builtin "object.__class__") "__get__" = some (some (.builtin "getset_descriptor.__get__"))
 ht : takesIn K (.builtin "object.__class__") = some true
section
variable {prog : Program} {w : World} {A : Around} {E : Value → Shared → Prop} {s : Shared} {K : Frag} {x C : Addr}
theorem x_get {R : Result → Shared → Prop} {tp : Value} (X : K.In s.heap) (L0 : Looks (model prog w) s.heap (typeOf (.ref x)) (.ref C)) (hm : mroIn K C (.type "object") = some true) (h : R (.ok (.ret (.ref C))) s) :
 codeAny (model prog w) A (.call (.builtin "getset_descriptor.__get__") ⟨[.builtin "object.__class__", .ref x, tp], []⟩) R s := by
 obtain ⟨hh, g, dr, t, os⟩ := s; have L1 := looks_mroIn (M := model prog w) X hm
 refine codeAny_call_builtin KF.slot_gs.plain KF.entry_gs (KF.slot_gs.check _ _ _ _ _ _ _ _ KF.type_class (KF.args_gs _ _ _) ?_); unfold Builtin.«getset_descriptor.__get__» descrGet; rw [dga_obj]
 refine wpAny_bind (wpAny_pure ?_); unfold descrGetter descrCheckInstance descrNameAndClass isInstance; simp only [KF.owner_class]
 repeat lk
 refine ⟨Code.quiet_builtin _ (by decide +kernel), codeAny_builtin KF.entry_class ?_⟩; unfold Builtin.«object.__class__» shownTypeOf
 repeat lk
 exact h
theorem x_find {M : Model} {h : Heap} (X : K.In h) (c : ExcCls K C) (g : ClsGet K) : Looks M h (find (.ref x) (.ref C) "__class__") (.bind (.builtin "getset_descriptor.__get__") (.builtin "object.__class__")) := by
 have L1 := looks_findIn (M := M) X c.ha
 have L2 : Looks M h (getOf (some (.builtin "object.__class__"))) (some (.builtin "getset_descriptor.__get__")) := looks_specialIn X g.hn
 have L3 := looks_takesIn (M := M) X g.ht
 refine L1.andThen (L2.andThen (Looks.andThen (a := some (Value.builtin "getset_descriptor.__get__", Value.builtin "object.__class__")) ?_ (Looks.tag .now)))
 exact L3.andThen .now
theorem x_check {nv : Value} {Q : Unit → Shared → Prop} (X : K.In s.heap) (L0 : Looks (model prog w) s.heap (typeOf (.ref x)) (.ref C)) (c : ExcCls K C) (h : Q () s) : wpAny (model prog w) A (checkBuiltinCall "BaseException.__getattribute__" ⟨[.ref x, nv], []⟩) Q E s := by
 obtain ⟨hh, g, dr, t, os⟩ := s
 have k1 : builtinKind "BaseException.__getattribute__" = some .slot := by decide +kernel
 have k2 : splitId "BaseException.__getattribute__" = some ("BaseException", "__getattribute__") := by decide +kernel
 have LI : Looks (model prog w) hh (isInstance (.ref x) (.type "BaseException")) true := L0.andThen (looks_mroIn X c.hb)
 have k3 := F.args_bexc_ga (.ref x) nv
 simp only [checkBuiltinCall, k1, k2]
 refine wpAny_bind (LI.at ?_)
 rw [if_neg (by decide)]
 unfold argsOk at k3
 refine (show ∀ z : Sem Unit, z = pure () → wpAny (model prog w) A z Q E _ from fun z e => by rw [e]; exact wpAny_pure h) _ ?_
 exact k3
theorem x_attr {Q : Option Value → Shared → Prop} (X : K.In s.heap) (L0 : Looks (model prog w) s.heap (typeOf (.ref x)) (.ref C)) (c : ExcCls K C) (g : ClsGet K) (h : Q (some (.ref C)) { s with toks := s.toks + 1 }) : wpAny (model prog w) A (getAttr? (.ref x) "__class__") Q E s := by
 obtain ⟨hh, gg, d, t, os⟩ := s
 have L1 := looks_findIn (M := model prog w) X c.ga
 have L2 := looks_findIn (M := model prog w) X c.hk
 have L3 := x_find (M := model prog w) (x := x) X c g
 unfold getAttr? getAttrBy? getAttrBy; refine wpAny_bind (wpAny_mkText (wpAny_bind (wpAny_attempt (wpAny_holding (wpAny_bind (L0.at (wpAny_bind (L1.at ?_))))))))
 have ne : (onTheHeap (.ref C) && Value.builtin "BaseException.__getattribute__" == Value.builtin "object.__getattribute__") = false := by
  rw [show (Value.builtin "BaseException.__getattribute__" == Value.builtin "object.__getattribute__") = false by decide +kernel]; rfl
 dsimp only
 rw [if_neg (by rw [ne]; exact Bool.false_ne_true)]
 unfold getAttrByItsOwn hookBefore
 refine wpAny_bind ?_
 rw [if_pos (show onTheHeap (.ref C) = true from rfl)]
 refine L2.at (wpAny_bind (wpAny_attempt (wpAny_holding ?_)))
 unfold callGetattribute boundAndCalled
 rw [if_neg (by decide), F.excAttr_ValueError.ga.bind]
 refine wpAny_bind (wpAny_pure ?_)
 refine wpAny_call (codeAny_call_builtin F.excAttr_ValueError.ga.plain F.entry_bexc_ga (x_check X L0 c ?_))
 refine wpAny_bind (show wpAny _ _ (pure (Value.ref x, [Value.str "__class__" t])) _ _ _ from wpAny_pure ?_)
 refine wpAny_bind (show wpAny _ _ (pure ("__class__" : Str)) _ _ _ from wpAny_pure ?_)
 refine wpAny_bind (L0.at (wpAny_bind (L3.at ?_)))
 show wpAny _ _ (holding [Value.builtin "object.__class__"] (call (Value.builtin "getset_descriptor.__get__") [.builtin "object.__class__", .ref x, .ref C]) >>= ret) _ _ _
 refine wpAny_bind (wpAny_holding (wpAny_call (x_get X L0 c.hm (wpAny_pure ?_))))
 exact handed_on rfl (wpAny_pure h)
def ExcIs (x C : Addr) (h : Heap) : Prop := ∃ o, h.get? x = some o ∧ o.cls = .ref C
theorem mro_cls {r : Bool} {b : Value} (e : mroIn K C b = some r) : ∃ oc od cd sl, K.lookup C = some ⟨oc, od, .cls cd, sl⟩ := by
 obtain ⟨cd, hc, _⟩ := Option.bind_eq_some_iff.mp e
 unfold clsIn at hc
 split at hc
 · exact ⟨_, _, _, _, by assumption⟩
 · cases hc
theorem kitx_exc (c : ExcCls K C) (g : ClsGet K) : KitX K (.ref x) (.ref C) (ExcIs x C) := by
 obtain ⟨oc, od, cd, sl, hl⟩ := mro_cls c.hm
 have ty : ∀ (M : Model) (h : Heap), ExcIs x C h → Looks M h (typeOf (.ref x)) (.ref C) := fun M h ⟨o, h1, h2⟩ => by rw [← h2]; exact (Looks.ld h1).andThen .now
 refine ⟨fun M h _ p => ty M h p, fun M h X _ A' Q' E' s' k q => ?_, fun h tp dd its n sl' X htp => ?_, fun X p k => x_attr X (ty _ _ p) c g k⟩
 · unfold isType loadHead
   exact wpAny_bind (wpAny_loadPart (k _ _ (X _ _ hl)) (wpAny_pure q))
 · cases hq : (Value.ref C == Value.ref tp) with
   | false => rfl
   | true =>
    obtain rfl : C = tp := by injection beq_iff_eq.mp hq
    have := (X _ _ hl).symm.trans htp
    cases this
end
end L2
namespace L2
open PySem PySem.Spec PyProof.Rows
def excO (a C : Addr) : HO := .ext (ExcIs a C)
theorem excO_ok {P : Program} {w : World} {H : Hp} {h : Heap} {a C : Addr} (e : ExcIs a C h) : ObjOk P w H h a (excO a C) :=
 ⟨e, (let ⟨o, h1, _⟩ := e; ⟨o, h1⟩), fun _ _ ⟨o, h1, h2⟩ k => ⟨o, k o h1, h2⟩⟩
section
variable {X : Cx} {pins : List (Addr × Obj)} {σ : St} {H : Hp} {s : Shared}
theorem Inv.seen {a : Addr} {o : HO} (I : Inv X pins σ H s) (ha : H a = none) (na : X.s₀.heap.get? a = none) (hp : ∀ p ∈ X.pn ++ pins, p.1 ≠ a) (hL : X.env.locals ≠ a) (hc : ∀ x c, X.env.cells.lookup x = some c → c ≠ a) (new : ObjOk X.prog X.w (upd H a o) s.heap a o) : Inv X pins σ (upd H a o) s := by
 have up : ∀ {b : Addr} {u : HO}, H b = some u → upd H a o b = some u := fun {b u} e => by
  rw [upd_ne (fun z => by rw [z, ha] at e; cases e)]; exact e
 refine ⟨I.ok, I.os, I.bare, ⟨I.base.keep, I.base.slot, fun b ob e n hx => ?_, I.base.there, fun b xs e => up (I.base.tups b xs e), fun b ob u e => up (I.base.frzs b ob u e), fun b ps e => ?_⟩, I.loc, I.cell, ?_, fun x c e => ?_, fun p h => ?_, fun b u e => ?_, I.len⟩
 · rw [upd_ne (fun z => by rw [z, na] at e; cases e)]; exact I.base.free b ob e n hx
 · obtain ⟨more, z⟩ := I.base.tbls b ps e
   exact ⟨more, up z⟩
 · rw [upd_ne hL]; exact I.free
 · rw [upd_ne (hc x c e)]; exact I.freeC x c e
 · obtain ⟨e, n, ne, nf, d⟩ := I.pin p h
   exact ⟨e, by rw [upd_ne (hp p h)]; exact n, ne, nf, d⟩
 · by_cases hb : b = a
   · subst hb; rw [upd_same] at e; cases e; exact new
   · rw [upd_ne hb] at e
     exact (I.hok b u e).stay (fun _ _ _ q => q) (fun c q => up q) fun c xs q => up q
theorem unname_ok {M : Model} {A : Around} {E : Value → Shared → Prop} {i : Nat} {x : Str} {pos : Pos} {Q : Unit → Shared → Prop} (I : Inv X pins σ H s) (hN : X.N.Nodup) (hi : X.N[i]? = some x) (hk : X.env.scope.names.lookup x = some .local)
 (h : ∀ s', Inv X pins (σ.set i none) H s' → Q () s') : wpAny M A (do bindName X.env x .none; unbindBehindTheSuite X.env x pos) Q E s := by
 obtain ⟨m, hn, hl⟩ := id I.loc
 have hiσ : i < σ.length := by rw [I.len]; exact (List.getElem?_eq_some_iff.mp hi).1
 have cne := I.cne
 refine wpAny_nameGoes_keeps hk hn (by rw [I.ok.kind]; rfl) fun h' v hn' hs => ?_
 obtain ⟨oL, _, _, hoL, _⟩ := id hn
 have lo : ∀ {b : Addr} {o : Obj}, X.s₀.heap.get? b = some o → b ≠ X.env.locals := fun e => Nat.ne_of_lt (Nat.lt_of_lt_of_le (Heap.lt_size e) I.ok.above)
 refine h _ ⟨I.ok, I.os, I.bare, ⟨fun b o e n hb hx => (hs.2 b (lo e)).trans (I.base.keep b o e n hb hx), fun b o e n hb hx => ?_, I.base.free, fun b o e hx => ?_, I.base.tups, I.base.frzs, I.base.tbls⟩, ⟨_, hn', fun j y v' e1 e2 e3 => ?_⟩, fun y c e => ?_, I.free, I.freeC, fun p hp => ?_, fun b ob e => ?_, by simpa using I.len⟩
 · obtain ⟨sl, e1⟩ := I.base.slot b o e n hb hx
   exact ⟨sl, (hs.2 b (lo e)).trans e1⟩
 · obtain ⟨o', e1⟩ := I.base.there b o e hx
   exact ⟨o', (hs.2 b (lo e)).trans e1⟩
 · by_cases hj : j = i
   · subst hj
     rw [List.getElem?_set_self hiσ] at e2
     cases e2
   · rw [List.getElem?_set_ne (Ne.symm hj)] at e2
     obtain ⟨u', r', q⟩ := hl j y v' e1 e2 e3
     refine ⟨u', r', ?_⟩
     rcases q with ⟨k, e⟩ | ⟨k, c, e, z⟩
     · refine .inl ⟨k, ?_⟩
       have : y ≠ x := fun e => hj (nodup_ix hN e1 (e ▸ hi))
       simp [this, e]
     · exact .inr ⟨k, c, e, z.sameBut hs (cne y c e)⟩
 · obtain ⟨w', z⟩ := I.cell y c e
   exact ⟨w', z.sameBut hs (cne y c e)⟩
 · obtain ⟨e, n, ne, nf, d⟩ := I.pin p hp
   exact ⟨(hs.2 p.1 ne).trans e, n, ne, nf, d⟩
 · refine (I.hok b ob e).stay (fun c w' hc q => (hs.2 c ?_).trans q) (fun _ q => q) fun _ _ q => q
   rintro rfl
   have hf := I.free
   rcases hc with rfl | hc
   · rw [hf] at e; cases e
   · rw [hf] at hc; cases hc
end
section
variable {X : Cx} {x n : Str} {np pos : Pos} {b₀ : Stmt} {suite : List Stmt} {rest : List ExceptHandler} {c : Value} {tb : TS} {th : Value → TS}
def tHandAs (K : PySem.W.Frag) (c : Value) (i : Nat) (tb : TS) (th : Value → TS) : Value → TS := fun cls D σ H => ∃ b, PySem.W.exmOne K cls c = some b ∧
 if b = true then ∃ C, cls = .ref C ∧ ∀ a, H a = none → tb { D with nx := fun σ H => D.nx (σ.set i none) H, bk := fun σ H => D.bk (σ.set i none) H, ct := fun σ H => D.ct (σ.set i none) H } (σ.set i (some (.ref a))) (upd H a (excO a C)) else th cls D σ H
theorem ph_as {i : Nat} (hg : Gl X x) (hm : X.mg x = some c) (hN : X.N.Nodup) (hi : X.N[i]? = some n) (hl : X.env.scope.names.lookup n = some .local) (hb : ∀ a, PSs (X.hnd a) (b₀ :: suite) tb) (hr : PH X rest th) (hd : (x == ("__debug__" : Str)) = false := by decide) :
 PH X (.ExceptHandler (some (.Name x np)) (some n) (b₀ :: suite) pos :: rest) (tHandAs X.K c i tb th) := by
 intro pins σ H D a cls s cg h
 obtain ⟨b, eb, h⟩ := h
 have I := cg.inv
 refine wpAny_handleBy_cons (codeAny_handlers_test (ld_glob (X := X.hnd a) (I.hnd a) hg hm ?_ hd)) (by intro q; cases q)
 have ty : PySem.W.Looks (model X.prog X.w) s.heap (typeOf (.ref a)) cls := by
  obtain ⟨_, _, _, _, _, _, _, _, _, _, _, _, fl, _⟩ := cg.ex
  obtain ⟨ob, e1, e2⟩ := fl.there
  subst e2
  exact (PySem.W.Looks.ld e1).andThen .now
 refine PySem.W.exm_one I.kIn ty eb _ _ _ _ (fun _ _ z => z) ?_
 cases b with
 | false =>
  rw [if_neg Bool.false_ne_true] at h
  exact hr pins σ H D a cls s cg h
 | true =>
  rw [if_pos rfl] at h
  refine codeAny_handlers_suite_as ?_
  obtain ⟨s1, T, a0, I1, n1, n2, f1, f2, hp, d1, d2, es, fl, sl⟩ := cg.ex
  refine lands_againW fl fun h6 fl6 sl6 => ?_
  have cg6 : Caught X pins σ H a cls { s with heap := h6 } := ⟨⟨s1, T, a0, I1, n1, n2, f1, f2, hp, d1, d2, by rw [es], fl6, sl.trans sl6⟩⟩
  obtain ⟨C, rfl, h⟩ := h
  have I6 := cg6.inv
  obtain ⟨_, _, _, oe, vs, T', oT, ts, g1, g2, g3, _⟩ := fl6
  obtain ⟨m, hL, _⟩ := id I6.loc
  obtain ⟨oL, es', ep, hoL, hdL, rL⟩ := hL
  have I7 := I6.seen (a := a) (o := excO a C) f1 n1 (fun p hq => (hp p hq).1) (fun z => by
   have z1 := (congrArg h6.get? z).symm.trans hoL
   rw [show h6.get? a = some oe from g1] at z1; cases z1; rw [g3] at hdL; cases hdL) (fun y c' e z => by
   obtain ⟨v, o2, e2, dd2⟩ := I6.cell y c' e
   rw [z, show h6.get? a = some oe from g1] at e2; cases e2; rw [g3] at dd2; cases dd2) (excO_ok ⟨oe, g1, g2.1⟩)
  refine store_ok (X := X.hnd a) (I7.hnd a) hN hi (.inl hl) (show RelV (.ref a) (Value.ref a) from rfl) (fun s8 I8 => ?_) (.inr hl)
  refine wpAny_mono (hb a pins s8 _ _ _ I8 (h a f1)) (fun f s' q => ?_) fun _ _ z => z.elim
  cases f with
  | next => obtain ⟨σ', H', J, q⟩ := q; exact unname_ok (I.unhnd J) hN hi hl fun s9 I9 => ⟨_, H', I9, q⟩
  | brk => obtain ⟨σ', H', J, q⟩ := q; exact unname_ok (I.unhnd J) hN hi hl fun s9 I9 => ⟨_, H', I9, q⟩
  | cont => obtain ⟨σ', H', J, q⟩ := q; exact unname_ok (I.unhnd J) hN hi hl fun s9 I9 => ⟨_, H', I9, q⟩
  | ret u => obtain ⟨v, σ', H', J, r, q⟩ := q; exact unname_ok (I.unhnd J) hN hi hl fun s9 I9 => ⟨v, _, H', I9, r, q⟩
end
section
variable {X : Cx} {o e : Expr} {to te : TE} {apos cpos : Pos}
def fIsiX (K : PySem.W.Frag) : List V → Hp → VK → Prop := fun xs H Q => ∃ a C v b, xs = [.ref a, v] ∧ H a = some (excO a C) ∧ ExcCls K C ∧ ClsGet K ∧ (∀ u, RelV v u → PySem.W.kitOne K (.ref C) u = some b) ∧ Q (.bl b) H
theorem call_isi_x {K : PySem.W.Frag} (hK : X.K = K) : CallR X (.builtin "isinstance") (fIsiX K) := by
 subst hK
 intro pins s σ H xs us Q I r h
 obtain ⟨a, C, v, b, rfl, ha, c, g, hb, q⟩ := h
 obtain ⟨u, w', rfl, ru, rw'⟩ := vals2 r
 obtain rfl : u = Value.ref a := ru
 have hx := (show ObjOk X.prog X.w H s.heap a (excO a C) from I.hok a _ ha).1
 exact PySem.W.kia_one (kitx_exc c g) I.kIn hx (hb w' rw') (fun z => nomatch z) fun tk => ⟨.bl _, H, I.tok tk, rfl, q⟩
theorem bools_at {k : Bool} : ∀ {bs : List Bool} {its : List Value}, Vals (bs.map V.bl) its → its = bs.map Value.bool
 | [], _, .nil => rfl
 | _ :: _, _, .cons r t => by
  obtain rfl := r
  rw [bools_at (k := k) t]; rfl
def rCount : V → List V → Hp → VK → Prop := fun x vs H Q => ∃ (l : Addr) (bs : List Bool) (k : Bool), x = .ref l ∧ vs = [.bl k] ∧ H l = some (.lst (bs.map V.bl)) ∧ Q (.int (bs.count k : Nat)) H
theorem mt_count : MtM X "list.count" rCount := by
 intro pins s σ H x vs v us Q I rx rv h
 obtain ⟨l, bs, k, rfl, rfl, hH, q⟩ := h
 cases rx
 obtain ⟨u, rfl, ru⟩ := rv.one
 obtain rfl : u = Value.bool k := ru
 obtain ⟨z, its, n, r, hl, e⟩ := I.lstM hH
 obtain rfl := bools_at (k := k) r
 have ec : ((bs.map Value.bool).toArray.toList.countP (isBoolOf k)) = bs.count k := by
  rw [List.toList_toArray, List.countP_map]; rfl
 refine call_meets F.slot_list_count ⟨_, e, rfl⟩ F.entry_list_count (F.args_list_count_2 _ _) (SeqAt.list_countAt l (bs.map Value.bool).toArray n none #[] (.bool k) (isBoolOf k)) ⟨e, fun y hy => ?_, ?_⟩
 · obtain ⟨b, _, rfl⟩ := List.mem_map.mp (show y ∈ bs.map Value.bool by simpa using hy)
   exact SeqAt.EqAt.bool_bool b k
 · rw [ec]
   exact ⟨.int (bs.count k : Nat), H, I.tok _, ⟨_, rfl⟩, q⟩
theorem pe_count (ho : PE X o to) (he : PE X e te)
 (hbase : attributeBase o "count" X.env (eval o X.env) = eval o X.env := by rfl)
 (hfew : ((backTo cpos (starEach [e] X.env)).all (fun x => !x.1) && (backToKw cpos (keywordEach [] X.env)).all (fun x => x.1.isSome)
   && decide (([e] : List Expr).length + ([] : List Keyword).length + (if ([] : List Keyword).isEmpty then 0 else 1) < 30)) = true := by rfl)
 (hline : (apos.endLine == cpos.line) = true := by rfl) (hs : starEach [e] X.env = (false, eval e X.env) :: starEach [] X.env := by rfl) (hplain : (backTo cpos (starEach [] X.env)).any (·.1) = false := by rfl) :
 PE X (.Call (.Attribute o "count" apos) [e] [] cpos) (tBMf isLst rCount to (tCons te tNil)) :=
 pe_bmf (fun _ _ h => h.ty) PySem.F.plainAttrs_list PySem.F.slot_list_count PySem.F.type_list_count mt_count ho (pa_cons he pa_nil hs) hbase hfew hline hs hplain
theorem w_count {l : Addr} {k : Bool} {H : Hp} {Q : VK} : rCount (.ref l) [.bl k] H Q ↔ ∃ bs : List Bool, H l = some (.lst (bs.map V.bl)) ∧ Q (.int (bs.count k : Nat)) H := by
 constructor
 · rintro ⟨l, bs, k, e1, e2, h⟩; cases e1; cases e2; exact ⟨bs, h⟩
 · rintro ⟨bs, h⟩; exact ⟨l, bs, k, rfl, rfl, h⟩
end
end L2
namespace L2
open PySem
def fIsiT : List V → Hp → VK → Prop := fun xs H Q => ∃ a p, xs = [.ref a, .ref p] ∧ H p = some (.tup [.ty "list", .ty "tuple"]) ∧ ((∃ ys, H a = some (.lst ys)) ∨ ∃ ys, H a = some (.tup ys)) ∧ Q (.bl true) H
section
variable {X : Cx}
theorem kit_any2 (K : PySem.W.Frag) {t : String} (ht : t = "list" ∨ t = "tuple") : PySem.W.kitAny K (.type t) [.type "list", .type "tuple"] = some true := by
 have h1 := kit_f K (t := t) (c := "list") (.inr (by rcases ht with rfl | rfl <;> rfl)) rfl
 have h2 := kit_f K (t := t) (c := "tuple") (.inr (by rcases ht with rfl | rfl <;> rfl)) rfl
 unfold PySem.W.kitAny PySem.W.kitAny
 rw [h1, h2]
 rcases ht with rfl | rfl <;> rfl
theorem call_isi_t : CallR X (.builtin "isinstance") fIsiT := by
 intro pins s σ H xs us Q I r h
 obtain ⟨a, p, rfl, hp, ha, q⟩ := h
 obtain ⟨u, w', rfl, ru, rw'⟩ := vals2 r
 obtain rfl : u = Value.ref a := ru
 obtain rfl : w' = Value.ref p := rw'
 obtain ⟨its, hv, ht, _⟩ := I.tuple (SqT.of (K := X.K) hp)
 obtain ⟨v1, v2, rfl, r1, r2⟩ := vals2 hv
 obtain rfl : v1 = Value.type "list" := r1
 obtain rfl : v2 = Value.type "tuple" := r2
 obtain ⟨⟨cls, dd, data, sl⟩, h1, h2, n, h3⟩ := (show s.heap.IsTuple p _ from ht)
 subst h2 h3
 rcases ha with ⟨ys, ea⟩ | ⟨ys, ea⟩
 · obtain ⟨_, _, n', _, g1⟩ := (show ObjOk X.prog X.w H s.heap a (.lst ys) from I.hok a _ ea)
   exact PySem.W.kia_tup PySem.W.kitx_list I.kIn ⟨_, g1, rfl⟩ h1 (kit_any2 X.K (.inl rfl)) (fun z => nomatch z) fun tk => ⟨.bl _, H, I.tok tk, rfl, q⟩
 · obtain ⟨_, _, _, g⟩ := (show ObjOk X.prog X.w H s.heap a (.tup ys) from I.hok a _ ea)
   obtain ⟨o, g1, g2, _⟩ := g
   exact PySem.W.kia_tup PySem.W.kitx_tuple I.kIn ⟨o, g1, g2⟩ h1 (kit_any2 X.K (.inr rfl)) (fun z => nomatch z) fun tk => ⟨.bl _, H, I.tok tk, rfl, q⟩
def tNevE : TE := fun _ _ _ => False
theorem pe_never {e : Expr} : PE X e tNevE := fun _ _ _ _ _ _ h => h.elim
end
end L2
namespace WM
inductive Peg (α : Type) where
 | note (w : α) (ts : List (Option Nat))
 | mark (n : Nat)
structure Wl (α : Type) where
 size : Nat
 pegs : List (Option (Peg α))
 hooks : List (Option Nat)
 low : Nat
 free : Nat
 moving : Bool
 looked : Nat
variable {α : Type}
def isNote : Option (Peg α) → Bool
 | some (.note _ _) => true
 | _ => false
namespace Wl
def far (W : Wl α) : Nat := W.size - W.low
def Near (W : Wl α) (n : Nat) : Prop := W.low ≤ n ∧ n < W.free
def Far (W : Wl α) (n : Nat) : Prop := W.far ≤ n ∧ n < W.far + W.size
def isFar (W : Wl α) (n : Nat) : Bool := decide (n < W.low) || decide (W.low + W.size ≤ n)
def kept (W : Wl α) : Nat := ((W.pegs.drop W.far).take W.size).countP isNote
def over (W : Wl α) : Option Nat → Wl α × Option Nat
 | none => (W, none)
 | some n => if W.isFar n = false then (W, some n) else match W.pegs[n]? with
  | some (some (.mark m)) => (W, some m)
  | some (some (.note w ts)) => ({ W with pegs := (W.pegs.set W.free (some (.note w ts))).set n (some (.mark W.free)), free := W.free + 1 }, some W.free)
  | _ => (W, some n)
def overAll (W : Wl α) : List (Option Nat) → Wl α × List (Option Nat)
 | [] => (W, [])
 | t :: ts => ((W.over t).1.overAll ts |>.1, (W.over t).2 :: ((W.over t).1.overAll ts).2)
end Wl
open Wl
structure POk (W : Wl α) : Prop where
 sz : 0 < W.size
 len : W.pegs.length = 2 * W.size
 lo : W.low = 0 ∨ W.low = W.size
 f1 : W.low ≤ W.free
 f2 : W.free ≤ W.low + W.size
 near : ∀ k : Nat, W.Near k → ∃ w ts, W.pegs[k]? = some (some (.note w ts))
 bare : ∀ k : Nat, W.free ≤ k → k < W.low + W.size → W.pegs[k]? = some none
 rest : W.moving = false → ∀ k : Nat, W.Far k → W.pegs[k]? = some none
 look : W.moving = true → W.low ≤ W.looked ∧ W.looked ≤ W.free
 thr : ∀ (k : Nat) (w : α) (ts : List (Option Nat)) (i n : Nat), W.Near k → W.pegs[k]? = some (some (.note w ts)) → ts[i]? = some (some n) → W.Near n ∨ (W.moving = true ∧ W.looked ≤ k ∧ W.Far n ∧ W.pegs[n]? ≠ some none)
 mark : ∀ k m : Nat, W.pegs[k]? = some (some (.mark m)) → W.Far k ∧ W.Near m
 minj : ∀ k k' m : Nat, W.pegs[k]? = some (some (.mark m)) → W.pegs[k']? = some (some (.mark m)) → k = k'
 fthr : ∀ (k : Nat) (w : α) (ts : List (Option Nat)) (i n : Nat), W.Far k → W.pegs[k]? = some (some (.note w ts)) → ts[i]? = some (some n) → W.Far n ∧ W.pegs[n]? ≠ some none
 room : W.kept ≤ W.low + W.size - W.free
def TOk (W : Wl α) (t : Option Nat) : Prop := ∀ n, t = some n → W.Near n ∨ (W.moving = true ∧ W.Far n ∧ W.pegs[n]? ≠ some none)
def NOk (W : Wl α) (t : Option Nat) : Prop := ∀ n, t = some n → W.Near n
structure Ext (W W' : Wl α) : Prop where
 size : W'.size = W.size
 low : W'.low = W.low
 moving : W'.moving = W.moving
 looked : W'.looked = W.looked
 hooks : W'.hooks = W.hooks
 free : W.free ≤ W'.free
 near : ∀ k : Nat, W.Near k → W'.pegs[k]? = W.pegs[k]?
 full : ∀ k : Nat, W.pegs[k]? ≠ some none → W'.pegs[k]? ≠ some none
theorem Ext.refl (W : Wl α) : Ext W W := ⟨rfl, rfl, rfl, rfl, rfl, Nat.le_refl _, fun _ _ => rfl, fun _ h => h⟩
theorem Ext.far {W W' : Wl α} (e : Ext W W') : W'.far = W.far := by unfold Wl.far; rw [e.size, e.low]
theorem Ext.nearOf {W W' : Wl α} (e : Ext W W') {k : Nat} (h : W.Near k) : W'.Near k := ⟨by rw [e.low]; exact h.1, Nat.lt_of_lt_of_le h.2 e.free⟩
theorem Ext.farOf {W W' : Wl α} (e : Ext W W') {k : Nat} : W'.Far k ↔ W.Far k := by unfold Wl.Far; rw [e.far, e.size]
theorem Ext.trans {W W' W'' : Wl α} (a : Ext W W') (b : Ext W' W'') : Ext W W'' :=
 ⟨b.size.trans a.size, b.low.trans a.low, b.moving.trans a.moving, b.looked.trans a.looked, b.hooks.trans a.hooks, Nat.le_trans a.free b.free, fun k h => (b.near k (a.nearOf h)).trans (a.near k h), fun k h => b.full k (a.full k h)⟩
theorem Ext.tok {W W' : Wl α} (e : Ext W W') {t : Option Nat} (h : TOk W t) : TOk W' t := fun n q => by
 rcases h n q with h | ⟨h1, h2, h3⟩
 · exact .inl (e.nearOf h)
 · exact .inr ⟨e.moving.trans h1, e.farOf.mpr h2, e.full n h3⟩
theorem Ext.nok {W W' : Wl α} (e : Ext W W') {t : Option Nat} (h : NOk W t) : NOk W' t := fun n q => e.nearOf (h n q)
section
variable {W : Wl α}
theorem POk.farlen (p : POk W) {n : Nat} (h : W.Far n) : n < W.pegs.length := by
 have := p.len; have := p.lo; unfold Wl.Far Wl.far at h; omega
theorem POk.apart (p : POk W) {n : Nat} (h : W.Far n) (h' : W.Near n) : False := by
 have := p.lo; have := p.f2; unfold Wl.Far Wl.far at h; unfold Wl.Near at h'; omega
theorem POk.isFar_far (p : POk W) {n : Nat} (h : W.Far n) : W.isFar n = true := by
 have := p.lo; unfold Wl.Far Wl.far at h; unfold Wl.isFar
 simp only [Bool.or_eq_true, decide_eq_true_eq]; omega
theorem POk.isFar_near (p : POk W) {n : Nat} (h : W.Near n) : W.isFar n = false := by
 have := p.lo; have := p.f2; unfold Wl.Near at h; unfold Wl.isFar
 simp only [Bool.or_eq_false_iff, decide_eq_false_iff_not]; omega
theorem POk.freeNotFar (p : POk W) : ¬ W.Far W.free ∨ W.free = W.low + W.size := by
 have := p.lo; have := p.f1; have := p.f2; unfold Wl.Far Wl.far; omega
theorem POk.hasRoom (p : POk W) {n : Nat} {w : α} {ts : List (Option Nat)} (hf : W.Far n) (hn : W.pegs[n]? = some (some (.note w ts))) : W.free < W.low + W.size := by
 have h1 : 0 < W.kept := by
  unfold Wl.kept
  rw [List.countP_pos_iff]
  refine ⟨some (.note w ts), ?_, rfl⟩
  refine List.mem_of_getElem? (i := n - W.far) ?_
  rw [List.getElem?_take, if_pos (by have := hf.1; have := hf.2; omega), List.getElem?_drop]
  have : W.far + (n - W.far) = n := by have := hf.1; omega
  rw [this]; exact hn
 have := p.room
 omega
end
theorem getElem?_ne_none_lt {β : Type} {l : List β} {k : Nat} {x : β} (h : l[k]? = some x) : k < l.length := (List.getElem?_eq_some_iff.mp h).1
def mv (W : Wl α) (n : Nat) (w : α) (ts : List (Option Nat)) : Wl α := { W with pegs := (W.pegs.set W.free (some (.note w ts))).set n (some (.mark W.free)), free := W.free + 1 }
section
variable {W : Wl α} {n : Nat} {w : α} {ts : List (Option Nat)}
theorem mv_at (p : POk W) (hf : W.Far n) (hn : W.pegs[n]? = some (some (.note w ts))) (k : Nat) :
 (mv W n w ts).pegs[k]? = if k = n then some (some (.mark W.free)) else if k = W.free then some (some (.note w ts)) else W.pegs[k]? := by
 have hr := p.hasRoom hf hn
 have h1 := p.len
 have h2 := p.lo
 have h3 := p.farlen hf
 unfold mv
 show ((W.pegs.set W.free (some (.note w ts))).set n (some (.mark W.free)))[k]? = _
 rw [List.getElem?_set, List.getElem?_set, List.length_set]
 by_cases e : n = k
 · subst e; simp [h3]
 · rw [if_neg e, if_neg (Ne.symm e)]
   by_cases e2 : W.free = k
   · subst e2; rw [if_pos rfl, if_pos rfl, if_pos (by omega)]
   · rw [if_neg e2, if_neg (Ne.symm e2)]
theorem mv_far (W : Wl α) (n : Nat) (w : α) (ts : List (Option Nat)) : (mv W n w ts).far = W.far := rfl
theorem mv_kept (p : POk W) (hf : W.Far n) (hn : W.pegs[n]? = some (some (.note w ts))) : (mv W n w ts).kept + 1 = W.kept := by
 have hr := p.hasRoom hf hn
 have h1 := p.len
 have h2 := p.lo
 have h3 := p.farlen hf
 have hl := p.f1
 unfold Wl.kept
 rw [mv_far]
 show (((mv W n w ts).pegs.drop W.far).take W.size).countP isNote + 1 = _
 unfold mv
 show ((((W.pegs.set W.free (some (.note w ts))).set n (some (.mark W.free))).drop W.far).take W.size).countP isNote + 1 = _
 have hf1 := hf.1
 have hf2 := hf.2
 have e1 : ((W.pegs.set W.free (some (.note w ts))).drop W.far).take W.size = (W.pegs.drop W.far).take W.size := by
  apply List.ext_getElem?
  intro i
  rw [List.getElem?_take, List.getElem?_take, List.getElem?_drop, List.getElem?_drop, List.getElem?_set]
  by_cases hi : i < W.size
  · rw [if_pos hi, if_pos hi, if_neg]
    intro e; unfold Wl.far at e hf1 hf2; omega
  · rw [if_neg hi, if_neg hi]
 rw [List.drop_set, if_neg (by omega), List.take_set, e1]
 have hlen : n - W.far < ((W.pegs.drop W.far).take W.size).length := by
  rw [List.length_take, List.length_drop]; unfold Wl.far at hf1 hf2 ⊢; omega
 rw [List.countP_set hlen]
 have hg : ((W.pegs.drop W.far).take W.size)[n - W.far] = some (.note w ts) := by
  have : ((W.pegs.drop W.far).take W.size)[n - W.far]? = some (some (.note w ts)) := by
   rw [List.getElem?_take, if_pos (by omega), List.getElem?_drop]
   have : W.far + (n - W.far) = n := by omega
   rw [this]; exact hn
  rw [List.getElem?_eq_getElem hlen] at this
  exact Option.some.inj this
 rw [hg]
 have hpos : 0 < ((W.pegs.drop W.far).take W.size).countP isNote := by
  rw [List.countP_pos_iff]
  exact ⟨some (.note w ts), hg ▸ List.getElem_mem hlen, rfl⟩
 simp [isNote]
 omega
theorem mv_ext (p : POk W) (hf : W.Far n) (hn : W.pegs[n]? = some (some (.note w ts))) : Ext W (mv W n w ts) := by
 refine ⟨rfl, rfl, rfl, rfl, rfl, Nat.le_succ _, fun k h => ?_, fun k h => ?_⟩
 · rw [mv_at p hf hn, if_neg (fun e : k = n => p.apart hf (e ▸ h)), if_neg (fun e => by have := h.2; omega)]
 · rw [mv_at p hf hn]
   split
   · intro z; cases z
   · split
     · intro z; cases z
     · exact h
theorem mv_ok (p : POk W) (hm : W.moving = true) (hf : W.Far n) (hn : W.pegs[n]? = some (some (.note w ts))) : POk (mv W n w ts) := by
 have hr := p.hasRoom hf hn
 have e := mv_ext p hf hn
 have at' := mv_at p hf hn
 have hnf : n ≠ W.free := fun z => by have := p.freeNotFar; rw [← z] at this; rcases this with h | h; exact h hf; omega
 have hfree : (mv W n w ts).free = W.free + 1 := rfl
 have nearOf : ∀ k, (mv W n w ts).Near k → W.Near k ∨ k = W.free := fun k h => by
  have h1 := h.1; have h2 := h.2; rw [hfree] at h2
  have : (mv W n w ts).low = W.low := rfl
  rw [this] at h1
  unfold Wl.Near; omega
 have nn : ∀ k, W.Near k → k ≠ n := fun k h z => p.apart hf (z ▸ h)
 refine ⟨p.sz, ?_, p.lo, Nat.le_trans p.f1 (Nat.le_succ _), hr, fun k h => ?_, fun k h1 h2 => ?_, fun z => ?_, fun z => ?_, fun k w' ts' i m h1 h2 h3 => ?_, fun k m h => ?_, fun k k' m h1 h2 => ?_, fun k w' ts' i m h1 h2 h3 => ?_, ?_⟩
 · show ((W.pegs.set W.free (some (.note w ts))).set n (some (.mark W.free))).length = _
   rw [List.length_set, List.length_set]; exact p.len
 · rcases nearOf k h with h | h
   · rw [at', if_neg (nn k h), if_neg (fun z => by have := h.2; omega)]; exact p.near k h
   · rw [at', if_neg (fun z => hnf (z.symm.trans h)), if_pos h]; exact ⟨_, _, rfl⟩
 · rw [hfree] at h1
   have : (mv W n w ts).low = W.low := rfl
   rw [this] at h2
   have hs : (mv W n w ts).size = W.size := rfl
   rw [hs] at h2
   rw [at', if_neg (fun z => ?_), if_neg (by omega)]
   · exact p.bare k (by omega) h2
   · subst z
     have := p.bare k (by omega) h2
     rw [hn] at this; cases this
 · have : (mv W n w ts).moving = W.moving := rfl
   rw [this, hm] at z; cases z
 · have := p.look hm
   exact ⟨this.1, Nat.le_trans this.2 (Nat.le_succ _)⟩
 · rcases nearOf k h1 with h | h
   · rw [at', if_neg (nn k h), if_neg (fun z => by have := h.2; omega)] at h2
     rcases p.thr k w' ts' i m h h2 h3 with q | ⟨q1, q2, q3, q4⟩
     · exact .inl (e.nearOf q)
     · exact .inr ⟨q1, q2, q3, e.full m q4⟩
   · rw [at', if_neg (fun z => hnf (z.symm.trans h)), if_pos h] at h2
     cases h2
     obtain ⟨q1, q2⟩ := p.fthr n w ts i m hf hn h3
     exact .inr ⟨hm, by rw [h]; exact (p.look hm).2, q1, e.full m q2⟩
 · rw [at'] at h
   split at h
   · rename_i z; cases h; rw [z]; exact ⟨hf, p.f1, Nat.lt_succ_self _⟩
   · split at h
     · cases h
     · obtain ⟨q1, q2⟩ := p.mark k m h
       exact ⟨q1, e.nearOf q2⟩
 · rw [at'] at h1 h2
   split at h1
   · rename_i z1; cases h1
     split at h2
     · rename_i z2; exact z1.trans z2.symm
     · split at h2
       · cases h2
       · have := (p.mark k' _ h2).2.2; omega
   · split at h1
     · cases h1
     · split at h2
       · cases h2
         have := (p.mark k _ h1).2.2; omega
       · split at h2
         · cases h2
         · exact p.minj k k' m h1 h2
 · rw [at'] at h2
   split at h2
   · cases h2
   · split at h2
     · rename_i z1 z2
       exfalso
       rcases p.freeNotFar with q | q
       · exact q (z2 ▸ h1)
       · omega
     · obtain ⟨q1, q2⟩ := p.fthr k w' ts' i m h1 h2 h3
       exact ⟨q1, e.full m q2⟩
 · have := mv_kept p hf hn
   have := p.room
   show (mv W n w ts).kept ≤ W.low + W.size - (W.free + 1)
   omega
end
theorem over_ok {W : Wl α} {t : Option Nat} (p : POk W) (h : TOk W t) : POk (W.over t).1 ∧ NOk (W.over t).1 (W.over t).2 ∧ Ext W (W.over t).1 := by
 cases t with
 | none => exact ⟨p, fun n q => by simp [Wl.over] at q, Ext.refl W⟩
 | some n =>
  rcases h n rfl with h | ⟨hm, hf, hn⟩
  · have : W.over (some n) = (W, some n) := by simp only [Wl.over]; rw [if_pos (p.isFar_near h)]
    rw [this]
    exact ⟨p, fun m q => by cases q; exact h, Ext.refl W⟩
  · have hl := p.farlen hf
    have hx : W.pegs[n]? = some (W.pegs[n]) := List.getElem?_eq_getElem hl
    cases hp : W.pegs[n] with
    | none => rw [hp] at hx; exact absurd hx hn
    | some x =>
     rw [hp] at hx
     cases x with
     | mark m =>
      have : W.over (some n) = (W, some m) := by simp only [Wl.over]; rw [if_neg (by rw [p.isFar_far hf]; decide), hx]
      rw [this]
      exact ⟨p, fun k q => by cases q; exact (p.mark n m hx).2, Ext.refl W⟩
     | note w ts =>
      have : W.over (some n) = (mv W n w ts, some W.free) := by simp only [Wl.over]; rw [if_neg (by rw [p.isFar_far hf]; decide), hx]; rfl
      rw [this]
      exact ⟨mv_ok p hm hf hx, fun k q => by cases q; exact ⟨p.f1, Nat.lt_succ_self _⟩, mv_ext p hf hx⟩
theorem overAll_ok : ∀ {ts : List (Option Nat)} {W : Wl α}, POk W → (∀ t ∈ ts, TOk W t) → POk (W.overAll ts).1 ∧ (∀ t ∈ (W.overAll ts).2, NOk (W.overAll ts).1 t) ∧ Ext W (W.overAll ts).1 ∧ (W.overAll ts).2.length = ts.length
 | [], W, p, _ => ⟨p, (fun t h => nomatch h), Ext.refl W, rfl⟩
 | t :: ts, W, p, h => by
  obtain ⟨p1, n1, e1⟩ := over_ok p (h t List.mem_cons_self)
  obtain ⟨p2, n2, e2, l2⟩ := overAll_ok (ts := ts) p1 fun u hu => e1.tok (h u (List.mem_cons_of_mem _ hu))
  refine ⟨p2, fun u hu => ?_, e1.trans e2, ?_⟩
  · rcases List.mem_cons.mp hu with q | q
    · rw [q]; exact e2.nok n1
    · exact n2 u q
  · show ((W.over t).1.overAll ts).2.length + 1 = ts.length + 1
    rw [l2]
abbrev Notes (α : Type) := List (α × List (Option Nat))
def rl (ps : List (Option (Peg α))) (n : Nat) : Nat := match ps[n]? with
 | some (some (.mark m)) => m
 | _ => n
def Rel (ps : List (Option (Peg α))) (φ : Nat → Option Nat) : Option Nat → Option Nat → Prop
 | none, none => True
 | some n, some k => φ k = some (rl ps n)
 | _, _ => False
structure NSim (ps : List (Option (Peg α))) (notes : Notes α) (φ : Nat → Option Nat) : Prop where
 note : ∀ k q : Nat, φ k = some q → ∃ w ts row, ps[q]? = some (some (.note w ts)) ∧ notes[k]? = some (w, row) ∧ ts.length = row.length ∧ ∀ (i : Nat) (t o : Option Nat), ts[i]? = some t → row[i]? = some o → Rel ps φ t o
 inj : ∀ k k' q : Nat, φ k = some q → φ k' = some q → k = k'
theorem rl_near {W : Wl α} (p : POk W) {n : Nat} (h : W.Near n) : rl W.pegs n = n := by
 obtain ⟨w, ts, e⟩ := p.near n h
 unfold rl; rw [e]
def Rels (ps : List (Option (Peg α))) (φ : Nat → Option Nat) (ts os : List (Option Nat)) : Prop := ts.length = os.length ∧ ∀ (i : Nat) (t o : Option Nat), ts[i]? = some t → os[i]? = some o → Rel ps φ t o
def mvφ (W : Wl α) (n : Nat) (φ : Nat → Option Nat) : Nat → Option Nat := fun k => if φ k = some n then some W.free else φ k
section
variable {W : Wl α} {n : Nat} {w : α} {ts : List (Option Nat)} {φ : Nat → Option Nat} {notes : Notes α}
theorem mv_rl (p : POk W) (hf : W.Far n) (hn : W.pegs[n]? = some (some (.note w ts))) (k : Nat) (hk : k ≠ W.free) : rl (mv W n w ts).pegs k = if k = n then W.free else rl W.pegs k := by
 unfold rl
 rw [mv_at p hf hn]
 by_cases e : k = n
 · rw [if_pos e, if_pos e]
 · rw [if_neg e, if_neg e, if_neg hk]
theorem rl_ne (p : POk W) (hf : W.Far n) (hn : W.pegs[n]? = some (some (.note w ts))) {k : Nat} (e : k ≠ n) : rl W.pegs k ≠ n := by
 unfold rl
 split
 · rename_i m h
   intro z; subst z
   exact p.apart hf (p.mark k _ h).2
 · exact e
theorem rl_self (hn : W.pegs[n]? = some (some (.note w ts))) : rl W.pegs n = n := by unfold rl; rw [hn]
theorem mv_rel (p : POk W) (hf : W.Far n) (hn : W.pegs[n]? = some (some (.note w ts))) {t o : Option Nat} (ht : ∀ k, t = some k → W.pegs[k]? ≠ some none) (h : Rel W.pegs φ t o) : Rel (mv W n w ts).pegs (mvφ W n φ) t o := by
 cases t with
 | none => cases o with
  | none => trivial
  | some _ => exact h
 | some a => cases o with
  | none => exact h
  | some k =>
   have hk : φ k = some (rl W.pegs a) := h
   have hr := p.hasRoom hf hn
   have ha : a ≠ W.free := fun z => ht a rfl (by rw [z]; exact p.bare _ (Nat.le_refl _) hr)
   show mvφ W n φ k = some (rl (mv W n w ts).pegs a)
   unfold mvφ
   rw [mv_rl p hf hn a ha, hk]
   by_cases e : a = n
   · subst e; rw [rl_self hn, if_pos rfl, if_pos rfl]
   · rw [if_neg e, if_neg (fun z => rl_ne p hf hn e (Option.some.inj z))]
theorem mv_sim (p : POk W) (hf : W.Far n) (hn : W.pegs[n]? = some (some (.note w ts))) (s : NSim W.pegs notes φ) : NSim (mv W n w ts).pegs notes (mvφ W n φ) := by
 have hr := p.hasRoom hf hn
 have fn : ∀ k, φ k ≠ some W.free := fun k z => by
  obtain ⟨w', ts', row, e, _⟩ := s.note k _ z
  rw [p.bare _ (Nat.le_refl _) hr] at e; cases e
 have full : ∀ (q : Nat) (w' : α) (ts' : List (Option Nat)), W.pegs[q]? = some (some (.note w' ts')) → ∀ (i k : Nat), ts'[i]? = some (some k) → W.pegs[k]? ≠ some none := fun q w' ts' e i k hi z => by
  have hl := getElem?_ne_none_lt e
  rw [p.len] at hl
  by_cases hq : W.Near q
  · rcases p.thr q w' ts' i k hq e hi with h | ⟨_, _, _, h⟩
    · obtain ⟨_, _, e2⟩ := p.near k h; rw [e2] at z; cases z
    · exact h z
  · have : W.Far q ∨ (W.free ≤ q ∧ q < W.low + W.size) := by
     have := p.lo; have := p.f1; have := p.f2; unfold Wl.Near at hq; unfold Wl.Far Wl.far; omega
    rcases this with h | h
    · exact (p.fthr q w' ts' i k h e hi).2 z
    · rw [p.bare q h.1 h.2] at e; cases e
 refine ⟨fun k q h => ?_, fun k k' q h1 h2 => ?_⟩
 · unfold mvφ at h
   split at h
   · rename_i hk
     cases h
     obtain ⟨w', ts', row, e, e2, e3, e4⟩ := s.note k n hk
     rw [hn] at e; cases e
     refine ⟨w, ts, row, ?_, e2, e3, fun i t o h1 h2 => mv_rel p hf hn (fun k hk => full n w ts hn i k (by rw [h1, hk])) (e4 i t o h1 h2)⟩
     rw [mv_at p hf hn, if_neg (fun z => ?_), if_pos rfl]
     have := p.bare _ (Nat.le_refl _) hr; rw [z, hn] at this; cases this
   · rename_i hk
     obtain ⟨w', ts', row, e, e2, e3, e4⟩ := s.note k q h
     refine ⟨w', ts', row, ?_, e2, e3, fun i t o h1 h2 => mv_rel p hf hn (fun k hk => full q w' ts' e i k (by rw [h1, hk])) (e4 i t o h1 h2)⟩
     rw [mv_at p hf hn, if_neg (fun z => hk (by rw [h, z])), if_neg (fun z => fn k (by rw [h, z]))]
     exact e
 · unfold mvφ at h1 h2
   split at h1
   · rename_i z1
     split at h2
     · rename_i z2; exact s.inj k k' n z1 z2
     · cases h1; exact absurd h2 (fn k')
   · split at h2
     · cases h2; exact absurd h1 (fn k)
     · exact s.inj k k' q h1 h2
end
def Led (W : Wl α) (t : Option Nat) : Prop := ∀ k, t = some k → W.pegs[k]? ≠ some none
theorem TOk.led {W : Wl α} (p : POk W) {t : Option Nat} (h : TOk W t) : Led W t := fun k q z => by
 rcases h k q with h | ⟨_, _, h⟩
 · obtain ⟨_, _, e⟩ := p.near k h; rw [e] at z; cases z
 · exact h z
theorem over_sim {W : Wl α} {t : Option Nat} {φ : Nat → Option Nat} {notes : Notes α} (p : POk W) (h : TOk W t) (s : NSim W.pegs notes φ) :
 ∃ φ', NSim (W.over t).1.pegs notes φ' ∧ ((∀ k, (φ' k).isSome = (φ k).isSome) ∧ ∀ k q, W.Near q → φ' k = some q → φ k = some q) ∧ (∀ u o, Led W u → Rel W.pegs φ u o → Rel (W.over t).1.pegs φ' u o) ∧ (∀ o, Rel W.pegs φ t o → Rel (W.over t).1.pegs φ' (W.over t).2 o) := by
 cases t with
 | none => exact ⟨φ, s, ⟨fun _ => rfl, fun _ _ _ h => h⟩, fun _ _ _ h => h, fun _ h => h⟩
 | some n =>
  rcases h n rfl with h | ⟨hm, hf, hn⟩
  · have : W.over (some n) = (W, some n) := by simp only [Wl.over]; rw [if_pos (p.isFar_near h)]
    rw [this]
    exact ⟨φ, s, ⟨fun _ => rfl, fun _ _ _ h => h⟩, fun _ _ _ h => h, fun _ h => h⟩
  · have hl := p.farlen hf
    have hx : W.pegs[n]? = some (W.pegs[n]) := List.getElem?_eq_getElem hl
    cases hp : W.pegs[n] with
    | none => rw [hp] at hx; exact absurd hx hn
    | some x =>
     rw [hp] at hx
     cases x with
     | mark m =>
      have : W.over (some n) = (W, some m) := by simp only [Wl.over]; rw [if_neg (by rw [p.isFar_far hf]; decide), hx]
      rw [this]
      refine ⟨φ, s, ⟨fun _ => rfl, fun _ _ _ h => h⟩, fun _ _ _ h => h, fun o h => ?_⟩
      cases o with
      | none => exact h
      | some k =>
       have h' : φ k = some (rl W.pegs n) := h
       show φ k = some (rl W.pegs m)
       rw [rl_near p (p.mark n m hx).2, h']
       unfold rl; rw [hx]
     | note w ts =>
      have : W.over (some n) = (mv W n w ts, some W.free) := by simp only [Wl.over]; rw [if_neg (by rw [p.isFar_far hf]; decide), hx]; rfl
      rw [this]
      refine ⟨mvφ W n φ, mv_sim p hf hx s, ⟨fun k => ?_, fun k q hq h => ?_⟩, fun u o hu h => mv_rel p hf hx hu h, fun o h => ?_⟩
      · unfold mvφ; split
        · rename_i z; rw [z]; rfl
        · rfl
      · unfold mvφ at h; split at h
        · cases h; have := hq.2; omega
        · exact h
      · cases o with
        | none => exact h
        | some k =>
         have h' : φ k = some (rl W.pegs n) := h
         rw [rl_self hx] at h'
         show mvφ W n φ k = some (rl (mv W n w ts).pegs W.free)
         have e2 : rl (mv W n w ts).pegs W.free = W.free := rl_near (mv_ok p hm hf hx) ⟨p.f1, Nat.lt_succ_self _⟩
         rw [e2]; unfold mvφ; rw [if_pos h']
structure WOk (W : Wl α) : Prop extends POk W where
 hk : ∀ t ∈ W.hooks, NOk W t
structure Sim (W : Wl α) (notes : Notes α) (heads : List (Option Nat)) (φ : Nat → Option Nat) : Prop where
 n : NSim W.pegs notes φ
 h : Rels W.pegs φ W.hooks heads
namespace Wl
def led (W : Wl α) (js : List Nat) : List (Option Nat) := js.map fun j => (W.hooks[j]?).getD none
def put (W : Wl α) (hook : Nat) (w : α) (others : List Nat) : Wl α :=
 { W with pegs := W.pegs.set W.free (some (.note w (W.led others))), free := W.free + 1, hooks := W.hooks.set hook (some W.free) }
def drop (W : Wl α) (hook : Nat) : Wl α := { W with hooks := W.hooks.set hook none }
def lead (W : Wl α) (n k : Nat) (t : Option Nat) : Wl α := match W.pegs[n]? with
 | some (some (.note w ts)) => { W with pegs := W.pegs.set n (some (.note w (ts.set k t))) }
 | _ => W
def follow (W : Wl α) (n k other : Nat) (t : Option Nat) : Wl α :=
 let W1 := (W.over t).1.lead n k (W.over t).2
 { W1 with hooks := W1.hooks.set other (W.over t).2 }
def begin0 (W : Wl α) : Wl α := { W with low := W.far, free := W.far, looked := W.far, moving := true }
def begin (W : Wl α) : Wl α := { (W.begin0.overAll W.hooks).1 with hooks := (W.begin0.overAll W.hooks).2 }
def look (W : Wl α) (n : Nat) : Wl α := match W.pegs[n]? with
 | some (some (.note w ts)) => { (W.overAll ts).1 with pegs := (W.overAll ts).1.pegs.set n (some (.note w (W.overAll ts).2)) }
 | _ => W
def clear (W : Wl α) : Wl α := { W with pegs := W.pegs.take W.far ++ List.replicate W.size none ++ W.pegs.drop (W.far + W.size), moving := false }
def step (W : Wl α) : Wl α := if W.looked = W.free then W.clear else { (W.look W.looked) with looked := W.looked + 1 }
end Wl
theorem nok_none (W : Wl α) : NOk W none := fun _ h => nomatch h
theorem mem_set {β : Type} {l : List β} {i : Nat} {a b : β} (h : b ∈ l.set i a) : b ∈ l ∨ b = a := List.mem_or_eq_of_mem_set h
theorem drop_ok {W : Wl α} (p : WOk W) (hook : Nat) : WOk (W.drop hook) :=
 ⟨⟨p.sz, p.len, p.lo, p.f1, p.f2, p.near, p.bare, p.rest, p.look, p.thr, p.mark, p.minj, p.fthr, p.room⟩, fun t h => by
  rcases mem_set h with h | h
  · exact p.hk t h
  · rw [h]; exact nok_none _⟩
theorem rels_set {ps : List (Option (Peg α))} {φ : Nat → Option Nat} {ts os : List (Option Nat)} {t o : Option Nat} (h : Rels ps φ ts os) (i : Nat) (r : Rel ps φ t o) : Rels ps φ (ts.set i t) (os.set i o) := by
 refine ⟨by rw [List.length_set, List.length_set]; exact h.1, fun j u v h1 h2 => ?_⟩
 rw [List.getElem?_set] at h1 h2
 by_cases e : i = j
 · rw [if_pos e] at h1 h2
   split at h1
   · split at h2
     · cases h1; cases h2; exact r
     · cases h2
   · cases h1
 · rw [if_neg e] at h1 h2
   exact h.2 j u v h1 h2
theorem drop_sim {W : Wl α} {notes : Notes α} {heads : List (Option Nat)} {φ : Nat → Option Nat} (s : Sim W notes heads φ) (hook : Nat) : Sim (W.drop hook) notes (heads.set hook none) φ :=
 ⟨s.n, rels_set s.h hook trivial⟩
section
variable {W : Wl α} {hook : Nat} {w : α} {others : List Nat}
theorem put_at (p : WOk W) (hr : W.kept < W.low + W.size - W.free) (k : Nat) : (W.put hook w others).pegs[k]? = if k = W.free then some (some (.note w (W.led others))) else W.pegs[k]? := by
 have h1 := p.len; have h2 := p.lo; have := p.f1
 show (W.pegs.set W.free (some (.note w (W.led others))))[k]? = _
 rw [List.getElem?_set]
 by_cases e : W.free = k
 · subst e; rw [if_pos rfl, if_pos rfl, if_pos (by omega)]
 · rw [if_neg e, if_neg (Ne.symm e)]
theorem led_nok (p : WOk W) (js : List Nat) : ∀ t ∈ W.led js, NOk W t := fun t h => by
 obtain ⟨j, _, e⟩ := List.mem_map.mp h
 cases q : W.hooks[j]? with
 | none => rw [q] at e; rw [← e]; exact nok_none _
 | some u => rw [q] at e; rw [← e]; exact p.hk u (List.mem_of_getElem? q)
theorem put_ext (p : WOk W) (hr : W.kept < W.low + W.size - W.free) : (∀ k, W.Near k → (W.put hook w others).Near k) ∧ ∀ k : Nat, W.pegs[k]? ≠ some none → (W.put hook w others).pegs[k]? ≠ some none := by
 refine ⟨fun k h => ⟨h.1, Nat.lt_succ_of_lt h.2⟩, fun k h => ?_⟩
 rw [put_at p hr]
 split
 · intro z; cases z
 · exact h
theorem put_ok (p : WOk W) (hr : W.kept < W.low + W.size - W.free) : WOk (W.put hook w others) := by
 obtain ⟨e1, e2⟩ := put_ext (hook := hook) (w := w) (others := others) p hr
 have at' := put_at (hook := hook) (w := w) (others := others) p hr
 have fr : W.free < W.low + W.size := by omega
 have nearOf : ∀ k, (W.put hook w others).Near k → W.Near k ∨ k = W.free := fun k h => by
  have h1 := h.1; have h2 : k < W.free + 1 := h.2
  have h1 : W.low ≤ k := h1
  unfold Wl.Near; omega
 have nfar : ¬ W.Far W.free := by rcases p.toPOk.freeNotFar with h | h; exact h; omega
 refine ⟨⟨p.sz, ?_, p.lo, Nat.le_trans p.f1 (Nat.le_succ _), fr, fun k h => ?_, fun k h1 h2 => ?_, fun z k h => ?_, fun z => ?_, fun k w' ts i m h1 h2 h3 => ?_, fun k m h => ?_, fun k k' m h1 h2 => ?_, fun k w' ts i m h1 h2 h3 => ?_, ?_⟩, fun t h => ?_⟩
 · show (W.pegs.set W.free _).length = _
   rw [List.length_set]; exact p.len
 · rw [at']
   rcases nearOf k h with h | h
   · rw [if_neg (fun z => by have := h.2; omega)]; exact p.near k h
   · rw [if_pos h]; exact ⟨_, _, rfl⟩
 · have h1 : W.free + 1 ≤ k := h1
   rw [at', if_neg (by omega)]
   exact p.bare k (by omega) h2
 · rw [at', if_neg (fun e : k = W.free => nfar (e ▸ h))]
   exact p.rest z k h
 · have := p.look z
   exact ⟨this.1, Nat.le_trans this.2 (Nat.le_succ _)⟩
 · rw [at'] at h2
   rcases nearOf k h1 with h | h
   · rw [if_neg (fun z => by have := h.2; omega)] at h2
     rcases p.thr k w' ts i m h h2 h3 with q | ⟨q1, q2, q3, q4⟩
     · exact .inl (e1 m q)
     · exact .inr ⟨q1, q2, q3, e2 m q4⟩
   · rw [if_pos h] at h2
     cases h2
     exact .inl (e1 m (led_nok p others _ (List.mem_of_getElem? h3) m rfl))
 · rw [at'] at h
   split at h
   · cases h
   · obtain ⟨q1, q2⟩ := p.mark k m h
     exact ⟨q1, e1 m q2⟩
 · rw [at'] at h1 h2
   split at h1
   · cases h1
   · split at h2
     · cases h2
     · exact p.minj k k' m h1 h2
 · rw [at', if_neg (fun e : k = W.free => nfar (e ▸ h1))] at h2
   obtain ⟨q1, q2⟩ := p.fthr k w' ts i m h1 h2 h3
   exact ⟨q1, e2 m q2⟩
 · have hk : (W.put hook w others).kept = W.kept := by
    unfold Wl.kept
    show (((W.pegs.set W.free _).drop W.far).take W.size).countP isNote = _
    congr 1
    apply List.ext_getElem?
    intro i
    rw [List.getElem?_take, List.getElem?_take, List.getElem?_drop, List.getElem?_drop, List.getElem?_set]
    by_cases hi : i < W.size
    · rw [if_pos hi, if_pos hi, if_neg]
      intro e; exact nfar (by rw [e]; exact ⟨Nat.le_add_right _ _, by omega⟩)
    · rw [if_neg hi, if_neg hi]
   rw [hk]
   show W.kept ≤ W.low + W.size - (W.free + 1)
   omega
 · rcases mem_set h with h | h
   · exact fun n q => e1 n (p.hk t h n q)
   · rw [h]; intro n q; cases q; exact ⟨p.f1, Nat.lt_succ_self _⟩
theorem put_sim {notes : Notes α} {heads : List (Option Nat)} {φ : Nat → Option Nat} (p : WOk W) (hr : W.kept < W.low + W.size - W.free) (s : Sim W notes heads φ) (ho : ∀ j ∈ others, j < heads.length) :
 Sim (W.put hook w others) (notes ++ [(w, others.map fun j => (heads[j]?).getD none)]) (heads.set hook (some notes.length)) (fun k => if k = notes.length then some W.free else φ k) := by
 have at' := put_at (hook := hook) (w := w) (others := others) p hr
 have fr : W.free < W.low + W.size := by omega
 have fb := p.bare _ (Nat.le_refl _) fr
 have hφ : ∀ k q, φ k = some q → k < notes.length ∧ q ≠ W.free := fun k q h => by
  obtain ⟨w', ts, row, e1, e2, _⟩ := s.n.note k q h
  exact ⟨getElem?_ne_none_lt e2, fun z => by rw [z, fb] at e1; cases e1⟩
 have rlk : ∀ k : Nat, W.pegs[k]? ≠ some none → rl (W.put hook w others).pegs k = rl W.pegs k := fun k h => by
  unfold rl; rw [at', if_neg (fun z => h (by rw [z]; exact fb))]
 have rel : ∀ t o, Led W t → Rel W.pegs φ t o → Rel (W.put hook w others).pegs (fun k => if k = notes.length then some W.free else φ k) t o := fun t o ht h => by
  cases t with
  | none => cases o with
   | none => trivial
   | some _ => exact h
  | some a => cases o with
   | none => exact h
   | some k =>
    have h' : φ k = some (rl W.pegs a) := h
    show (if k = notes.length then some W.free else φ k) = some (rl (W.put hook w others).pegs a)
    rw [if_neg (Nat.ne_of_lt (hφ k _ h').1), rlk a (ht a rfl)]
    exact h'
 have ledN : ∀ t, NOk W t → Led W t := fun t h k q z => by
  obtain ⟨_, _, e⟩ := p.near k (h k q); rw [e] at z; cases z
 have full : ∀ (q : Nat) (w' : α) (ts' : List (Option Nat)), W.pegs[q]? = some (some (.note w' ts')) → ∀ (i : Nat) (t : Option Nat), ts'[i]? = some t → Led W t := fun q w' ts' e i t hi k ek z => by
  subst ek
  have hl := getElem?_ne_none_lt e
  rw [p.len] at hl
  by_cases hq : W.Near q
  · rcases p.thr q w' ts' i k hq e hi with h | ⟨_, _, _, h⟩
    · obtain ⟨_, _, e2⟩ := p.near k h; rw [e2] at z; cases z
    · exact h z
  · have : W.Far q ∨ (W.free ≤ q ∧ q < W.low + W.size) := by
     have := p.lo; have := p.f1; have := p.f2; unfold Wl.Near at hq; unfold Wl.Far Wl.far; omega
    rcases this with h | h
    · exact (p.fthr q w' ts' i k h e hi).2 z
    · rw [p.bare q h.1 h.2] at e; cases e
 refine ⟨⟨fun k q h => ?_, fun k k' q h1 h2 => ?_⟩, ?_⟩
 · split at h
   · rename_i hk
     cases h
     refine ⟨w, W.led others, others.map fun j => (heads[j]?).getD none, by rw [at', if_pos rfl], by rw [hk]; simp, by simp [Wl.led], fun i t o h1 h2 => ?_⟩
     unfold Wl.led at h1
     rw [List.getElem?_map] at h1 h2
     cases q : others[i]? with
     | none => rw [q] at h1; cases h1
     | some j =>
      rw [q] at h1 h2
      have hj := ho j (List.mem_of_getElem? q)
      have hj' : j < W.hooks.length := by rw [s.h.1]; exact hj
      simp only [Option.map_some, Option.some.injEq] at h1 h2
      rw [List.getElem?_eq_getElem hj'] at h1
      rw [List.getElem?_eq_getElem hj] at h2
      have h1 : W.hooks[j] = t := h1
      have h2 : heads[j] = o := h2
      have r := s.h.2 j t o (by rw [List.getElem?_eq_getElem hj', h1]) (by rw [List.getElem?_eq_getElem hj, h2])
      exact rel t o (ledN t (p.hk t (h1 ▸ List.getElem_mem hj'))) r
   · obtain ⟨w', ts, row, e1, e2, e3, e4⟩ := s.n.note k q h
     refine ⟨w', ts, row, by rw [at', if_neg (hφ k q h).2]; exact e1, by rw [List.getElem?_append_left (hφ k q h).1]; exact e2, e3, fun i t o h1 h2 => rel t o (full q w' ts e1 i t h1) (e4 i t o h1 h2)⟩
 · split at h1
   · rename_i z1
     split at h2
     · rename_i z2; rw [z1, z2]
     · cases h1; exact absurd rfl (hφ k' _ h2).2
   · split at h2
     · cases h2; exact absurd rfl (hφ k _ h1).2
     · exact s.n.inj k k' q h1 h2
 · refine rels_set ⟨s.h.1, fun i t o h1 h2 => rel t o (ledN t (p.hk t (List.mem_of_getElem? h1))) (s.h.2 i t o h1 h2)⟩ hook ?_
   show (if notes.length = notes.length then some W.free else φ notes.length) = some (rl (W.put hook w others).pegs W.free)
   rw [if_pos rfl]
   unfold rl; rw [at', if_pos rfl]
end
section
variable {W : Wl α} {n k : Nat} {t : Option Nat} {w : α} {ts : List (Option Nat)}
theorem lead_eq (hn : W.pegs[n]? = some (some (.note w ts))) : W.lead n k t = { W with pegs := W.pegs.set n (some (.note w (ts.set k t))) } := by unfold Wl.lead; rw [hn]
theorem lead_at (hn : W.pegs[n]? = some (some (.note w ts))) (j : Nat) : (W.lead n k t).pegs[j]? = if j = n then some (some (.note w (ts.set k t))) else W.pegs[j]? := by
 rw [lead_eq hn]
 show (W.pegs.set n _)[j]? = _
 rw [List.getElem?_set]
 by_cases e : n = j
 · subst e; rw [if_pos rfl, if_pos rfl, if_pos (getElem?_ne_none_lt hn)]
 · rw [if_neg e, if_neg (Ne.symm e)]
theorem lead_ok (p : WOk W) (hn : W.Near n) (hp : W.pegs[n]? = some (some (.note w ts))) (ht : NOk W t) : WOk (W.lead n k t) := by
 have at' := lead_at (k := k) (t := t) hp
 have fs : (W.lead n k t).size = W.size ∧ (W.lead n k t).low = W.low ∧ (W.lead n k t).free = W.free ∧ (W.lead n k t).moving = W.moving ∧ (W.lead n k t).looked = W.looked ∧ (W.lead n k t).hooks = W.hooks := by rw [lead_eq hp]; exact ⟨rfl, rfl, rfl, rfl, rfl, rfl⟩
 obtain ⟨f1, f2, f3, f4, f5, f6⟩ := fs
 have ff : (W.lead n k t).far = W.far := by unfold Wl.far; rw [f1, f2]
 have fN : ∀ j, (W.lead n k t).Near j ↔ W.Near j := fun j => by unfold Wl.Near; rw [f2, f3]
 have fF : ∀ j, (W.lead n k t).Far j ↔ W.Far j := fun j => by unfold Wl.Far; rw [ff, f1]
 have nf : ∀ j, W.Far j → j ≠ n := fun j h e => p.toPOk.apart h (e ▸ hn)
 have full : ∀ j : Nat, W.pegs[j]? ≠ some none → (W.lead n k t).pegs[j]? ≠ some none := fun j h => by
  rw [at']; split
  · intro z; cases z
  · exact h
 refine ⟨⟨f1 ▸ p.sz, ?_, by rw [f1, f2]; exact p.lo, by rw [f2, f3]; exact p.f1, by rw [f1, f2, f3]; exact p.f2, fun j h => ?_, fun j h1 h2 => ?_, fun z j h => ?_, fun z => ?_, fun j w' ts' i m h1 h2 h3 => ?_, fun j m h => ?_, fun j j' m h1 h2 => ?_, fun j w' ts' i m h1 h2 h3 => ?_, ?_⟩, fun u h => ?_⟩
 · rw [lead_eq hp]
   show (W.pegs.set n _).length = _
   rw [List.length_set]; exact p.len
 · rw [at']; split
   · exact ⟨_, _, rfl⟩
   · exact p.near j ((fN j).mp h)
 · rw [f3] at h1; rw [f1, f2] at h2
   rw [at', if_neg (fun e => by have := hn.2; omega)]
   exact p.bare j h1 h2
 · rw [at', if_neg (nf j ((fF j).mp h))]
   exact p.rest (f4 ▸ z) j ((fF j).mp h)
 · rw [f2, f3, f5]; exact p.look (f4 ▸ z)
 · rw [fN] at h1
   rw [at'] at h2
   have key : W.Near m ∨ (W.moving = true ∧ W.looked ≤ j ∧ W.Far m ∧ W.pegs[m]? ≠ some none) := by
    split at h2
    · rename_i e
      cases h2
      rw [List.getElem?_set] at h3
      split at h3
      · split at h3
        · exact .inl (ht m (by simpa using h3))
        · cases h3
      · exact p.thr j w ts i m h1 (by rw [e]; exact hp) h3
    · exact p.thr j w' ts' i m h1 h2 h3
   rcases key with q | ⟨q1, q2, q3, q4⟩
   · exact .inl ((fN m).mpr q)
   · exact .inr ⟨f4.trans q1, by rw [f5]; exact q2, (fF m).mpr q3, full m q4⟩
 · rw [at'] at h
   split at h
   · cases h
   · obtain ⟨q1, q2⟩ := p.mark j m h
     exact ⟨(fF j).mpr q1, (fN m).mpr q2⟩
 · rw [at'] at h1 h2
   split at h1
   · cases h1
   · split at h2
     · cases h2
     · exact p.minj j j' m h1 h2
 · rw [fF] at h1
   rw [at', if_neg (nf j h1)] at h2
   obtain ⟨q1, q2⟩ := p.fthr j w' ts' i m h1 h2 h3
   exact ⟨(fF m).mpr q1, full m q2⟩
 · have hk : (W.lead n k t).kept = W.kept := by
    unfold Wl.kept
    rw [ff, f1]
    congr 1
    apply List.ext_getElem?
    intro i
    rw [List.getElem?_take, List.getElem?_take, List.getElem?_drop, List.getElem?_drop, at']
    by_cases hi : i < W.size
    · rw [if_pos hi, if_pos hi, if_neg (nf _ ⟨Nat.le_add_right _ _, by omega⟩)]
    · rw [if_neg hi, if_neg hi]
   rw [hk, f1, f2, f3]; exact p.room
 · rw [f6] at h
   exact fun m q => (fN m).mpr (p.hk u h m q)
theorem lead_rl (hp : W.pegs[n]? = some (some (.note w ts))) (j : Nat) : rl (W.lead n k t).pegs j = rl W.pegs j := by
 unfold rl
 rw [lead_at hp]
 by_cases e : j = n
 · subst e; rw [if_pos rfl, hp]
 · rw [if_neg e]
theorem lead_rel (hp : W.pegs[n]? = some (some (.note w ts))) {φ : Nat → Option Nat} {u o : Option Nat} : Rel (W.lead n k t).pegs φ u o ↔ Rel W.pegs φ u o := by
 cases u with
 | none => cases o <;> exact Iff.rfl
 | some a => cases o with
  | none => exact Iff.rfl
  | some b => show φ b = some (rl (W.lead n k t).pegs a) ↔ φ b = some (rl W.pegs a); rw [lead_rl hp]
def setT (notes : Notes α) (own k : Nat) (o : Option Nat) : Notes α := match notes[own]? with
 | some (w, row) => notes.set own (w, row.set k o)
 | none => notes
theorem lead_nsim {notes : Notes α} {φ : Nat → Option Nat} {own : Nat} {o : Option Nat} (s : NSim W.pegs notes φ) (hp : W.pegs[n]? = some (some (.note w ts))) (ho : φ own = some n) (r : Rel W.pegs φ t o) : NSim (W.lead n k t).pegs (setT notes own k o) φ := by
 obtain ⟨w0, ts0, row, e1, e2, e3, e4⟩ := s.note own n ho
 rw [hp] at e1; cases e1
 have es : setT notes own k o = notes.set own (w, row.set k o) := by unfold setT; rw [e2]
 rw [es]
 refine ⟨fun j q h => ?_, s.inj⟩
 by_cases e : j = own
 · subst e
   rw [ho] at h; cases h
   refine ⟨w, ts.set k t, row.set k o, by rw [lead_at hp, if_pos rfl], by rw [List.getElem?_set, if_pos rfl, if_pos (getElem?_ne_none_lt e2)], by rw [List.length_set, List.length_set]; exact e3, fun i u v h1 h2 => ?_⟩
   rw [lead_rel hp]
   exact (rels_set ⟨e3, e4⟩ k r).2 i u v h1 h2
 · obtain ⟨w', ts', row', a1, a2, a3, a4⟩ := s.note j q h
   refine ⟨w', ts', row', ?_, by rw [List.getElem?_set, if_neg (Ne.symm e)]; exact a2, a3, fun i u v h1 h2 => (lead_rel hp).mpr (a4 i u v h1 h2)⟩
   rw [lead_at hp, if_neg (fun z => e (s.inj j own q h (by rw [ho, z])))]
   exact a1
theorem lead_sim {notes : Notes α} {heads : List (Option Nat)} {φ : Nat → Option Nat} {own : Nat} {o : Option Nat} (s : Sim W notes heads φ) (hp : W.pegs[n]? = some (some (.note w ts))) (ho : φ own = some n) (r : Rel W.pegs φ t o) : Sim (W.lead n k t) (setT notes own k o) heads φ := by
 refine ⟨lead_nsim s.n hp ho r, ?_⟩
 have hh : (W.lead n k t).hooks = W.hooks := by rw [lead_eq hp]
 rw [hh]
 exact ⟨s.h.1, fun i u v h1 h2 => (lead_rel hp).mpr (s.h.2 i u v h1 h2)⟩
end
theorem over_wok {W : Wl α} {t : Option Nat} (p : WOk W) (h : TOk W t) : WOk (W.over t).1 := by
 obtain ⟨p1, _, e⟩ := over_ok p.toPOk h
 exact ⟨p1, fun u hu => e.nok (p.hk u (e.hooks ▸ hu))⟩
theorem over_wsim {W : Wl α} {t : Option Nat} {notes : Notes α} {heads : List (Option Nat)} {φ : Nat → Option Nat} (p : WOk W) (h : TOk W t) (s : Sim W notes heads φ) :
 ∃ φ', Sim (W.over t).1 notes heads φ' ∧ ((∀ k, (φ' k).isSome = (φ k).isSome) ∧ ∀ k q, W.Near q → φ' k = some q → φ k = some q) ∧ (∀ u o, Led W u → Rel W.pegs φ u o → Rel (W.over t).1.pegs φ' u o) ∧ (∀ o, Rel W.pegs φ t o → Rel (W.over t).1.pegs φ' (W.over t).2 o) := by
 obtain ⟨φ', n', d, r, q⟩ := over_sim p.toPOk h s.n
 obtain ⟨_, _, e⟩ := over_ok p.toPOk h
 refine ⟨φ', ⟨n', ?_⟩, d, r, q⟩
 rw [e.hooks]
 exact ⟨s.h.1, fun i u v h1 h2 => r u v (fun k ek z => by
  obtain ⟨_, _, e2⟩ := p.near k (p.hk u (List.mem_of_getElem? h1) k ek)
  rw [e2] at z; cases z) (s.h.2 i u v h1 h2)⟩
section
variable {W : Wl α} {n k other : Nat} {t : Option Nat} {w : α} {ts : List (Option Nat)}
theorem thr_tok (p : WOk W) (hn : W.Near n) (hp : W.pegs[n]? = some (some (.note w ts))) (ht : ts[k]? = some t) : TOk W t := fun m e => by
 subst e
 rcases p.thr n w ts k m hn hp ht with h | ⟨h1, _, h2, h3⟩
 · exact .inl h
 · exact .inr ⟨h1, h2, h3⟩
theorem follow_ok (p : WOk W) (hn : W.Near n) (hp : W.pegs[n]? = some (some (.note w ts))) (ht : ts[k]? = some t) : WOk (W.follow n k other t) := by
 have htk := thr_tok p hn hp ht
 obtain ⟨p1, n1, e1⟩ := over_ok p.toPOk htk
 have w1 := over_wok p htk
 have hp1 : (W.over t).1.pegs[n]? = some (some (.note w ts)) := (e1.near n hn).trans hp
 have w2 : WOk ((W.over t).1.lead n k (W.over t).2) := lead_ok w1 (e1.nearOf hn) hp1 n1
 have n2 : NOk ((W.over t).1.lead n k (W.over t).2) (W.over t).2 := by rw [lead_eq hp1]; exact n1
 refine ⟨⟨w2.sz, w2.len, w2.lo, w2.f1, w2.f2, w2.near, w2.bare, w2.rest, w2.look, w2.thr, w2.mark, w2.minj, w2.fthr, w2.room⟩, fun u h => ?_⟩
 rcases mem_set h with h | h
 · exact w2.hk u h
 · rw [h]; exact n2
theorem follow_sim {notes : Notes α} {heads : List (Option Nat)} {φ : Nat → Option Nat} {own : Nat} {o : Option Nat} {row : List (Option Nat)} (p : WOk W) (hn : W.Near n) (hp : W.pegs[n]? = some (some (.note w ts))) (ht : ts[k]? = some t)
 (s : Sim W notes heads φ) (ho : φ own = some n) (er : notes[own]? = some (w, row)) (eo : row[k]? = some o) : ∃ φ', Sim (W.follow n k other t) notes (heads.set other o) φ' ∧ ∀ j, (φ' j).isSome = (φ j).isSome := by
 have htk := thr_tok p hn hp ht
 obtain ⟨p1, n1, e1⟩ := over_ok p.toPOk htk
 have hp1 : (W.over t).1.pegs[n]? = some (some (.note w ts)) := (e1.near n hn).trans hp
 obtain ⟨w0, ts0, row0, a1, a2, a3, a4⟩ := s.n.note own n ho
 rw [hp] at a1; cases a1
 rw [er] at a2; cases a2
 have r0 : Rel W.pegs φ t o := a4 k t o ht eo
 obtain ⟨φ', s', d, r, q⟩ := over_wsim p htk s
 have own' : φ' own = some n := by
  have : Rel (W.over t).1.pegs φ' (some n) (some own) := r (some n) (some own) (fun j e z => by cases e; rw [hp] at z; cases z) (by show φ own = some (rl W.pegs n); rw [rl_self hp]; exact ho)
  have h2 : φ' own = some (rl (W.over t).1.pegs n) := this
  rw [rl_self hp1] at h2; exact h2
 have s2 := lead_sim (k := k) s' hp1 own' (q o r0)
 have es : setT notes own k o = notes := by
  unfold setT; rw [er]
  show notes.set own (w, row.set k o) = notes
  have h1 : row.set k o = row := by
   apply List.ext_getElem?
   intro i
   rw [List.getElem?_set]
   by_cases e : k = i
   · subst e; rw [if_pos rfl, if_pos (getElem?_ne_none_lt eo), eo]
   · rw [if_neg e]
  rw [h1]
  apply List.ext_getElem?
  intro i
  rw [List.getElem?_set]
  by_cases e : own = i
  · subst e; rw [if_pos rfl, if_pos (getElem?_ne_none_lt er), er]
  · rw [if_neg e]
 rw [es] at s2
 exact ⟨φ', ⟨s2.n, rels_set s2.h other ((lead_rel hp1).mpr (q o r0))⟩, d.1⟩
end
theorem begin0_ok {W : Wl α} (p : WOk W) (hm : W.moving = false) : POk W.begin0 ∧ ∀ t ∈ W.hooks, TOk W.begin0 t := by
 have hl := p.lo
 have hs := p.sz
 have e0 : W.begin0.low = W.far := rfl
 have ef : W.begin0.free = W.far := rfl
 have efar : W.begin0.far = W.low := by unfold Wl.far; show W.size - W.far = _; unfold Wl.far; omega
 have nN : ∀ k, ¬ W.begin0.Near k := fun k h => by have h1 := h.1; have h2 := h.2; rw [e0] at h1; rw [ef] at h2; omega
 have nF : ∀ k, W.begin0.Far k ↔ W.low ≤ k ∧ k < W.low + W.size := fun k => by unfold Wl.Far; rw [efar]; rfl
 have nm : ∀ (k m : Nat), W.pegs[k]? ≠ some (some (.mark m)) := fun k m h => by
  obtain ⟨h1, _⟩ := p.mark k m h
  rw [p.rest hm k h1] at h; cases h
 have nearThr : ∀ (k : Nat) (w : α) (ts : List (Option Nat)) (i n : Nat), W.low ≤ k → k < W.low + W.size → W.pegs[k]? = some (some (.note w ts)) → ts[i]? = some (some n) → W.Near n := fun k w ts i n h1 h2 h3 h4 => by
  have hk : W.Near k := by
   refine ⟨h1, ?_⟩
   by_cases h : k < W.free
   · exact h
   · rw [p.bare k (by omega) h2] at h3; cases h3
  rcases p.thr k w ts i n hk h3 h4 with h | ⟨h, _⟩
  · exact h
  · rw [hm] at h; cases h
 have full : ∀ n, W.Near n → W.begin0.Far n ∧ W.pegs[n]? ≠ some none := fun n h => by
  refine ⟨(nF n).mpr ⟨h.1, Nat.lt_of_lt_of_le h.2 p.f2⟩, fun z => ?_⟩
  obtain ⟨_, _, e⟩ := p.near n h; rw [e] at z; cases z
 refine ⟨⟨p.sz, p.len, ?_, Nat.le_refl _, ?_, fun k h => absurd h (nN k), fun k h1 h2 => ?_, (fun z => nomatch z), fun _ => ⟨Nat.le_refl _, Nat.le_refl _⟩, fun k w ts i n h => absurd h (nN k), fun k m h => absurd h (nm k m), fun k k' m h => absurd h (nm k m), fun k w ts i n h1 h2 h3 => ?_, ?_⟩, fun t ht n e => ?_⟩
 · rw [e0]; show W.far = 0 ∨ W.far = W.size; unfold Wl.far; omega
 · rw [e0, ef]; exact Nat.le_add_right _ _
 · rw [ef] at h1; rw [e0] at h2
   exact p.rest hm k ⟨h1, h2⟩
 · rw [nF] at h1
   exact full n (nearThr k w ts i n h1.1 h1.2 h2 h3)
 · rw [e0, ef]
   show W.begin0.kept ≤ W.far + W.size - W.far
   unfold Wl.kept
   refine Nat.le_trans List.countP_le_length ?_
   rw [List.length_take]
   have : W.begin0.size = W.size := rfl
   omega
 · obtain ⟨h1, h2⟩ := full n (p.hk t ht n e)
   exact .inr ⟨rfl, h1, h2⟩
theorem begin_ok {W : Wl α} (p : WOk W) (hm : W.moving = false) : WOk W.begin := by
 obtain ⟨p0, t0⟩ := begin0_ok p hm
 obtain ⟨p1, n1, e1, l1⟩ := overAll_ok p0 t0
 exact ⟨⟨p1.sz, p1.len, p1.lo, p1.f1, p1.f2, p1.near, p1.bare, p1.rest, p1.look, p1.thr, p1.mark, p1.minj, p1.fthr, p1.room⟩, n1⟩
section
variable {W : Wl α} {n : Nat} {w : α} {ts ts' : List (Option Nat)}
end
section
variable {W : Wl α}
end
end WM
set_option linter.all false
namespace WM
end WM
namespace WM
variable {α : Type}
open Wl
def rowLen (notes : Notes α) (k : Nat) : Nat := match notes[k]? with
 | some p => p.2.length
 | none => 0
def left (notes : Notes α) (met : List Nat) : Nat := ((List.range notes.length).map fun k => if k ∈ met then 0 else rowLen notes k + 1).sum
inductive Reach (notes : Notes α) (heads : List (Option Nat)) : Nat → Prop
 | head {k : Nat} : some k ∈ heads → Reach notes heads k
 | thread {k j : Nat} {w : α} {row : List (Option Nat)} : Reach notes heads k → notes[k]? = some (w, row) → some j ∈ row → Reach notes heads j
structure Closed (notes : Notes α) (heads : List (Option Nat)) (S : List Nat) : Prop where
 hd : ∀ k, some k ∈ heads → k ∈ S
 th : ∀ (k j : Nat) (w : α) (row : List (Option Nat)), k ∈ S → notes[k]? = some (w, row) → some j ∈ row → j ∈ S
def Cov (W : Wl α) (φ : Nat → Option Nat) (S : List Nat) : Prop := ∀ q, W.Near q → ∃ k ∈ S, φ k = some q
theorem Cov.mono {W : Wl α} {φ : Nat → Option Nat} {S S' : List Nat} (c : Cov W φ S) (h : ∀ k ∈ S, k ∈ S') : Cov W φ S' := fun q hq => by
 obtain ⟨k, hk, e⟩ := c q hq
 exact ⟨k, h k hk, e⟩
end WM
namespace WM
variable {α : Type}
open Wl
section
variable {W : Wl α} {n k other : Nat} {t : Option Nat} {w : α} {ts : List (Option Nat)}
end
section
variable {notes : Notes α} {heads : List (Option Nat)} {S : List Nat}
end
structure Ord (W : Wl α) (φ : Nat → Option Nat) (L : List Nat) : Prop where
 free : W.free = W.low + L.length
 at_ : ∀ (i k : Nat), L[i]? = some k → φ k = some (W.low + i)
def meet (L : List Nat) : Option Nat → List Nat
 | none => L
 | some k => if k ∈ L then L else L ++ [k]
theorem Ord.near {W : Wl α} {φ : Nat → Option Nat} {L : List Nat} (o : Ord W φ L) {k : Nat} (h : k ∈ L) : ∃ q, φ k = some q ∧ W.Near q := by
 obtain ⟨i, hi⟩ := List.mem_iff_getElem?.mp h
 have := getElem?_ne_none_lt hi
 exact ⟨_, o.at_ i k hi, Nat.le_add_right .., by rw [o.free]; omega⟩
theorem Ord.mem {W : Wl α} {φ : Nat → Option Nat} {L : List Nat} {notes : Notes α} (o : Ord W φ L) (s : NSim W.pegs notes φ) {k q : Nat} (h : φ k = some q) (hq : W.Near q) : k ∈ L := by
 have h1 : W.low ≤ q := hq.1
 have h2 : q < W.low + L.length := by rw [← o.free]; exact hq.2
 have h3 : q - W.low < L.length := by omega
 have h4 := o.at_ (q - W.low) _ (List.getElem?_eq_getElem h3)
 rw [show W.low + (q - W.low) = q by omega] at h4
 have := s.inj _ _ _ h h4
 rw [this]; exact List.getElem_mem h3
def meets (L : List Nat) (os : List (Option Nat)) : List Nat := os.foldl meet L
theorem begin_fields {W : Wl α} (p : WOk W) (hm : W.moving = false) : W.begin.low = W.far ∧ W.begin.size = W.size ∧ W.begin.looked = W.far ∧ W.begin.moving = true ∧ W.begin.hooks.length = W.hooks.length := by
 obtain ⟨p0, t0⟩ := begin0_ok p hm
 obtain ⟨p1, n1, e1, l1⟩ := overAll_ok p0 t0
 exact ⟨e1.low, e1.size, e1.looked, e1.moving, l1⟩
theorem meets_mem : ∀ {os : List (Option Nat)} {L : List Nat} {k : Nat}, k ∈ meets L os ↔ k ∈ L ∨ some k ∈ os
 | [], L, k => by simp [meets]
 | o :: os, L, k => by
  show k ∈ meets (meet L o) os ↔ _
  rw [meets_mem, List.mem_cons]
  cases o with
  | none => simp [meet]
  | some j =>
   show k ∈ (if j ∈ L then L else L ++ [j]) ∨ _ ↔ _
   split
   · rename_i h
     constructor
     · rintro (z | z)
       · exact .inl z
       · exact .inr (.inr z)
     · rintro (z | z | z)
       · exact .inl z
       · cases z; exact .inl h
       · exact .inr z
   · rw [List.mem_append, List.mem_singleton]
     constructor
     · rintro ((z | z) | z)
       · exact .inl z
       · exact .inr (.inl (by rw [z]))
       · exact .inr (.inr z)
     · rintro (z | z | z)
       · exact .inl (.inl z)
       · cases z; exact .inl (.inr rfl)
       · exact .inr z
end WM
namespace WM
variable {α : Type}
open Wl
def tot (W : Wl α) : Nat := (W.free - W.low) + W.kept
theorem cnt_map {l l' : List (Option (Peg α))} (h : l'.map isNote = l.map isNote) (a b : Nat) : ((l'.drop a).take b).countP isNote = ((l.drop a).take b).countP isNote := by
 have e : ∀ m : List (Option (Peg α)), ((m.drop a).take b).countP isNote = (((m.map isNote).drop a).take b).countP id := fun m => by
  rw [← List.map_drop, ← List.map_take, List.countP_map]; rfl
 rw [e, e, h]
theorem map_set {l : List (Option (Peg α))} {n : Nat} {x y : Option (Peg α)} (hx : l[n]? = some x) (h : isNote y = isNote x) : (l.set n y).map isNote = l.map isNote := by
 rw [List.map_set, h]
 apply List.ext_getElem?
 intro i
 rw [List.getElem?_set]
 by_cases e : n = i
 · subst e
   rw [if_pos rfl, List.length_map, if_pos (getElem?_ne_none_lt hx), List.getElem?_map, hx]; rfl
 · rw [if_neg e]
theorem lead_kept (W : Wl α) (n k : Nat) (t : Option Nat) : (W.lead n k t).kept = W.kept := by
 unfold Wl.lead
 split
 · rename_i w ts e
   exact cnt_map (map_set (y := some (.note w (ts.set k t))) e rfl) _ _
 · rfl
theorem lead_tot (W : Wl α) (n k : Nat) (t : Option Nat) : tot (W.lead n k t) = tot W := by
 unfold tot
 rw [lead_kept]
 unfold Wl.lead
 split <;> rfl
theorem over_tot {W : Wl α} {t : Option Nat} (p : POk W) (h : TOk W t) : tot (W.over t).1 = tot W := by
 cases t with
 | none => rfl
 | some n =>
  rcases h n rfl with h | ⟨hm, hf, hn⟩
  · have : W.over (some n) = (W, some n) := by simp only [Wl.over]; rw [if_pos (p.isFar_near h)]
    rw [this]
  · have hl := p.farlen hf
    have hx : W.pegs[n]? = some (W.pegs[n]) := List.getElem?_eq_getElem hl
    cases hp : W.pegs[n] with
    | none => rw [hp] at hx; exact absurd hx hn
    | some x =>
     rw [hp] at hx
     cases x with
     | mark m =>
      have : W.over (some n) = (W, some m) := by simp only [Wl.over]; rw [if_neg (by rw [p.isFar_far hf]; decide), hx]
      rw [this]
     | note w ts =>
      have : W.over (some n) = (mv W n w ts, some W.free) := by simp only [Wl.over]; rw [if_neg (by rw [p.isFar_far hf]; decide), hx]; rfl
      rw [this]
      have h1 := mv_kept p hf hx
      have h2 := p.f1
      unfold tot
      have e1 : (mv W n w ts).free = W.free + 1 := rfl
      have e2 : (mv W n w ts).low = W.low := rfl
      show (mv W n w ts).free - (mv W n w ts).low + (mv W n w ts).kept = _
      rw [e1, e2]
      omega
theorem put_tot {W : Wl α} {h : Nat} {w : α} {os : List Nat} (p : WOk W) (hr : W.kept < W.low + W.size - W.free) : tot (W.put h w os) = tot W + 1 := by
 have h1 := p.f1
 have h2 := p.lo
 have h3 := p.len
 have k : (W.put h w os).kept = W.kept := by
  unfold Wl.kept
  show (((W.pegs.set W.free _).drop W.far).take W.size).countP isNote = _
  have hf : W.free < W.far ∨ W.far + W.size ≤ W.free := by
   show W.free < W.size - W.low ∨ W.size - W.low + W.size ≤ W.free
   omega
  have e : ((W.pegs.set W.free (some (.note w (W.led os)))).drop W.far).take W.size = (W.pegs.drop W.far).take W.size := by
   apply List.ext_getElem?
   intro i
   by_cases hi : i < W.size
   · rw [List.getElem?_take_of_lt hi, List.getElem?_take_of_lt hi, List.getElem?_drop, List.getElem?_drop, List.getElem?_set, if_neg (by omega)]
   · rw [List.getElem?_take, List.getElem?_take, if_neg hi, if_neg hi]
  rw [e]
 unfold tot
 rw [k]
 show W.free + 1 - W.low + W.kept = _
 omega
theorem follow_tot {W : Wl α} {n k o : Nat} {t : Option Nat} (p : POk W) (h : TOk W t) : tot (W.follow n k o t) = tot W := by
 have h1 := lead_tot (W.over t).1 n k (W.over t).2
 have h2 : tot (W.follow n k o t) = tot ((W.over t).1.lead n k (W.over t).2) := rfl
 rw [h2, h1, over_tot p h]
end WM
namespace WM
variable {α : Type}
open Wl
theorem meet_pre (L : List Nat) (o : Option Nat) : ∃ R, meet L o = L ++ R := by
 cases o with
 | none => exact ⟨[], (List.append_nil _).symm⟩
 | some k =>
  show ∃ R, (if k ∈ L then L else L ++ [k]) = L ++ R
  split
  · exact ⟨[], (List.append_nil _).symm⟩
  · exact ⟨[k], rfl⟩
theorem meets_pre : ∀ (os : List (Option Nat)) (L : List Nat), ∃ R, meets L os = L ++ R
 | [], L => ⟨[], (List.append_nil _).symm⟩
 | o :: os, L => by
  obtain ⟨R1, e1⟩ := meet_pre L o
  obtain ⟨R2, e2⟩ := meets_pre os (meet L o)
  exact ⟨R1 ++ R2, by show meets (meet L o) os = _; rw [e2, e1, List.append_assoc]⟩
theorem meets_get {L : List Nat} {os : List (Option Nat)} {i k : Nat} (h : L[i]? = some k) : (meets L os)[i]? = some k := by
 obtain ⟨R, e⟩ := meets_pre os L
 rw [e, List.getElem?_append_left (getElem?_ne_none_lt h)]; exact h
end WM
namespace WM
variable {α : Type}
open Wl
def turn (c : Nat) : List (Option Nat) → Option Nat
 | [] => some c
 | none :: r => turn c r
 | some n :: r => if n > c then none else if n = c then turn (c + 1) r else turn c r
inductive VR (ps : List (Option (Peg α))) (hooks : List (Option Nat)) : Nat → List Nat → Prop
 | zero : VR ps hooks 0 (meets [] (hooks.map (Option.map (rl ps))))
 | succ {i q : Nat} {M : List Nat} {w : α} {ts : List (Option Nat)} : VR ps hooks i M → M[i]? = some q → ps[q]? = some (some (.note w ts)) → VR ps hooks (i + 1) (meets M (ts.map (Option.map (rl ps))))
def thr (ps : List (Option (Peg α))) (q : Nat) : List (Option Nat) := match ps[q]? with
 | some (some (.note _ ts)) => ts
 | _ => []
theorem VR.mem {ps : List (Option (Peg α))} {hooks : List (Option Nat)} {i : Nat} {M : List Nat} (h : VR ps hooks i M) : (∀ n, some n ∈ hooks → rl ps n ∈ M) ∧ ∀ (j q : Nat), j < i → M[j]? = some q → ∀ n, some n ∈ thr ps q → rl ps n ∈ M := by
 induction h with
 | zero =>
  refine ⟨fun n hn => meets_mem.mpr (.inr (List.mem_map.mpr ⟨_, hn, rfl⟩)), fun j q hj => absurd hj (Nat.not_lt_zero _)⟩
 | @succ i q M w ts hv hq hn ih =>
  refine ⟨fun n h => meets_mem.mpr (.inl (ih.1 n h)), fun j q' hj hq' n hn' => ?_⟩
  by_cases e : j = i
  · subst e
    have hF : (meets M (ts.map (Option.map (rl ps))))[j]? = some q := meets_get hq
    rw [hF] at hq'; cases hq'
    have et : thr ps q = ts := by unfold thr; rw [hn]
    rw [et] at hn'
    exact meets_mem.mpr (.inr (List.mem_map.mpr ⟨_, hn', rfl⟩))
  · have hj' : j < i := by omega
    have hl : j < M.length := Nat.lt_trans hj' (getElem?_ne_none_lt hq)
    have e1 : M[j]? = some M[j] := List.getElem?_eq_getElem hl
    have : (meets M (ts.map (Option.map (rl ps))))[j]? = some M[j] := meets_get e1
    rw [this] at hq'; cases hq'
    exact meets_mem.mpr (.inl (ih.2 j _ hj' e1 n hn'))
end WM
set_option maxHeartbeats 4000000
seal L2.PE L2.PT L2.PW L2.PA L2.PS L2.PSs L2.PC L2.PG L2.PGs L2.PSet L2.PIp L2.PGet L2.PI L2.PO L2.PTs L2.PEx L2.PSx L2.PSsx L2.PH L2.OpR L2.UnR L2.CallR L2.SlR L2.MtR L2.MtM L2.Passes
local macro_rules | `(tactic| exists 1, $ts,*) => `(tactic| simp only [_root_.L2.ap_seq, _root_.L2.ap_next, _root_.L2.ap_brk, _root_.L2.ap_cont, _root_.L2.ap_drop, _root_.L2.ap_ret, _root_.L2.ap_retN, _root_.L2.ap_ifS, _root_.L2.ap_asg, _root_.L2.ap_gName, _root_.L2.ap_gSub, _root_.L2.ap_gNil, _root_.L2.ap_gCons, _root_.L2.ap_test, _root_.L2.ap_B, _root_.L2.ap_not, _root_.L2.ap_and, _root_.L2.ap_or, _root_.L2.ap_andV, _root_.L2.ap_orV, _root_.L2.ap_notV, _root_.L2.ap_ifE, _root_.L2.ap_var, _root_.L2.ap_C, _root_.L2.ap_op, _root_.L2.ap_un, _root_.L2.ap_chain, _root_.L2.ap_nil, _root_.L2.ap_cons, _root_.L2.ap_tup, _root_.L2.ap_lst, _root_.L2.ap_CB, _root_.L2.ap_call, _root_.L2.ap_meth, _root_.L2.ap_make, _root_.L2.ap_fld, _root_.L2.ap_sfld, _root_.L2.ap_faug, _root_.L2.ap_aug, _root_.L2.ap_bmf, _root_.L2.ap_bmf0, _root_.L2.ap_dnew, _root_.L2.ap_sl, _root_.L2.ap_noPart, _root_.L2.ap_part, _root_.L2.ap_true, _root_.L2.ap_for1, _root_.L2.ap_for2, _root_.L2.ap_forS, _root_.L2.ap_compS, _root_.L2.ap_compR, _root_.L2.ap_setC, _root_.L2.ex_bn, _root_.L2.sq_lst, _root_.L2.sq_tup, _root_.L2.sq_frz, _root_.L2.sq_dK, _root_.L2.sq_ins, _root_.L2.w_ix_ref, _root_.L2.w_ix_sq, _root_.L2.w_ix_dki, _root_.L2.w_ix_dks, _root_.L2.w_ix_str, _root_.L2.w_sl, _root_.L2.w_sl_tup, _root_.L2.w_sl_lst, _root_.L2.w_sl_frz, _root_.L2.w_len_ref, _root_.L2.w_len_sq, _root_.L2.w_len_dk, _root_.L2.w_len_str, _root_.L2.w_list, _root_.L2.w_tuple, _root_.L2.w_tuple_tup, _root_.L2.w_tuple_lst, _root_.L2.w_in, _root_.L2.w_in_sq, _root_.L2.w_notin_sq, _root_.L2.w_in_dki, _root_.L2.w_notin_dki, _root_.L2.w_is_non, _root_.L2.w_isnot_non, _root_.L2.w_is_bl, _root_.L2.w_isnot_bl, _root_.L2.ty_ref, _root_.L2.ty_non, _root_.L2.ty_bl, _root_.L2.ty_int, _root_.L2.ty_str, _root_.L2.tyR_lst, _root_.L2.tyR_frz, _root_.L2.tyR_tup, _root_.L2.tyR_dK, _root_.L2.w_isi, _root_.L2.okT, _root_.L2.subT, _root_.L2.w_eq_int, _root_.L2.w_eq_str, _root_.L2.w_eq_bl, _root_.L2.w_eq_ni, _root_.L2.w_eq_in, _root_.L2.w_eq_nn, _root_.L2.w_eq_ref, _root_.L2.w_ne_int, _root_.L2.w_ne_str, _root_.L2.w_ne_bl, _root_.L2.w_ne_ni, _root_.L2.w_ne_in, _root_.L2.w_ne_nn, _root_.L2.w_ne_ref, _root_.L2.w_add_int, _root_.L2.w_add_str, _root_.L2.w_add_ref, _root_.L2.w_add_lst, _root_.L2.w_add_tup, _root_.L2.w_mul_int, _root_.L2.w_mul_ref, _root_.L2.w_mul_lst, _root_.L2.w_set, _root_.L2.w_set_lst, _root_.L2.w_set_dki, _root_.L2.w_min, _root_.L2.rI, _root_.L2.rI0, _root_.L2.rU, _root_.L2.cx_K, _root_.L2.rIxS', _root_.L2.rLenS, _root_.L2.rSlS, _root_.L2.isLst, _root_.L2.isDct, _root_.L2.rAppend, _root_.L2.rExtend, _root_.L2.rPop, _root_.L2.rClear, _root_.L2.rGet2, _root_.L2.rAdd, _root_.L2.rSub, _root_.L2.ipI, List.getElem?_cons_zero, List.getElem?_cons_succ, List.getElem?_nil, List.set_cons_zero, List.set_cons_succ, List.set_nil, List.length_cons, List.length_nil, List.nil_append, List.cons_append, List.append_nil, Option.some.injEq, _root_.L2.V.int.injEq, _root_.L2.V.ref.injEq, _root_.L2.V.str.injEq, _root_.L2.V.bl.injEq, _root_.L2.V.ty.injEq, List.cons.injEq, _root_.L2.HO.lst.injEq, _root_.L2.HO.tup.injEq, _root_.L2.HO.ins.injEq, _root_.L2.HO.dK.injEq, exists_eq', exists_eq, exists_eq_left', exists_eq_left, exists_eq_right, exists_eq_right', exists_and_left, exists_and_right, exists_const, and_true, true_and, and_self, and_false, false_and, or_false, false_or, exists_false, and_assoc, ite_true, ite_false, if_true, if_false, Bool.true_eq_false, Bool.false_eq_true, Bool.not_true, Bool.not_false, Bool.not_eq_true', Bool.and_true, Bool.true_and, Bool.and_false, Bool.false_and, Bool.or_false, Bool.false_or, Bool.or_true, Bool.true_or, reduceCtorEq, reduceIte, decide_true, decide_false, decide_eq_true_eq, decide_eq_false_iff_not, Bool.not_eq_eq_eq_not, Bool.if_false_left, Bool.if_true_left, ne_eq, not_true, not_false_iff, true_implies, forall_const, beq_self_eq_true, eq_self_iff_true, String.reduceBEq, String.reduceEq, Nat.zero_le, Int.reduceLT, Int.reduceLE, Int.reduceNeg, Int.reduceEq, Nat.reduceLT, Nat.reduceLeDiff, Nat.reduceAdd, Nat.reduceEqDiff, Int.reduceToNat, List.map_cons, List.map_nil, List.length_map, $[$ts:term],*])
namespace PW
open PySem L2
def top (i : Nat) : Stmt := PySem.Challenge.pw_pinwall_k14_refused_by_name.main.body.getD i (.Pass ⟨0, 0, 0, 0⟩)
abbrev s_real : Stmt := top 9
abbrev s_done : Stmt := top 13
abbrev s_answer_to : Stmt := top 14
abbrev s_so : Stmt := top 16
abbrev s_at : Stmt := top 17
abbrev s_deed_of : Stmt := top 18
abbrev s_drawn : Stmt := top 19
abbrev s_model : Stmt := top 20
abbrev s_tried : Stmt := top 21
abbrev s_refusal : Stmt := top 22
abbrev s_under_base : Stmt := top 23
abbrev s_still : Stmt := top 24
abbrev s_law : Stmt := top 25
abbrev s_init : Stmt := inClass (top 11) 0
abbrev s_put : Stmt := inClass (top 11) 1
abbrev s_tie : Stmt := inClass (top 11) 2
abbrev s_drop : Stmt := inClass (top 11) 3
abbrev s_follow : Stmt := inClass (top 11) 4
abbrev s_word_of : Stmt := inClass (top 11) 5
abbrev s_begin : Stmt := inClass (top 11) 6
abbrev s_step : Stmt := inClass (top 11) 7
abbrev s_tidy : Stmt := inClass (top 11) 8
abbrev s_note_of : Stmt := inClass (top 11) 9
abbrev s_thread_of : Stmt := inClass (top 11) 10
abbrev s_lead : Stmt := inClass (top 11) 11
abbrev s_hang : Stmt := inClass (top 11) 12
abbrev s_far_low : Stmt := inClass (top 11) 13
abbrev s_is_far : Stmt := inClass (top 11) 14
abbrev s_kept_back : Stmt := inClass (top 11) 15
abbrev s_moved_over : Stmt := inClass (top 11) 16
abbrev s_look_through : Stmt := inClass (top 11) 17
abbrev s_clear_far : Stmt := inClass (top 11) 18
set_option genInjectivity false
set_option genSizeOf false
set_option genSizeOfSpec false
structure Adr where
 C : Addr
 c_WallError : Addr
 c_Full : Addr
 c_NoNote : Addr
 c_NoThread : Addr
 c_Busy : Addr
 c_NoRound : Addr
 c_NoView : Addr
 a_real : Addr
 d_real : FuncData
 a_done : Addr
 d_done : FuncData
 a_answer_to : Addr
 d_answer_to : FuncData
 a_so : Addr
 d_so : FuncData
 a_at : Addr
 d_at : FuncData
 a_deed_of : Addr
 d_deed_of : FuncData
 a_drawn : Addr
 d_drawn : FuncData
 a_model : Addr
 d_model : FuncData
 a_tried : Addr
 d_tried : FuncData
 a_refusal : Addr
 d_refusal : FuncData
 a_under_base : Addr
 d_under_base : FuncData
 a_still : Addr
 d_still : FuncData
 a_init : Addr
 d_init : FuncData
 a_put : Addr
 d_put : FuncData
 a_tie : Addr
 d_tie : FuncData
 a_drop : Addr
 d_drop : FuncData
 a_follow : Addr
 d_follow : FuncData
 a_word_of : Addr
 d_word_of : FuncData
 a_begin : Addr
 d_begin : FuncData
 a_step : Addr
 d_step : FuncData
 a_tidy : Addr
 d_tidy : FuncData
 a_note_of : Addr
 d_note_of : FuncData
 a_thread_of : Addr
 d_thread_of : FuncData
 a_lead : Addr
 d_lead : FuncData
 a_hang : Addr
 d_hang : FuncData
 a_far_low : Addr
 d_far_low : FuncData
 a_is_far : Addr
 d_is_far : FuncData
 a_kept_back : Addr
 d_kept_back : FuncData
 a_moved_over : Addr
 d_moved_over : FuncData
 a_look_through : Addr
 d_look_through : FuncData
 a_clear_far : Addr
 d_clear_far : FuncData
structure Txt (K : PySem.W.Frag) (mg : Str → Option Value) (A : Adr) : Prop where
 cl : Cls K A.C
 mgC : mg "Wall" = some (.ref A.C)
 mkW : Mk K A.C A.a_init
 na_size : NoAttr K A.C "size"
 na_pegs : NoAttr K A.C "pegs"
 na_hooks : NoAttr K A.C "hooks"
 na_low : NoAttr K A.C "low"
 na_free : NoAttr K A.C "free"
 na_moving : NoAttr K A.C "moving"
 na_looked : NoAttr K A.C "looked"
 m_WallError : mg "WallError" = some (.ref A.c_WallError)
 x_WallError : PySem.W.excIn K A.c_WallError bmV "ValueError.__new__" = true
 m_Full : mg "Full" = some (.ref A.c_Full)
 x_Full : PySem.W.excIn K A.c_Full bmV "ValueError.__new__" = true
 e_Full : PySem.W.exmOne K (.ref A.c_Full) (.ref A.c_WallError) = some true
 m_NoNote : mg "NoNote" = some (.ref A.c_NoNote)
 x_NoNote : PySem.W.excIn K A.c_NoNote bmV "ValueError.__new__" = true
 e_NoNote : PySem.W.exmOne K (.ref A.c_NoNote) (.ref A.c_WallError) = some true
 m_NoThread : mg "NoThread" = some (.ref A.c_NoThread)
 x_NoThread : PySem.W.excIn K A.c_NoThread bmV "ValueError.__new__" = true
 e_NoThread : PySem.W.exmOne K (.ref A.c_NoThread) (.ref A.c_WallError) = some true
 m_Busy : mg "Busy" = some (.ref A.c_Busy)
 x_Busy : PySem.W.excIn K A.c_Busy bmV "ValueError.__new__" = true
 e_Busy : PySem.W.exmOne K (.ref A.c_Busy) (.ref A.c_WallError) = some true
 m_NoRound : mg "NoRound" = some (.ref A.c_NoRound)
 x_NoRound : PySem.W.excIn K A.c_NoRound bmV "ValueError.__new__" = true
 e_NoRound : PySem.W.exmOne K (.ref A.c_NoRound) (.ref A.c_WallError) = some true
 m_NoView : mg "NoView" = some (.ref A.c_NoView)
 x_NoView : PySem.W.excIn K A.c_NoView bmV "ValueError.__new__" = true
 e_NoView : PySem.W.exmOne K (.ref A.c_NoView) (.ref A.c_WallError) = some true
 q_NoNote_NoNote : PySem.W.exmOne K (.ref A.c_NoNote) (.ref A.c_NoNote) = some true
 q_NoNote_NoThread : PySem.W.exmOne K (.ref A.c_NoNote) (.ref A.c_NoThread) = some false
 q_NoNote_Full : PySem.W.exmOne K (.ref A.c_NoNote) (.ref A.c_Full) = some false
 q_NoNote_Busy : PySem.W.exmOne K (.ref A.c_NoNote) (.ref A.c_Busy) = some false
 q_NoNote_NoRound : PySem.W.exmOne K (.ref A.c_NoNote) (.ref A.c_NoRound) = some false
 q_NoNote_NoView : PySem.W.exmOne K (.ref A.c_NoNote) (.ref A.c_NoView) = some false
 q_NoNote_ValueError : PySem.W.exmOne K (.ref A.c_NoNote) (.type "ValueError") = some true
 q_NoThread_NoNote : PySem.W.exmOne K (.ref A.c_NoThread) (.ref A.c_NoNote) = some false
 q_NoThread_NoThread : PySem.W.exmOne K (.ref A.c_NoThread) (.ref A.c_NoThread) = some true
 q_NoThread_Full : PySem.W.exmOne K (.ref A.c_NoThread) (.ref A.c_Full) = some false
 q_NoThread_Busy : PySem.W.exmOne K (.ref A.c_NoThread) (.ref A.c_Busy) = some false
 q_NoThread_NoRound : PySem.W.exmOne K (.ref A.c_NoThread) (.ref A.c_NoRound) = some false
 q_NoThread_NoView : PySem.W.exmOne K (.ref A.c_NoThread) (.ref A.c_NoView) = some false
 q_NoThread_ValueError : PySem.W.exmOne K (.ref A.c_NoThread) (.type "ValueError") = some true
 q_Full_NoNote : PySem.W.exmOne K (.ref A.c_Full) (.ref A.c_NoNote) = some false
 q_Full_NoThread : PySem.W.exmOne K (.ref A.c_Full) (.ref A.c_NoThread) = some false
 q_Full_Full : PySem.W.exmOne K (.ref A.c_Full) (.ref A.c_Full) = some true
 q_Full_Busy : PySem.W.exmOne K (.ref A.c_Full) (.ref A.c_Busy) = some false
 q_Full_NoRound : PySem.W.exmOne K (.ref A.c_Full) (.ref A.c_NoRound) = some false
 q_Full_NoView : PySem.W.exmOne K (.ref A.c_Full) (.ref A.c_NoView) = some false
 q_Full_ValueError : PySem.W.exmOne K (.ref A.c_Full) (.type "ValueError") = some true
 q_Busy_NoNote : PySem.W.exmOne K (.ref A.c_Busy) (.ref A.c_NoNote) = some false
 q_Busy_NoThread : PySem.W.exmOne K (.ref A.c_Busy) (.ref A.c_NoThread) = some false
 q_Busy_Full : PySem.W.exmOne K (.ref A.c_Busy) (.ref A.c_Full) = some false
 q_Busy_Busy : PySem.W.exmOne K (.ref A.c_Busy) (.ref A.c_Busy) = some true
 q_Busy_NoRound : PySem.W.exmOne K (.ref A.c_Busy) (.ref A.c_NoRound) = some false
 q_Busy_NoView : PySem.W.exmOne K (.ref A.c_Busy) (.ref A.c_NoView) = some false
 q_Busy_ValueError : PySem.W.exmOne K (.ref A.c_Busy) (.type "ValueError") = some true
 q_NoRound_NoNote : PySem.W.exmOne K (.ref A.c_NoRound) (.ref A.c_NoNote) = some false
 q_NoRound_NoThread : PySem.W.exmOne K (.ref A.c_NoRound) (.ref A.c_NoThread) = some false
 q_NoRound_Full : PySem.W.exmOne K (.ref A.c_NoRound) (.ref A.c_Full) = some false
 q_NoRound_Busy : PySem.W.exmOne K (.ref A.c_NoRound) (.ref A.c_Busy) = some false
 q_NoRound_NoRound : PySem.W.exmOne K (.ref A.c_NoRound) (.ref A.c_NoRound) = some true
 q_NoRound_NoView : PySem.W.exmOne K (.ref A.c_NoRound) (.ref A.c_NoView) = some false
 q_NoRound_ValueError : PySem.W.exmOne K (.ref A.c_NoRound) (.type "ValueError") = some true
 xc_NoNote : ExcCls K A.c_NoNote
 xc_NoThread : ExcCls K A.c_NoThread
 xc_Full : ExcCls K A.c_Full
 xc_Busy : ExcCls K A.c_Busy
 xc_NoRound : ExcCls K A.c_NoRound
 cg : ClsGet K
 f_real : Fun K "real" "real" s_real A.a_real A.d_real
 b_real : Binds K A.d_real ["pegs", "number"] []
 m_real : mg "real" = some (.ref A.a_real)
 f_done : Fun K "done" "done" s_done A.a_done A.d_done
 b_done : Binds K A.d_done ["wall", "deed"] []
 m_done : mg "done" = some (.ref A.a_done)
 f_answer_to : Fun K "answer_to" "answer_to" s_answer_to A.a_answer_to A.d_answer_to
 b_answer_to : Binds K A.d_answer_to ["wall", "deed"] []
 m_answer_to : mg "answer_to" = some (.ref A.a_answer_to)
 f_so : Fun K "_law_so" "_law_so" s_so A.a_so A.d_so
 b_so : Binds K A.d_so ["_law_found", "_law_meant"] []
 m_so : mg "_law_so" = some (.ref A.a_so)
 f_at : Fun K "_law_at" "_law_at" s_at A.a_at A.d_at
 b_at : Binds K A.d_at ["_law_script", "_law_k"] []
 m_at : mg "_law_at" = some (.ref A.a_at)
 f_deed_of : Fun K "_law_deed_of" "_law_deed_of" s_deed_of A.a_deed_of A.d_deed_of
 b_deed_of : Binds K A.d_deed_of ["_law_cell", "_law_k", "_law_count"] []
 m_deed_of : mg "_law_deed_of" = some (.ref A.a_deed_of)
 f_drawn : Fun K "_law_drawn" "_law_drawn" s_drawn A.a_drawn A.d_drawn
 b_drawn : Binds K A.d_drawn ["_law_cells", "_law_count"] []
 m_drawn : mg "_law_drawn" = some (.ref A.a_drawn)
 f_model : Fun K "_law_model" "_law_model" s_model A.a_model A.d_model
 b_model : Binds K A.d_model ["_law_notes", "_law_heads", "_law_deed"] []
 m_model : mg "_law_model" = some (.ref A.a_model)
 f_tried : Fun K "_law_tried" "_law_tried" s_tried A.a_tried A.d_tried
 b_tried : Binds K A.d_tried ["_law_shut", "_law_deed"] []
 m_tried : mg "_law_tried" = some (.ref A.a_tried)
 f_refusal : Fun K "_law_refusal" "_law_refusal" s_refusal A.a_refusal A.d_refusal
 b_refusal : Binds K A.d_refusal ["_law_shut", "_law_deed"] []
 m_refusal : mg "_law_refusal" = some (.ref A.a_refusal)
 f_under_base : Fun K "_law_under_base" "_law_under_base" s_under_base A.a_under_base A.d_under_base
 b_under_base : Binds K A.d_under_base ["_law_shut", "_law_deed"] []
 m_under_base : mg "_law_under_base" = some (.ref A.a_under_base)
 f_still : Fun K "_law_still" "_law_still" s_still A.a_still A.d_still
 b_still : Binds K A.d_still ["_law_shut", "_law_deed", "_law_due"] []
 m_still : mg "_law_still" = some (.ref A.a_still)
 f_init : Fun K "__init__" "Wall.__init__" s_init A.a_init A.d_init
 b_init : Binds K A.d_init ["self", "size", "count"] []
 mt_init : Meth K A.C "__init__" A.a_init
 f_put : Fun K "put" "Wall.put" s_put A.a_put A.d_put
 b_put : Binds K A.d_put ["self", "hook", "word", "others"] []
 mt_put : Meth K A.C "put" A.a_put
 f_tie : Fun K "tie" "Wall.tie" s_tie A.a_tie A.d_tie
 b_tie : Binds K A.d_tie ["self", "hook", "k", "other"] []
 mt_tie : Meth K A.C "tie" A.a_tie
 f_drop : Fun K "drop" "Wall.drop" s_drop A.a_drop A.d_drop
 b_drop : Binds K A.d_drop ["self", "hook"] []
 mt_drop : Meth K A.C "drop" A.a_drop
 f_follow : Fun K "follow" "Wall.follow" s_follow A.a_follow A.d_follow
 b_follow : Binds K A.d_follow ["self", "hook", "k", "other"] []
 mt_follow : Meth K A.C "follow" A.a_follow
 f_word_of : Fun K "word_of" "Wall.word_of" s_word_of A.a_word_of A.d_word_of
 b_word_of : Binds K A.d_word_of ["self", "hook"] []
 mt_word_of : Meth K A.C "word_of" A.a_word_of
 f_begin : Fun K "begin" "Wall.begin" s_begin A.a_begin A.d_begin
 b_begin : Binds K A.d_begin ["self"] []
 mt_begin : Meth K A.C "begin" A.a_begin
 f_step : Fun K "step" "Wall.step" s_step A.a_step A.d_step
 b_step : Binds K A.d_step ["self"] []
 mt_step : Meth K A.C "step" A.a_step
 f_tidy : Fun K "tidy" "Wall.tidy" s_tidy A.a_tidy A.d_tidy
 b_tidy : Binds K A.d_tidy ["self"] []
 mt_tidy : Meth K A.C "tidy" A.a_tidy
 f_note_of : Fun K "note_of" "Wall.note_of" s_note_of A.a_note_of A.d_note_of
 b_note_of : Binds K A.d_note_of ["self", "hook"] []
 mt_note_of : Meth K A.C "note_of" A.a_note_of
 f_thread_of : Fun K "thread_of" "Wall.thread_of" s_thread_of A.a_thread_of A.d_thread_of
 b_thread_of : Binds K A.d_thread_of ["self", "hook", "k"] []
 mt_thread_of : Meth K A.C "thread_of" A.a_thread_of
 f_lead : Fun K "lead" "Wall.lead" s_lead A.a_lead A.d_lead
 b_lead : Binds K A.d_lead ["self", "number", "k", "thread"] []
 mt_lead : Meth K A.C "lead" A.a_lead
 f_hang : Fun K "hang" "Wall.hang" s_hang A.a_hang A.d_hang
 b_hang : Binds K A.d_hang ["self", "note"] []
 mt_hang : Meth K A.C "hang" A.a_hang
 f_far_low : Fun K "far_low" "Wall.far_low" s_far_low A.a_far_low A.d_far_low
 b_far_low : Binds K A.d_far_low ["self"] []
 mt_far_low : Meth K A.C "far_low" A.a_far_low
 f_is_far : Fun K "is_far" "Wall.is_far" s_is_far A.a_is_far A.d_is_far
 b_is_far : Binds K A.d_is_far ["self", "number"] []
 mt_is_far : Meth K A.C "is_far" A.a_is_far
 f_kept_back : Fun K "kept_back" "Wall.kept_back" s_kept_back A.a_kept_back A.d_kept_back
 b_kept_back : Binds K A.d_kept_back ["self"] []
 mt_kept_back : Meth K A.C "kept_back" A.a_kept_back
 f_moved_over : Fun K "moved_over" "Wall.moved_over" s_moved_over A.a_moved_over A.d_moved_over
 b_moved_over : Binds K A.d_moved_over ["self", "thread"] []
 mt_moved_over : Meth K A.C "moved_over" A.a_moved_over
 f_look_through : Fun K "look_through" "Wall.look_through" s_look_through A.a_look_through A.d_look_through
 b_look_through : Binds K A.d_look_through ["self", "number"] []
 mt_look_through : Meth K A.C "look_through" A.a_look_through
 f_clear_far : Fun K "clear_far" "Wall.clear_far" s_clear_far A.a_clear_far A.d_clear_far
 b_clear_far : Binds K A.d_clear_far ["self"] []
 mt_clear_far : Meth K A.C "clear_far" A.a_clear_far
 z_ValueError : mg "ValueError" = none
 z_len : mg "len" = none
 z_isinstance : mg "isinstance" = none
 z_list : mg "list" = none
 z_tuple : mg "tuple" = none
 z_int : mg "int" = none
 z_bool : mg "bool" = none
 z_str : mg "str" = none
 z_dict : mg "dict" = none
 z_range : mg "range" = none
 z_sorted : mg "sorted" = none
theorem bt_ValueError : bootBuiltins "ValueError" = some (.type "ValueError") := by decide +kernel
theorem bt_len : bootBuiltins "len" = some (.builtin "len") := by decide +kernel
theorem bt_isinstance : bootBuiltins "isinstance" = some (.builtin "isinstance") := by decide +kernel
theorem bt_list : bootBuiltins "list" = some (.type "list") := by decide +kernel
theorem bt_tuple : bootBuiltins "tuple" = some (.type "tuple") := by decide +kernel
theorem bt_int : bootBuiltins "int" = some (.type "int") := by decide +kernel
theorem bt_bool : bootBuiltins "bool" = some (.type "bool") := by decide +kernel
theorem bt_str : bootBuiltins "str" = some (.type "str") := by decide +kernel
theorem bt_dict : bootBuiltins "dict" = some (.type "dict") := by decide +kernel
theorem nm_real : Nms ["pegs", "number"] [true, true] (defScope s_real) := ⟨by decide +kernel, by decide +kernel, by decide +kernel⟩
theorem sc_real : FnScope ["pegs", "number"] ["pegs", "number"] (defScope s_real) := ⟨rfl, rfl, rfl, by decide +kernel, rfl, by decide +kernel, by decide +kernel⟩
theorem nm_done : Nms ["wall", "deed"] [true, true] (defScope s_done) := ⟨by decide +kernel, by decide +kernel, by decide +kernel⟩
theorem sc_done : FnScope ["wall", "deed"] ["wall", "deed"] (defScope s_done) := ⟨rfl, rfl, rfl, by decide +kernel, rfl, by decide +kernel, by decide +kernel⟩
theorem nm_answer_to : Nms ["wall", "deed", "kind"] [true, true, true] (defScope s_answer_to) := ⟨by decide +kernel, by decide +kernel, by decide +kernel⟩
theorem sc_answer_to : FnScope ["wall", "deed", "kind"] ["wall", "deed"] (defScope s_answer_to) := ⟨rfl, rfl, rfl, by decide +kernel, rfl, by decide +kernel, by decide +kernel⟩
theorem nm_so : Nms ["_law_found", "_law_meant", "_law_k"] [true, true, true] (defScope s_so) := ⟨by decide +kernel, by decide +kernel, by decide +kernel⟩
theorem sc_so : FnScope ["_law_found", "_law_meant", "_law_k"] ["_law_found", "_law_meant"] (defScope s_so) := ⟨rfl, rfl, rfl, by decide +kernel, rfl, by decide +kernel, by decide +kernel⟩
theorem nm_at : Nms ["_law_script", "_law_k"] [true, true] (defScope s_at) := ⟨by decide +kernel, by decide +kernel, by decide +kernel⟩
theorem sc_at : FnScope ["_law_script", "_law_k"] ["_law_script", "_law_k"] (defScope s_at) := ⟨rfl, rfl, rfl, by decide +kernel, rfl, by decide +kernel, by decide +kernel⟩
theorem nm_deed_of : Nms ["_law_cell", "_law_k", "_law_count", "_law_way", "_law_hook", "_law_other", "_law_spot", "_law_some", "_law_word", "_law_many", "_law_others", "_law_j"] [true, true, true, true, true, true, true, true, true, true, true, false] (defScope s_deed_of) := ⟨by decide +kernel, by decide +kernel, by decide +kernel⟩
theorem sc_deed_of : FnScope ["_law_cell", "_law_k", "_law_count", "_law_way", "_law_hook", "_law_other", "_law_spot", "_law_some", "_law_word", "_law_many", "_law_others", "_law_j"] ["_law_cell", "_law_k", "_law_count"] (defScope s_deed_of) := ⟨rfl, rfl, rfl, by decide +kernel, rfl, by decide +kernel, by decide +kernel⟩
theorem nm_drawn : Nms ["_law_cells", "_law_count", "_law_deeds", "_law_k", "_law_cell"] [true, true, true, true, true] (defScope s_drawn) := ⟨by decide +kernel, by decide +kernel, by decide +kernel⟩
theorem sc_drawn : FnScope ["_law_cells", "_law_count", "_law_deeds", "_law_k", "_law_cell"] ["_law_cells", "_law_count"] (defScope s_drawn) := ⟨rfl, rfl, rfl, by decide +kernel, rfl, by decide +kernel, by decide +kernel⟩
theorem nm_model : Nms ["_law_notes", "_law_heads", "_law_deed", "_law_word", "_law_own", "_law_other"] [true, true, true, true, true, false] (defScope s_model) := ⟨by decide +kernel, by decide +kernel, by decide +kernel⟩
theorem sc_model : FnScope ["_law_notes", "_law_heads", "_law_deed", "_law_word", "_law_own", "_law_other"] ["_law_notes", "_law_heads", "_law_deed"] (defScope s_model) := ⟨rfl, rfl, rfl, by decide +kernel, rfl, by decide +kernel, by decide +kernel⟩
theorem nm_tried : Nms ["_law_shut", "_law_deed"] [true, true] (defScope s_tried) := ⟨by decide +kernel, by decide +kernel, by decide +kernel⟩
theorem sc_tried : FnScope ["_law_shut", "_law_deed"] ["_law_shut", "_law_deed"] (defScope s_tried) := ⟨rfl, rfl, rfl, by decide +kernel, rfl, by decide +kernel, by decide +kernel⟩
theorem nm_refusal : Nms ["_law_shut", "_law_deed", "_law_told"] [true, true, true] (defScope s_refusal) := ⟨by decide +kernel, by decide +kernel, by decide +kernel⟩
theorem sc_refusal : FnScope ["_law_shut", "_law_deed", "_law_told"] ["_law_shut", "_law_deed"] (defScope s_refusal) := ⟨rfl, rfl, rfl, by decide +kernel, rfl, by decide +kernel, by decide +kernel⟩
theorem lk_under_base_e : (defScope s_under_base).names.lookup ("e" : Str) = some .local := by decide +kernel
theorem nm_under_base : Nms ["_law_shut", "_law_deed", "e", "_law_kinds"] [true, true, true, true] (defScope s_under_base) := ⟨by decide +kernel, by decide +kernel, by decide +kernel⟩
theorem sc_under_base : FnScope ["_law_shut", "_law_deed", "e", "_law_kinds"] ["_law_shut", "_law_deed"] (defScope s_under_base) := ⟨rfl, rfl, rfl, by decide +kernel, rfl, by decide +kernel, by decide +kernel⟩
theorem nm_still : Nms ["_law_shut", "_law_deed", "_law_due", "_law_pegs", "_law_hooks"] [true, true, true, true, true] (defScope s_still) := ⟨by decide +kernel, by decide +kernel, by decide +kernel⟩
theorem sc_still : FnScope ["_law_shut", "_law_deed", "_law_due", "_law_pegs", "_law_hooks"] ["_law_shut", "_law_deed", "_law_due"] (defScope s_still) := ⟨rfl, rfl, rfl, by decide +kernel, rfl, by decide +kernel, by decide +kernel⟩
theorem nm_law : Nms ["_law_script", "_law_size", "_law_count", "_law_shut", "_law_notes", "_law_heads", "_law_deed", "_law_hook", "_law_due", "_law_many", "_law_more", "_law_found", "_law_word"] [true, true, true, true, true, true, true, true, true, true, true, true, true] (defScope s_law) := ⟨by decide +kernel, by decide +kernel, by decide +kernel⟩
theorem sc_law : FnScope ["_law_script", "_law_size", "_law_count", "_law_shut", "_law_notes", "_law_heads", "_law_deed", "_law_hook", "_law_due", "_law_many", "_law_more", "_law_found", "_law_word"] ["_law_script"] (defScope s_law) := ⟨rfl, rfl, rfl, by decide +kernel, rfl, by decide +kernel, by decide +kernel⟩
theorem nm_init : Nms ["self", "size", "count"] [true, true, true] (defScope s_init) := ⟨by decide +kernel, by decide +kernel, by decide +kernel⟩
theorem sc_init : FnScope ["self", "size", "count"] ["self", "size", "count"] (defScope s_init) := ⟨rfl, rfl, rfl, by decide +kernel, rfl, by decide +kernel, by decide +kernel⟩
theorem nm_put : Nms ["self", "hook", "word", "others", "left", "threads", "other"] [true, true, true, true, true, true, false] (defScope s_put) := ⟨by decide +kernel, by decide +kernel, by decide +kernel⟩
theorem sc_put : FnScope ["self", "hook", "word", "others", "left", "threads", "other"] ["self", "hook", "word", "others"] (defScope s_put) := ⟨rfl, rfl, rfl, by decide +kernel, rfl, by decide +kernel, by decide +kernel⟩
theorem nm_tie : Nms ["self", "hook", "k", "other"] [true, true, true, true] (defScope s_tie) := ⟨by decide +kernel, by decide +kernel, by decide +kernel⟩
theorem sc_tie : FnScope ["self", "hook", "k", "other"] ["self", "hook", "k", "other"] (defScope s_tie) := ⟨rfl, rfl, rfl, by decide +kernel, rfl, by decide +kernel, by decide +kernel⟩
theorem nm_drop : Nms ["self", "hook"] [true, true] (defScope s_drop) := ⟨by decide +kernel, by decide +kernel, by decide +kernel⟩
theorem sc_drop : FnScope ["self", "hook"] ["self", "hook"] (defScope s_drop) := ⟨rfl, rfl, rfl, by decide +kernel, rfl, by decide +kernel, by decide +kernel⟩
theorem nm_follow : Nms ["self", "hook", "k", "other", "thread"] [true, true, true, true, true] (defScope s_follow) := ⟨by decide +kernel, by decide +kernel, by decide +kernel⟩
theorem sc_follow : FnScope ["self", "hook", "k", "other", "thread"] ["self", "hook", "k", "other"] (defScope s_follow) := ⟨rfl, rfl, rfl, by decide +kernel, rfl, by decide +kernel, by decide +kernel⟩
theorem nm_word_of : Nms ["self", "hook"] [true, true] (defScope s_word_of) := ⟨by decide +kernel, by decide +kernel, by decide +kernel⟩
theorem sc_word_of : FnScope ["self", "hook"] ["self", "hook"] (defScope s_word_of) := ⟨rfl, rfl, rfl, by decide +kernel, rfl, by decide +kernel, by decide +kernel⟩
theorem nm_begin : Nms ["self", "hook"] [true, true] (defScope s_begin) := ⟨by decide +kernel, by decide +kernel, by decide +kernel⟩
theorem sc_begin : FnScope ["self", "hook"] ["self"] (defScope s_begin) := ⟨rfl, rfl, rfl, by decide +kernel, rfl, by decide +kernel, by decide +kernel⟩
theorem nm_step : Nms ["self"] [true] (defScope s_step) := ⟨by decide +kernel, by decide +kernel, by decide +kernel⟩
theorem sc_step : FnScope ["self"] ["self"] (defScope s_step) := ⟨rfl, rfl, rfl, by decide +kernel, rfl, by decide +kernel, by decide +kernel⟩
theorem sc_tidy : FnScope ["self"] ["self"] (defScope s_tidy) := ⟨rfl, rfl, rfl, by decide +kernel, rfl, by decide +kernel, by decide +kernel⟩
theorem nm_note_of : Nms ["self", "hook", "number"] [true, true, true] (defScope s_note_of) := ⟨by decide +kernel, by decide +kernel, by decide +kernel⟩
theorem sc_note_of : FnScope ["self", "hook", "number"] ["self", "hook"] (defScope s_note_of) := ⟨rfl, rfl, rfl, by decide +kernel, rfl, by decide +kernel, by decide +kernel⟩
theorem nm_thread_of : Nms ["self", "hook", "k", "threads"] [true, true, true, true] (defScope s_thread_of) := ⟨by decide +kernel, by decide +kernel, by decide +kernel⟩
theorem sc_thread_of : FnScope ["self", "hook", "k", "threads"] ["self", "hook", "k"] (defScope s_thread_of) := ⟨rfl, rfl, rfl, by decide +kernel, rfl, by decide +kernel, by decide +kernel⟩
theorem nm_lead : Nms ["self", "number", "k", "thread", "note", "threads"] [true, true, true, true, true, true] (defScope s_lead) := ⟨by decide +kernel, by decide +kernel, by decide +kernel⟩
theorem sc_lead : FnScope ["self", "number", "k", "thread", "note", "threads"] ["self", "number", "k", "thread"] (defScope s_lead) := ⟨rfl, rfl, rfl, by decide +kernel, rfl, by decide +kernel, by decide +kernel⟩
theorem nm_hang : Nms ["self", "note", "number"] [true, true, true] (defScope s_hang) := ⟨by decide +kernel, by decide +kernel, by decide +kernel⟩
theorem sc_hang : FnScope ["self", "note", "number"] ["self", "note"] (defScope s_hang) := ⟨rfl, rfl, rfl, by decide +kernel, rfl, by decide +kernel, by decide +kernel⟩
theorem nm_far_low : Nms ["self"] [true] (defScope s_far_low) := ⟨by decide +kernel, by decide +kernel, by decide +kernel⟩
theorem sc_far_low : FnScope ["self"] ["self"] (defScope s_far_low) := ⟨rfl, rfl, rfl, by decide +kernel, rfl, by decide +kernel, by decide +kernel⟩
theorem nm_is_far : Nms ["self", "number"] [true, true] (defScope s_is_far) := ⟨by decide +kernel, by decide +kernel, by decide +kernel⟩
theorem sc_is_far : FnScope ["self", "number"] ["self", "number"] (defScope s_is_far) := ⟨rfl, rfl, rfl, by decide +kernel, rfl, by decide +kernel, by decide +kernel⟩
theorem nm_kept_back : Nms ["self", "start", "far", "peg"] [true, true, true, false] (defScope s_kept_back) := ⟨by decide +kernel, by decide +kernel, by decide +kernel⟩
theorem sc_kept_back : FnScope ["self", "start", "far", "peg"] ["self"] (defScope s_kept_back) := ⟨rfl, rfl, rfl, by decide +kernel, rfl, by decide +kernel, by decide +kernel⟩
theorem nm_moved_over : Nms ["self", "thread"] [true, true] (defScope s_moved_over) := ⟨by decide +kernel, by decide +kernel, by decide +kernel⟩
theorem sc_moved_over : FnScope ["self", "thread"] ["self", "thread"] (defScope s_moved_over) := ⟨rfl, rfl, rfl, by decide +kernel, rfl, by decide +kernel, by decide +kernel⟩
theorem sc_look_through : FnScope ["self", "number", "note", "threads", "thread"] ["self", "number"] (defScope s_look_through) := ⟨rfl, rfl, rfl, by decide +kernel, rfl, by decide +kernel, by decide +kernel⟩
theorem sc_clear_far : FnScope ["self", "start", "number"] ["self"] (defScope s_clear_far) := ⟨rfl, rfl, rfl, by decide +kernel, rfl, by decide +kernel, by decide +kernel⟩
end PW
namespace PW
open PySem L2 WM
abbrev Wa := Wl Str
def thV : Option Nat → V
 | none => .non
 | some n => .int n
def PegV (H : Hp) (v : V) : Option (Peg Str) → Prop
 | none => v = .non
 | some (.note w ts) => ∃ t u, v = .ref t ∧ H t = some (.tup [.str "note", .str w, .ref u]) ∧ H u = some (.tup (ts.map thV))
 | some (.mark m) => ∃ t, v = .ref t ∧ H t = some (.tup [.str "moved", .int m])
theorem PegV.mono {H H' : Hp} (s : ∀ b xs, H b = some (.tup xs) → H' b = some (.tup xs)) {v : V} : ∀ {pg : Option (Peg Str)}, PegV H v pg → PegV H' v pg
 | none, h => h
 | some (.note w ts), ⟨t, u, e, h1, h2⟩ => ⟨t, u, e, s _ _ h1, s _ _ h2⟩
 | some (.mark m), ⟨t, e, h1⟩ => ⟨t, e, s _ _ h1⟩
structure PegsAt (H : Hp) (P : List V) (ps : List (Option (Peg Str))) : Prop where
 len : P.length = ps.length
 at_ : ∀ (i : Nat) (v : V) (pg : Option (Peg Str)), P[i]? = some v → ps[i]? = some pg → PegV H v pg
theorem PegsAt.mono {H H' : Hp} {P : List V} {ps : List (Option (Peg Str))} (h : PegsAt H P ps) (s : ∀ b xs, H b = some (.tup xs) → H' b = some (.tup xs)) : PegsAt H' P ps := ⟨h.len, fun i v pg h1 h2 => (h.at_ i v pg h1 h2).mono s⟩
theorem PegsAt.set {H : Hp} {P : List V} {ps : List (Option (Peg Str))} (h : PegsAt H P ps) (n : Nat) {v : V} {pg : Option (Peg Str)} (hv : PegV H v pg) : PegsAt H (P.set n v) (ps.set n pg) := by
 refine ⟨by rw [List.length_set, List.length_set]; exact h.len, fun i u q h1 h2 => ?_⟩
 rw [List.getElem?_set] at h1 h2
 by_cases e : n = i
 · rw [if_pos e] at h1 h2
   split at h1
   · split at h2
     · cases h1; cases h2; exact hv
     · cases h2
   · cases h1
 · rw [if_neg e] at h1 h2
   exact h.at_ i u q h1 h2
def wf (a b : Addr) (W : Wa) : List (Str × V) := [("size", .int W.size), ("pegs", .ref a), ("hooks", .ref b), ("low", .int W.low), ("free", .int W.free), ("moving", .bl W.moving), ("looked", .int W.looked)]
structure WallAt (C : Addr) (H : Hp) (x a b : Addr) (W : Wa) : Prop where
 ob : ∃ dx, H x = some (.ins C dx (wf a b W))
 pg : ∃ P, H a = some (.lst P) ∧ PegsAt H P W.pegs
 hk : H b = some (.lst (W.hooks.map thV))
 ab : a ≠ b
def Fr3 (x a b : Addr) (H H' : Hp) : Prop := ∀ c o, H c = some o → c ≠ x → c ≠ a → c ≠ b → H' c = some o
theorem Fr3.refl (x a b : Addr) (H : Hp) : Fr3 x a b H H := fun _ _ h _ _ _ => h
theorem Fr3.trans {x a b : Addr} {H H1 H2 : Hp} (p : Fr3 x a b H H1) (q : Fr3 x a b H1 H2) : Fr3 x a b H H2 := fun c o h h1 h2 h3 => q c o (p c o h h1 h2 h3) h1 h2 h3
theorem Fr3.of {x a b : Addr} {H H' : Hp} (s : Same H H') : Fr3 x a b H H' := fun c o h _ _ _ => s c o h
theorem Fr3.tup {C x a b : Addr} {W : Wa} {H H' : Hp} (f : Fr3 x a b H H') (w : WallAt C H x a b W) : ∀ c xs, H c = some (.tup xs) → H' c = some (.tup xs) := fun c xs h => by
 obtain ⟨dx, h1⟩ := w.ob
 obtain ⟨P, h2, _⟩ := w.pg
 exact f c _ h (ne_of h h1 (by intro z; cases z)) (ne_of h h2 (by intro z; cases z)) (ne_of h w.hk (by intro z; cases z))
theorem lk_eq {f : Str} {v : V} {r : List (Str × V)} : List.lookup f ((f, v) :: r) = some v := by simp [List.lookup_cons]
theorem lk_ne {f g : Str} {v : V} {r : List (Str × V)} (h : (f == g) = false) : List.lookup f ((g, v) :: r) = List.lookup f r := by simp [List.lookup_cons, h]
section
variable {a b : Addr} {W : Wa}
theorem wf_size : (wf a b W).lookup ("size" : Str) = some (.int W.size) := lk_eq
theorem wf_pegs : (wf a b W).lookup ("pegs" : Str) = some (.ref a) := (lk_ne (by decide +kernel)).trans lk_eq
theorem wf_hooks : (wf a b W).lookup ("hooks" : Str) = some (.ref b) := (lk_ne (by decide +kernel)).trans ((lk_ne (by decide +kernel)).trans lk_eq)
theorem wf_low : (wf a b W).lookup ("low" : Str) = some (.int W.low) := (lk_ne (by decide +kernel)).trans ((lk_ne (by decide +kernel)).trans ((lk_ne (by decide +kernel)).trans lk_eq))
theorem wf_free : (wf a b W).lookup ("free" : Str) = some (.int W.free) := (lk_ne (by decide +kernel)).trans ((lk_ne (by decide +kernel)).trans ((lk_ne (by decide +kernel)).trans ((lk_ne (by decide +kernel)).trans lk_eq)))
theorem wf_moving : (wf a b W).lookup ("moving" : Str) = some (.bl W.moving) := (lk_ne (by decide +kernel)).trans ((lk_ne (by decide +kernel)).trans ((lk_ne (by decide +kernel)).trans ((lk_ne (by decide +kernel)).trans ((lk_ne (by decide +kernel)).trans lk_eq))))
theorem wf_len : (wf a b W).length = 7 := rfl
def notF (m : Str) : Bool := !(m == "size") && !(m == "pegs") && !(m == "hooks") && !(m == "low") && !(m == "free") && !(m == "moving") && !(m == "looked")
theorem wf_no {m : Str} (h : notF m = true) : (wf a b W).lookup m = none := by
 simp only [notF, Bool.and_eq_true, Bool.not_eq_true'] at h
 obtain ⟨⟨⟨⟨⟨⟨h1, h2⟩, h3⟩, h4⟩, h5⟩, h6⟩, h7⟩ := h
 unfold wf
 rw [lk_ne h1, lk_ne h2, lk_ne h3, lk_ne h4, lk_ne h5, lk_ne h6, lk_ne h7]
 rfl
theorem pf_ne {f g : Str} {v x : V} {r : List (Str × V)} (h : ¬ g = f) : putF f v ((g, x) :: r) = (g, x) :: putF f v r := by show (if g = f then _ else _) = _; rw [if_neg h]
theorem pf_eq {f : Str} {v x : V} {r : List (Str × V)} : putF f v ((f, x) :: r) = (f, v) :: r := by show (if f = f then _ else _) = _; rw [if_pos rfl]
theorem ws_low {n : Nat} : putF "low" (.int n) (wf a b W) = wf a b { W with low := n } := by
 unfold wf; rw [pf_ne (by decide +kernel), pf_ne (by decide +kernel), pf_ne (by decide +kernel), pf_eq]
theorem ws_free {n : Nat} : putF "free" (.int n) (wf a b W) = wf a b { W with free := n } := by
 unfold wf; rw [pf_ne (by decide +kernel), pf_ne (by decide +kernel), pf_ne (by decide +kernel), pf_ne (by decide +kernel), pf_eq]
theorem ws_moving {c : Bool} : putF "moving" (.bl c) (wf a b W) = wf a b { W with moving := c } := by
 unfold wf; rw [pf_ne (by decide +kernel), pf_ne (by decide +kernel), pf_ne (by decide +kernel), pf_ne (by decide +kernel), pf_ne (by decide +kernel), pf_eq]
theorem ws_looked {n : Nat} : putF "looked" (.int n) (wf a b W) = wf a b { W with looked := n } := by
 unfold wf; rw [pf_ne (by decide +kernel), pf_ne (by decide +kernel), pf_ne (by decide +kernel), pf_ne (by decide +kernel), pf_ne (by decide +kernel), pf_ne (by decide +kernel), pf_eq]
end
theorem note_moved : ¬ (("note" : Str) = "moved") := by decide +kernel
theorem moved_note : ¬ (("moved" : Str) = "note") := by decide +kernel
theorem small {n : Nat} (h : n ≤ 1000) : n ≤ sizeLine := Nat.le_of_lt (small1000 h)
theorem at0 (x : V) (r : List V) : atI (x :: r) 0 = some x := atI_nat (j := 0) rfl
theorem at1 (x y : V) (r : List V) : atI (x :: y :: r) 1 = some y := atI_nat (j := 1) rfl
theorem at2 (x y z : V) (r : List V) : atI (x :: y :: z :: r) 2 = some z := atI_nat (j := 2) rfl
theorem ixN_nat {n k : Nat} (h : k < n) : ixN n (k : Int) = some k := by
 unfold ixN; rw [if_pos (by omega), if_pos (by omega)]; simp
section
variable {P : Program} {w : World} {K : PySem.W.Frag} {mg : Str → Option Value} {base : Heap} {A : Adr}
def spReal : Sp := fun vs H Q _ => ∃ (a : Addr) (xs : List V) (n : Nat) (v : V) (pg : Peg Str), vs = [.ref a, .int n] ∧ H a = some (.lst xs) ∧ xs[n]? = some v ∧ PegV H v (some pg) ∧
 Q (.int (match pg with | .mark m => m | _ => n : Nat)) H
theorem ok_real (T : Txt K mg A) : FnOk P w K mg base (CXe P w) 1 A.a_real A.d_real ["pegs", "number"] spReal := by
 refine T.f_real.okN sc_real (fun vs H Q E h => ?_) (fun cdv B outer s H vs Q E hr h => ?_)
 · obtain ⟨a, xs, n, v, pg, rfl, _⟩ := h
   rfl
 obtain ⟨a, xs, n, v, pg, rfl, ha, hv, hp, q⟩ := h
 have hu := hu_of hr
 have hq : _ + 1 + 0 < cLine := hu_of hr
 refine ⟨_, (pss_cons (ps_if (pt_cmpR (op_eq_f hq) (pe_idx hu (pe_idx hu (pvn nm_real rfl rfl 0 rfl rfl) (pvn nm_real rfl rfl 1 rfl rfl) (fun _ _ => rfl)) pe_int (fun _ _ => rfl)) pe_str (nomark _)) (pss_one (ps_ret (pe_idx hu (pe_idx hu (pvn nm_real rfl rfl 0 rfl rfl) (pvn nm_real rfl rfl 1 rfl rfl) (fun _ _ => rfl)) pe_int (fun _ _ => rfl)))) pss_nil)
  (pss_one (ps_ret (pvn nm_real rfl rfl 1 rfl rfl)))), ?_⟩
 show tSeq _ _ _ [some (.ref a), some (.int n)] H
 have ht := atI_nat hv
 cases pg with
 | mark m =>
  obtain ⟨t, rfl, h1⟩ := hp
  exists 1, ha, ht, h1, at0, at1
  exact q
 | note w' ts =>
  obtain ⟨t, u, rfl, h1, h2⟩ := hp
  exists 1, ha, ht, h1, at0, at1, note_moved
  exact q
def spFar (C : Addr) : Sp := fun vs H Q _ => ∃ (x a b : Addr) (W : Wa), vs = [.ref x] ∧ WallAt C H x a b W ∧ W.low ≤ W.size ∧ Q (.int W.far) H
theorem ok_far_low (T : Txt K mg A) : FnOk P w K mg base (CXe P w) 1 A.a_far_low A.d_far_low ["self"] (spFar A.C) := by
 refine T.f_far_low.okN sc_far_low (fun vs H Q E h => ?_) (fun cdv B outer s H vs Q E hr h => ?_)
 · obtain ⟨x, a, b, W, rfl, _⟩ := h
   rfl
 obtain ⟨x, a, b, W, rfl, hW, hl, q⟩ := h
 obtain ⟨dx, ho⟩ := hW.ob
 refine ⟨_, (pss_one (ps_ret (pe_op op_sub (pe_fld (pvn nm_far_low rfl rfl 0 rfl rfl) rfl) (pe_fld (pvn nm_far_low rfl rfl 0 rfl rfl) rfl)))), ?_⟩
 show tRet _ _ [some (.ref x)] H
 exists 1, ho, T.cl, T.na_size, T.na_low, wf_size, wf_low
 have e : ((W.size : Int) - (W.low : Int)) = ((W.far : Nat) : Int) := by unfold Wl.far; omega
 rw [e]; exact q
def spIsFar (C : Addr) : Sp := fun vs H Q _ => ∃ (x a b : Addr) (W : Wa) (n : Nat), vs = [.ref x, .int n] ∧ WallAt C H x a b W ∧ Q (.bl (W.isFar n)) H
theorem ok_is_far (T : Txt K mg A) : FnOk P w K mg base (CXe P w) 1 A.a_is_far A.d_is_far ["self", "number"] (spIsFar A.C) := by
 refine T.f_is_far.okN sc_is_far (fun vs H Q E h => ?_) (fun cdv B outer s H vs Q E hr h => ?_)
 · obtain ⟨x, a, b, W, n, rfl, _⟩ := h
   rfl
 obtain ⟨x, a, b, W, n, rfl, hW, q⟩ := h
 obtain ⟨dx, ho⟩ := hW.ob
 refine ⟨_, (pss_one (ps_ret (pe_or (pe_cmpR op_lt (pvn nm_is_far rfl rfl 1 rfl rfl) (pe_fld (pvn nm_is_far rfl rfl 0 rfl rfl) rfl) (nomark _)) (pe_one (pe_cmpR op_ge (pvn nm_is_far rfl rfl 1 rfl rfl) (pe_op op_add_f (pe_fld (pvn nm_is_far rfl rfl 0 rfl rfl) rfl) (pe_fld (pvn nm_is_far rfl rfl 0 rfl rfl) rfl)) (nomark _)))))), ?_⟩
 show tRet _ _ [some (.ref x), some (.int n)] H
 exists 1, ho, T.cl, T.na_size, T.na_low, wf_size, wf_low
 unfold Wl.isFar at q
 split
 · rename_i h
   rw [decide_eq_true (show n < W.low by omega)] at q
   exact q
 · rename_i h
   rw [decide_eq_false (show ¬ n < W.low by omega), Bool.false_or] at q
   have e : decide ((W.low : Int) + (W.size : Int) ≤ (n : Int)) = decide (W.low + W.size ≤ n) := by
    by_cases h : W.low + W.size ≤ n
    · rw [decide_eq_true h, decide_eq_true (by omega)]
    · rw [decide_eq_false h, decide_eq_false (by omega)]
   rw [e]; exact q
def hung (W : Wa) (pg : Option (Peg Str)) : Wa := { W with pegs := W.pegs.set W.free pg, free := W.free + 1 }
def spHang (C : Addr) : Sp := fun vs H Q _ => ∃ (x a b : Addr) (W : Wa) (v : V) (pg : Option (Peg Str)), vs = [.ref x, v] ∧ WallAt C H x a b W ∧ PegV H v pg ∧ W.free < W.pegs.length ∧
 ∀ H', WallAt C H' x a b (hung W pg) → Fr3 x a b H H' → Q (.int W.free) H'
theorem ok_hang (T : Txt K mg A) : FnOk P w K mg base (CXe P w) 1 A.a_hang A.d_hang ["self", "note"] (spHang A.C) := by
 refine T.f_hang.okN sc_hang (fun vs H Q E h => ?_) (fun cdv B outer s H vs Q E hr h => ?_)
 · obtain ⟨x, a, b, W, v, pg, rfl, _⟩ := h
   rfl
 obtain ⟨x, a, b, W, v, pg, rfl, hW, hv, hf, q⟩ := h
 obtain ⟨dx, ho⟩ := hW.ob
 obtain ⟨Ps, hP, hA⟩ := hW.pg
 have hb := hW.hk
 have hu := hu_of hr
 have nd := sc_hang.nd
 refine ⟨_, (pss_cons (ps_set (i := 2) nd rfl (nm_hang.at rfl (i := 2) rfl rfl) (pe_fld (pvn nm_hang rfl rfl 0 rfl rfl) rfl))
  (pss_cons (ps_asg (pvn nm_hang rfl rfl 1 rfl rfl) (pg_sub (pe_fld (pvn nm_hang rfl rfl 0 rfl rfl) rfl) (pvn nm_hang rfl rfl 2 rfl rfl) (set_f hu)))
  (pss_cons (ps_fldaug (pvn nm_hang rfl rfl 0 rfl rfl) pe_int in_add)
  (pss_one (ps_ret (pvn nm_hang rfl rfl 2 rfl rfl)))))), ?_⟩
 show tSeq _ _ _ [some (.ref x), some v, none] H
 have hi : ixN Ps.length (W.free : Int) = some W.free := ixN_nat (by rw [hA.len]; exact hf)
 exists 1, ho, T.cl, T.na_free, T.na_pegs, wf_free, wf_pegs, hP, hi
 generalize e1 : upd H a _ = H1
 have xa : x ≠ a := ne_of ho hP (by intro z; cases z)
 have h1 : H1 x = some (.ins A.C dx (wf a b W)) := (wr_ne e1 xa).trans ho
 exists 1, h1, T.cl, T.na_free, wf_free, wf_len
 generalize e2 : upd H1 x _ = H2
 have ez : ((W.free : Int) + 1) = ((W.free + 1 : Nat) : Int) := by omega
 rw [ez, ws_free] at e2
 have fr : Fr3 x a b H H2 := fun c o h n1 n2 n3 => by rw [wr_ne e2 n1, wr_ne e1 n2]; exact h
 refine q H2 ⟨⟨dx, new_at e2⟩, ⟨Ps.set W.free v, (wr_ne e2 xa.symm).trans (new_at e1), ?_⟩, ?_, hW.ab⟩ fr
 · exact (hA.set W.free hv).mono (fr.tup hW)
 · rw [wr_ne e2 (ne_of hb ho (by intro z; cases z)), wr_ne e1 hW.ab.symm]; exact hb
end
end PW
namespace PW
open PySem L2 WM
theorem PegsAt.get {H : Hp} {P : List V} {ps : List (Option (Peg Str))} (h : PegsAt H P ps) {n : Nat} {pg : Option (Peg Str)} (e : ps[n]? = some pg) : ∃ v, P[n]? = some v ∧ PegV H v pg := by
 have hl : n < P.length := by rw [h.len]; exact (List.getElem?_eq_some_iff.mp e).1
 exact ⟨P[n], List.getElem?_eq_getElem hl, h.at_ n _ pg (List.getElem?_eq_getElem hl) e⟩
theorem WallAt.same {C : Addr} {H H' : Hp} {x a b : Addr} {W : Wa} (w : WallAt C H x a b W) (s : Same H H') : WallAt C H' x a b W := by
 obtain ⟨⟨dx, ho⟩, ⟨P, hP, hA⟩, hk, ab⟩ := w
 exact ⟨⟨dx, s _ _ ho⟩, ⟨P, s _ _ hP, hA.mono fun c xs h => s _ _ h⟩, s _ _ hk, ab⟩
theorem WallAt.setP {C : Addr} {H H1 : Hp} {x a b : Addr} {W : Wa} {P : List V} {n : Nat} {v : V} {pg : Option (Peg Str)} (w : WallAt C H x a b W) (hP : H a = some (.lst P)) (e : upd H a (.lst (P.set n v)) = H1) (hv : PegV H v pg) :
 WallAt C H1 x a b { W with pegs := W.pegs.set n pg } ∧ Fr3 x a b H H1 := by
 obtain ⟨⟨dx, ho⟩, ⟨P', hP', hA⟩, hk, ab⟩ := w
 rw [hP] at hP'; cases hP'
 have xa : x ≠ a := ne_of ho hP (by intro z; cases z)
 have fr : Fr3 x a b H H1 := fun c o h n1 n2 n3 => by rw [wr_ne e n2]; exact h
 refine ⟨⟨⟨dx, (wr_ne e xa).trans ho⟩, ⟨_, new_at e, (hA.set n hv).mono fun c xs h => ?_⟩, (wr_ne e ab.symm).trans hk, ab⟩, fr⟩
 exact (wr_ne e (ne_of h hP (by intro z; cases z))).trans h
theorem WallAt.setH {C : Addr} {H H1 : Hp} {x a b : Addr} {W : Wa} {n : Nat} {t : Option Nat} (w : WallAt C H x a b W) (e : upd H b (.lst ((W.hooks.map thV).set n (thV t))) = H1) :
 WallAt C H1 x a b { W with hooks := W.hooks.set n t } ∧ Fr3 x a b H H1 := by
 obtain ⟨⟨dx, ho⟩, ⟨P, hP, hA⟩, hk, ab⟩ := w
 have xb : x ≠ b := ne_of ho hk (by intro z; cases z)
 have fr : Fr3 x a b H H1 := fun c o h n1 n2 n3 => by rw [wr_ne e n3]; exact h
 refine ⟨⟨⟨dx, (wr_ne e xb).trans ho⟩, ⟨P, (wr_ne e ab).trans hP, hA.mono fun c xs h => ?_⟩, ?_, ab⟩, fr⟩
 · exact (wr_ne e (ne_of h hk (by intro z; cases z))).trans h
 · rw [new_at e, List.map_set]
theorem WallAt.setF {C : Addr} {H H1 : Hp} {x a b : Addr} {W W' : Wa} {dx : Addr} (w : WallAt C H x a b W) (ho : H x = some (.ins C dx (wf a b W))) (e : upd H x (.ins C dx (wf a b W')) = H1) (h1 : W'.pegs = W.pegs) (h2 : W'.hooks = W.hooks) :
 WallAt C H1 x a b W' ∧ Fr3 x a b H H1 := by
 obtain ⟨_, ⟨P, hP, hA⟩, hk, ab⟩ := w
 have fr : Fr3 x a b H H1 := fun c o h n1 n2 n3 => by rw [wr_ne e n1]; exact h
 refine ⟨⟨⟨dx, new_at e⟩, ⟨P, (wr_ne e (ne_of hP ho (by intro z; cases z))).trans hP, ?_⟩, ?_, ab⟩, fr⟩
 · rw [h1]; exact hA.mono fun c xs h => (wr_ne e (ne_of h ho (by intro z; cases z))).trans h
 · rw [h2]; exact (wr_ne e (ne_of hk ho (by intro z; cases z))).trans hk
section
variable {P : Program} {w : World} {K : PySem.W.Frag} {mg : Str → Option Value} {base : Heap} {A : Adr}
theorem thV_some (n : Nat) : thV (some n) = .int n := rfl
theorem thV_no : thV none = .non := rfl
theorem thV_none {t : Option Nat} : (thV t = .non) ↔ t = none := by cases t <;> simp [thV]
theorem ov_near {W : Wa} {n : Nat} (h : W.isFar n = false) : W.over (some n) = (W, some n) := by show (if W.isFar n = false then _ else _) = _; rw [if_pos h]
theorem ov_mark {W : Wa} {n m : Nat} (h : W.isFar n = true) (e : W.pegs[n]? = some (some (.mark m))) : W.over (some n) = (W, some m) := by
 show (if W.isFar n = false then _ else _) = _; rw [if_neg (by rw [h]; exact Bool.noConfusion), e]
theorem ov_note {W : Wa} {n : Nat} {w : Str} {ts : List (Option Nat)} (h : W.isFar n = true) (e : W.pegs[n]? = some (some (.note w ts))) :
 W.over (some n) = ({ W with pegs := (W.pegs.set W.free (some (.note w ts))).set n (some (.mark W.free)), free := W.free + 1 }, some W.free) := by
 show (if W.isFar n = false then _ else _) = _; rw [if_neg (by rw [h]; exact Bool.noConfusion), e]
def spOver (C : Addr) : Sp := fun vs H Q _ => ∃ (x a b : Addr) (W : Wa) (t : Option Nat), vs = [.ref x, thV t] ∧ WallAt C H x a b W ∧ POk W ∧ TOk W t ∧
 ∀ H', WallAt C H' x a b (W.over t).1 → Fr3 x a b H H' → Q (thV (W.over t).2) H'
theorem ok_moved_over (T : Txt K mg A) : FnOk P w K mg base (CXe P w) 2 A.a_moved_over A.d_moved_over ["self", "thread"] (spOver A.C) := by
 refine T.f_moved_over.okN sc_moved_over (fun vs H Q E h => ?_) (fun cdv B outer s H vs Q E hr h => ?_)
 · obtain ⟨x, a, b, W, t, rfl, _⟩ := h
   rfl
 obtain ⟨x, a, b, W, t, rfl, hW, pk, tk, q⟩ := h
 obtain ⟨dx, ho⟩ := hW.ob
 obtain ⟨Ps, hP, hA⟩ := hW.pg
 have hu := hu_of hr
 have hq : _ + 1 + 0 < cLine := hu_of hr
 have nd := sc_moved_over.nd
 refine ⟨_, (pss_cons (ps_if (PW.pt (pw_or (pt_cmpR op_is_f (pvn nm_moved_over rfl rfl 1 rfl rfl) pe_non (nomark _)) (pw_or1 (pt_not (pt_val (pe_meth (pvn nm_moved_over rfl rfl 0 rfl rfl) T.cl T.mt_is_far (ok_is_far T) (hr.mono (by decide)) T.b_is_far .nil passN (pa_cons (pvn nm_moved_over rfl rfl 1 rfl rfl) pa_nil))))))) (pss_one (ps_ret (pvn nm_moved_over rfl rfl 1 rfl rfl))) pss_nil)
  (pss_cons (ps_if (pt_cmpR (op_eq_f hq) (pe_call (ok_real T) (hr.mono (by decide)) rfl T.m_real T.f_real.kp T.b_real .nil passN (pa_cons (pe_fld (pvn nm_moved_over rfl rfl 0 rfl rfl) rfl) (pa_cons (pvn nm_moved_over rfl rfl 1 rfl rfl) pa_nil))) (pvn nm_moved_over rfl rfl 1 rfl rfl) (nomark _)) (pss_one (ps_asg (pe_tup (pa_cons pe_str (pa_cons (pe_meth (pvn nm_moved_over rfl rfl 0 rfl rfl) T.cl T.mt_hang (ok_hang T) (hr.mono (by decide)) T.b_hang .nil passN (pa_cons (pe_idx hu (pe_fld (pvn nm_moved_over rfl rfl 0 rfl rfl) rfl) (pvn nm_moved_over rfl rfl 1 rfl rfl) (fun _ _ => rfl)) pa_nil)) pa_nil))) (pg_sub (pe_fld (pvn nm_moved_over rfl rfl 0 rfl rfl) rfl) (pvn nm_moved_over rfl rfl 1 rfl rfl) (set_f hu)))) pss_nil)
  (pss_one (ps_ret (pe_call (ok_real T) (hr.mono (by decide)) rfl T.m_real T.f_real.kp T.b_real .nil passN (pa_cons (pe_fld (pvn nm_moved_over rfl rfl 0 rfl rfl) rfl) (pa_cons (pvn nm_moved_over rfl rfl 1 rfl rfl) pa_nil))))))), ?_⟩
 show tSeq _ _ _ [some (.ref x), some (thV t)] H
 cases t with
 | none =>
  refine stepT (fun R hR => by exists 1, thV_no; exact hR) fun D1 n1 r1 _ _ => ?_
  exists 1, L2.ap_seq
  exact r1 _ _ (q H hW (Fr3.refl _ _ _ _))
 | some n =>
  rcases tk n rfl with hn | ⟨hm, hf, hne⟩
  · have e := pk.isFar_near hn
    rw [ov_near e] at q
    refine stepT (fun R hR => by exists 1, thV_some, ho, T.cl, wf_no (show notF "is_far" = true by decide +kernel); refine ⟨x, a, b, W, n, rfl, hW, ?_⟩; exists 1, e; exact hR) fun D1 n1 r1 _ _ => ?_
    exists 1, L2.ap_seq
    exact r1 _ _ (q H hW (Fr3.refl _ _ _ _))
  · have e := pk.isFar_far hf
    refine stepF (fun R hR => by exists 1, thV_some, ho, T.cl, wf_no (show notF "is_far" = true by decide +kernel); refine ⟨x, a, b, W, n, rfl, hW, ?_⟩; exists 1, e; exact hR) ?_
    have hl := pk.farlen hf
    obtain ⟨pg, hpg⟩ : ∃ pg, W.pegs[n]? = some (some pg) := by
     cases h : W.pegs[n]? with
     | none => exact absurd h (by simp [hl])
     | some o => cases o with
      | none => exact absurd h hne
      | some pg => exact ⟨pg, rfl⟩
    obtain ⟨v, hv, hpv⟩ := hA.get hpg
    have ht := atI_nat hv
    cases pg with
    | mark m =>
     rw [ov_mark e hpg] at q
     have hmn : ¬ ((m : Int) = (n : Int)) := fun z => pk.apart (n := n) hf (by have := (pk.mark n m hpg).2; rw [show m = n by omega] at this; exact this)
     refine stepF (fun R hR => by exists 1, thV_some, ho, T.cl, T.na_pegs, wf_pegs; refine ⟨a, Ps, n, v, .mark m, rfl, hP, hv, hpv, ?_⟩; exists 1, hmn; exact hR) ?_
     exists 1, thV_some, ho, T.cl, T.na_pegs, wf_pegs
     exact ⟨a, Ps, n, v, .mark m, rfl, hP, hv, hpv, q H hW (Fr3.refl _ _ _ _)⟩
    | note wd ts =>
     rw [ov_note e hpg] at q
     have rm := pk.hasRoom hf hpg
     have hfl : W.free < W.pegs.length := by have := pk.len; have := pk.lo; omega
     refine stepT (fun R hR => by exists 1, thV_some, ho, T.cl, T.na_pegs, wf_pegs; refine ⟨a, Ps, n, v, .note wd ts, rfl, hP, hv, hpv, ?_⟩; exists 1, L2.ap_seq; exact hR) fun D1 n1 r1 _ _ => ?_
     exists 1, thV_some, ho, T.cl, T.na_pegs, wf_pegs, wf_no (show notF "hang" = true by decide +kernel), hP, ht
     refine ⟨x, a, b, W, v, some (.note wd ts), rfl, hW, hpv, hfl, fun H1 hW1 f1 => ?_⟩
     obtain ⟨dx1, ho1⟩ := hW1.ob
     obtain ⟨P1, hP1, hA1⟩ := hW1.pg
     refine ⟨small (by omega), ?_⟩
     intro t ht1; generalize e_H2 : upd H1 t _ = H2; have h2 := new_at e_H2; have s2 := new_same ht1 e_H2
     have hW2 := hW1.same s2
     have hP2 := s2 _ _ hP1
     have hi : ixN P1.length (n : Int) = some n := ixN_nat (by rw [hA1.len]; show n < (W.pegs.set _ _).length; rw [List.length_set]; exact hl)
     exists 1, s2 _ _ ho1, T.cl, T.na_pegs, wf_pegs, hP2, hi
     refine n1 _ _ ?_
     generalize e3 : upd H2 a _ = H3
     obtain ⟨hW3, f3⟩ := hW2.setP (pg := some (.mark W.free)) hP2 e3 ⟨t, rfl, h2⟩
     obtain ⟨dx3, ho3⟩ := hW3.ob
     obtain ⟨P3, hP3, hA3⟩ := hW3.pg
     exists 1, thV_some, ho3, T.cl, T.na_pegs, wf_pegs
     obtain ⟨v3, hv3, hpv3⟩ := hA3.get (n := n) (pg := some (.mark W.free)) (by
      show ((W.pegs.set W.free _).set n _)[n]? = _
      rw [List.getElem?_set_self (by rw [List.length_set]; exact hl)])
     exact ⟨a, P3, n, v3, .mark W.free, rfl, hP3, hv3, hpv3, q H3 hW3 (f1.trans ((Fr3.of s2).trans f3))⟩
theorem atMap {t : Option Nat} {l : List (Option Nat)} {h : Nat} (e : l[h]? = some t) : atI (l.map thV) (h : Int) = some (thV t) := atI_nat (by rw [List.getElem?_map, e]; rfl)
def spNoteOf (C cN : Addr) : Sp := fun vs H Q E => ∃ (x a b : Addr) (W : Wa) (h : Nat) (t : Option Nat), vs = [.ref x, .int h] ∧ WallAt C H x a b W ∧ W.hooks[h]? = some t ∧ (t = none → E (.ref cN) none H) ∧
 ∀ n, t = some n → ∃ wd ts, W.pegs[n]? = some (some (.note wd ts)) ∧ ∀ v, PegV H v (some (.note wd ts)) → Q v H
theorem ok_note_of (T : Txt K mg A) : FnOk P w K mg base (CXe P w) 1 A.a_note_of A.d_note_of ["self", "hook"] (spNoteOf A.C A.c_NoNote) := by
 refine T.f_note_of.okE sc_note_of (fun vs H Q E h => ?_) (fun cdv B outer s H vs Q E hr h => ?_)
 · obtain ⟨x, a, b, W, h, t, rfl, _⟩ := h
   rfl
 obtain ⟨x, a, b, W, h, t, rfl, hW, ht, q1, q2⟩ := h
 obtain ⟨dx, ho⟩ := hW.ob
 obtain ⟨Ps, hP, hA⟩ := hW.pg
 have hb := hW.hk
 have hu := hu_of hr
 have nd := sc_note_of.nd
 refine ⟨_, (pss_cons (ps_set (i := 2) nd rfl (nm_note_of.at rfl (i := 2) rfl rfl) (pe_idx hu (pe_fld (pvn nm_note_of rfl rfl 0 rfl rfl) rfl) (pvn nm_note_of rfl rfl 1 rfl rfl) (fun _ _ => rfl)))
  (pss_cons (ps_if (pt_cmpR op_is_f (pvn nm_note_of rfl rfl 2 rfl rfl) pe_non (nomark _)) (pss_one (ps_raise rfl T.m_NoNote T.x_NoNote rfl raiseE (pa_cons pe_str pa_nil))) pss_nil)
  (pss_one (ps_ret (pe_idx hu (pe_fld (pvn nm_note_of rfl rfl 0 rfl rfl) rfl) (pvn nm_note_of rfl rfl 2 rfl rfl) (fun _ _ => rfl)))))), ?_⟩
 show tSeq _ _ _ [some (.ref x), some (.int h), none] H
 have hx := atMap ht
 cases t with
 | none =>
  refine step1 fun D1 n1 r1 _ _ => ?_
  exists 1, ho, T.cl, T.na_hooks, wf_hooks, hb, hx
  refine n1 _ _ ?_
  refine stepT (fun R hR => by exists 1, thV_no; exact hR) fun D2 n2 r2 _ _ => ?_
  exact ⟨small (by simp), q1 rfl⟩
 | some n =>
  obtain ⟨wd, ts, hp, q⟩ := q2 n rfl
  obtain ⟨v, hv, hpv⟩ := hA.get hp
  have hv' := atI_nat hv
  refine step1 fun D1 n1 r1 _ _ => ?_
  exists 1, ho, T.cl, T.na_hooks, wf_hooks, hb, hx
  refine n1 _ _ ?_
  refine stepF (fun R hR => by exists 1, thV_some; exact hR) ?_
  exists 1, thV_some, ho, T.cl, T.na_pegs, wf_pegs, hP, hv'
  exact q v hpv
def spThread (C cN cT : Addr) : Sp := fun vs H Q E => ∃ (x a b : Addr) (W : Wa) (h k : Nat) (t : Option Nat), vs = [.ref x, .int h, .int k] ∧ WallAt C H x a b W ∧ W.hooks[h]? = some t ∧ (t = none → E (.ref cN) none H) ∧
 ∀ n, t = some n → ∃ wd ts, W.pegs[n]? = some (some (.note wd ts)) ∧ (ts.length ≤ k → E (.ref cT) none H) ∧ ∀ u, ts[k]? = some u → Q (thV u) H
theorem ok_thread_of (T : Txt K mg A) : FnOk P w K mg base (CXe P w) 2 A.a_thread_of A.d_thread_of ["self", "hook", "k"] (spThread A.C A.c_NoNote A.c_NoThread) := by
 refine T.f_thread_of.okE sc_thread_of (fun vs H Q E h => ?_) (fun cdv B outer s H vs Q E hr h => ?_)
 · obtain ⟨x, a, b, W, h, k, t, rfl, _⟩ := h
   rfl
 obtain ⟨x, a, b, W, h, k, t, rfl, hW, ht, q1, q2⟩ := h
 obtain ⟨dx, ho⟩ := hW.ob
 have hu := hu_of hr
 have nd := sc_thread_of.nd
 refine ⟨_, (pss_cons (ps_set (i := 3) nd rfl (nm_thread_of.at rfl (i := 3) rfl rfl) (pe_idx hu (pe_meth (pvn nm_thread_of rfl rfl 0 rfl rfl) T.cl T.mt_note_of (ok_note_of T) (hr.mono (by decide)) T.b_note_of .nil passE (pa_cons (pvn nm_thread_of rfl rfl 1 rfl rfl) pa_nil)) pe_int (fun _ _ => rfl)))
  (pss_cons (ps_if (PW.pt (pw_or (pt_cmpR op_lt (pvn nm_thread_of rfl rfl 2 rfl rfl) pe_int (nomark _)) (pw_or1 (pt_cmpR op_ge (pvn nm_thread_of rfl rfl 2 rfl rfl) (pe_callB call_len_f rfl T.z_len bt_len (pa_cons (pvn nm_thread_of rfl rfl 3 rfl rfl) pa_nil)) (nomark _))))) (pss_one (ps_raise rfl T.m_NoThread T.x_NoThread rfl raiseE (pa_cons pe_str pa_nil))) pss_nil)
  (pss_one (ps_ret (pe_idx hu (pvn nm_thread_of rfl rfl 3 rfl rfl) (pvn nm_thread_of rfl rfl 2 rfl rfl) (fun _ _ => rfl)))))), ?_⟩
 show tSeq _ _ _ [some (.ref x), some (.int h), some (.int k), none] H
 exists 1, ho, T.cl, wf_no (show notF "note_of" = true by decide +kernel)
 refine ⟨x, a, b, W, h, t, rfl, hW, ht, q1, fun n hn => ?_⟩
 obtain ⟨wd, ts, hp, q3, q4⟩ := q2 n hn
 refine ⟨wd, ts, hp, fun v hv => ?_⟩
 obtain ⟨t1, u1, rfl, h1, h2⟩ := hv
 exists 1, h1, h2, at2
 have k0 : ¬ ((k : Int) < 0) := by omega
 by_cases hk : ts.length ≤ k
 · have hk' : (ts.length : Int) ≤ (k : Int) := by omega
   exists 1, k0, hk'
   exact ⟨small (by simp), q3 hk⟩
 · have hk' : ¬ ((ts.length : Int) ≤ (k : Int)) := by omega
   have e : ts[k]? = some ts[k] := List.getElem?_eq_getElem (by omega)
   exists 1, k0, hk', h2, atMap e
   exact q4 _ e
def spWord (C cN : Addr) : Sp := fun vs H Q E => ∃ (x a b : Addr) (W : Wa) (h : Nat) (t : Option Nat), vs = [.ref x, .int h] ∧ WallAt C H x a b W ∧ W.hooks[h]? = some t ∧ (t = none → E (.ref cN) none H) ∧
 ∀ n, t = some n → ∃ wd ts, W.pegs[n]? = some (some (.note wd ts)) ∧ Q (.str wd) H
theorem ok_word_of (T : Txt K mg A) : FnOk P w K mg base (CXe P w) 2 A.a_word_of A.d_word_of ["self", "hook"] (spWord A.C A.c_NoNote) := by
 refine T.f_word_of.okE sc_word_of (fun vs H Q E h => ?_) (fun cdv B outer s H vs Q E hr h => ?_)
 · obtain ⟨x, a, b, W, h, t, rfl, _⟩ := h
   rfl
 obtain ⟨x, a, b, W, h, t, rfl, hW, ht, q1, q2⟩ := h
 obtain ⟨dx, ho⟩ := hW.ob
 have hu := hu_of hr
 refine ⟨_, (pss_one (ps_ret (pe_idx hu (pe_meth (pvn nm_word_of rfl rfl 0 rfl rfl) T.cl T.mt_note_of (ok_note_of T) (hr.mono (by decide)) T.b_note_of .nil passE (pa_cons (pvn nm_word_of rfl rfl 1 rfl rfl) pa_nil)) pe_int (fun _ _ => rfl)))), ?_⟩
 show tRet _ _ [some (.ref x), some (.int h)] H
 exists 1, ho, T.cl, wf_no (show notF "note_of" = true by decide +kernel)
 refine ⟨x, a, b, W, h, t, rfl, hW, ht, q1, fun n hn => ?_⟩
 obtain ⟨wd, ts, hp, q3⟩ := q2 n hn
 refine ⟨wd, ts, hp, fun v hv => ?_⟩
 obtain ⟨t1, u1, rfl, h1, h2⟩ := hv
 exists 1, h1, at1
 exact q3
theorem cut_lo {ts : List (Option Nat)} {k : Nat} (h : k < ts.length) : cutV (ts.map thV) none (some (k : Int)) = (ts.take k).map thV := by
 unfold cutV
 rw [HT.sIx_none, HT.sIx_nat, List.length_map, List.drop_zero, Nat.min_eq_left (by omega), Nat.sub_zero, List.map_take]
theorem cut_hi {ts : List (Option Nat)} {k : Nat} (h : k < ts.length) : cutV (ts.map thV) (some ((k : Int) + 1)) none = (ts.drop (k + 1)).map thV := by
 unfold cutV
 rw [show ((k : Int) + 1) = ((k + 1 : Nat) : Int) by omega, HT.sIx_none, HT.sIx_nat, List.length_map, Nat.min_eq_left (by omega), List.map_drop, List.take_of_length_le (by rw [List.length_drop, List.length_map]; omega)]
theorem set_cut {β : Type} : ∀ {ts : List β} {k : Nat} {t : β}, k < ts.length → ts.take k ++ ([t] ++ ts.drop (k + 1)) = ts.set k t
 | [], k, t, h => absurd h (Nat.not_lt_zero _)
 | a :: ts, 0, t, h => rfl
 | a :: ts, k + 1, t, h => by
  have := set_cut (ts := ts) (k := k) (t := t) (Nat.lt_of_succ_lt_succ h)
  show a :: (ts.take k ++ ([t] ++ ts.drop (k + 1))) = a :: ts.set k t
  rw [this]
def spLead (C : Addr) : Sp := fun vs H Q _ => ∃ (x a b : Addr) (W : Wa) (n k : Nat) (t : Option Nat) (wd : Str) (ts : List (Option Nat)), vs = [.ref x, .int n, .int k, thV t] ∧ WallAt C H x a b W ∧ W.pegs[n]? = some (some (.note wd ts)) ∧ k < ts.length ∧ ts.length ≤ 1000 ∧
 ∀ H', WallAt C H' x a b (W.lead n k t) → Fr3 x a b H H' → Q .non H'
theorem ok_lead (T : Txt K mg A) : FnOk P w K mg base (CXe P w) 1 A.a_lead A.d_lead ["self", "number", "k", "thread"] (spLead A.C) := by
 refine T.f_lead.okN sc_lead (fun vs H Q E h => ?_) (fun cdv B outer s H vs Q E hr h => ?_)
 · obtain ⟨x, a, b, W, n, k, t, wd, ts, rfl, _⟩ := h
   rfl
 obtain ⟨x, a, b, W, n, k, t, wd, ts, rfl, hW, hp, hk, hz, q⟩ := h
 obtain ⟨dx, ho⟩ := hW.ob
 obtain ⟨Ps, hP, hA⟩ := hW.pg
 obtain ⟨v, hv, hpv⟩ := hA.get hp
 obtain ⟨t1, u1, rfl, h1, h2⟩ := hpv
 have hv' := atI_nat hv
 have hu := hu_of hr
 have nd := sc_lead.nd
 refine ⟨_, (pss_cons (ps_set (i := 4) nd rfl (nm_lead.at rfl (i := 4) rfl rfl) (pe_idx hu (pe_fld (pvn nm_lead rfl rfl 0 rfl rfl) rfl) (pvn nm_lead rfl rfl 1 rfl rfl) (fun _ _ => rfl)))
  (pss_cons (ps_set (i := 5) nd rfl (nm_lead.at rfl (i := 5) rfl rfl) (pe_op op_add_f (pe_op op_add_f (pe_slice sl_f (pe_idx hu (pvn nm_lead rfl rfl 4 rfl rfl) pe_int (fun _ _ => rfl)) po_none (po_some (pvn nm_lead rfl rfl 2 rfl rfl))) (pe_tup (pa_cons (pvn nm_lead rfl rfl 3 rfl rfl) pa_nil))) (pe_slice sl_f (pe_idx hu (pvn nm_lead rfl rfl 4 rfl rfl) pe_int (fun _ _ => rfl)) (po_some (pe_op op_add_f (pvn nm_lead rfl rfl 2 rfl rfl) pe_int)) po_none)))
  (pss_one (ps_asg (pe_tup (pa_cons pe_str (pa_cons (pe_idx hu (pvn nm_lead rfl rfl 4 rfl rfl) pe_int (fun _ _ => rfl)) (pa_cons (pvn nm_lead rfl rfl 5 rfl rfl) pa_nil)))) (pg_sub (pe_fld (pvn nm_lead rfl rfl 0 rfl rfl) rfl) (pvn nm_lead rfl rfl 1 rfl rfl) (set_f hu)))))), ?_⟩
 show tSeq _ _ _ [some (.ref x), some (.int n), some (.int k), some (thV t), none, none] H
 exists 1, ho, T.cl, T.na_pegs, wf_pegs, hP, hv', h1, h2, at1, at2, cut_lo hk
 refine ⟨fun z => ?_, ?_⟩
 · have := z.2
   rw [HT.sIx_nat, Nat.min_eq_left (by omega)] at this
   omega
 intro p1 f1; generalize e_H1 : upd H p1 _ = H1; have n1 := new_at e_H1; have s1 := new_same f1 e_H1
 refine ⟨small (by omega), ?_⟩
 intro p2 f2; generalize e_H2 : upd H1 p2 _ = H2; have n2 := new_at e_H2; have s2 := new_same f2 e_H2
 exists 1, s2 _ _ n1, n2, List.length_take
 refine ⟨small (by omega), fun p3 H3 n3 => ?_⟩
 have s3 := n3.same
 exists 1, s3 _ _ (s2 _ _ (s1 _ _ h1)), s3 _ _ (s2 _ _ (s1 _ _ h2)), at1, at2, cut_hi hk
 refine ⟨fun z => ?_, ?_⟩
 · have := z.1
   rw [show ((k : Int) + 1) = ((k + 1 : Nat) : Int) by omega, HT.sIx_nat, Nat.min_eq_left (by omega)] at this
   omega
 intro p4 f4; generalize e_H4 : upd H3 p4 _ = H4; have n4 := new_at e_H4; have s4 := new_same f4 e_H4
 exists 1, s4 _ _ n3.at, n4, List.length_append, List.length_take, List.length_drop
 refine ⟨small (by omega), fun p5 H5 n5 => ?_⟩
 have s5 := n5.same
 have s05 : Same H H5 := ((((s1.trans s2).trans s3).trans s4).trans s5)
 exists 1, s05 _ _ h1, at1
 refine ⟨small (by omega), ?_⟩
 intro p6 f6; generalize e_H6 : upd H5 p6 _ = H6; have n6 := new_at e_H6; have s6 := new_same f6 e_H6
 have s06 : Same H H6 := s05.trans s6
 have hi : ixN Ps.length (n : Int) = some n := ixN_nat (List.getElem?_eq_some_iff.mp hv).1
 exists 1, s06 _ _ ho, T.cl, T.na_pegs, wf_pegs, s06 _ _ hP, hi
 generalize e7 : upd H6 a _ = H7
 have h5 := n5.at
 rw [List.append_assoc] at h5
 have e : (ts.take k).map thV ++ ([thV t] ++ (ts.drop (k + 1)).map thV) = (ts.set k t).map thV := by
  rw [← set_cut hk]; simp
 rw [e] at h5
 obtain ⟨hW7, fr7⟩ := (hW.same s06).setP (pg := some (.note wd (ts.set k t))) (s06 _ _ hP) e7 ⟨p6, p5, rfl, n6, s6 _ _ h5⟩
 rw [← lead_eq hp (k := k) (t := t)] at hW7
 exact q H7 hW7 ((Fr3.of s06).trans fr7)
def spDrop (C : Addr) : Sp := fun vs H Q _ => ∃ (x a b : Addr) (W : Wa) (h : Nat), vs = [.ref x, .int h] ∧ WallAt C H x a b W ∧ h < W.hooks.length ∧
 ∀ H', WallAt C H' x a b (W.drop h) → Fr3 x a b H H' → Q .non H'
theorem ok_drop (T : Txt K mg A) : FnOk P w K mg base (CXe P w) 1 A.a_drop A.d_drop ["self", "hook"] (spDrop A.C) := by
 refine T.f_drop.okN sc_drop (fun vs H Q E h => ?_) (fun cdv B outer s H vs Q E hr h => ?_)
 · obtain ⟨x, a, b, W, h, rfl, _⟩ := h
   rfl
 obtain ⟨x, a, b, W, h, rfl, hW, hh, q⟩ := h
 obtain ⟨dx, ho⟩ := hW.ob
 have hb := hW.hk
 have hu := hu_of hr
 refine ⟨_, (pss_one (ps_asg pe_non (pg_sub (pe_fld (pvn nm_drop rfl rfl 0 rfl rfl) rfl) (pvn nm_drop rfl rfl 1 rfl rfl) (set_f hu)))), ?_⟩
 show tAsg _ _ _ [some (.ref x), some (.int h)] H
 have hi : ixN W.hooks.length (h : Int) = some h := ixN_nat hh
 exists 1, ho, T.cl, T.na_hooks, wf_hooks, hb, hi
 generalize e1 : upd H b _ = H1
 obtain ⟨hW1, f1⟩ := hW.setH (t := none) e1
 exact q H1 hW1 f1
def spTie (C cN cT : Addr) : Sp := fun vs H Q E => ∃ (x a b : Addr) (W : Wa) (h k o : Nat) (t u : Option Nat), vs = [.ref x, .int h, .int k, .int o] ∧ WallAt C H x a b W ∧ W.hooks[h]? = some t ∧ W.hooks[o]? = some u ∧ (t = none → E (.ref cN) none H) ∧
 ∀ n, t = some n → ∃ wd ts, W.pegs[n]? = some (some (.note wd ts)) ∧ ts.length ≤ 1000 ∧ (ts.length ≤ k → E (.ref cT) none H) ∧ (k < ts.length → ∀ H', WallAt C H' x a b (W.lead n k u) → Fr3 x a b H H' → Q .non H')
theorem ok_tie (T : Txt K mg A) : FnOk P w K mg base (CXe P w) 3 A.a_tie A.d_tie ["self", "hook", "k", "other"] (spTie A.C A.c_NoNote A.c_NoThread) := by
 refine T.f_tie.okE sc_tie (fun vs H Q E h => ?_) (fun cdv B outer s H vs Q E hr h => ?_)
 · obtain ⟨x, a, b, W, h, k, o, t, u, rfl, _⟩ := h
   rfl
 obtain ⟨x, a, b, W, h, k, o, t, u, rfl, hW, ht, hO, q1, q2⟩ := h
 obtain ⟨dx, ho⟩ := hW.ob
 have hb := hW.hk
 have hu := hu_of hr
 refine ⟨_, (pss_cons (ps_expr (pe_meth (pvn nm_tie rfl rfl 0 rfl rfl) T.cl T.mt_thread_of (ok_thread_of T) (hr.mono (by decide)) T.b_thread_of .nil passE (pa_cons (pvn nm_tie rfl rfl 1 rfl rfl) (pa_cons (pvn nm_tie rfl rfl 2 rfl rfl) pa_nil))))
  (pss_one (ps_expr (pe_meth (pvn nm_tie rfl rfl 0 rfl rfl) T.cl T.mt_lead (ok_lead T) (hr.mono (by decide)) T.b_lead .nil passN (pa_cons (pe_idx hu (pe_fld (pvn nm_tie rfl rfl 0 rfl rfl) rfl) (pvn nm_tie rfl rfl 1 rfl rfl) (fun _ _ => rfl)) (pa_cons (pvn nm_tie rfl rfl 2 rfl rfl) (pa_cons (pe_idx hu (pe_fld (pvn nm_tie rfl rfl 0 rfl rfl) rfl) (pvn nm_tie rfl rfl 3 rfl rfl) (fun _ _ => rfl)) pa_nil))))))), ?_⟩
 show tSeq _ _ _ [some (.ref x), some (.int h), some (.int k), some (.int o)] H
 refine step1 fun D1 n1 r1 _ _ => ?_
 exists 1, ho, T.cl, wf_no (show notF "thread_of" = true by decide +kernel)
 refine ⟨x, a, b, W, h, k, t, rfl, hW, ht, q1, fun n hn => ?_⟩
 obtain ⟨wd, ts, hp, hz, q3, q4⟩ := q2 n hn
 refine ⟨wd, ts, hp, q3, fun v hv => n1 _ _ ?_⟩
 have hx := atMap ht
 have hy := atMap hO
 rw [hn] at hx
 exists 1, ho, T.cl, T.na_hooks, wf_hooks, hb, hx, hy, thV, wf_no (show notF "lead" = true by decide +kernel)
 have hk := (List.getElem?_eq_some_iff.mp hv).1
 exact ⟨x, a, b, W, n, k, u, wd, ts, rfl, hW, hp, hk, hz, q4 hk⟩
def spFollow (C cN cT : Addr) : Sp := fun vs H Q E => ∃ (x a b : Addr) (W : Wa) (h k o : Nat) (t : Option Nat), vs = [.ref x, .int h, .int k, .int o] ∧ WallAt C H x a b W ∧ WOk W ∧ W.hooks[h]? = some t ∧ o < W.hooks.length ∧ (t = none → E (.ref cN) none H) ∧
 ∀ n, t = some n → ∃ wd ts, W.pegs[n]? = some (some (.note wd ts)) ∧ ts.length ≤ 1000 ∧ (ts.length ≤ k → E (.ref cT) none H) ∧ (∀ u, ts[k]? = some u → ∀ H', WallAt C H' x a b (W.follow n k o u) → Fr3 x a b H H' → Q (.bl (W.over u).2.isSome) H')
theorem ok_follow (T : Txt K mg A) : FnOk P w K mg base (CXe P w) 3 A.a_follow A.d_follow ["self", "hook", "k", "other"] (spFollow A.C A.c_NoNote A.c_NoThread) := by
 refine T.f_follow.okE sc_follow (fun vs H Q E h => ?_) (fun cdv B outer s H vs Q E hr h => ?_)
 · obtain ⟨x, a, b, W, h, k, o, t, rfl, _⟩ := h
   rfl
 obtain ⟨x, a, b, W, h, k, o, t, rfl, hW, wk, ht, hO, q1, q2⟩ := h
 obtain ⟨dx, ho⟩ := hW.ob
 have hu := hu_of hr
 have nd := sc_follow.nd
 refine ⟨_, (pss_cons (ps_set (i := 4) nd rfl (nm_follow.at rfl (i := 4) rfl rfl) (pe_meth (pvn nm_follow rfl rfl 0 rfl rfl) T.cl T.mt_moved_over (ok_moved_over T) (hr.mono (by decide)) T.b_moved_over .nil passN (pa_cons (pe_meth (pvn nm_follow rfl rfl 0 rfl rfl) T.cl T.mt_thread_of (ok_thread_of T) (hr.mono (by decide)) T.b_thread_of .nil passE (pa_cons (pvn nm_follow rfl rfl 1 rfl rfl) (pa_cons (pvn nm_follow rfl rfl 2 rfl rfl) pa_nil))) pa_nil)))
  (pss_cons (ps_expr (pe_meth (pvn nm_follow rfl rfl 0 rfl rfl) T.cl T.mt_lead (ok_lead T) (hr.mono (by decide)) T.b_lead .nil passN (pa_cons (pe_idx hu (pe_fld (pvn nm_follow rfl rfl 0 rfl rfl) rfl) (pvn nm_follow rfl rfl 1 rfl rfl) (fun _ _ => rfl)) (pa_cons (pvn nm_follow rfl rfl 2 rfl rfl) (pa_cons (pvn nm_follow rfl rfl 4 rfl rfl) pa_nil)))))
  (pss_cons (ps_asg (pvn nm_follow rfl rfl 4 rfl rfl) (pg_sub (pe_fld (pvn nm_follow rfl rfl 0 rfl rfl) rfl) (pvn nm_follow rfl rfl 3 rfl rfl) (set_f hu)))
  (pss_one (ps_ret (pe_cmpR op_isnot_f (pvn nm_follow rfl rfl 4 rfl rfl) pe_non (nomark _))))))), ?_⟩
 show tSeq _ _ _ [some (.ref x), some (.int h), some (.int k), some (.int o), none] H
 refine step1 fun D1 n1 r1 _ _ => ?_
 exists 1, ho, T.cl, wf_no (show notF "thread_of" = true by decide +kernel), wf_no (show notF "moved_over" = true by decide +kernel)
 refine ⟨x, a, b, W, h, k, t, rfl, hW, ht, q1, fun n hn => ?_⟩
 obtain ⟨wd, ts, hp, hz, q3, q4⟩ := q2 n hn
 refine ⟨wd, ts, hp, q3, fun u hv => ?_⟩
 have hn' : W.Near n := wk.hk t (List.mem_of_getElem? ht) n hn
 have tk := thr_tok wk hn' hp hv
 refine ⟨x, a, b, W, u, rfl, hW, wk.toPOk, tk, fun H1 hW1 f1 => n1 _ _ ?_⟩
 obtain ⟨_, _, ex⟩ := over_ok wk.toPOk tk
 obtain ⟨dx1, ho1⟩ := hW1.ob
 have hb1 := hW1.hk
 rw [ex.hooks] at hb1
 have hx := atMap ht
 rw [hn] at hx
 have hp1 : (W.over u).1.pegs[n]? = some (some (.note wd ts)) := by rw [ex.near n hn']; exact hp
 refine step1 fun D2 n2 r2 _ _ => ?_
 exists 1, ho1, T.cl, T.na_hooks, wf_hooks, hb1, hx, thV_some, wf_no (show notF "lead" = true by decide +kernel)
 refine ⟨x, a, b, (W.over u).1, n, k, (W.over u).2, wd, ts, rfl, hW1, hp1, (List.getElem?_eq_some_iff.mp hv).1, hz, fun H2 hW2 f2 => n2 _ _ ?_⟩
 obtain ⟨dx2, ho2⟩ := hW2.ob
 have hb2 := hW2.hk
 have hk2 : ((W.over u).1.lead n k (W.over u).2).hooks = W.hooks := by rw [lead_eq hp1]; exact ex.hooks
 have hi : ixN ((W.over u).1.lead n k (W.over u).2).hooks.length (o : Int) = some o := by rw [hk2]; exact ixN_nat hO
 refine step1 fun D3 n3 r3 _ _ => ?_
 exists 1, ho2, T.cl, T.na_hooks, wf_hooks, hb2, hi
 refine n3 _ _ ?_
 generalize e3 : upd H2 b _ = H3
 obtain ⟨hW3, f3⟩ := hW2.setH (t := (W.over u).2) e3
 have q5 := q4 u hv H3 hW3 (f1.trans (f2.trans f3))
 cases hov : (W.over u).2 with
 | none =>
  rw [hov] at q5
  exists 1, thV
  exact q5
 | some m =>
  rw [hov] at q5
  exists 1, thV
  exact q5
end
end PW
namespace PW
open PySem L2 WM
section
variable {P : Program} {w : World} {K : PySem.W.Frag} {mg : Str → Option Value} {base : Heap} {A : Adr}
theorem cut_mid {xs : List V} {lo n : Nat} : cutV xs (some (lo : Int)) (some ((lo : Int) + (n : Int))) = (xs.drop lo).take n := by
 unfold cutV
 rw [show ((lo : Int) + (n : Int)) = ((lo + n : Nat) : Int) by omega, HT.sIx_nat, HT.sIx_nat]
 by_cases h : lo ≤ xs.length
 · rw [Nat.min_eq_left h]
   by_cases h2 : lo + n ≤ xs.length
   · rw [Nat.min_eq_left h2, Nat.add_sub_cancel_left]
   · rw [Nat.min_eq_right (by omega), List.take_of_length_le (by rw [List.length_drop]; omega), List.take_of_length_le (by rw [List.length_drop]; omega)]
 · rw [List.drop_of_length_le (by omega), List.drop_of_length_le (by omega)]; simp
theorem PegsAt.sub {H : Hp} {P : List V} {ps : List (Option (Peg Str))} (h : PegsAt H P ps) (lo n : Nat) : PegsAt H ((P.drop lo).take n) ((ps.drop lo).take n) := by
 refine ⟨by simp [h.len], fun i v pg h1 h2 => ?_⟩
 rw [List.getElem?_take] at h1 h2
 split at h1
 · rename_i hi
   rw [if_pos hi] at h2
   rw [List.getElem?_drop] at h1 h2
   exact h.at_ _ v pg h1 h2
 · cases h1
theorem same_upd {H H' : Hp} {D : Addr} {o : HO} (h : Same H H') (hD : H D = none) : Same H (upd H' D o) := fun c u q => by rw [upd_ne (ne_of_none q hD)]; exact h c u q
def spKept (C : Addr) : Sp := fun vs H Q _ => ∃ (x a b : Addr) (W : Wa), vs = [.ref x] ∧ WallAt C H x a b W ∧ W.low ≤ W.size ∧ W.size ≤ 1000 ∧ ∀ H', Same H H' → Q (.int W.kept) H'
theorem ok_kept_back (T : Txt K mg A) : FnOk P w K mg base (CXe P w) 2 A.a_kept_back A.d_kept_back ["self"] (spKept A.C) := by
 refine T.f_kept_back.okN sc_kept_back (fun vs H Q E h => ?_) (fun cdv B outer s H vs Q E hr h => ?_)
 · obtain ⟨x, a, b, W, rfl, _⟩ := h
   rfl
 obtain ⟨x, a, b, W, rfl, hW, hl, hz, q⟩ := h
 obtain ⟨dx, ho⟩ := hW.ob
 obtain ⟨Ps, hP, hA⟩ := hW.pg
 have hu := hu_of hr
 have hq : _ + 1 + 0 < cLine := hu_of hr
 have nd := sc_kept_back.nd
 refine ⟨_, (pss_cons (ps_set (i := 1) nd rfl (nm_kept_back.at rfl (i := 1) rfl rfl) (pe_meth0 (pvn nm_kept_back rfl rfl 0 rfl rfl) T.cl T.mt_far_low (ok_far_low T) (hr.mono (by decide)) T.b_far_low .nil passN))
  (pss_cons (ps_set (i := 2) nd rfl (nm_kept_back.at rfl (i := 2) rfl rfl) (pe_slice sl_f (pe_fld (pvn nm_kept_back rfl rfl 0 rfl rfl) rfl) (po_some (pvn nm_kept_back rfl rfl 1 rfl rfl)) (po_some (pe_op op_add_f (pvn nm_kept_back rfl rfl 1 rfl rfl) (pe_fld (pvn nm_kept_back rfl rfl 0 rfl rfl) rfl)))))
  (pss_one (ps_ret (pe_callB call_len_f rfl T.z_len bt_len (pa_cons (pe_comp (i := 3) (CompScope.mk' (fsc := defScope s_kept_back) (cl := []) (clN := []) (N := ["self", "start", "far", "peg"]) rfl rfl (sub_of sub_nil) rfl rfl (by decide +kernel)) nd rfl rfl (pi_seq (pvn nm_kept_back rfl rfl 2 rfl rfl)) (fun _ _ _ _ _ => (pts_one (PW.pt (pw_and (pt_cmpR op_isnot_f (pv 3) pe_non (nomark _)) (pw_and1 (pt_cmpR (op_eq_f hq) (pe_idx hu (pv 3) pe_int (fun _ _ => rfl)) pe_str (nomark _))))))) (fun _ _ _ _ _ => (pv 3))) pa_nil)))))), ?_⟩
 show tSeq _ _ _ [some (.ref x), none, none, none] H
 exists 1, ho, T.cl, wf_no (show notF "far_low" = true by decide +kernel)
 refine ⟨x, a, b, W, rfl, hW, hl, ?_⟩
 exists 1, ho, T.cl, T.na_size, wf_size, T.na_pegs, wf_pegs, hP, cut_mid
 intro p1 f1; generalize e_H1 : upd H p1 _ = H1; have n1 := new_at e_H1; have s1 := new_same f1 e_H1
 have hA1 := (hA.sub W.far W.size).mono (fun c xs h => s1 _ _ h)
 refine comp_seq (xs := (Ps.drop W.far).take W.size) (by rw [n1]; rfl) fun D hD => ?_
 refine ⟨fun j ys H' => H' D = some (.lst ys) ∧ Same H1 H' ∧ ys.length = (((W.pegs.drop W.far).take W.size).take j).countP isNote, ?_, ?_, ?_, ?_⟩
 · generalize e : upd H1 D _ = H2
   exact ⟨new_at e, new_same hD e, by simp⟩
 · rintro j ys H' hj ⟨h1, h2, h3⟩
   exact ⟨h1, by rw [h2 _ _ n1, n1]⟩
 · rintro j v ys H' N hN hv ⟨h1, h2, h3⟩
   obtain ⟨pg, hpg⟩ : ∃ pg, ((W.pegs.drop W.far).take W.size)[j]? = some pg := ⟨_, List.getElem?_eq_getElem (by rw [← hA1.len]; exact (List.getElem?_eq_some_iff.mp hv).1)⟩
   have pv := hA1.at_ j v pg hv hpg
   have e : (((W.pegs.drop W.far).take W.size).take (j + 1)).countP isNote = ys.length + (if isNote pg = true then 1 else 0) := by
    rw [List.take_succ, hpg, List.countP_append, ← h3]
    simp [List.countP_cons]
   have hlen : ys.length < sizeLine := small1000 (by
    have h4 : ys.length ≤ W.size := by
     rw [h3]
     refine Nat.le_trans List.countP_le_length ?_
     simp; omega
    omega)
   cases pg with
   | none =>
    obtain rfl : v = .non := pv
    exists 1, L2.ap_seq
    exact hN _ _ ⟨h1, h2, by rw [e]; rfl⟩
   | some pg => cases pg with
    | note wd ts =>
     obtain ⟨t1, u1, rfl, g1, g2⟩ := pv
     exists 1, h2 _ _ g1, at0, h1
     refine ⟨hlen, hN _ _ ⟨new_at rfl, same_upd h2 hD, by rw [e, List.length_append]; rfl⟩⟩
    | mark m =>
     obtain ⟨t1, rfl, g1⟩ := pv
     exists 1, h2 _ _ g1, at0, moved_note
     exact hN _ _ ⟨h1, h2, by rw [e]; rfl⟩
 · rintro ys H' ⟨h1, h2, h3⟩
   exists 1, h1
   rw [h3, List.take_of_length_le (by rw [hA1.len]; exact Nat.le_refl _)]
   exact q H' (s1.trans h2)
def iV (l : List Nat) : List V := l.map fun j : Nat => .int (j : Int)
def spPut (C cF : Addr) : Sp := fun vs H Q E => ∃ (x a b oa : Addr) (W : Wa) (h : Nat) (wd : Str) (os : List Nat), vs = [.ref x, .int h, .str wd, .ref oa] ∧ WallAt C H x a b W ∧ POk W ∧ W.size ≤ 1000 ∧ h < W.hooks.length ∧ sqOf (H oa) = some (iV os) ∧ os.length ≤ 1000 ∧ (∀ j ∈ os, j < W.hooks.length) ∧
 (W.low + W.size - W.free ≤ W.kept → ∀ H', Same H H' → E (.ref cF) none H') ∧ (W.kept < W.low + W.size - W.free → ∀ H', WallAt C H' x a b (W.put h wd os) → Fr3 x a b H H' → Q .non H')
theorem ok_put (T : Txt K mg A) : FnOk P w K mg base (CXe P w) 3 A.a_put A.d_put ["self", "hook", "word", "others"] (spPut A.C A.c_Full) := by
 refine T.f_put.okE sc_put (fun vs H Q E h => ?_) (fun cdv B outer s H vs Q E hr h => ?_)
 · obtain ⟨x, a, b, oa, W, h, wd, os, rfl, _⟩ := h
   rfl
 obtain ⟨x, a, b, oa, W, h, wd, os, rfl, hW, pk, hz, hh, hoa, hoz, hos, q1, q2⟩ := h
 obtain ⟨dx, ho⟩ := hW.ob
 have hu := hu_of hr
 have nd := sc_put.nd
 have hlo : W.low ≤ W.size := by have := pk.lo; omega
 refine ⟨_, (pss_cons (ps_set (i := 4) nd rfl (nm_put.at rfl (i := 4) rfl rfl) (pe_op op_sub (pe_op op_add_f (pe_fld (pvn nm_put rfl rfl 0 rfl rfl) rfl) (pe_fld (pvn nm_put rfl rfl 0 rfl rfl) rfl)) (pe_fld (pvn nm_put rfl rfl 0 rfl rfl) rfl)))
  (pss_cons (ps_if (pt_cmpR op_le (pvn nm_put rfl rfl 4 rfl rfl) (pe_meth0 (pvn nm_put rfl rfl 0 rfl rfl) T.cl T.mt_kept_back (ok_kept_back T) (hr.mono (by decide)) T.b_kept_back .nil passN) (nomark _)) (pss_one (ps_raise rfl T.m_Full T.x_Full rfl raiseE (pa_cons pe_str pa_nil))) pss_nil)
  (pss_cons (ps_set (i := 5) nd rfl (nm_put.at rfl (i := 5) rfl rfl) (pe_callTy call_tuple_f rfl T.z_tuple bt_tuple (pa_cons (pe_comp (i := 6) (CompScope.mk' (fsc := defScope s_put) (cl := [("self", s.heap.objs.size + 1)]) (clN := ["self"]) (N := ["self", "hook", "word", "others", "left", "threads", "other"]) rfl rfl (sub_of (sub_cons rfl sub_nil)) rfl rfl (by decide +kernel)) nd rfl rfl (pi_seq (pvn nm_put rfl rfl 3 rfl rfl)) (fun _ _ _ _ _ => pts_nil) (fun _ _ _ _ _ => (pe_idx hu (pe_fldB (K := K) rfl (pv 0) rfl) (pv 6) (fun _ _ => rfl)))) pa_nil)))
  (pss_one (ps_asg (pe_meth (pvn nm_put rfl rfl 0 rfl rfl) T.cl T.mt_hang (ok_hang T) (hr.mono (by decide)) T.b_hang .nil passN (pa_cons (pe_tup (pa_cons pe_str (pa_cons (pvn nm_put rfl rfl 2 rfl rfl) (pa_cons (pvn nm_put rfl rfl 5 rfl rfl) pa_nil)))) pa_nil)) (pg_sub (pe_fld (pvn nm_put rfl rfl 0 rfl rfl) rfl) (pvn nm_put rfl rfl 1 rfl rfl) (set_f hu))))))), ?_⟩
 show tSeq _ _ _ [some (.ref x), some (.int h), some (.str wd), some (.ref oa), none, none, none] H
 refine step1 fun D1 n1 r1 _ _ => ?_
 exists 1, ho, T.cl, T.na_low, T.na_size, T.na_free, wf_low, wf_size, wf_free
 refine n1 _ _ ?_
 have hf2 := pk.f2
 by_cases hk : W.low + W.size - W.free ≤ W.kept
 · have e : ((W.low : Int) + (W.size : Int) - (W.free : Int)) ≤ (W.kept : Int) := by omega
   refine stepTs (fun R hR => by exists 1, ho, T.cl, wf_no (show notF "kept_back" = true by decide +kernel); refine ⟨x, a, b, W, rfl, hW, hlo, hz, fun H1 s1 => ?_⟩; exists 1, e; exact hR H1 s1) fun D2 H1 s1 n2 r2 _ _ => ?_
   exact ⟨small (by simp), q1 hk H1 s1⟩
 · have e : ¬ ((W.low : Int) + (W.size : Int) - (W.free : Int)) ≤ (W.kept : Int) := by omega
   have q2 := q2 (by omega)
   refine stepFs (fun R hR => by exists 1, ho, T.cl, wf_no (show notF "kept_back" = true by decide +kernel); refine ⟨x, a, b, W, rfl, hW, hlo, hz, fun H1 s1 => ?_⟩; exists 1, e; exact hR H1 s1) fun H1 s1 => ?_
   refine step1 fun D2 n2 r2 _ _ => ?_
   exists 1, L2.ap_seq
   have hoa1 : sqOf (H1 oa) = some (iV os) := by
    cases e2 : H oa with
    | none => rw [e2] at hoa; cases hoa
    | some o => rw [s1 _ _ e2, ← e2]; exact hoa
   refine comp_seq hoa1 fun D hD => ?_
   refine ⟨fun j ys H' => H' D = some (.lst ys) ∧ Same H1 H' ∧ ys = (W.led (os.take j)).map thV, ?_, ?_, ?_, ?_⟩
   · generalize e : upd H1 D _ = H2
     exact ⟨new_at e, new_same hD e, by simp [Wl.led]⟩
   · rintro j ys H' hj ⟨h1, h2, h3⟩
     refine ⟨h1, ?_⟩
     cases e2 : H1 oa with
     | none => rw [e2] at hoa1; cases hoa1
     | some o => exact h2 _ _ e2
   · rintro j v ys H' N hN hv ⟨h1, h2, h3⟩
     obtain ⟨o, hO, rfl⟩ : ∃ o : Nat, os[j]? = some o ∧ v = .int o := by
      unfold iV at hv
      rw [List.getElem?_map] at hv
      cases e2 : os[j]? with
      | none => rw [e2] at hv; cases hv
      | some o => rw [e2] at hv; cases hv; exact ⟨o, rfl, rfl⟩
     have hol := hos o (List.mem_of_getElem? hO)
     have eo : W.hooks[o]? = some W.hooks[o] := List.getElem?_eq_getElem hol
     have hy : ys.length < sizeLine := small1000 (by
      rw [h3]; unfold Wl.led
      rw [List.length_map, List.length_map, List.length_take]; omega)
     exists 1, h2 _ _ (s1 _ _ ho), T.cl, T.na_hooks, wf_hooks, h2 _ _ (s1 _ _ hW.hk), atMap eo, h1, hy
     refine hN _ _ ⟨new_at rfl, same_upd h2 hD, ?_⟩
     rw [h3, List.take_succ, hO]
     unfold Wl.led
     rw [List.map_append, List.map_append]
     simp [eo]
   · rintro ys H2 ⟨h1, h2, h3⟩
     rw [show (iV os).length = os.length by unfold iV; simp, List.take_length] at h3
     exists 1, h1
     intro p3 f3; generalize e_H3 : upd H2 p3 _ = H3; have n3 := new_at e_H3; have s3 := new_same f3 e_H3
     refine n2 _ _ ?_
     have s03 : Same H H3 := (s1.trans h2).trans s3
     exists 1, s03 _ _ ho, T.cl, wf_no (show notF "hang" = true by decide +kernel)
     refine ⟨small (by omega), ?_⟩
     intro p4 f4; generalize e_H4 : upd H3 p4 _ = H4; have n4 := new_at e_H4; have s4 := new_same f4 e_H4
     have s04 : Same H H4 := s03.trans s4
     rw [h3] at n3
     refine ⟨x, a, b, W, _, some (.note wd (W.led os)), rfl, hW.same s04, ⟨p4, p3, rfl, n4, s4 _ _ n3⟩, by have := pk.len; have := pk.lo; omega, fun H5 hW5 f5 => ?_⟩
     obtain ⟨dx5, ho5⟩ := hW5.ob
     have hb5 := hW5.hk
     have hi : ixN (hung W (some (.note wd (W.led os)))).hooks.length (h : Int) = some h := ixN_nat hh
     exists 1, ho5, T.cl, T.na_hooks, wf_hooks, hb5, hi
     generalize e6 : upd H5 b _ = H6
     obtain ⟨hW6, f6⟩ := hW5.setH (t := some W.free) e6
     exact q2 H6 hW6 ((Fr3.of s04).trans (f5.trans f6))
end
end PW
namespace PW
open PySem L2 WM
theorem overAll_snoc : ∀ (ts : List (Option Nat)) (W : Wa) (t : Option Nat), (W.overAll (ts ++ [t])).1 = ((W.overAll ts).1.over t).1 ∧ (W.overAll (ts ++ [t])).2 = (W.overAll ts).2 ++ [((W.overAll ts).1.over t).2]
 | [], W, t => ⟨rfl, rfl⟩
 | s :: ts, W, t => by
  obtain ⟨h1, h2⟩ := overAll_snoc ts (W.over s).1 t
  refine ⟨h1, ?_⟩
  show (W.over s).2 :: ((W.over s).1.overAll (ts ++ [t])).2 = _
  rw [h2]; rfl
theorem take_snoc {β : Type} {l : List β} {i : Nat} {t : β} (h : l[i]? = some t) : l.take (i + 1) = l.take i ++ [t] := by rw [List.take_succ, h]; rfl
section
variable {P : Program} {w : World} {K : PySem.W.Frag} {mg : Str → Option Value} {base : Heap} {A : Adr}
theorem ov_bare {W : Wa} {n : Nat} (h : W.isFar n = true) (e : W.pegs[n]? = none ∨ W.pegs[n]? = some none) : W.over (some n) = (W, some n) := by
 show (if W.isFar n = false then _ else _) = _; rw [if_neg (by rw [h]; exact Bool.noConfusion)]
 rcases e with e | e <;> rw [e]
theorem over_hooks (V : Wa) (h : List (Option Nat)) (t : Option Nat) : ({ V with hooks := h } : Wa).over t = ({ (V.over t).1 with hooks := h }, (V.over t).2) := by
 cases t with
 | none => rfl
 | some n =>
  cases e : V.isFar n with
  | false => rw [ov_near e, ov_near (W := { V with hooks := h }) e]
  | true =>
   cases e2 : V.pegs[n]? with
   | none => rw [ov_bare e (.inl e2), ov_bare (W := { V with hooks := h }) e (.inl e2)]
   | some o => cases o with
    | none => rw [ov_bare e (.inr e2), ov_bare (W := { V with hooks := h }) e (.inr e2)]
    | some pg => cases pg with
     | note w ts => rw [ov_note e e2, ov_note (W := { V with hooks := h }) e e2]
     | mark m => rw [ov_mark e e2, ov_mark (W := { V with hooks := h }) e e2]
theorem pok_hooks {V : Wa} (p : POk V) (h : List (Option Nat)) : POk { V with hooks := h } := ⟨p.sz, p.len, p.lo, p.f1, p.f2, p.near, p.bare, p.rest, p.look, p.thr, p.mark, p.minj, p.fthr, p.room⟩
def bg (W : Wa) (i : Nat) : Wa := { (W.begin0.overAll (W.hooks.take i)).1 with hooks := (W.begin0.overAll (W.hooks.take i)).2 ++ W.hooks.drop i }
def spBegin (C cB : Addr) : Sp := fun vs H Q E => ∃ (x a b : Addr) (W : Wa), vs = [.ref x] ∧ WallAt C H x a b W ∧ WOk W ∧ W.hooks.length ≤ 1000 ∧ (W.moving = true → E (.ref cB) none H) ∧
 (W.moving = false → ∀ H', WallAt C H' x a b W.begin → Fr3 x a b H H' → Q .non H')
theorem ok_begin (T : Txt K mg A) : FnOk P w K mg base (CXe P w) 3 A.a_begin A.d_begin ["self"] (spBegin A.C A.c_Busy) := by
 refine T.f_begin.okE sc_begin (fun vs H Q E h => ?_) (fun cdv B outer s H vs Q E hr h => ?_)
 · obtain ⟨x, a, b, W, rfl, _⟩ := h
   rfl
 obtain ⟨x, a, b, W, rfl, hW, wk, hz, q1, q2⟩ := h
 obtain ⟨dx, ho⟩ := hW.ob
 have hu := hu_of hr
 have nd := sc_begin.nd
 refine ⟨_, (pss_cons (ps_if (pt_val (pe_fld (pvn nm_begin rfl rfl 0 rfl rfl) rfl)) (pss_one (ps_raise rfl T.m_Busy T.x_Busy rfl raiseE (pa_cons pe_str pa_nil))) pss_nil)
  (pss_cons (ps_fld (pvn nm_begin rfl rfl 0 rfl rfl) (pe_meth0 (pvn nm_begin rfl rfl 0 rfl rfl) T.cl T.mt_far_low (ok_far_low T) (hr.mono (by decide)) T.b_far_low .nil passN) rfl)
  (pss_cons (ps_fld (pvn nm_begin rfl rfl 0 rfl rfl) (pe_fld (pvn nm_begin rfl rfl 0 rfl rfl) rfl) rfl)
  (pss_cons (ps_fld (pvn nm_begin rfl rfl 0 rfl rfl) (pe_fld (pvn nm_begin rfl rfl 0 rfl rfl) rfl) rfl)
  (pss_cons (ps_fld (pvn nm_begin rfl rfl 0 rfl rfl) pe_bl rfl)
  (pss_one (PS.nox (ps_for PassesOwn.never rfl (pi_range1 rfl T.z_range (pa_cons (pe_callB call_len_f rfl T.z_len bt_len (pa_cons (pe_fld (pvn nm_begin rfl rfl 0 rfl rfl) rfl) pa_nil)) pa_nil)) (pg_name (i := 1) nd rfl (nm_begin.at rfl (i := 1) rfl rfl)) (pss_one (ps_asg (pe_meth (pvn nm_begin rfl rfl 0 rfl rfl) T.cl T.mt_moved_over (ok_moved_over T) (hr.mono (by decide)) T.b_moved_over .nil passN (pa_cons (pe_idx hu (pe_fld (pvn nm_begin rfl rfl 0 rfl rfl) rfl) (pvn nm_begin rfl rfl 1 rfl rfl) (fun _ _ => rfl)) pa_nil)) (pg_sub (pe_fld (pvn nm_begin rfl rfl 0 rfl rfl) rfl) (pvn nm_begin rfl rfl 1 rfl rfl) (set_f hu)))))))))))), ?_⟩
 show tSeq _ _ _ [some (.ref x), none] H
 cases hm : W.moving with
 | true =>
  refine stepT (fun R hR => by exists 1, ho, T.cl, T.na_moving, wf_moving, hm; exact hR) fun D1 n1 r1 _ _ => ?_
  exact ⟨small (by simp), q1 hm⟩
 | false =>
  refine stepF (fun R hR => by exists 1, ho, T.cl, T.na_moving, wf_moving, hm; exact hR) ?_
  refine step1 fun D2 n2 r2 _ _ => ?_
  exists 1, ho, T.cl, wf_no (show notF "far_low" = true by decide +kernel)
  refine ⟨x, a, b, W, rfl, hW, by have := wk.lo; omega, ?_⟩
  exists 1, ho, T.cl, T.na_low, wf_len
  refine n2 _ _ ?_
  rw [ws_low]
  generalize e1 : upd H x _ = H1
  obtain ⟨hW1, f1⟩ := hW.setF ho e1 rfl rfl
  have ho1 := new_at e1
  refine step1 fun D3 n3 r3 _ _ => ?_
  exists 1, ho1, T.cl, T.na_low, T.na_free, wf_low, wf_len
  refine n3 _ _ ?_
  rw [ws_free]
  generalize e2 : upd H1 x _ = H2
  obtain ⟨hW2, f2⟩ := hW1.setF ho1 e2 rfl rfl
  have ho2 := new_at e2
  refine step1 fun D4 n4 r4 _ _ => ?_
  exists 1, ho2, T.cl, T.na_low, T.na_looked, wf_low, wf_len
  refine n4 _ _ ?_
  rw [ws_looked]
  generalize e3 : upd H2 x _ = H3
  obtain ⟨hW3, f3⟩ := hW2.setF ho2 e3 rfl rfl
  have ho3 := new_at e3
  refine step1 fun D5 n5 r5 _ _ => ?_
  exists 1, ho3, T.cl, T.na_moving, wf_len
  refine n5 _ _ ?_
  rw [ws_moving]
  generalize e4 : upd H3 x _ = H4
  obtain ⟨hW4, f4⟩ := hW3.setF ho3 e4 rfl rfl
  have ho4 := new_at e4
  have hb4 := hW4.hk
  exists 1, ho4, T.cl, T.na_hooks, wf_hooks, hb4
  have b0 := begin0_ok wk hm
  have e0 : bg W 0 = W.begin0 := by unfold bg; simp [Wl.overAll, Wl.begin0]
  refine ⟨by omega, by omega, ?_⟩
  rw [Int.toNat_natCast]
  refine forW_range (fun i σ H' => (∃ v, σ = [some (.ref x), v]) ∧ WallAt A.C H' x a b (bg W i) ∧ Fr3 x a b H H') ⟨⟨none, rfl⟩, by rw [e0]; exact hW4, f1.trans (f2.trans (f3.trans f4))⟩ ?_ ?_
  · rintro i σ H5 hi ⟨⟨v, rfl⟩, hW5, f5⟩
    obtain ⟨dx5, ho5⟩ := hW5.ob
    have hb5 := hW5.hk
    have hsub : ∀ t ∈ W.hooks.take i, TOk W.begin0 t := fun t h => b0.2 t (List.mem_of_mem_take h)
    obtain ⟨pki, _, exi, leni⟩ := overAll_ok b0.1 hsub
    have et : W.hooks[i]? = some W.hooks[i] := List.getElem?_eq_getElem hi
    obtain ⟨sn1, sn2⟩ := overAll_snoc (W.hooks.take i) W.begin0 W.hooks[i]
    rw [← take_snoc et] at sn1 sn2
    have l5 : (W.begin0.overAll (W.hooks.take i)).2.length = i := by rw [leni, List.length_take]; omega
    have h5 : (bg W i).hooks[i]? = some W.hooks[i] := by
     show ((W.begin0.overAll (W.hooks.take i)).2 ++ W.hooks.drop i)[i]? = _
     rw [List.getElem?_append_right (by omega), l5, Nat.sub_self, List.getElem?_drop]; exact et
    rw [show ((0 : Int) + (i : Int)) = (i : Int) by omega]
    exists 1, ho5, T.cl, T.na_hooks, wf_hooks, hb5, atMap h5, wf_no (show notF "moved_over" = true by decide +kernel)
    refine ⟨x, a, b, bg W i, W.hooks[i], rfl, hW5, pok_hooks pki _, exi.tok (b0.2 _ (List.mem_of_getElem? et)), fun H6 hW6 f6 => ?_⟩
    have eov := over_hooks (W.begin0.overAll (W.hooks.take i)).1 ((W.begin0.overAll (W.hooks.take i)).2 ++ W.hooks.drop i) W.hooks[i]
    change (bg W i).over W.hooks[i] = _ at eov
    rw [eov] at hW6 ⊢
    obtain ⟨dx6, ho6⟩ := hW6.ob
    have hb6 := hW6.hk
    have hix : ixN ((W.begin0.overAll (W.hooks.take i)).2 ++ W.hooks.drop i).length (i : Int) = some i := ixN_nat (by rw [List.length_append, l5, List.length_drop]; omega)
    exists 1, ho6, T.cl, T.na_hooks, wf_hooks, hb6, hix
    generalize e7 : upd H6 b _ = H7
    obtain ⟨hW7, f7⟩ := hW6.setH (n := i) (t := ((W.begin0.overAll (W.hooks.take i)).1.over W.hooks[i]).2) e7
    refine ⟨?_, f5.trans (f6.trans f7)⟩
    have e : bg W (i + 1) = { ({ ((W.begin0.overAll (W.hooks.take i)).1.over W.hooks[i]).1 with hooks := (W.begin0.overAll (W.hooks.take i)).2 ++ W.hooks.drop i } : Wa) with hooks := ((W.begin0.overAll (W.hooks.take i)).2 ++ W.hooks.drop i).set i ((W.begin0.overAll (W.hooks.take i)).1.over W.hooks[i]).2 } := by
     unfold bg
     rw [sn1, sn2, List.set_append_right _ _ (by omega), l5, Nat.sub_self, List.drop_eq_getElem_cons hi, List.set_cons_zero, List.append_assoc, List.singleton_append]
    rw [e]; exact hW7
  · rintro σ H5 ⟨_, hW5, f5⟩
    refine q2 hm H5 ?_ f5
    have e : bg W W.hooks.length = W.begin := by unfold bg Wl.begin; simp
    rw [← e]; exact hW5
end
end PW
namespace PW
open PySem L2 WM
def RowsLe (c : Nat) (W : Wa) : Prop := ∀ (w : Str) (ts : List (Option Nat)), some (Peg.note w ts) ∈ W.pegs → ts.length ≤ c
theorem over_rows {c : Nat} {W : Wa} (h : RowsLe c W) (t : Option Nat) : RowsLe c (W.over t).1 := by
 cases t with
 | none => exact h
 | some n =>
  cases e : W.isFar n with
  | false => rw [ov_near e]; exact h
  | true =>
   cases e2 : W.pegs[n]? with
   | none => rw [ov_bare e (.inl e2)]; exact h
   | some o => cases o with
    | none => rw [ov_bare e (.inr e2)]; exact h
    | some pg => cases pg with
     | mark m => rw [ov_mark e e2]; exact h
     | note w ts =>
      rw [ov_note e e2]
      intro w' ts' hm
      rcases mem_set hm with hm | z
      · rcases mem_set hm with hm | z
        · exact h _ _ hm
        · cases z; exact h _ _ (List.mem_of_getElem? e2)
      · cases z
theorem overAll_rows {c : Nat} : ∀ {ts : List (Option Nat)} {W : Wa}, RowsLe c W → RowsLe c (W.overAll ts).1
 | [], _, h => h
 | t :: ts, W, h => overAll_rows (ts := ts) (over_rows h t)
theorem lead_rows {c : Nat} {W : Wa} {n k : Nat} {t : Option Nat} (h : RowsLe c W) : RowsLe c (W.lead n k t) := by
 unfold Wl.lead
 split
 · rename_i w ts e
   intro w' ts' hm
   rcases mem_set hm with hm | z
   · exact h _ _ hm
   · cases z; rw [List.length_set]; exact h _ _ (List.mem_of_getElem? e)
 · exact h
theorem follow_rows {c : Nat} {W : Wa} {n k o : Nat} {t : Option Nat} (h : RowsLe c W) : RowsLe c (W.follow n k o t) := lead_rows (over_rows h t)
theorem put_rows {c : Nat} {W : Wa} {h : Nat} {w : Str} {os : List Nat} (hr : RowsLe c W) (ho : os.length ≤ c) : RowsLe c (W.put h w os) := by
 intro w' ts' hm
 rcases mem_set hm with hm | z
 · exact hr _ _ hm
 · cases z; unfold Wl.led; rw [List.length_map]; exact ho
end PW
namespace PW
open PySem L2 WM
inductive Ran : Wa → Wa → Prop
 | fin {W : Wa} : W.looked = W.free → Ran W W.step
 | go {W W' : Wa} : W.looked ≠ W.free → Ran W.step W' → Ran W W'
def toRound (W : Wa) : Wa := if W.moving = true then W else W.begin
section
variable {P : Program} {w : World} {K : PySem.W.Frag} {mg : Str → Option Value} {base : Heap} {A : Adr}
def newW (n c : Nat) : Wa := { size := n, pegs := List.replicate (2 * n) none, hooks := List.replicate c none, low := 0, free := 0, moving := false, looked := 0 }
theorem in_size {v0 : V} : putF "size" v0 [] = ([("size", v0)] : List (Str × V)) := by
 rfl
theorem in_pegs {v0 v1 : V} : putF "pegs" v1 [("size", v0)] = ([("size", v0), ("pegs", v1)] : List (Str × V)) := by
 rw [pf_ne (by decide +kernel)]; rfl
theorem in_hooks {v0 v1 v2 : V} : putF "hooks" v2 [("size", v0), ("pegs", v1)] = ([("size", v0), ("pegs", v1), ("hooks", v2)] : List (Str × V)) := by
 rw [pf_ne (by decide +kernel), pf_ne (by decide +kernel)]; rfl
theorem in_low {v0 v1 v2 v3 : V} : putF "low" v3 [("size", v0), ("pegs", v1), ("hooks", v2)] = ([("size", v0), ("pegs", v1), ("hooks", v2), ("low", v3)] : List (Str × V)) := by
 rw [pf_ne (by decide +kernel), pf_ne (by decide +kernel), pf_ne (by decide +kernel)]; rfl
theorem in_free {v0 v1 v2 v3 v4 : V} : putF "free" v4 [("size", v0), ("pegs", v1), ("hooks", v2), ("low", v3)] = ([("size", v0), ("pegs", v1), ("hooks", v2), ("low", v3), ("free", v4)] : List (Str × V)) := by
 rw [pf_ne (by decide +kernel), pf_ne (by decide +kernel), pf_ne (by decide +kernel), pf_ne (by decide +kernel)]; rfl
theorem in_moving {v0 v1 v2 v3 v4 v5 : V} : putF "moving" v5 [("size", v0), ("pegs", v1), ("hooks", v2), ("low", v3), ("free", v4)] = ([("size", v0), ("pegs", v1), ("hooks", v2), ("low", v3), ("free", v4), ("moving", v5)] : List (Str × V)) := by
 rw [pf_ne (by decide +kernel), pf_ne (by decide +kernel), pf_ne (by decide +kernel), pf_ne (by decide +kernel), pf_ne (by decide +kernel)]; rfl
theorem in_looked {v0 v1 v2 v3 v4 v5 v6 : V} : putF "looked" v6 [("size", v0), ("pegs", v1), ("hooks", v2), ("low", v3), ("free", v4), ("moving", v5)] = ([("size", v0), ("pegs", v1), ("hooks", v2), ("low", v3), ("free", v4), ("moving", v5), ("looked", v6)] : List (Str × V)) := by
 rw [pf_ne (by decide +kernel), pf_ne (by decide +kernel), pf_ne (by decide +kernel), pf_ne (by decide +kernel), pf_ne (by decide +kernel), pf_ne (by decide +kernel)]; rfl
def spInit (C : Addr) : Sp := fun vs H Q _ => ∃ (x dx : Addr) (n c : Nat), vs = [.ref x, .int n, .int c] ∧ H x = some (.ins C dx []) ∧ n ≤ 500 ∧ c ≤ 1000 ∧
 ∀ (a b : Addr) H', WallAt C H' x a b (newW n c) → H a = none → H b = none → (∀ e o, H e = some o → e ≠ x → H' e = some o) → Q .non H'
theorem ok_init (T : Txt K mg A) : FnOk P w K mg base (CXe P w) 1 A.a_init A.d_init ["self", "size", "count"] (spInit A.C) := by
 refine T.f_init.okN sc_init (fun vs H Q E h => ?_) (fun cdv B outer s H vs Q E hr h => ?_)
 · obtain ⟨x, dx, n, c, rfl, _⟩ := h
   rfl
 obtain ⟨x, dx, n, c, rfl, ho, hn, hc, q⟩ := h
 have hu := hu_of hr
 refine ⟨_, (pss_cons (ps_fld (pvn nm_init rfl rfl 0 rfl rfl) (pvn nm_init rfl rfl 1 rfl rfl) rfl)
  (pss_cons (ps_fld (pvn nm_init rfl rfl 0 rfl rfl) (pe_op op_mul_f (pe_lst (pa_cons pe_non pa_nil)) (pe_op op_mul_f pe_int (pvn nm_init rfl rfl 1 rfl rfl))) rfl)
  (pss_cons (ps_fld (pvn nm_init rfl rfl 0 rfl rfl) (pe_op op_mul_f (pe_lst (pa_cons pe_non pa_nil)) (pvn nm_init rfl rfl 2 rfl rfl)) rfl)
  (pss_cons (ps_fld (pvn nm_init rfl rfl 0 rfl rfl) pe_int rfl)
  (pss_cons (ps_fld (pvn nm_init rfl rfl 0 rfl rfl) pe_int rfl)
  (pss_cons (ps_fld (pvn nm_init rfl rfl 0 rfl rfl) pe_bl rfl)
  (pss_one (ps_fld (pvn nm_init rfl rfl 0 rfl rfl) pe_int rfl)))))))), ?_⟩
 show tSeq _ _ _ [some (.ref x), some (.int n), some (.int c)] H
 refine step1 fun D1 m1 _ _ _ => ?_
 exists 1, ho, T.cl, T.na_size
 refine m1 _ _ ?_
 rw [in_size]
 generalize e1 : upd H x _ = H1
 have o1 := new_at e1
 refine step1 fun D2 m2 _ _ _ => ?_
 exists 1, L2.ap_seq
 refine ⟨small (Nat.le_of_ble_eq_true rfl), ?_⟩
 intro p2 f2; generalize e_H2 : upd H1 p2 _ = H2; have n2 := new_at e_H2; have s2 := new_same f2 e_H2
 exists 1, n2
 refine ⟨.inl ⟨by decide, by decide⟩, by omega, by omega, small (by omega), ?_⟩
 intro p3 f3; generalize e_H3 : upd H2 p3 _ = H3; have n3 := new_at e_H3; have s3 := new_same f3 e_H3
 have o3 := s3 _ _ (s2 _ _ o1)
 exists 1, o3, T.cl, T.na_pegs
 refine m2 _ _ ?_
 rw [in_pegs]
 generalize e4 : upd H3 x _ = H4
 have o4 := new_at e4
 refine step1 fun D3 m3 _ _ _ => ?_
 exists 1, L2.ap_seq
 refine ⟨small (Nat.le_of_ble_eq_true rfl), ?_⟩
 intro p5 f5; generalize e_H5 : upd H4 p5 _ = H5; have n5 := new_at e_H5; have s5 := new_same f5 e_H5
 exists 1, n5
 refine ⟨by omega, by omega, small (by omega), ?_⟩
 intro p6 f6; generalize e_H6 : upd H5 p6 _ = H6; have n6 := new_at e_H6; have s6 := new_same f6 e_H6
 have o6 := s6 _ _ (s5 _ _ o4)
 exists 1, o6, T.cl, T.na_hooks
 refine m3 _ _ ?_
 rw [in_hooks]
 generalize e7 : upd H6 x _ = H7
 have o7 := new_at e7
 refine step1 fun D7 m7 _ _ _ => ?_
 exists 1, o7, T.cl, T.na_low
 refine m7 _ _ ?_
 rw [in_low]
 generalize e8 : upd H7 x _ = H8
 have o8 := new_at e8
 refine step1 fun D8 m8 _ _ _ => ?_
 exists 1, o8, T.cl, T.na_free
 refine m8 _ _ ?_
 rw [in_free]
 generalize e9 : upd H8 x _ = H9
 have o9 := new_at e9
 refine step1 fun D9 m9 _ _ _ => ?_
 exists 1, o9, T.cl, T.na_moving
 refine m9 _ _ ?_
 rw [in_moving]
 generalize e10 : upd H9 x _ = H10
 have o10 := new_at e10
 exists 1, o10, T.cl, T.na_looked
 rw [in_looked]
 generalize e11 : upd H10 x _ = H11
 have o11 := new_at e11
 have ne3 : p3 ≠ x := fun z => by rw [z, s2 _ _ o1] at f3; cases f3
 have ne6 : p6 ≠ x := fun z => by rw [z, s5 _ _ o4] at f6; cases f6
 have ne36 : p3 ≠ p6 := fun z => by
  have : H4 p3 = _ := (wr_ne e4 ne3).trans n3
  rw [← z, s5 _ _ this] at f6; cases f6
 have n3' : H11 p3 = some (.lst (List.replicate (2 * n) .non)) := by
  rw [wr_ne e11 ne3, wr_ne e10 ne3, wr_ne e9 ne3, wr_ne e8 ne3, wr_ne e7 ne3, (s5.trans s6) _ _ ((wr_ne e4 ne3).trans n3)]
  have : (2 * (n : Int)).toNat = 2 * n := by omega
  rw [this]; simp [List.flatten_replicate_singleton]
 have n6' : H11 p6 = some (.lst (List.replicate c .non)) := by
  rw [wr_ne e11 ne6, wr_ne e10 ne6, wr_ne e9 ne6, wr_ne e8 ne6, wr_ne e7 ne6, n6]
  simp [List.flatten_replicate_singleton]
 have bk : ∀ e o, H e = some o → e ≠ x → H11 e = some o := fun e o h ne => by
  rw [wr_ne e11 ne, wr_ne e10 ne, wr_ne e9 ne, wr_ne e8 ne, wr_ne e7 ne]
  refine (s5.trans s6) _ _ ?_
  rw [wr_ne e4 ne]
  refine (s2.trans s3) _ _ ?_
  rw [wr_ne e1 ne]; exact h
 refine q p3 p6 H11 ⟨⟨dx, o11⟩, ⟨_, n3', ⟨by simp [newW], fun i v pg h1 h2 => ?_⟩⟩, ?_, ne36⟩ ?_ ?_ bk
 · have a1 := List.eq_of_mem_replicate (List.mem_of_getElem? h1)
   have a2 := List.eq_of_mem_replicate (List.mem_of_getElem? h2)
   rw [a1, a2]; rfl
 · rw [n6']; simp [newW, thV]
 · cases z : H p3 with
   | none => rfl
   | some o => rw [(s2 _ _ ((wr_ne e1 ne3).trans z))] at f3; cases f3
 · cases z : H p6 with
   | none => rfl
   | some o => rw [s5 _ _ ((wr_ne e4 ne6).trans ((s2.trans s3) _ _ ((wr_ne e1 ne6).trans z)))] at f6; cases f6
end
end PW
namespace PW
open PySem L2 WM
inductive Deed where
 | put (h : Nat) (w : Str) (os : List Nat)
 | tie (h k o : Nat)
 | follow (h k o : Nat)
 | drop (h : Nat)
 | word (h : Nat)
 | begin
 | step
 | tidy
def DeedV (H : Hp) (v : V) : Deed → Prop
 | .put h w os => ∃ t oa, v = .ref t ∧ H t = some (.tup [.str "put", .int h, .str w, .ref oa]) ∧ H oa = some (.tup (iV os))
 | .tie h k o => ∃ t, v = .ref t ∧ H t = some (.tup [.str "tie", .int h, .int k, .int o])
 | .follow h k o => ∃ t, v = .ref t ∧ H t = some (.tup [.str "follow", .int h, .int k, .int o])
 | .drop h => ∃ t, v = .ref t ∧ H t = some (.tup [.str "drop", .int h])
 | .word h => ∃ t, v = .ref t ∧ H t = some (.tup [.str "word", .int h])
 | .begin => ∃ t, v = .ref t ∧ H t = some (.tup [.str "begin"])
 | .step => ∃ t, v = .ref t ∧ H t = some (.tup [.str "step"])
 | .tidy => ∃ t, v = .ref t ∧ H t = some (.tup [.str "tidy"])
theorem DeedV.mono {H H' : Hp} (s : ∀ b xs, H b = some (.tup xs) → H' b = some (.tup xs)) {v : V} : ∀ {d : Deed}, DeedV H v d → DeedV H' v d
 | .put _ _ _, ⟨t, oa, e, h1, h2⟩ => ⟨t, oa, e, s _ _ h1, s _ _ h2⟩
 | .tie _ _ _, ⟨t, e, h1⟩ => ⟨t, e, s _ _ h1⟩
 | .follow _ _ _, ⟨t, e, h1⟩ => ⟨t, e, s _ _ h1⟩
 | .drop _, ⟨t, e, h1⟩ => ⟨t, e, s _ _ h1⟩
 | .word _, ⟨t, e, h1⟩ => ⟨t, e, s _ _ h1⟩
 | .begin, ⟨t, e, h1⟩ => ⟨t, e, s _ _ h1⟩
 | .step, ⟨t, e, h1⟩ => ⟨t, e, s _ _ h1⟩
 | .tidy, ⟨t, e, h1⟩ => ⟨t, e, s _ _ h1⟩
def DeedOk (c : Nat) : Deed → Prop
 | .put h _ os => h < c ∧ os.length ≤ 1000 ∧ ∀ j ∈ os, j < c
 | .tie h _ o => h < c ∧ o < c
 | .follow h _ o => h < c ∧ o < c
 | .drop h => h < c
 | .word h => h < c
 | _ => True
def Mable : Deed → Prop
 | .begin => False
 | .step => False
 | .tidy => False
 | _ => True
def isPut : Deed → Bool
 | .put .. => true
 | _ => false
def Thr (W : Wa) (h k : Nat) (n : Nat) (u : Option Nat) : Prop := ∃ wd ts, W.hooks[h]? = some (some n) ∧ W.pegs[n]? = some (some (.note wd ts)) ∧ ts[k]? = some u
def NoThr (W : Wa) (h k : Nat) : Prop := W.hooks[h]? = some none ∨ ∃ n wd ts, W.hooks[h]? = some (some n) ∧ W.pegs[n]? = some (some (.note wd ts)) ∧ ts.length ≤ k
def Does (W : Wa) : Deed → Wa → V → Prop
 | .put h w os, W', r => (W.low + W.size - W.free ≤ W.kept ∧ W' = W ∧ r = .non) ∨ (W.kept < W.low + W.size - W.free ∧ W' = W.put h w os ∧ r = .bl true)
 | .tie h k o, W', r => (NoThr W h k ∧ W' = W ∧ r = .non) ∨ ∃ n u u', Thr W h k n u ∧ W.hooks[o]? = some u' ∧ W' = W.lead n k u' ∧ r = .bl true
 | .follow h k o, W', r => (NoThr W h k ∧ W' = W ∧ r = .non) ∨ ∃ n u, Thr W h k n u ∧ W' = W.follow n k o u ∧ r = .bl (W.over u).2.isSome
 | .drop h, W', r => W' = W.drop h ∧ r = .bl true
 | .word h, W', r => W' = W ∧ ((W.hooks[h]? = some none ∧ r = .non) ∨ ∃ n wd ts, W.hooks[h]? = some (some n) ∧ W.pegs[n]? = some (some (.note wd ts)) ∧ r = .str wd)
 | .begin, W', r => (W.moving = true ∧ W' = W ∧ r = .non) ∨ (W.moving = false ∧ W' = W.begin ∧ r = .bl true)
 | .step, W', r => (W.moving = false ∧ W' = W ∧ r = .non) ∨ (W.moving = true ∧ W' = W.step ∧ r = .bl (decide (W.looked = W.free)))
 | .tidy, W', r => Ran (toRound W) W' ∧ W'.low ≤ W'.free ∧ r = .int ((W'.free - W'.low : Nat) : Int)
structure WSm (W : Wa) : Prop where
 ok : WOk W
 sz : W.size ≤ 1000
 rows : RowsLe 1000 W
 hks : W.hooks.length ≤ 1000
section
variable {P : Program} {w : World} {K : PySem.W.Frag} {mg : Str → Option Value} {base : Heap} {A : Adr}
theorem hook_at {W : Wa} {h : Nat} (hh : h < W.hooks.length) : ∃ t, W.hooks[h]? = some t := ⟨_, List.getElem?_eq_getElem hh⟩
theorem hook_note {W : Wa} (p : WOk W) {h n : Nat} (e : W.hooks[h]? = some (some n)) : ∃ wd ts, W.pegs[n]? = some (some (.note wd ts)) := p.near n (p.hk _ (List.mem_of_getElem? e) n rfl)
end
end PW
namespace PW
open PySem L2 WM
section
variable {P : Program} {w : World} {K : PySem.W.Frag} {mg : Str → Option Value} {base : Heap} {A : Adr}
def AlB : Deed → Prop
 | .step => False
 | .tidy => False
 | _ => True
def spDoneB (C : Addr) : Sp := fun vs H Q _ => ∃ (x a b : Addr) (W : Wa) (v : V) (d : Deed), vs = [.ref x, v] ∧ WallAt C H x a b W ∧ WSm W ∧ DeedV H v d ∧ DeedOk W.hooks.length d ∧ AlB d ∧
 ∀ W' r H', Does W d W' r → WallAt C H' x a b W' → Fr3 x a b H H' → Q r H'
def spTriedB (K : PySem.W.Frag) (C cW : Addr) : Sp := fun vs H Q E => ∃ (x a b : Addr) (W : Wa) (v : V) (d : Deed), vs = [.ref x, v] ∧ WallAt C H x a b W ∧ WSm W ∧ DeedV H v d ∧ DeedOk W.hooks.length d ∧ AlB d ∧
 (∀ W' r H', Does W d W' r → WallAt C H' x a b W' → Fr3 x a b H H' → Q r H') ∧ (∀ c H', PySem.W.exmOne K (.ref c) (.ref cW) = some true → Does W d W .non → Same H H' → E (.ref c) none H')
def spNv : Sp := fun _ _ _ _ => False
def spStepR (C cN : Addr) : Sp := fun vs H Q E => ∃ (x a b : Addr) (W : Wa), vs = [.ref x] ∧ WallAt C H x a b W ∧ W.moving = false ∧ E (.ref cN) none H
theorem ok_step (T : Txt K mg A) : FnOk P w K mg base (CXe P w) 4 A.a_step A.d_step ["self"] (spStepR A.C A.c_NoRound) := by
 have ok_clear_far : ∀ (_ : Txt K mg A), FnOk P w K mg base (CXe P w) 1 A.a_clear_far A.d_clear_far ["self"] spNv := fun T => T.f_clear_far.okE sc_clear_far (fun _ _ _ _ h => h.elim) (fun _ _ _ _ _ _ _ _ _ h => h.elim)
 have ok_look_through : ∀ (_ : Txt K mg A), FnOk P w K mg base (CXe P w) 1 A.a_look_through A.d_look_through ["self", "number"] spNv := fun T => T.f_look_through.okE sc_look_through (fun _ _ _ _ h => h.elim) (fun _ _ _ _ _ _ _ _ _ h => h.elim)
 refine T.f_step.okE sc_step (fun vs H Q E h => ?_) (fun cdv B outer s H vs Q E hr h => ?_)
 · obtain ⟨x, a, b, W, rfl, _⟩ := h
   rfl
 obtain ⟨x, a, b, W, rfl, hW, hm, q1⟩ := h
 obtain ⟨dx, ho⟩ := hW.ob
 have hu := hu_of hr
 have hq : _ + 1 + 0 < cLine := hu_of hr
 refine ⟨_, (pss_cons (ps_if (pt_not (pt_val (pe_fld (pvn nm_step rfl rfl 0 rfl rfl) rfl))) (pss_one (ps_raise rfl T.m_NoRound T.x_NoRound rfl raiseE (pa_cons pe_str pa_nil))) pss_nil)
  (pss_cons (ps_if (pt_cmpR (op_eq_f hq) (pe_fld (pvn nm_step rfl rfl 0 rfl rfl) rfl) (pe_fld (pvn nm_step rfl rfl 0 rfl rfl) rfl) (nomark _)) (pss_cons (ps_expr (pe_meth0 (pvn nm_step rfl rfl 0 rfl rfl) T.cl T.mt_clear_far (ok_clear_far T) (hr.mono (by decide)) T.b_clear_far .nil passN))
   (pss_cons (ps_fld (pvn nm_step rfl rfl 0 rfl rfl) pe_bl rfl)
   (pss_one (ps_ret pe_bl)))) pss_nil)
  (pss_cons (ps_expr (pe_meth (pvn nm_step rfl rfl 0 rfl rfl) T.cl T.mt_look_through (ok_look_through T) (hr.mono (by decide)) T.b_look_through .nil passN (pa_cons (pe_fld (pvn nm_step rfl rfl 0 rfl rfl) rfl) pa_nil)))
  (pss_cons (ps_fldaug (pvn nm_step rfl rfl 0 rfl rfl) pe_int in_add)
  (pss_one (ps_ret pe_bl)))))), ?_⟩
 show tSeq _ _ _ [some (.ref x)] H
 refine stepT (fun R hR => by exists 1, ho, T.cl, T.na_moving, wf_moving, hm; exact hR) fun D1 n1 r1 _ _ => ?_
 exact ⟨small (Nat.le_of_ble_eq_true rfl), q1⟩
theorem ok_tidy (T : Txt K mg A) : FnOk P w K mg base (CXe P w) 1 A.a_tidy A.d_tidy ["self"] spNv := T.f_tidy.okE sc_tidy (fun _ _ _ _ h => h.elim) (fun _ _ _ _ _ _ _ _ _ h => h.elim)
theorem at3 (x y z u : V) (r : List V) : atI (x :: y :: z :: u :: r) 3 = some u := atI_nat (j := 3) rfl
theorem ok_answer_to (T : Txt K mg A) : FnOk P w K mg base (CXe P w) 6 A.a_answer_to A.d_answer_to ["wall", "deed"] (spTriedB K A.C A.c_WallError) := by
 refine T.f_answer_to.okE sc_answer_to (fun vs H Q E h => ?_) (fun cdv B outer s H vs Q E hr h => ?_)
 · obtain ⟨x, a, b, W, v, d, rfl, _⟩ := h
   rfl
 obtain ⟨x, a, b, W, v, d, rfl, hW, sm, hd, dk, ha, q1, q2⟩ := h
 obtain ⟨dx, ho⟩ := hW.ob
 have wk := sm.ok
 have hu := hu_of hr
 have hq : _ + 1 + 0 < cLine := hu_of hr
 have nd := sc_answer_to.nd
 refine ⟨_, (pss_cons (ps_set (i := 2) nd rfl (nm_answer_to.at rfl (i := 2) rfl rfl) (pe_idx hu (pvn nm_answer_to rfl rfl 1 rfl rfl) pe_int (fun _ _ => rfl)))
  (pss_cons (ps_if (pt_cmpR (op_eq_f hq) (pvn nm_answer_to rfl rfl 2 rfl rfl) pe_str (nomark _)) (pss_cons (ps_expr (pe_meth (pvn nm_answer_to rfl rfl 0 rfl rfl) T.cl T.mt_put (ok_put T) (hr.mono (by decide)) T.b_put .nil passE (pa_cons (pe_idx hu (pvn nm_answer_to rfl rfl 1 rfl rfl) pe_int (fun _ _ => rfl)) (pa_cons (pe_idx hu (pvn nm_answer_to rfl rfl 1 rfl rfl) pe_int (fun _ _ => rfl)) (pa_cons (pe_idx hu (pvn nm_answer_to rfl rfl 1 rfl rfl) pe_int (fun _ _ => rfl)) pa_nil)))))
   (pss_one (ps_ret pe_bl))) pss_nil)
  (pss_cons (ps_if (pt_cmpR (op_eq_f hq) (pvn nm_answer_to rfl rfl 2 rfl rfl) pe_str (nomark _)) (pss_cons (ps_expr (pe_meth (pvn nm_answer_to rfl rfl 0 rfl rfl) T.cl T.mt_tie (ok_tie T) (hr.mono (by decide)) T.b_tie .nil passE (pa_cons (pe_idx hu (pvn nm_answer_to rfl rfl 1 rfl rfl) pe_int (fun _ _ => rfl)) (pa_cons (pe_idx hu (pvn nm_answer_to rfl rfl 1 rfl rfl) pe_int (fun _ _ => rfl)) (pa_cons (pe_idx hu (pvn nm_answer_to rfl rfl 1 rfl rfl) pe_int (fun _ _ => rfl)) pa_nil)))))
   (pss_one (ps_ret pe_bl))) pss_nil)
  (pss_cons (ps_if (pt_cmpR (op_eq_f hq) (pvn nm_answer_to rfl rfl 2 rfl rfl) pe_str (nomark _)) (pss_one (ps_ret (pe_meth (pvn nm_answer_to rfl rfl 0 rfl rfl) T.cl T.mt_follow (ok_follow T) (hr.mono (by decide)) T.b_follow .nil passE (pa_cons (pe_idx hu (pvn nm_answer_to rfl rfl 1 rfl rfl) pe_int (fun _ _ => rfl)) (pa_cons (pe_idx hu (pvn nm_answer_to rfl rfl 1 rfl rfl) pe_int (fun _ _ => rfl)) (pa_cons (pe_idx hu (pvn nm_answer_to rfl rfl 1 rfl rfl) pe_int (fun _ _ => rfl)) pa_nil)))))) pss_nil)
  (pss_cons (ps_if (pt_cmpR (op_eq_f hq) (pvn nm_answer_to rfl rfl 2 rfl rfl) pe_str (nomark _)) (pss_cons (ps_expr (pe_meth (pvn nm_answer_to rfl rfl 0 rfl rfl) T.cl T.mt_drop (ok_drop T) (hr.mono (by decide)) T.b_drop .nil passN (pa_cons (pe_idx hu (pvn nm_answer_to rfl rfl 1 rfl rfl) pe_int (fun _ _ => rfl)) pa_nil)))
   (pss_one (ps_ret pe_bl))) pss_nil)
  (pss_cons (ps_if (pt_cmpR (op_eq_f hq) (pvn nm_answer_to rfl rfl 2 rfl rfl) pe_str (nomark _)) (pss_one (ps_ret (pe_meth (pvn nm_answer_to rfl rfl 0 rfl rfl) T.cl T.mt_word_of (ok_word_of T) (hr.mono (by decide)) T.b_word_of .nil passE (pa_cons (pe_idx hu (pvn nm_answer_to rfl rfl 1 rfl rfl) pe_int (fun _ _ => rfl)) pa_nil)))) pss_nil)
  (pss_cons (ps_if (pt_cmpR (op_eq_f hq) (pvn nm_answer_to rfl rfl 2 rfl rfl) pe_str (nomark _)) (pss_cons (ps_expr (pe_meth0 (pvn nm_answer_to rfl rfl 0 rfl rfl) T.cl T.mt_begin (ok_begin T) (hr.mono (by decide)) T.b_begin .nil passE))
   (pss_one (ps_ret pe_bl))) pss_nil)
  (pss_cons (ps_if (pt_cmpR (op_eq_f hq) (pvn nm_answer_to rfl rfl 2 rfl rfl) pe_str (nomark _)) (pss_one (ps_ret (pe_meth0 (pvn nm_answer_to rfl rfl 0 rfl rfl) T.cl T.mt_step (ok_step T) (hr.mono (by decide)) T.b_step .nil passE))) pss_nil)
  (pss_cons (ps_if (pt_cmpR (op_eq_f hq) (pvn nm_answer_to rfl rfl 2 rfl rfl) pe_str (nomark _)) (pss_one (ps_ret (pe_meth0 (pvn nm_answer_to rfl rfl 0 rfl rfl) T.cl T.mt_tidy (ok_tidy T) (hr.mono (by decide)) T.b_tidy .nil passN))) pss_nil)
  (pss_one (ps_ret pe_non))))))))))), ?_⟩
 show tSeq _ _ _ [some (.ref x), some v, none] H
 cases d with
 | put h wd os =>
  obtain ⟨t, oa, rfl, h1, h2⟩ := hd
  obtain ⟨k1, k2, k3⟩ := dk
  refine step1 fun D1 n1 r1 _ _ => ?_
  exists 1, h1, at0
  refine n1 _ _ ?_
  refine stepT (fun R hR => by exists 1, L2.ap_seq; exact hR) fun D2 n2 r2 _ _ => ?_
  refine step1 fun D3 n3 r3 _ _ => ?_
  exists 1, h1, at0, at1, at2, at3, ho, T.cl, wf_no (show notF "put" = true by decide +kernel)
  refine ⟨x, a, b, oa, W, h, wd, os, rfl, hW, wk.toPOk, sm.sz, k1, by rw [h2]; rfl, k2, k3, fun z H' s' => q2 _ _ T.e_Full (.inl ⟨z, rfl, rfl⟩) s', fun z H' w' f' => n3 _ _ ?_⟩
  exact r2 _ _ (q1 _ _ _ (.inr ⟨z, rfl, rfl⟩) w' f')
 | tie h k o =>
  obtain ⟨t, rfl, h1⟩ := hd
  obtain ⟨t', ht⟩ := hook_at dk.1
  obtain ⟨u', hu'⟩ := hook_at dk.2
  have ne1 : ¬ (("tie" : Str) = "put") := by decide +kernel
  refine step1 fun D1 n1 r1 _ _ => ?_
  exists 1, h1, at0
  refine n1 _ _ ?_
  refine stepF (fun R hR => by exists 1, ne1; exact hR) ?_
  refine stepT (fun R hR => by exists 1, L2.ap_seq; exact hR) fun D2 n2 r2 _ _ => ?_
  refine step1 fun D3 n3 r3 _ _ => ?_
  exists 1, h1, at0, at1, at2, at3, ho, T.cl, wf_no (show notF "tie" = true by decide +kernel)
  refine ⟨x, a, b, W, h, k, o, t', u', rfl, hW, ht, hu', fun z => q2 _ _ T.e_NoNote (.inl ⟨.inl (by rw [ht, z]), rfl, rfl⟩) (fun _ _ h => h), fun n hn => ?_⟩
  rw [hn] at ht
  obtain ⟨wd, ts, hp⟩ := hook_note wk ht
  exact ⟨wd, ts, hp, sm.rows _ _ (List.mem_of_getElem? hp), fun z => q2 _ _ T.e_NoThread (.inl ⟨.inr ⟨n, wd, ts, ht, hp, z⟩, rfl, rfl⟩) (fun _ _ h => h), fun z H' w' f' => n3 _ _ (r2 _ _ (q1 _ _ _ (.inr ⟨n, _, u', ⟨wd, ts, ht, hp, List.getElem?_eq_getElem z⟩, hu', rfl, rfl⟩) w' f'))⟩
 | follow h k o =>
  obtain ⟨t, rfl, h1⟩ := hd
  obtain ⟨t', ht⟩ := hook_at dk.1
  have ne1 : ¬ (("follow" : Str) = "put") := by decide +kernel
  have ne2 : ¬ (("follow" : Str) = "tie") := by decide +kernel
  refine step1 fun D1 n1 r1 _ _ => ?_
  exists 1, h1, at0
  refine n1 _ _ ?_
  refine stepF (fun R hR => by exists 1, ne1; exact hR) ?_
  refine stepF (fun R hR => by exists 1, ne2; exact hR) ?_
  refine stepT (fun R hR => by exists 1, L2.ap_seq; exact hR) fun D2 n2 r2 _ _ => ?_
  exists 1, h1, at0, at1, at2, at3, ho, T.cl, wf_no (show notF "follow" = true by decide +kernel)
  refine ⟨x, a, b, W, h, k, o, t', rfl, hW, wk, ht, dk.2, fun z => q2 _ _ T.e_NoNote (.inl ⟨.inl (by rw [ht, z]), rfl, rfl⟩) (fun _ _ h => h), fun n hn => ?_⟩
  rw [hn] at ht
  obtain ⟨wd, ts, hp⟩ := hook_note wk ht
  exact ⟨wd, ts, hp, sm.rows _ _ (List.mem_of_getElem? hp), fun z => q2 _ _ T.e_NoThread (.inl ⟨.inr ⟨n, wd, ts, ht, hp, z⟩, rfl, rfl⟩) (fun _ _ h => h), fun u z H' w' f' => r2 _ _ (q1 _ _ _ (.inr ⟨n, u, ⟨wd, ts, ht, hp, z⟩, rfl, rfl⟩) w' f')⟩
 | drop h =>
  obtain ⟨t, rfl, h1⟩ := hd
  have ne1 : ¬ (("drop" : Str) = "put") := by decide +kernel
  have ne2 : ¬ (("drop" : Str) = "tie") := by decide +kernel
  have ne3 : ¬ (("drop" : Str) = "follow") := by decide +kernel
  refine step1 fun D1 n1 r1 _ _ => ?_
  exists 1, h1, at0
  refine n1 _ _ ?_
  refine stepF (fun R hR => by exists 1, ne1; exact hR) ?_
  refine stepF (fun R hR => by exists 1, ne2; exact hR) ?_
  refine stepF (fun R hR => by exists 1, ne3; exact hR) ?_
  refine stepT (fun R hR => by exists 1, L2.ap_seq; exact hR) fun D2 n2 r2 _ _ => ?_
  refine step1 fun D3 n3 r3 _ _ => ?_
  exists 1, h1, at0, at1, ho, T.cl, wf_no (show notF "drop" = true by decide +kernel)
  exact ⟨x, a, b, W, h, rfl, hW, dk, fun H' w' f' => n3 _ _ (r2 _ _ (q1 _ _ _ ⟨rfl, rfl⟩ w' f'))⟩
 | word h =>
  obtain ⟨t, rfl, h1⟩ := hd
  obtain ⟨t', ht⟩ := hook_at dk
  have ne1 : ¬ (("word" : Str) = "put") := by decide +kernel
  have ne2 : ¬ (("word" : Str) = "tie") := by decide +kernel
  have ne3 : ¬ (("word" : Str) = "follow") := by decide +kernel
  have ne4 : ¬ (("word" : Str) = "drop") := by decide +kernel
  refine step1 fun D1 n1 r1 _ _ => ?_
  exists 1, h1, at0
  refine n1 _ _ ?_
  refine stepF (fun R hR => by exists 1, ne1; exact hR) ?_
  refine stepF (fun R hR => by exists 1, ne2; exact hR) ?_
  refine stepF (fun R hR => by exists 1, ne3; exact hR) ?_
  refine stepF (fun R hR => by exists 1, ne4; exact hR) ?_
  refine stepT (fun R hR => by exists 1, L2.ap_seq; exact hR) fun D2 n2 r2 _ _ => ?_
  exists 1, h1, at0, at1, ho, T.cl, wf_no (show notF "word_of" = true by decide +kernel)
  refine ⟨x, a, b, W, h, t', rfl, hW, ht, fun z => q2 _ _ T.e_NoNote ⟨rfl, .inl ⟨by rw [ht, z], rfl⟩⟩ (fun _ _ h => h), fun n hn => ?_⟩
  rw [hn] at ht
  obtain ⟨wd, ts, hp⟩ := hook_note wk ht
  exact ⟨wd, ts, hp, r2 _ _ (q1 _ _ _ ⟨rfl, .inr ⟨n, wd, ts, ht, hp, rfl⟩⟩ hW (Fr3.refl _ _ _ _))⟩
 | begin =>
  obtain ⟨t, rfl, h1⟩ := hd
  have ne1 : ¬ (("begin" : Str) = "put") := by decide +kernel
  have ne2 : ¬ (("begin" : Str) = "tie") := by decide +kernel
  have ne3 : ¬ (("begin" : Str) = "follow") := by decide +kernel
  have ne4 : ¬ (("begin" : Str) = "drop") := by decide +kernel
  have ne5 : ¬ (("begin" : Str) = "word") := by decide +kernel
  refine step1 fun D1 n1 r1 _ _ => ?_
  exists 1, h1, at0
  refine n1 _ _ ?_
  refine stepF (fun R hR => by exists 1, ne1; exact hR) ?_
  refine stepF (fun R hR => by exists 1, ne2; exact hR) ?_
  refine stepF (fun R hR => by exists 1, ne3; exact hR) ?_
  refine stepF (fun R hR => by exists 1, ne4; exact hR) ?_
  refine stepF (fun R hR => by exists 1, ne5; exact hR) ?_
  refine stepT (fun R hR => by exists 1, L2.ap_seq; exact hR) fun D2 n2 r2 _ _ => ?_
  refine step1 fun D3 n3 r3 _ _ => ?_
  exists 1, ho, T.cl, wf_no (show notF "begin" = true by decide +kernel)
  exact ⟨x, a, b, W, rfl, hW, wk, sm.hks, fun z => q2 _ _ T.e_Busy (.inl ⟨z, rfl, rfl⟩) (fun _ _ h => h), fun z H' w' f' => n3 _ _ (r2 _ _ (q1 _ _ _ (.inr ⟨z, rfl, rfl⟩) w' f'))⟩
 | step => exact ha.elim
 | tidy => exact ha.elim
theorem ok_done (T : Txt K mg A) : FnOk P w K mg base (CXe P w) 7 A.a_done A.d_done ["wall", "deed"] (spDoneB A.C) := by
 refine T.f_done.okN sc_done (fun vs H Q E h => ?_) (fun cdv B outer s H vs Q E hr h => ?_)
 · obtain ⟨x, a, b, W, v, d, rfl, _⟩ := h
   rfl
 obtain ⟨x, a, b, W, v, d, rfl, hW, sm, hd, dk, ha, q⟩ := h
 have nd := sc_done.nd
 refine ⟨_, (pss_one (ps_try rfl rfl rfl (pssx_one (psx_ret (pex_call (ok_answer_to T) (hr.mono (by decide)) rfl T.m_answer_to T.f_answer_to.kp T.b_answer_to .nil (pa_cons (pvn nm_done rfl rfl 0 rfl rfl) (pa_cons (pvn nm_done rfl rfl 1 rfl rfl) pa_nil))))) (ph_cons rfl T.m_WallError (fun _ => (pss_one (ps_ret pe_non))) ph_nil))), ?_⟩
 show tTry _ _ _ [some (.ref x), some v] H
 unfold tTry
 exists 1, L2.ap_seq
 refine ⟨x, a, b, W, v, d, rfl, hW, sm, hd, dk, ha, fun W' r H' d' w' f' => q W' r H' d' w' f', fun c H' ec d' s' => ?_⟩
 refine ⟨true, ec, ?_⟩
 exists 1, L2.ap_seq
 exact q W .non H' d' (hW.same s') (Fr3.of s')
end
end PW
namespace PW
open PySem L2 WM
def Keep (S : List Addr) (H H' : Hp) : Prop := ∀ c o, H c = some o → c ∉ S → H' c = some o
theorem Keep.refl (S : List Addr) (H : Hp) : Keep S H H := fun _ _ h _ => h
theorem Keep.of {S : List Addr} {H H' : Hp} (s : Same H H') : Keep S H H' := fun c o h _ => s c o h
theorem Keep.trans {S : List Addr} {H H1 H2 : Hp} (p : Keep S H H1) (q : Keep S H1 H2) : Keep S H H2 := fun c o h n => q c o (p c o h n) n
theorem Keep.wr {S : List Addr} {H H1 : Hp} {p : Addr} {o : HO} (e : upd H p o = H1) (h : p ∈ S) : Keep S H H1 := fun c o' hc n => (wr_ne e fun z => n (by rw [z]; exact h)).trans hc
theorem Keep.fr {S : List Addr} {x a b : Addr} {H H' : Hp} (f : Fr3 x a b H H') (h1 : x ∈ S) (h2 : a ∈ S) (h3 : b ∈ S) : Keep S H H' := fun c o h n => f c o h (fun z => n (z ▸ h1)) (fun z => n (z ▸ h2)) (fun z => n (z ▸ h3))
theorem Keep.mono {S S' : List Addr} {H H' : Hp} (k : Keep S H H') (h : ∀ c ∈ S, c ∈ S') : Keep S' H H' := fun c o hc n => k c o hc fun z => n (h c z)
def kw (n : Nat) (notes : List (Str × List (Option Nat))) (hks : List (Option Nat)) : Wa :=
 { size := n, pegs := notes.map (fun p : Str × List (Option Nat) => some (Peg.note p.1 p.2)) ++ List.replicate (2 * n - notes.length) none, hooks := hks, low := 0, free := notes.length, moving := false, looked := 0 }
theorem kw_new (n c : Nat) : newW n c = kw n [] (List.replicate c none) := rfl
theorem kw_kept {n : Nat} {notes : List (Str × List (Option Nat))} {hks : List (Option Nat)} (h : notes.length ≤ n) : (kw n notes hks).kept = 0 := by
 unfold Wl.kept
 rw [List.countP_eq_zero]
 intro pg hm
 have hm := List.mem_of_mem_take hm
 have : (kw n notes hks).far = n := rfl
 rw [this] at hm
 unfold kw at hm
 simp only at hm
 rw [List.drop_append, List.drop_of_length_le (by simp; omega), List.nil_append] at hm
 have := List.eq_of_mem_replicate (List.mem_of_mem_drop hm)
 rw [this]; simp [isNote]
theorem newW_ok {n : Nat} (c : Nat) (h : 0 < n) : WOk (newW n c) where
 sz := h
 len := by simp [newW]
 lo := .inl rfl
 f1 := Nat.le_refl _
 f2 := by simp [newW]
 near := fun k ⟨_, hk⟩ => absurd hk (Nat.not_lt_zero _)
 bare := fun k _ hk => by
  have hk : k < 0 + n := hk
  show (List.replicate (2 * n) none)[k]? = some none
  rw [List.getElem?_replicate, if_pos (by omega)]
 rest := fun _ k hk => by
  have hk : k < (n - 0) + n := hk.2
  show (List.replicate (2 * n) none)[k]? = some none
  rw [List.getElem?_replicate, if_pos (by omega)]
 look := fun z => nomatch z
 thr := fun k w ts i n hk => absurd hk.2 (Nat.not_lt_zero _)
 mark := fun k m e => by have := List.eq_of_mem_replicate (List.mem_of_getElem? e); cases this
 minj := fun k k' m e => by have := List.eq_of_mem_replicate (List.mem_of_getElem? e); cases this
 fthr := fun k w ts i n _ e => by have := List.eq_of_mem_replicate (List.mem_of_getElem? e); cases this
 room := by rw [kw_new, kw_kept (Nat.zero_le _)]; exact Nat.zero_le _
 hk := fun t ht => by have := List.eq_of_mem_replicate ht; rw [this]; exact nok_none _
def spLaw (K : PySem.W.Frag) : Sp := fun vs H Q _ => ∃ (a : Addr) (ns : List Int), vs = [.ref a] ∧ Scr K H a (ns.map V.int) ∧ ns.length ≤ 63 ∧ ∀ H', Q (.bl true) H'
section
variable {P : Program} {w : World} {K : PySem.W.Frag} {mg : Str → Option Value} {base : Heap} {A : Adr}
theorem modN (z m : Int) (h : 0 < m) : ∃ k : Nat, z % m = (k : Int) ∧ (k : Int) < m :=
 ⟨(z % m).toNat, by rw [Int.toNat_of_nonneg (Int.emod_nonneg z (by omega))], by rw [Int.toNat_of_nonneg (Int.emod_nonneg z (by omega))]; exact Int.emod_lt_of_pos z h⟩
theorem _root_.L2.Scr.to {K : PySem.W.Frag} {H H' : Hp} {a : Addr} {L : List V} (h : Scr K H a L) (k : ∀ ob xs, H a = some (.frz ob (.lst xs)) → H' a = some (.frz ob (.lst xs))) : Scr K H' a L := by
 rcases h with ⟨o, h⟩ | h
 · exact .inl ⟨o, k _ _ h⟩
 · exact .inr h
theorem getI {l : List Nat} {i : Nat} {v : V} (h : (iV l)[i]? = some v) : ∃ o : Nat, l[i]? = some o ∧ v = .int o := by
 unfold iV at h
 rw [List.getElem?_map] at h
 cases e : l[i]? with
 | none => rw [e] at h; cases h
 | some t => rw [e] at h; cases h; exact ⟨t, rfl, rfl⟩
theorem WallAt.wr {C : Addr} {H H1 : Hp} {x a b p : Addr} {W : Wa} {o : HO} {xs : List V} (w : WallAt C H x a b W) (e : upd H p o = H1) (hp : p ≠ x ∧ p ≠ a ∧ p ≠ b) (hl : H p = some (.lst xs)) : WallAt C H1 x a b W := by
 obtain ⟨⟨dx, h1⟩, ⟨P, h2, h3⟩, h4, ab⟩ := w
 exact ⟨⟨dx, (wr_ne e hp.1.symm).trans h1⟩, ⟨P, (wr_ne e hp.2.1.symm).trans h2, h3.mono fun c ys h => (wr_ne e (ne_of h hl (by intro z; cases z))).trans h⟩, (wr_ne e hp.2.2.symm).trans h4, ab⟩
theorem cmul (n : Int) : CMul n 48271 := .inr ⟨by decide, by decide⟩
end
end PW
namespace PW
open PySem L2 WM
def sAt (ns : List Int) (k : Nat) : Int := (ns[k]?).getD 0
def spAt (K : PySem.W.Frag) : Sp := fun vs H Q _ => ∃ (a : Addr) (ns : List Int) (k : Nat), vs = [.ref a, .int k] ∧ Scr K H a (ns.map V.int) ∧ Q (.int (sAt ns k)) H
section
variable {P : Program} {w : World} {K : PySem.W.Frag} {mg : Str → Option Value} {base : Heap} {A : Adr}
theorem ok_at (T : Txt K mg A) : FnOk P w K mg base (CXe P w) 1 A.a_at A.d_at ["_law_script", "_law_k"] (spAt K) := by
 refine T.f_at.okN sc_at (fun vs H Q E h => ?_) (fun cdv B outer s H vs Q E hr h => ?_)
 · obtain ⟨a, ns, k, rfl, _⟩ := h
   rfl
 obtain ⟨a, ns, k, rfl, hS, q⟩ := h
 have hu := hu_of hr
 generalize eL : ns.map V.int = L at hS
 have lL : L.length = ns.length := by rw [← eL, List.length_map]
 refine ⟨_, (pss_cons (ps_if (pt_cmpR op_lt (pvn nm_at rfl rfl 1 rfl rfl) (pe_callB (call_lenS a L) rfl T.z_len bt_len (pa_cons (pvn nm_at rfl rfl 0 rfl rfl) pa_nil)) (nomark _)) (pss_one (ps_ret (pe_ixS a L (pvn nm_at rfl rfl 0 rfl rfl) (pvn nm_at rfl rfl 1 rfl rfl) (fun _ _ => rfl)))) pss_nil)
  (pss_one (ps_ret pe_int))), ?_⟩
 show tSeq _ _ _ [some (.ref a), some (.int k)] H
 by_cases h : k < ns.length
 · have h' : (k : Int) < (ns.length : Int) := by omega
   have e : ns[k]? = some ns[k] := List.getElem?_eq_getElem h
   have gi : atI L (k : Int) = some (.int ns[k]) := by rw [← eL]; exact atI_nat (by rw [List.getElem?_map, e]; rfl)
   unfold sAt at q
   rw [e] at q
   exists 1, hS, lL, h', gi
   exact q
 · have h' : ¬ (k : Int) < (ns.length : Int) := by omega
   have e : ns[k]? = none := List.getElem?_eq_none (by omega)
   unfold sAt at q
   rw [e] at q
   exists 1, hS, lL, h'
   exact q
end
end PW
namespace PW
open PySem L2 WM
def mdl (notes : Notes Str) (heads : List (Option Nat)) : Deed → Notes Str × List (Option Nat) × V
 | .put h w os => (notes ++ [(w, os.map fun j => (heads[j]?).getD none)], heads.set h (some notes.length), .bl true)
 | .drop h => (notes, heads.set h none, .bl true)
 | .word h => (notes, heads, match heads[h]? with
  | some (some own) => (match notes[own]? with
   | some p => .str p.1
   | none => .non)
  | _ => .non)
 | .tie h k o => match heads[h]? with
  | some (some own) => (match notes[own]? with
   | some p => if p.2.length ≤ k then (notes, heads, .non) else (setT notes own k ((heads[o]?).getD none), heads, .bl true)
   | none => (notes, heads, .non))
  | _ => (notes, heads, .non)
 | .follow h k o => match heads[h]? with
  | some (some own) => (match notes[own]? with
   | some p => if p.2.length ≤ k then (notes, heads, .non) else (notes, heads.set o ((p.2[k]?).getD none), .bl ((p.2[k]?).getD none).isSome)
   | none => (notes, heads, .non))
  | _ => (notes, heads, .non)
 | _ => (notes, heads, .non)
section
variable {W W' : Wa} {notes : Notes Str} {heads : List (Option Nat)} {φ : Nat → Option Nat}
theorem hook_none (s : Sim W notes heads φ) {h : Nat} (e : W.hooks[h]? = some none) : heads[h]? = some none := by
 have hl : h < heads.length := by rw [← s.h.1]; exact getElem?_ne_none_lt e
 have e2 : heads[h]? = some heads[h] := List.getElem?_eq_getElem hl
 have r := s.h.2 h _ _ e e2
 cases hh : heads[h] with
 | none => rw [e2, hh]
 | some k => rw [hh] at r; exact r.elim
theorem hook_some (s : Sim W notes heads φ) (p : WOk W) {h n : Nat} {wd : Str} {ts : List (Option Nat)} (e : W.hooks[h]? = some (some n)) (hp : W.pegs[n]? = some (some (.note wd ts))) :
 ∃ own row, heads[h]? = some (some own) ∧ φ own = some n ∧ notes[own]? = some (wd, row) ∧ ts.length = row.length ∧ W.Near n ∧ ∀ (i : Nat) (t o : Option Nat), ts[i]? = some t → row[i]? = some o → Rel W.pegs φ t o := by
 have hl : h < heads.length := by rw [← s.h.1]; exact getElem?_ne_none_lt e
 have e2 : heads[h]? = some heads[h] := List.getElem?_eq_getElem hl
 have r := s.h.2 h _ _ e e2
 have hn : W.Near n := p.hk _ (List.mem_of_getElem? e) n rfl
 cases hh : heads[h] with
 | none => rw [hh] at r; exact r.elim
 | some own =>
  rw [hh] at r
  have r : φ own = some (rl W.pegs n) := r
  rw [rl_near p.toPOk hn] at r
  obtain ⟨w', ts', row, a1, a2, a3, a4⟩ := s.n.note own n r
  rw [hp] at a1; cases a1
  exact ⟨own, row, by rw [e2, hh], r, a2, a3, hn, a4⟩
theorem over_some (W : Wa) (t : Option Nat) : (W.over t).2.isSome = t.isSome := by
 cases t with
 | none => rfl
 | some n =>
  unfold Wl.over
  by_cases e : W.isFar n = false
  · simp only [if_pos e]
  · simp only [if_neg e]
    split <;> rfl
theorem rel_some {ps : List (Option (Peg Str))} {t o : Option Nat} (h : Rel ps φ t o) : t.isSome = o.isSome := by
 cases t <;> cases o <;> first | rfl | exact h.elim
theorem mdl_thr {h k o own : Nat} {wd : Str} {row : List (Option Nat)} (e1 : heads[h]? = some (some own)) (e2 : notes[own]? = some (wd, row)) (hk : k < row.length) :
 mdl notes heads (.tie h k o) = (setT notes own k ((heads[o]?).getD none), heads, .bl true) ∧ mdl notes heads (.follow h k o) = (notes, heads.set o ((row[k]?).getD none), .bl ((row[k]?).getD none).isSome) := by
 have : ¬ row.length ≤ k := by omega
 constructor
 · simp only [mdl, e1, e2, if_neg this]
 · simp only [mdl, e1, e2, if_neg this]
theorem mdl_no {h k o : Nat} (hn : heads[h]? = some none ∨ ∃ own wd row, heads[h]? = some (some own) ∧ notes[own]? = some (wd, row) ∧ row.length ≤ k) :
 mdl notes heads (.tie h k o) = (notes, heads, .non) ∧ mdl notes heads (.follow h k o) = (notes, heads, .non) := by
 rcases hn with e | ⟨own, wd, row, e1, e2, hk⟩
 · constructor <;> simp only [mdl, e]
 · constructor <;> simp only [mdl, e1, e2, if_pos hk]
theorem nothr_mdl (s : Sim W notes heads φ) (p : WOk W) {h k o : Nat} (z : NoThr W h k) : mdl notes heads (.tie h k o) = (notes, heads, .non) ∧ mdl notes heads (.follow h k o) = (notes, heads, .non) := by
 rcases z with e | ⟨n, wd, ts, e, hp, hk⟩
 · exact mdl_no (.inl (hook_none s e))
 · obtain ⟨own, row, a1, _, a3, a4, _⟩ := hook_some s p e hp
   exact mdl_no (.inr ⟨own, wd, row, a1, a3, by rw [← a4]; exact hk⟩)
structure After (notes : Notes Str) (heads : List (Option Nat)) (φ : Nat → Option Nat) (W W' : Wa) (d : Deed) (r : V) (φ' : Nat → Option Nat) : Prop where
 ok : WOk W'
 sim : Sim W' (mdl notes heads d).1 (mdl notes heads d).2.1 φ'
 ans : r = (mdl notes heads d).2.2
 mov : W'.moving = W.moving
 low : W'.low = W.low
 siz : W'.size = W.size
 tt : tot W' ≤ tot W + (if isPut d = true then 1 else 0)
theorem deed_sim {d : Deed} {r : V} (p : WOk W) (s : Sim W notes heads φ) (dk : DeedOk W.hooks.length d) (hm : Mable d) (dd : Does W d W' r) (hr : isPut d = true → r ≠ .non) : ∃ φ', After notes heads φ W W' d r φ' := by
 cases d with
 | begin => exact hm.elim
 | step => exact hm.elim
 | tidy => exact hm.elim
 | put h w os =>
  rcases dd with ⟨_, _, z⟩ | ⟨d1, rfl, rfl⟩
  · exact absurd z (hr rfl)
  · refine ⟨_, put_ok p d1, put_sim p d1 s (fun j hj => by rw [← s.h.1]; exact dk.2.2 j hj), rfl, rfl, rfl, rfl, by rw [put_tot p d1]; exact Nat.le_refl _⟩
 | drop h =>
  obtain ⟨rfl, rfl⟩ := dd
  exact ⟨φ, drop_ok p h, drop_sim s h, rfl, rfl, rfl, rfl, Nat.le_refl _⟩
 | word h =>
  obtain ⟨rfl, dd⟩ := dd
  refine ⟨φ, p, s, ?_, rfl, rfl, rfl, Nat.le_refl _⟩
  rcases dd with ⟨e, rfl⟩ | ⟨n, wd, ts, e, hp, rfl⟩
  · simp only [mdl, hook_none s e]
  · obtain ⟨own, row, a1, _, a3, _⟩ := hook_some s p e hp
    simp only [mdl, a1, a3]
 | tie h k o =>
  rcases dd with ⟨z, rfl, rfl⟩ | ⟨n, u, u', ⟨wd, ts, e, hp, ht⟩, hu', rfl, rfl⟩
  · have e := (nothr_mdl (o := o) s p z).1
    exact ⟨φ, p, by rw [e]; exact s, by rw [e], rfl, rfl, rfl, Nat.le_refl _⟩
  · obtain ⟨own, row, a1, a2, a3, a4, a5, a6⟩ := hook_some s p e hp
    have hk : k < row.length := by rw [← a4]; exact getElem?_ne_none_lt ht
    have em := (mdl_thr (o := o) a1 a3 hk).1
    have ol : o < heads.length := by rw [← s.h.1]; exact dk.2
    have eo : heads[o]? = some heads[o] := List.getElem?_eq_getElem ol
    have ro := s.h.2 o _ _ hu' eo
    have eg : (heads[o]?).getD none = heads[o] := by rw [eo]; rfl
    rw [eg] at em
    have nu : NOk W u' := p.hk u' (List.mem_of_getElem? hu')
    refine ⟨φ, lead_ok p a5 hp nu, by rw [em]; exact lead_sim s hp a2 ro, by rw [em], by rw [lead_eq hp], by rw [lead_eq hp], by rw [lead_eq hp], by rw [lead_tot]; exact Nat.le_add_right ..⟩
 | follow h k o =>
  rcases dd with ⟨z, rfl, rfl⟩ | ⟨n, u, ⟨wd, ts, e, hp, ht⟩, rfl, rfl⟩
  · have e := (nothr_mdl (o := o) s p z).2
    exact ⟨φ, p, by rw [e]; exact s, by rw [e], rfl, rfl, rfl, Nat.le_refl _⟩
  · obtain ⟨own, row, a1, a2, a3, a4, a5, a6⟩ := hook_some s p e hp
    have hk : k < row.length := by rw [← a4]; exact getElem?_ne_none_lt ht
    have em := (mdl_thr (o := o) a1 a3 hk).2
    have ek : row[k]? = some row[k] := List.getElem?_eq_getElem hk
    have eg : (row[k]?).getD none = row[k] := by rw [ek]; rfl
    rw [eg] at em
    have htk := thr_tok p a5 hp ht
    obtain ⟨p1, n1, e1⟩ := over_ok p.toPOk htk
    have hp1 : (W.over u).1.pegs[n]? = some (some (.note wd ts)) := (e1.near n a5).trans hp
    obtain ⟨φ', s', _⟩ := follow_sim (other := o) p a5 hp ht s a2 a3 ek
    have rr := a6 k _ _ ht ek
    refine ⟨φ', follow_ok p a5 hp ht, by rw [em]; exact s', ?_, ?_, ?_, ?_, by rw [follow_tot p.toPOk htk]; exact Nat.le_add_right ..⟩
    · rw [em]
      show V.bl (W.over u).2.isSome = V.bl row[k].isSome
      rw [over_some, rel_some rr]
    · show ((W.over u).1.lead n k (W.over u).2).moving = _
      rw [lead_eq hp1]; exact e1.moving
    · show ((W.over u).1.lead n k (W.over u).2).low = _
      rw [lead_eq hp1]; exact e1.low
    · show ((W.over u).1.lead n k (W.over u).2).size = _
      rw [lead_eq hp1]; exact e1.size
end
end PW
namespace PW
open PySem L2 WM
section
variable {W W' : Wa} {notes : Notes Str} {heads : List (Option Nat)} {φ : Nat → Option Nat}
theorem does_smM {d : Deed} {r : V} (sm : WSm W) (dk : DeedOk W.hooks.length d) (ha : Mable d) (dd : Does W d W' r) : WSm W' ∧ W'.hooks.length = W.hooks.length ∧ W'.size = W.size := by
 have p := sm.ok
 cases d with
 | put h w os =>
  rcases dd with ⟨_, rfl, _⟩ | ⟨d1, rfl, _⟩
  · exact ⟨sm, rfl, rfl⟩
  · exact ⟨⟨put_ok p d1, sm.sz, put_rows sm.rows dk.2.1, by show (W.hooks.set h _).length ≤ 1000; rw [List.length_set]; exact sm.hks⟩, List.length_set .., rfl⟩
 | drop h =>
  obtain ⟨rfl, _⟩ := dd
  exact ⟨⟨drop_ok p h, sm.sz, sm.rows, by show (W.hooks.set h _).length ≤ 1000; rw [List.length_set]; exact sm.hks⟩, List.length_set .., rfl⟩
 | word h =>
  obtain ⟨rfl, _⟩ := dd
  exact ⟨sm, rfl, rfl⟩
 | tie h k o =>
  rcases dd with ⟨_, rfl, _⟩ | ⟨n, u, u', ⟨wd, ts, e, hp, ht⟩, hu', rfl, _⟩
  · exact ⟨sm, rfl, rfl⟩
  · have hn : W.Near n := p.hk _ (List.mem_of_getElem? e) n rfl
    have ok := lead_ok (k := k) p hn hp (p.hk u' (List.mem_of_getElem? hu'))
    have r1 := lead_rows (n := n) (k := k) (t := u') sm.rows
    rw [lead_eq hp] at ok r1 ⊢
    exact ⟨⟨ok, sm.sz, r1, sm.hks⟩, rfl, rfl⟩
 | follow h k o =>
  rcases dd with ⟨_, rfl, _⟩ | ⟨n, u, ⟨wd, ts, e, hp, ht⟩, rfl, _⟩
  · exact ⟨sm, rfl, rfl⟩
  · have hn : W.Near n := p.hk _ (List.mem_of_getElem? e) n rfl
    have htk := thr_tok p hn hp ht
    obtain ⟨p1, n1, e1⟩ := over_ok p.toPOk htk
    have hp1 : (W.over u).1.pegs[n]? = some (some (.note wd ts)) := (e1.near n hn).trans hp
    have hl : (W.follow n k o u).hooks.length = W.hooks.length := by
     show (((W.over u).1.lead n k (W.over u).2).hooks.set o (W.over u).2).length = _
     rw [List.length_set, lead_eq hp1]
     show (W.over u).1.hooks.length = _
     rw [e1.hooks]
    have hs : (W.follow n k o u).size = W.size := by
     show ((W.over u).1.lead n k (W.over u).2).size = _
     rw [lead_eq hp1]; exact e1.size
    exact ⟨⟨follow_ok p hn hp ht, by rw [hs]; exact sm.sz, follow_rows sm.rows, by rw [hl]; exact sm.hks⟩, hl, hs⟩
 | begin => exact ha.elim
 | step => exact ha.elim
 | tidy => exact ha.elim
end
end PW
namespace PW
open PySem L2 WM
section
variable {W W' : Wa} {notes : Notes Str} {heads : List (Option Nat)} {φ : Nat → Option Nat}
theorem new_sim (n c : Nat) : Sim ({ size := n, pegs := List.replicate (2 * n) none, hooks := List.replicate c none, low := 0, free := 0, moving := false, looked := 0 } : Wa) [] (List.replicate c none) (fun _ => none) := by
 refine ⟨⟨(fun k q h => nomatch h), (fun k k' q h => nomatch h)⟩, rfl, fun i t o h1 h2 => ?_⟩
 have e1 := List.eq_of_mem_replicate (List.mem_of_getElem? h1)
 have e2 := List.eq_of_mem_replicate (List.mem_of_getElem? h2)
 rw [e1, e2]; trivial
end
end PW
namespace PW
open PySem L2 WM
structure MAt (H : Hp) (nl hd : Addr) (rs : List Addr) (notes : Notes Str) (heads : List (Option Nat)) : Prop where
 nls : ∃ N, H nl = some (.lst N) ∧ N.length = notes.length ∧ ∀ (i : Nat) (v : V) (p : Str × List (Option Nat)), N[i]? = some v → notes[i]? = some p → ∃ t l, v = .ref t ∧ H t = some (.tup [.str p.1, .ref l]) ∧ rs[i]? = some l ∧ H l = some (.lst (p.2.map thV))
 hds : H hd = some (.lst (heads.map thV))
 len : rs.length = notes.length
 nd : rs.Nodup
 ne : nl ≠ hd
 nlr : nl ∉ rs
 hdr : hd ∉ rs
theorem MAt.get {H : Hp} {nl hd : Addr} {rs : List Addr} {notes : Notes Str} {heads : List (Option Nat)} (m : MAt H nl hd rs notes heads) {N : List V} (hN : H nl = some (.lst N)) {i : Nat} {p : Str × List (Option Nat)} (e : notes[i]? = some p) :
 ∃ t l, N[i]? = some (.ref t) ∧ H t = some (.tup [.str p.1, .ref l]) ∧ rs[i]? = some l ∧ H l = some (.lst (p.2.map thV)) := by
 obtain ⟨N', h1, h2, h3⟩ := m.nls
 rw [hN] at h1; cases h1
 have hl : i < N.length := by rw [h2]; exact getElem?_ne_none_lt e
 have eN : N[i]? = some N[i] := List.getElem?_eq_getElem hl
 obtain ⟨t, l, e1, e2, e3, e4⟩ := h3 i _ p eN e
 exact ⟨t, l, by rw [eN, e1], e2, e3, e4⟩
theorem MAt.keep {H H' : Hp} {nl hd : Addr} {rs : List Addr} {notes : Notes Str} {heads : List (Option Nat)} (m : MAt H nl hd rs notes heads) (k : ∀ c ∈ nl :: hd :: rs, ∀ o, H c = some o → H' c = some o) (kt : ∀ c xs, H c = some (.tup xs) → H' c = some (.tup xs)) : MAt H' nl hd rs notes heads := by
 obtain ⟨⟨N, h1, h2, h3⟩, h4, h5, h6, h7, h8, h9⟩ := m
 refine ⟨⟨N, k nl (by simp) _ h1, h2, fun i v p a b => ?_⟩, k hd (by simp) _ h4, h5, h6, h7, h8, h9⟩
 obtain ⟨t, l, e1, e2, e3, e4⟩ := h3 i v p a b
 exact ⟨t, l, e1, kt _ _ e2, e3, k l (List.mem_cons_of_mem _ (List.mem_cons_of_mem _ (List.mem_of_getElem? e3))) _ e4⟩
theorem MAt.same {H H' : Hp} {nl hd : Addr} {rs : List Addr} {notes : Notes Str} {heads : List (Option Nat)} (m : MAt H nl hd rs notes heads) (s : Same H H') : MAt H' nl hd rs notes heads := m.keep (fun c _ o h => s c o h) fun c xs h => s c _ h
theorem MAt.setH {H H1 : Hp} {nl hd : Addr} {rs : List Addr} {notes : Notes Str} {heads : List (Option Nat)} (m : MAt H nl hd rs notes heads) {j : Nat} {t : Option Nat} (e : upd H hd (.lst ((heads.map thV).set j (thV t))) = H1) : MAt H1 nl hd rs notes (heads.set j t) := by
 obtain ⟨⟨N, h1, h2, h3⟩, h4, h5, h6, h7, h8, h9⟩ := m
 refine ⟨⟨N, (wr_ne e h7).trans h1, h2, fun i v p a b => ?_⟩, by rw [new_at e, List.map_set], h5, h6, h7, h8, h9⟩
 obtain ⟨t, l, e1, e2, e3, e4⟩ := h3 i v p a b
 exact ⟨t, l, e1, (wr_ne e (ne_of e2 h4 (by intro z; cases z))).trans e2, e3, (wr_ne e (fun z => h9 (by rw [← z]; exact List.mem_of_getElem? e3))).trans e4⟩
theorem MAt.setR {H H1 : Hp} {nl hd l : Addr} {rs : List Addr} {notes : Notes Str} {heads : List (Option Nat)} (m : MAt H nl hd rs notes heads) {own k : Nat} {o : Option Nat} {wd : Str} {row : List (Option Nat)} (en : notes[own]? = some (wd, row)) (el : rs[own]? = some l) (e : upd H l (.lst ((row.map thV).set k (thV o))) = H1) : MAt H1 nl hd rs (setT notes own k o) heads := by
 obtain ⟨⟨N, h1, h2, h3⟩, h4, h5, h6, h7, h8, h9⟩ := m
 have hm := List.mem_of_getElem? el
 have es : setT notes own k o = notes.set own (wd, row.set k o) := by unfold setT; rw [en]
 rw [es]
 have hlt := getElem?_ne_none_lt en
 have hll : ∃ xs, H l = some (.lst xs) := by
  have eN : N[own]? = some N[own] := List.getElem?_eq_getElem (by rw [h2]; exact hlt)
  obtain ⟨t, l', _, _, e3, e4⟩ := h3 own _ _ eN en
  rw [el] at e3; cases e3
  exact ⟨_, e4⟩
 obtain ⟨xs, hll⟩ := hll
 refine ⟨⟨N, (wr_ne e (fun z => h8 (by rw [z]; exact hm))).trans h1, by rw [List.length_set]; exact h2, fun i v p a b => ?_⟩, (wr_ne e (fun z => h9 (by rw [z]; exact hm))).trans h4, by rw [List.length_set]; exact h5, h6, h7, h8, h9⟩
 rw [List.getElem?_set] at b
 by_cases ei : own = i
 · subst ei
   rw [if_pos rfl, if_pos hlt] at b
   cases b
   obtain ⟨t, l', e1, e2, e3, e4⟩ := h3 own v _ a en
   rw [el] at e3; cases e3
   exact ⟨t, l, e1, (wr_ne e (ne_of e2 hll (by intro z; cases z))).trans e2, el, by rw [new_at e, List.map_set]⟩
 · rw [if_neg ei] at b
   obtain ⟨t, l', e1, e2, e3, e4⟩ := h3 i v p a b
   have ne : l' ≠ l := fun z => ei (by
    rw [z] at e3
    exact (List.getElem?_inj (getElem?_ne_none_lt el) h6).mp (el.trans e3.symm))
   exact ⟨t, l', e1, (wr_ne e (ne_of e2 hll (by intro z; cases z))).trans e2, e3, (wr_ne e ne).trans e4⟩
theorem MAt.snoc {H : Hp} {nl hd t l : Addr} {rs : List Addr} {notes : Notes Str} {heads' : List (Option Nat)} {N : List V} {wd : Str} {row : List (Option Nat)}
 (hN : N.length = notes.length) (h3 : ∀ (i : Nat) (v : V) (p : Str × List (Option Nat)), N[i]? = some v → notes[i]? = some p → ∃ t l, v = .ref t ∧ H t = some (.tup [.str p.1, .ref l]) ∧ rs[i]? = some l ∧ H l = some (.lst (p.2.map thV)))
 (hn : H nl = some (.lst (N ++ [.ref t]))) (ht : H t = some (.tup [.str wd, .ref l])) (hl : H l = some (.lst (row.map thV))) (hh : H hd = some (.lst (heads'.map thV))) (h5 : rs.length = notes.length) (h6 : rs.Nodup) (h7 : nl ≠ hd) (h8 : nl ∉ rs) (h9 : hd ∉ rs) (n1 : l ∉ rs) (n2 : l ≠ nl) (n3 : l ≠ hd) :
 MAt H nl hd (rs ++ [l]) (notes ++ [(wd, row)]) heads' := by
 refine ⟨⟨_, hn, by simp [hN], fun i v p a b => ?_⟩, hh, by simp [h5], ?_, h7, ?_, ?_⟩
 · by_cases hi : i < notes.length
   · rw [List.getElem?_append_left (by omega)] at a
     rw [List.getElem?_append_left hi] at b
     obtain ⟨t', l', e1, e2, e3, e4⟩ := h3 i v p a b
     exact ⟨t', l', e1, e2, by rw [List.getElem?_append_left (by omega)]; exact e3, e4⟩
   · rw [List.getElem?_append_right (by omega)] at a b
     have := getElem?_ne_none_lt b
     have e0 : i - notes.length = 0 := by simp at this; omega
     rw [hN, e0] at a
     rw [e0] at b
     cases a; cases b
     exact ⟨t, l, rfl, ht, by rw [List.getElem?_append_right (by omega), h5, e0]; rfl, hl⟩
 · rw [List.nodup_append]
   refine ⟨h6, by simp, fun a ha b hb z => ?_⟩
   rw [List.mem_singleton] at hb
   subst hb; subst z
   exact n1 ha
 · rw [List.mem_append, List.mem_singleton, not_or]; exact ⟨h8, fun z => n2 z.symm⟩
 · rw [List.mem_append, List.mem_singleton, not_or]; exact ⟨h9, fun z => n3 z.symm⟩
theorem led_take {heads : List (Option Nat)} {os : List Nat} {j o : Nat} (hO : os[j]? = some o) {t : Option Nat} (ht : heads[o]? = some t) : ((os.take (j + 1)).map fun i => (heads[i]?).getD none) = ((os.take j).map fun i => (heads[i]?).getD none) ++ [t] := by
 rw [List.take_succ, hO, List.map_append]
 simp [ht]
structure MSm (notes : Notes Str) (heads : List (Option Nat)) : Prop where
 nn : notes.length < 1000
 nh : heads.length ≤ 1000
 rows : ∀ p ∈ notes, p.2.length ≤ 1000
 hv : ∀ h own : Nat, heads[h]? = some (some own) → own < notes.length
def spModel : Sp := fun vs H Q _ => ∃ (nl hd : Addr) (rs : List Addr) (v : V) (d : Deed) (notes : Notes Str) (heads : List (Option Nat)), vs = [.ref nl, .ref hd, v] ∧ MAt H nl hd rs notes heads ∧ MSm notes heads ∧ DeedV H v d ∧ DeedOk heads.length d ∧ Mable d ∧
 ∀ H' rs', MAt H' nl hd rs' (mdl notes heads d).1 (mdl notes heads d).2.1 → Keep (nl :: hd :: rs) H H' → (∀ c ∈ rs', c ∈ rs ∨ H c = none) → Q (mdl notes heads d).2.2 H'
section
variable {P : Program} {w : World} {K : PySem.W.Frag} {mg : Str → Option Value} {base : Heap} {A : Adr}
theorem ok_model (T : Txt K mg A) : FnOk P w K mg base (CXe P w) 1 A.a_model A.d_model ["_law_notes", "_law_heads", "_law_deed"] spModel := by
 refine T.f_model.okN sc_model (fun vs H Q E h => ?_) (fun cdv B outer s H vs Q E hr h => ?_)
 · obtain ⟨nl, hd, rs, v, d, notes, heads, rfl, _⟩ := h
   rfl
 obtain ⟨nl, hd, rs, v, d, notes, heads, rfl, hM, sm, hdv, dk, ha, q⟩ := h
 have hu := hu_of hr
 have hq : _ + 1 + 0 < cLine := hu_of hr
 have nd := sc_model.nd
 refine ⟨_, (pss_cons (ps_set (i := 3) nd rfl (nm_model.at rfl (i := 3) rfl rfl) (pe_idx hu (pvn nm_model rfl rfl 2 rfl rfl) pe_int (fun _ _ => rfl)))
  (pss_cons (ps_if (pt_cmpR (op_eq_f hq) (pvn nm_model rfl rfl 3 rfl rfl) pe_str (nomark _)) (pss_cons (ps_expr (pe_append (pvn nm_model rfl rfl 0 rfl rfl) (pe_tup (pa_cons (pe_idx hu (pvn nm_model rfl rfl 2 rfl rfl) pe_int (fun _ _ => rfl)) (pa_cons (pe_comp (i := 5) (CompScope.mk' (fsc := defScope s_model) (cl := [("_law_heads", s.heap.objs.size + 1)]) (clN := ["_law_heads"]) (N := ["_law_notes", "_law_heads", "_law_deed", "_law_word", "_law_own", "_law_other"]) rfl rfl (sub_of (sub_cons rfl sub_nil)) rfl rfl (by decide +kernel)) nd rfl rfl (pi_seq (pe_idx hu (pvn nm_model rfl rfl 2 rfl rfl) pe_int (fun _ _ => rfl))) (fun _ _ _ _ _ => pts_nil) (fun _ _ _ _ _ => (pe_idx hu (pv 1) (pv 5) (fun _ _ => rfl)))) pa_nil)))))
   (pss_cons (ps_asg (pe_op op_sub (pe_callB call_len_f rfl T.z_len bt_len (pa_cons (pvn nm_model rfl rfl 0 rfl rfl) pa_nil)) pe_int) (pg_sub (pvn nm_model rfl rfl 1 rfl rfl) (pe_idx hu (pvn nm_model rfl rfl 2 rfl rfl) pe_int (fun _ _ => rfl)) (set_f hu)))
   (pss_one (ps_ret pe_bl)))) pss_nil)
  (pss_cons (ps_set (i := 4) nd rfl (nm_model.at rfl (i := 4) rfl rfl) (pe_idx hu (pvn nm_model rfl rfl 1 rfl rfl) (pe_idx hu (pvn nm_model rfl rfl 2 rfl rfl) pe_int (fun _ _ => rfl)) (fun _ _ => rfl)))
  (pss_cons (ps_if (pt_cmpR (op_eq_f hq) (pvn nm_model rfl rfl 3 rfl rfl) pe_str (nomark _)) (pss_cons (ps_asg pe_non (pg_sub (pvn nm_model rfl rfl 1 rfl rfl) (pe_idx hu (pvn nm_model rfl rfl 2 rfl rfl) pe_int (fun _ _ => rfl)) (set_f hu)))
   (pss_one (ps_ret pe_bl))) pss_nil)
  (pss_cons (ps_if (pt_cmpR op_is_f (pvn nm_model rfl rfl 4 rfl rfl) pe_non (nomark _)) (pss_one (ps_ret pe_non)) pss_nil)
  (pss_cons (ps_if (pt_cmpR (op_eq_f hq) (pvn nm_model rfl rfl 3 rfl rfl) pe_str (nomark _)) (pss_one (ps_ret (pe_idx hu (pe_idx hu (pvn nm_model rfl rfl 0 rfl rfl) (pvn nm_model rfl rfl 4 rfl rfl) (fun _ _ => rfl)) pe_int (fun _ _ => rfl)))) pss_nil)
  (pss_cons (ps_if (pt_cmpR op_ge (pe_idx hu (pvn nm_model rfl rfl 2 rfl rfl) pe_int (fun _ _ => rfl)) (pe_callB call_len_f rfl T.z_len bt_len (pa_cons (pe_idx hu (pe_idx hu (pvn nm_model rfl rfl 0 rfl rfl) (pvn nm_model rfl rfl 4 rfl rfl) (fun _ _ => rfl)) pe_int (fun _ _ => rfl)) pa_nil)) (nomark _)) (pss_one (ps_ret pe_non)) pss_nil)
  (pss_cons (ps_if (pt_cmpR (op_eq_f hq) (pvn nm_model rfl rfl 3 rfl rfl) pe_str (nomark _)) (pss_cons (ps_asg (pe_idx hu (pvn nm_model rfl rfl 1 rfl rfl) (pe_idx hu (pvn nm_model rfl rfl 2 rfl rfl) pe_int (fun _ _ => rfl)) (fun _ _ => rfl)) (pg_sub (pe_idx hu (pe_idx hu (pvn nm_model rfl rfl 0 rfl rfl) (pvn nm_model rfl rfl 4 rfl rfl) (fun _ _ => rfl)) pe_int (fun _ _ => rfl)) (pe_idx hu (pvn nm_model rfl rfl 2 rfl rfl) pe_int (fun _ _ => rfl)) (set_f hu)))
   (pss_one (ps_ret pe_bl))) pss_nil)
  (pss_cons (ps_asg (pe_idx hu (pe_idx hu (pe_idx hu (pvn nm_model rfl rfl 0 rfl rfl) (pvn nm_model rfl rfl 4 rfl rfl) (fun _ _ => rfl)) pe_int (fun _ _ => rfl)) (pe_idx hu (pvn nm_model rfl rfl 2 rfl rfl) pe_int (fun _ _ => rfl)) (fun _ _ => rfl)) (pg_sub (pvn nm_model rfl rfl 1 rfl rfl) (pe_idx hu (pvn nm_model rfl rfl 2 rfl rfl) pe_int (fun _ _ => rfl)) (set_f hu)))
  (pss_one (ps_ret (pe_cmpR op_isnot_f (pe_idx hu (pvn nm_model rfl rfl 1 rfl rfl) (pe_idx hu (pvn nm_model rfl rfl 2 rfl rfl) pe_int (fun _ _ => rfl)) (fun _ _ => rfl)) pe_non (nomark _))))))))))))), ?_⟩
 show tSeq _ _ _ [some (.ref nl), some (.ref hd), some v, none, none, none] H
 obtain ⟨N, hN, lN, gN⟩ := hM.nls
 have hH := hM.hds
 cases d with
 | begin => exact ha.elim
 | step => exact ha.elim
 | tidy => exact ha.elim
 | put h wd os =>
  obtain ⟨t, oa, rfl, h1, h2⟩ := hdv
  obtain ⟨k1, k2, k3⟩ := dk
  refine step1 fun D1 n1 r1 _ _ => ?_
  exists 1, h1, at0
  refine n1 _ _ ?_
  refine stepT (fun R hR => by exists 1, L2.ap_seq; exact hR) fun D2 n2 r2 _ _ => ?_
  refine step1 fun D3 n3 r3 _ _ => ?_
  exists 1, h1, at0, at1, at2, at3, hN
  refine comp_seq (xs := iV os) (by rw [h2]; rfl) fun l g6 => ?_
  refine ⟨fun j ys G' => G' l = some (.lst ys) ∧ Same H G' ∧ ys = ((os.take j).map fun i => (heads[i]?).getD none).map thV, ?_, ?_, ?_, ?_⟩
  · generalize e : upd H l _ = G6
    exact ⟨new_at e, new_same g6 e, by simp⟩
  · rintro j ys G' hj ⟨h3, h4, h5⟩
    exact ⟨h3, by rw [h4 _ _ h2, h2]⟩
  · rintro j v ys G' NN hNN hv ⟨h3, h4, h5⟩
    obtain ⟨o, hO, rfl⟩ := getI hv
    have hol := k3 o (List.mem_of_getElem? hO)
    have eo : heads[o]? = some heads[o] := List.getElem?_eq_getElem hol
    have hy : ys.length < sizeLine := small1000 (by
     rw [h5, List.length_map, List.length_map, List.length_take]; omega)
    exists 1, h4 _ _ hH, atMap eo, h3, hy
    refine hNN _ _ ⟨new_at rfl, same_upd h4 g6, ?_⟩
    rw [h5, led_take hO eo, List.map_append]; rfl
  · rintro ys G6 ⟨h3, h4, h5⟩
    rw [show (iV os).length = os.length by unfold iV; simp, List.take_length] at h5
    refine ⟨small (Nat.le_of_ble_eq_true rfl), ?_⟩
    intro nt g7; generalize e_G7 : upd G6 nt _ = G7; have m7 := new_at e_G7; have t7 := new_same g7 e_G7
    have t07 : Same H G7 := h4.trans t7
    exists 1, t07 _ _ hN
    refine ⟨small1000 (by rw [lN]; have := sm.nn; omega), n3 _ _ ?_⟩
    generalize e8 : upd G7 nl _ = G8
    have gnl8 := new_at e8
    have ghd8 : G8 hd = _ := (wr_ne e8 hM.ne.symm).trans (t07 _ _ hH)
    have hix : ixN (heads.map thV).length (h : Int) = some h := ixN_nat (by rw [List.length_map]; exact k1)
    rw [List.length_map] at hix
    have g1 : G8 t = _ := (wr_ne e8 (ne_of h1 hN (by intro z; cases z))).trans (t07 _ _ h1)
    refine step1 fun D4 n4 r4 _ _ => ?_
    exists 1, gnl8, ghd8, hix, g1, at1
    refine n4 _ _ ?_
    generalize e9 : upd G8 hd _ = G9
    exists 1, L2.ap_seq
    refine r2 _ _ ?_
    have lne : ∀ c, H c ≠ none → l ≠ c := fun c hc z => hc (by rw [← z]; exact g6)
    have nne : ∀ c, G6 c ≠ none → nt ≠ c := fun c hc z => hc (by rw [← z]; exact g7)
    have l1 : l ≠ nl := lne nl (by rw [hN]; exact Option.some_ne_none _)
    have l2 : l ≠ hd := lne hd (by rw [hH]; exact Option.some_ne_none _)
    have n1 : nt ≠ nl := nne nl (by rw [h4 _ _ hN]; exact Option.some_ne_none _)
    have n2 : nt ≠ hd := nne hd (by rw [h4 _ _ hH]; exact Option.some_ne_none _)
    have rsome : ∀ i c, rs[i]? = some c → ∃ xs, H c = some (.lst xs) := fun i c hc => by
     have hi : i < notes.length := by rw [← hM.len]; exact getElem?_ne_none_lt hc
     obtain ⟨t', l', _, _, e3, e4⟩ := hM.get hN (List.getElem?_eq_getElem hi)
     rw [hc] at e3; cases e3
     exact ⟨_, e4⟩
    have l3 : l ∉ rs := fun z => by
     obtain ⟨i, hi⟩ := List.mem_iff_getElem?.mp z
     obtain ⟨xs, hx⟩ := rsome i l hi
     rw [g6] at hx; cases hx
    have k79 : Keep (nl :: hd :: rs) H G9 := ((Keep.of t07).trans (Keep.wr e8 (by simp))).trans (Keep.wr e9 (by simp))
    have el : G9 l = some (.lst ((os.map fun i => (heads[i]?).getD none).map thV)) := by
     rw [wr_ne e9 l2, wr_ne e8 l1, t7 _ _ h3, h5]
    have et : G9 nt = some (.tup [.str wd, .ref l]) := by rw [wr_ne e9 n2, wr_ne e8 n1, m7]
    refine q G9 (rs ++ [l]) ?_ k79 (fun c hc => ?_)
    · refine MAt.snoc (N := N) lN (fun i v p a b => ?_) ((wr_ne e9 hM.ne).trans gnl8) et el ?_ hM.len hM.nd hM.ne hM.nlr hM.hdr l3 l1 l2
      · obtain ⟨t', l', f1, f2, f3, f4⟩ := gN i v p a b
        refine ⟨t', l', f1, ?_, f3, ?_⟩
        · rw [wr_ne e9 (ne_of f2 hH (by intro z; cases z)), wr_ne e8 (ne_of f2 hN (by intro z; cases z)), t07 _ _ f2]
        · rw [wr_ne e9 (fun z => hM.hdr (by rw [← z]; exact List.mem_of_getElem? f3)), wr_ne e8 (fun z => hM.nlr (by rw [← z]; exact List.mem_of_getElem? f3)), t07 _ _ f4]
      · rw [new_at e9]
        show _ = some (HO.lst ((heads.set h (some notes.length)).map thV))
        rw [List.map_set]
        simp only [List.length_append, List.length_cons, List.length_nil, lN, thV]
        rw [show (((notes.length + (0 + 1) : Nat) : Int) - 1) = ((notes.length : Nat) : Int) by omega]
    · rcases List.mem_append.mp hc with z | z
      · exact .inl z
      · rw [List.mem_singleton.mp z]; exact .inr g6
 | drop h =>
  obtain ⟨t, rfl, h1⟩ := hdv
  obtain ⟨th, eo⟩ : ∃ t, heads[h]? = some t := ⟨_, List.getElem?_eq_getElem dk⟩
  have ne1 : ¬ (("drop" : Str) = "put") := by decide +kernel
  have hix : ixN heads.length (h : Int) = some h := ixN_nat dk
  refine step1 fun D1 n1 r1 _ _ => ?_
  exists 1, h1, at0
  refine n1 _ _ ?_
  refine stepF (fun R hR => by exists 1, ne1; exact hR) ?_
  refine step1 fun D2 n2 r2 _ _ => ?_
  exists 1, h1, at1, hH, atMap eo
  refine n2 _ _ ?_
  refine stepT (fun R hR => by exists 1, L2.ap_seq; exact hR) fun D3 n3 r3 _ _ => ?_
  refine step1 fun D4 n4 r4 _ _ => ?_
  exists 1, h1, at1, hH, hix
  refine n4 _ _ ?_
  exists 1, L2.ap_seq
  generalize e9 : upd H hd _ = H9
  exact r3 _ _ (q H9 rs (hM.setH (t := none) e9) (Keep.wr e9 (by simp)) fun c hc => .inl hc)
 | word h =>
  obtain ⟨t, rfl, h1⟩ := hdv
  obtain ⟨th, eo⟩ : ∃ t, heads[h]? = some t := ⟨_, List.getElem?_eq_getElem dk⟩
  have ne1 : ¬ (("word" : Str) = "put") := by decide +kernel
  have ne2 : ¬ (("word" : Str) = "drop") := by decide +kernel
  refine step1 fun D1 n1 r1 _ _ => ?_
  exists 1, h1, at0
  refine n1 _ _ ?_
  refine stepF (fun R hR => by exists 1, ne1; exact hR) ?_
  refine step1 fun D2 n2 r2 _ _ => ?_
  exists 1, h1, at1, hH, atMap eo
  refine n2 _ _ ?_
  refine stepF (fun R hR => by exists 1, ne2; exact hR) ?_
  cases th with
  | none =>
   have em : (mdl notes heads (.word h)).2.2 = .non := by simp only [mdl, eo]
   rw [em] at q
   refine stepT (fun R hR => by exists 1, thV_no; exact hR) fun D3 n3 r3 _ _ => ?_
   exists 1, L2.ap_seq
   exact r3 _ _ (q H rs hM (Keep.refl _ _) fun c hc => .inl hc)
  | some own =>
   obtain ⟨⟨wd, row⟩, eN⟩ : ∃ p, notes[own]? = some p := ⟨_, List.getElem?_eq_getElem (sm.hv h own eo)⟩
   obtain ⟨t', l, f1, f2, f3, f4⟩ := hM.get hN eN
   have em : (mdl notes heads (.word h)).2.2 = .str wd := by simp only [mdl, eo, eN]
   rw [em] at q
   refine stepF (fun R hR => by exists 1, thV_some; exact hR) ?_
   refine stepT (fun R hR => by exists 1, L2.ap_seq; exact hR) fun D3 n3 r3 _ _ => ?_
   exists 1, thV_some, hN, atI_nat f1, f2, at0
   exact r3 _ _ (q H rs hM (Keep.refl _ _) fun c hc => .inl hc)
 | tie h k o =>
  obtain ⟨t, rfl, h1⟩ := hdv
  obtain ⟨th, eo⟩ : ∃ t, heads[h]? = some t := ⟨_, List.getElem?_eq_getElem dk.1⟩
  obtain ⟨to, eo2⟩ : ∃ t, heads[o]? = some t := ⟨_, List.getElem?_eq_getElem dk.2⟩
  have ne1 : ¬ (("tie" : Str) = "put") := by decide +kernel
  have ne2 : ¬ (("tie" : Str) = "drop") := by decide +kernel
  have ne3 : ¬ (("tie" : Str) = "word") := by decide +kernel
  refine step1 fun D1 n1 r1 _ _ => ?_
  exists 1, h1, at0
  refine n1 _ _ ?_
  refine stepF (fun R hR => by exists 1, ne1; exact hR) ?_
  refine step1 fun D2 n2 r2 _ _ => ?_
  exists 1, h1, at1, hH, atMap eo
  refine n2 _ _ ?_
  refine stepF (fun R hR => by exists 1, ne2; exact hR) ?_
  cases th with
  | none =>
   have em := (mdl_no (notes := notes) (k := k) (o := o) (.inl eo)).1
   rw [em] at q
   refine stepT (fun R hR => by exists 1, thV_no; exact hR) fun D3 n3 r3 _ _ => ?_
   exists 1, L2.ap_seq
   exact r3 _ _ (q H rs hM (Keep.refl _ _) fun c hc => .inl hc)
  | some own =>
   obtain ⟨⟨wd, row⟩, eN⟩ : ∃ p, notes[own]? = some p := ⟨_, List.getElem?_eq_getElem (sm.hv h own eo)⟩
   obtain ⟨t', l, f1, f2, f3, f4⟩ := hM.get hN eN
   refine stepF (fun R hR => by exists 1, thV_some; exact hR) ?_
   refine stepF (fun R hR => by exists 1, ne3; exact hR) ?_
   by_cases hk : row.length ≤ k
   · have em := (mdl_no (notes := notes) (k := k) (o := o) (.inr ⟨own, wd, row, eo, eN, hk⟩)).1
     rw [em] at q
     have hk' : ((row.length : Nat) : Int) ≤ (k : Int) := by omega
     refine stepT (fun R hR => by exists 1, h1, at1, at2, thV_some, hN, atI_nat f1, f2, f4, hk'; exact hR) fun D3 n3 r3 _ _ => ?_
     exists 1, L2.ap_seq
     exact r3 _ _ (q H rs hM (Keep.refl _ _) fun c hc => .inl hc)
   · have em := (mdl_thr (notes := notes) (k := k) (o := o) eo (wd := wd) (row := row) eN (by omega)).1
     have hk' : ¬ ((row.length : Nat) : Int) ≤ (k : Int) := by omega
     refine stepF (fun R hR => by exists 1, h1, at1, at2, thV_some, hN, atI_nat f1, f2, f4, hk'; exact hR) ?_
     rw [em, eo2] at q
     have hix : ixN row.length (k : Int) = some k := ixN_nat (by omega)
     refine stepT (fun R hR => by exists 1, L2.ap_seq; exact hR) fun D3 n3 r3 _ _ => ?_
     refine step1 fun D4 n4 r4 _ _ => ?_
     exists 1, h1, at1, at2, at3, hH, atMap eo2, thV_some, hN, atI_nat f1, f2, f4, hix
     refine n4 _ _ ?_
     exists 1, L2.ap_seq
     generalize e9 : upd H l _ = H9
     exact r3 _ _ (q H9 rs (hM.setR eN f3 e9) (Keep.wr e9 (List.mem_cons_of_mem _ (List.mem_cons_of_mem _ (List.mem_of_getElem? f3)))) fun c hc => .inl hc)
 | follow h k o =>
  obtain ⟨t, rfl, h1⟩ := hdv
  obtain ⟨th, eo⟩ : ∃ t, heads[h]? = some t := ⟨_, List.getElem?_eq_getElem dk.1⟩
  obtain ⟨to, eo2⟩ : ∃ t, heads[o]? = some t := ⟨_, List.getElem?_eq_getElem dk.2⟩
  have ne1 : ¬ (("follow" : Str) = "put") := by decide +kernel
  have ne2 : ¬ (("follow" : Str) = "drop") := by decide +kernel
  have ne3 : ¬ (("follow" : Str) = "word") := by decide +kernel
  have ne4 : ¬ (("follow" : Str) = "tie") := by decide +kernel
  refine step1 fun D1 n1 r1 _ _ => ?_
  exists 1, h1, at0
  refine n1 _ _ ?_
  refine stepF (fun R hR => by exists 1, ne1; exact hR) ?_
  refine step1 fun D2 n2 r2 _ _ => ?_
  exists 1, h1, at1, hH, atMap eo
  refine n2 _ _ ?_
  refine stepF (fun R hR => by exists 1, ne2; exact hR) ?_
  cases th with
  | none =>
   have em := (mdl_no (notes := notes) (k := k) (o := o) (.inl eo)).2
   rw [em] at q
   refine stepT (fun R hR => by exists 1, thV_no; exact hR) fun D3 n3 r3 _ _ => ?_
   exists 1, L2.ap_seq
   exact r3 _ _ (q H rs hM (Keep.refl _ _) fun c hc => .inl hc)
  | some own =>
   obtain ⟨⟨wd, row⟩, eN⟩ : ∃ p, notes[own]? = some p := ⟨_, List.getElem?_eq_getElem (sm.hv h own eo)⟩
   obtain ⟨t', l, f1, f2, f3, f4⟩ := hM.get hN eN
   refine stepF (fun R hR => by exists 1, thV_some; exact hR) ?_
   refine stepF (fun R hR => by exists 1, ne3; exact hR) ?_
   by_cases hk : row.length ≤ k
   · have em := (mdl_no (notes := notes) (k := k) (o := o) (.inr ⟨own, wd, row, eo, eN, hk⟩)).2
     rw [em] at q
     have hk' : ((row.length : Nat) : Int) ≤ (k : Int) := by omega
     refine stepT (fun R hR => by exists 1, h1, at1, at2, thV_some, hN, atI_nat f1, f2, f4, hk'; exact hR) fun D3 n3 r3 _ _ => ?_
     exists 1, L2.ap_seq
     exact r3 _ _ (q H rs hM (Keep.refl _ _) fun c hc => .inl hc)
   · have em := (mdl_thr (notes := notes) (k := k) (o := o) eo (wd := wd) (row := row) eN (by omega)).2
     have hk' : ¬ ((row.length : Nat) : Int) ≤ (k : Int) := by omega
     refine stepF (fun R hR => by exists 1, h1, at1, at2, thV_some, hN, atI_nat f1, f2, f4, hk'; exact hR) ?_
     obtain ⟨u, ek⟩ : ∃ u, row[k]? = some u := ⟨_, List.getElem?_eq_getElem (by omega)⟩
     rw [em, ek] at q
     have hix : ixN heads.length (o : Int) = some o := ixN_nat dk.2
     refine stepF (fun R hR => by exists 1, ne4; exact hR) ?_
     refine step1 fun D4 n4 r4 _ _ => ?_
     exists 1, h1, at1, at2, at3, hH, atMap ek, thV_some, hN, atI_nat f1, f2, f4, hix
     refine n4 _ _ ?_
     generalize e9 : upd H hd _ = H9
     have h9 := new_at e9
     have g1 : H9 t = _ := (wr_ne e9 (ne_of h1 hH (by intro z; cases z))).trans h1
     have hA := hM.setH e9
     have g2 : atI ((heads.map thV).set o (thV u)) (o : Int) = some (thV u) := atI_nat (by
      rw [List.getElem?_set, if_pos rfl, List.length_map, if_pos dk.2])
     exists 1, h9, g1, at3, g2
     have := q H9 rs hA (Keep.wr e9 (by simp)) fun c hc => .inl hc
     cases u with
     | none => simpa [thV] using this
     | some j => simpa [thV] using this
end
end PW
namespace PW
open PySem L2 WM
def DeedsV (H : Hp) (D : List V) (ds : List Deed) : Prop := D.length = ds.length ∧ ∀ (i : Nat) (v : V) (d : Deed), D[i]? = some v → ds[i]? = some d → DeedV H v d
theorem DeedsV.mono {H H' : Hp} {D : List V} {ds : List Deed} (h : DeedsV H D ds) (s : ∀ b xs, H b = some (.tup xs) → H' b = some (.tup xs)) : DeedsV H' D ds := ⟨h.1, fun i v d a b => (h.2 i v d a b).mono s⟩
theorem DeedsV.snoc {H : Hp} {D : List V} {ds : List Deed} (h : DeedsV H D ds) {v : V} {d : Deed} (hv : DeedV H v d) : DeedsV H (D ++ [v]) (ds ++ [d]) := by
 refine ⟨by simp [h.1], fun i u e a b => ?_⟩
 by_cases hi : i < ds.length
 · rw [List.getElem?_append_left (by rw [h.1]; exact hi)] at a
   rw [List.getElem?_append_left hi] at b
   exact h.2 i u e a b
 · rw [List.getElem?_append_right (by rw [h.1]; omega)] at a
   rw [List.getElem?_append_right (by omega)] at b
   have := getElem?_ne_none_lt b
   have e0 : i - ds.length = 0 := by simp at this; omega
   rw [h.1, e0] at a
   rw [e0] at b
   cases a; cases b
   exact hv
theorem DeedsV.get {H : Hp} {D : List V} {ds : List Deed} (h : DeedsV H D ds) {i : Nat} {v : V} (hv : D[i]? = some v) : ∃ d, ds[i]? = some d ∧ DeedV H v d := by
 have hl : i < ds.length := by rw [← h.1]; exact getElem?_ne_none_lt hv
 exact ⟨ds[i], List.getElem?_eq_getElem hl, h.2 i v _ hv (List.getElem?_eq_getElem hl)⟩
def spDeedOf : Sp := fun vs H Q _ => ∃ (cell : Int) (k c : Nat), vs = [.int cell, .int k, .int c] ∧ 1 ≤ c ∧ c ≤ 1000 ∧ ∀ v H' d, DeedV H' v d → DeedOk c d → Same H H' → Q v H'
section
variable {P : Program} {w : World} {K : PySem.W.Frag} {mg : Str → Option Value} {base : Heap} {A : Adr}
theorem ifS_both {tt : TT} {t u : TS} {D : Ends} {σ : St} {H : Hp} (b : Bool) (σ' : St) (ht : ∀ R : Bool → Hp → Prop, R b H → tt σ H R) (hb : ∀ D : Ends, D.nx σ' H → (if b = true then t else u) D σ H) (k : D.nx σ' H) : tIfS tt t u D σ H := by
 rw [ap_ifS]
 refine ht _ ?_
 have := hb D k
 cases b with
 | true => exact this
 | false => exact this
theorem w_mulS {z : Str} {n : Int} {H : Hp} {Q : VK} (h1 : 1 < n ∧ n ≤ 100) (h2 : 0 < z.length ∧ z.length ≤ 1000) (h3 : (repS z n.toNat).length ≤ sizeLine) : fMulS (.str z) (.int n) H Q ↔ Q (.str (repS z n.toNat)) H := by
 unfold fMulS
 constructor
 · rintro ⟨z', n', e1, e2, _, _, _, q⟩
   cases e1; cases e2; exact q
 · intro q; exact ⟨z, n, rfl, rfl, h1, h2, h3, q⟩
theorem w_long {H : Hp} {Q : VK} : fMulS (.str "a note with more, and A") (.int 3) H Q ↔ Q (.str (repS "a note with more, and A" 3)) H :=
 w_mulS (by decide) (by decide +kernel) (Nat.le_trans (m := 1000) (by decide +kernel) (by decide))
theorem pick_word (m : Nat) (h : m < 8) : ∃ wd : Str, atI [V.str "a", .str "ab", .str "abc", .str "", .str "moved", .str (repS "a note with more, and A" 3), .str "A", .str "zz"] (m : Int) = some (.str wd) := by
 match m, h with
 | 0, _ => exact ⟨_, rfl⟩
 | 1, _ => exact ⟨_, rfl⟩
 | 2, _ => exact ⟨_, rfl⟩
 | 3, _ => exact ⟨_, rfl⟩
 | 4, _ => exact ⟨_, rfl⟩
 | 5, _ => exact ⟨_, rfl⟩
 | 6, _ => exact ⟨_, rfl⟩
 | 7, _ => exact ⟨_, rfl⟩
theorem pick_many (m : Nat) (h : m < 8) : ∃ n : Nat, atI [V.int 0, .int 1, .int 2, .int 3, .int 0, .int 1, .int 2, .int 20] (m : Int) = some (.int (n : Nat)) ∧ n ≤ 20 := by
 match m, h with
 | 0, _ => exact ⟨0, rfl, by omega⟩
 | 1, _ => exact ⟨1, rfl, by omega⟩
 | 2, _ => exact ⟨2, rfl, by omega⟩
 | 3, _ => exact ⟨3, rfl, by omega⟩
 | 4, _ => exact ⟨0, rfl, by omega⟩
 | 5, _ => exact ⟨1, rfl, by omega⟩
 | 6, _ => exact ⟨2, rfl, by omega⟩
 | 7, _ => exact ⟨20, rfl, by omega⟩
theorem ok_deed_of (T : Txt K mg A) : FnOk P w K mg base (CXe P w) 1 A.a_deed_of A.d_deed_of ["_law_cell", "_law_k", "_law_count"] spDeedOf := by
 refine T.f_deed_of.okN sc_deed_of (fun vs H Q E h => ?_) (fun cdv B outer s H vs Q E hr h => ?_)
 · obtain ⟨cell, k, c, rfl, _⟩ := h
   rfl
 obtain ⟨cell, k, c, rfl, c1, c2, q⟩ := h
 have hu := hu_of hr
 have hq : _ + 1 + 0 < cLine := hu_of hr
 have nd := sc_deed_of.nd
 refine ⟨_, (pss_cons (ps_set (i := 3) nd rfl (nm_deed_of.at rfl (i := 3) rfl rfl) (pe_op op_mod (pe_op op_mod (pe_op op_mul_f (pvn nm_deed_of rfl rfl 0 rfl rfl) pe_int) pe_int) pe_int))
  (pss_cons (ps_set (i := 4) nd rfl (nm_deed_of.at rfl (i := 4) rfl rfl) (pe_op op_mod (pe_op op_mod (pe_op op_mul_f (pe_op op_add_f (pvn nm_deed_of rfl rfl 0 rfl rfl) (pvn nm_deed_of rfl rfl 1 rfl rfl)) pe_int) pe_int) (pvn nm_deed_of rfl rfl 2 rfl rfl)))
  (pss_cons (ps_set (i := 5) nd rfl (nm_deed_of.at rfl (i := 5) rfl rfl) (pe_op op_mod (pe_op op_mod (pe_op op_mul_f (pe_op op_add_f (pe_op op_add_f (pvn nm_deed_of rfl rfl 0 rfl rfl) (pe_op op_mul_f pe_int (pvn nm_deed_of rfl rfl 1 rfl rfl))) pe_int) pe_int) pe_int) (pvn nm_deed_of rfl rfl 2 rfl rfl)))
  (pss_cons (ps_set (i := 6) nd rfl (nm_deed_of.at rfl (i := 6) rfl rfl) (pe_op op_mod (pe_op op_mod (pe_op op_mul_f (pvn nm_deed_of rfl rfl 0 rfl rfl) pe_int) pe_int) pe_int))
  (pss_cons (ps_if (pt_cmpR (op_eq_f hq) (pe_op op_mod (pe_op op_mod (pe_op op_mul_f (pvn nm_deed_of rfl rfl 0 rfl rfl) pe_int) pe_int) pe_int) pe_int (nomark _)) (pss_one (ps_set (i := 6) nd rfl (nm_deed_of.at rfl (i := 6) rfl rfl) (pe_op op_mod (pe_op op_mod (pe_op op_mul_f (pvn nm_deed_of rfl rfl 0 rfl rfl) pe_int) pe_int) pe_int))) pss_nil)
  (pss_cons (ps_if (pt_cmpR op_lt (pvn nm_deed_of rfl rfl 3 rfl rfl) pe_int (nomark _)) (pss_cons (ps_set (i := 7) nd rfl (nm_deed_of.at rfl (i := 7) rfl rfl) (pe_lst (pa_cons pe_str (pa_cons pe_str (pa_cons pe_str (pa_cons pe_str (pa_cons pe_str (pa_cons (pe_op op_mulS pe_str pe_int) (pa_cons pe_str (pa_cons pe_str pa_nil))))))))))
   (pss_cons (ps_set (i := 8) nd rfl (nm_deed_of.at rfl (i := 8) rfl rfl) (pe_idx hu (pvn nm_deed_of rfl rfl 7 rfl rfl) (pe_op op_mod (pe_op op_mod (pe_op op_mul_f (pe_op op_add_f (pvn nm_deed_of rfl rfl 0 rfl rfl) (pvn nm_deed_of rfl rfl 1 rfl rfl)) pe_int) pe_int) pe_int) (fun _ _ => rfl)))
   (pss_cons (ps_set (i := 9) nd rfl (nm_deed_of.at rfl (i := 9) rfl rfl) (pe_idx hu (pe_lst (pa_cons pe_int (pa_cons pe_int (pa_cons pe_int (pa_cons pe_int (pa_cons pe_int (pa_cons pe_int (pa_cons pe_int (pa_cons pe_int pa_nil))))))))) (pe_op op_mod (pe_op op_mod (pe_op op_mul_f (pe_op op_add_f (pvn nm_deed_of rfl rfl 0 rfl rfl) (pvn nm_deed_of rfl rfl 1 rfl rfl)) pe_int) pe_int) pe_int) (fun _ _ => rfl)))
   (pss_cons (ps_setcomp (j := 10) (i := 11) (CompScope.mk' (fsc := defScope s_deed_of) (cl := [("_law_k", s.heap.objs.size + 2), ("_law_count", s.heap.objs.size + 3), ("_law_cell", s.heap.objs.size + 1)]) (clN := ["_law_k", "_law_count", "_law_cell"]) (N := ["_law_cell", "_law_k", "_law_count", "_law_way", "_law_hook", "_law_other", "_law_spot", "_law_some", "_law_word", "_law_many", "_law_others", "_law_j"]) rfl rfl (sub_of (sub_cons rfl (sub_cons rfl (sub_cons rfl sub_nil)))) rfl rfl (by decide +kernel)) nd rfl rfl (nm_deed_of.at rfl (i := 10) rfl rfl) rfl (pi_range1 rfl T.z_range (pa_cons (pvn nm_deed_of rfl rfl 9 rfl rfl) pa_nil)) (fun _ _ _ _ _ => pts_nil) (fun _ _ _ _ _ => (pe_op op_mod (pe_op op_mod (pe_op op_mul_f (pe_op op_add_f (pe_op op_add_f (pv 0) (pv 11)) (pv 1)) pe_int) pe_int) (pv 2))))
   (pss_one (ps_ret (pe_tup (pa_cons pe_str (pa_cons (pvn nm_deed_of rfl rfl 4 rfl rfl) (pa_cons (pvn nm_deed_of rfl rfl 8 rfl rfl) (pa_cons (pe_callTy call_tuple_f rfl T.z_tuple bt_tuple (pa_cons (pvn nm_deed_of rfl rfl 10 rfl rfl) pa_nil)) pa_nil))))))))))) pss_nil)
  (pss_cons (ps_if (pt_cmpR op_lt (pvn nm_deed_of rfl rfl 3 rfl rfl) pe_int (nomark _)) (pss_one (ps_ret (pe_tup (pa_cons pe_str (pa_cons (pvn nm_deed_of rfl rfl 4 rfl rfl) (pa_cons (pvn nm_deed_of rfl rfl 6 rfl rfl) (pa_cons (pvn nm_deed_of rfl rfl 5 rfl rfl) pa_nil))))))) pss_nil)
  (pss_cons (ps_if (pt_cmpR op_lt (pvn nm_deed_of rfl rfl 3 rfl rfl) pe_int (nomark _)) (pss_one (ps_ret (pe_tup (pa_cons pe_str (pa_cons (pvn nm_deed_of rfl rfl 4 rfl rfl) (pa_cons (pvn nm_deed_of rfl rfl 6 rfl rfl) (pa_cons (pvn nm_deed_of rfl rfl 5 rfl rfl) pa_nil))))))) pss_nil)
  (pss_cons (ps_if (pt_cmpR (op_eq_f hq) (pvn nm_deed_of rfl rfl 3 rfl rfl) pe_int (nomark _)) (pss_one (ps_ret (pe_tup (pa_cons pe_str (pa_cons (pvn nm_deed_of rfl rfl 4 rfl rfl) pa_nil))))) pss_nil)
  (pss_cons (ps_if (pt_cmpR (op_eq_f hq) (pvn nm_deed_of rfl rfl 3 rfl rfl) pe_int (nomark _)) (pss_one (ps_ret (pe_tup (pa_cons pe_str (pa_cons (pvn nm_deed_of rfl rfl 4 rfl rfl) pa_nil))))) pss_nil)
  (pss_cons (ps_if (PW.pt (pw_and (pt_cmpR (op_eq_f hq) (pvn nm_deed_of rfl rfl 3 rfl rfl) pe_int (nomark _)) (pw_and1 (pt_cmpR (op_eq_f hq) (pe_op op_mod (pe_op op_mod (pe_op op_mul_f (pvn nm_deed_of rfl rfl 0 rfl rfl) pe_int) pe_int) pe_int) pe_int (nomark _))))) (pss_one (ps_ret (pe_tup (pa_cons pe_str pa_nil)))) pss_nil)
  (pss_cons (ps_if (pt_cmpR op_lt (pvn nm_deed_of rfl rfl 3 rfl rfl) pe_int (nomark _)) (pss_one (ps_ret (pe_tup (pa_cons pe_str pa_nil)))) pss_nil)
  (pss_one (ps_ret (pe_tup (pa_cons pe_str pa_nil)))))))))))))))), ?_⟩
 show tSeq _ _ _ [some (.int cell), some (.int k), some (.int c), none, none, none, none, none, none, none, none, none] H
 have c0 : (0 : Int) < (c : Int) := by omega
 have ck : CMul 2 (k : Int) := .inl ⟨by decide, by decide⟩
 obtain ⟨way, eway, lway⟩ := modN (cell * 48271 % 1009) 16 (by decide)
 obtain ⟨h, eh, lh⟩ := modN ((cell + (k : Int)) * 48271 % 1013) c c0
 obtain ⟨o, eo, lo⟩ := modN ((cell + 2 * (k : Int) + 1) * 48271 % 1019) c c0
 obtain ⟨s1, es1, ls1⟩ := modN (cell * 48271 % 1021) 3 (by decide)
 obtain ⟨s2, es2, ls2⟩ := modN (cell * 48271 % 1091) 20 (by decide)
 refine step1 fun D1 n1 _ _ _ => ?_
 exists 1, cmul, eway
 refine n1 _ _ ?_
 refine step1 fun D2 n2 _ _ _ => ?_
 exists 1, cmul, c0, eh
 refine n2 _ _ ?_
 refine step1 fun D3 n3 _ _ _ => ?_
 exists 1, cmul, ck, c0, eo
 refine n3 _ _ ?_
 refine step1 fun D4 n4 _ _ _ => ?_
 exists 1, cmul, es1
 refine n4 _ _ ?_
 obtain ⟨b, sp, hb⟩ : ∃ (b : Bool) (sp : Nat), (b = true ∧ cell * 48271 % 1087 % 8 = 1 ∧ sp = s2) ∨ (b = false ∧ ¬ cell * 48271 % 1087 % 8 = 1 ∧ sp = s1) := by
  by_cases z : cell * 48271 % 1087 % 8 = 1
  · exact ⟨true, s2, .inl ⟨rfl, z, rfl⟩⟩
  · exact ⟨false, s1, .inr ⟨rfl, z, rfl⟩⟩
 refine step1 fun D5 n5 _ _ _ => ?_
 refine ifS_both b [some (.int cell), some (.int k), some (.int c), some (.int way), some (.int h), some (.int o), some (.int sp), none, none, none, none, none] (fun R hR => ?_) (fun D hD => ?_) ?_
 · rcases hb with ⟨rfl, z, rfl⟩ | ⟨rfl, z, rfl⟩
   · exists 1, cmul, z
     exact hR
   · exists 1, cmul, z
     exact hR
 · rcases hb with ⟨rfl, z, rfl⟩ | ⟨rfl, z, rfl⟩
   · rw [if_pos rfl]
     exists 1, cmul, es2
     exact hD
   · rw [if_neg Bool.false_ne_true]
     exact hD
 refine n5 _ _ ?_
 clear hb
 by_cases w6 : way < 6
 · have w6' : (way : Int) < 6 := by omega
   obtain ⟨m1, em1, lm1⟩ := modN ((cell + (k : Int)) * 48271 % 1033) 8 (by decide)
   obtain ⟨m2, em2, lm2⟩ := modN ((cell + (k : Int)) * 48271 % 1031) 8 (by decide)
   obtain ⟨wd, ewd⟩ := pick_word m1 (by omega)
   obtain ⟨nn, enn, lnn⟩ := pick_many m2 (by omega)
   refine stepT (fun R hR => by exists 1, w6'; exact hR) fun D6 n6 r6 _ _ => ?_
   refine step1 fun D7 n7 r7 _ _ => ?_
   exists 1, w_long
   refine ⟨small (Nat.le_of_ble_eq_true rfl), ?_⟩
   intro sl fsl; generalize e_H1 : upd H sl _ = H1; have i1 := new_at e_H1; have t1 := new_same fsl e_H1
   refine n7 _ _ ?_
   refine step1 fun D8 n8 r8 _ _ => ?_
   exists 1, i1, cmul, em1, ewd
   refine n8 _ _ ?_
   refine step1 fun D9 n9 r9 _ _ => ?_
   exists 1, L2.ap_seq
   refine ⟨small (Nat.le_of_ble_eq_true rfl), ?_⟩
   intro ml fml; generalize e_H2 : upd H1 ml _ = H2; have i2 := new_at e_H2; have t2 := new_same fml e_H2
   exists 1, i2, cmul, em2, enn
   refine n9 _ _ ?_
   refine step1 fun D10 n10 r10 _ _ => ?_
   exists 1, L2.ap_seq
   refine ⟨by omega, by omega, fun ol fol => ?_⟩
   rw [Int.toNat_natCast]
   refine comp_rng (fun j ys G => G ol = some (.lst ys) ∧ Same H2 G ∧ ∃ os : List Nat, ys = iV os ∧ os.length = j ∧ ∀ o ∈ os, o < c) ?_ ?_ ?_ ?_
   · generalize e : upd H2 ol _ = G0
     exact ⟨new_at e, new_same fol e, [], rfl, rfl, fun o h => nomatch h⟩
   · rintro j ys G _ ⟨h1, _⟩
     exact h1
   · rintro j ys G' NN hNN hj ⟨h3, h4, os, rfl, h6, h7⟩
     rw [show ((0 : Int) + (j : Int)) = (j : Int) by omega]
     obtain ⟨u, eu, lu⟩ := modN ((cell + (j : Int) + (k : Int)) * 48271 % 1039) c c0
     have hy : (iV os).length < sizeLine := small1000 (by unfold iV; rw [List.length_map]; omega)
     exists 1, cmul, c0, eu, h3, hy
     refine hNN _ _ ⟨new_at rfl, same_upd h4 fol, os ++ [u], ?_, by simp [h6], fun o ho => ?_⟩
     · unfold iV; rw [List.map_append]; rfl
     · rcases List.mem_append.mp ho with z | z
       · exact h7 o z
       · rw [List.mem_singleton.mp z]; omega
   · rintro ys G ⟨h3, h4, os, rfl, h6, h7⟩
     refine n10 _ _ ?_
     exists 1, h3
     intro ot fot; generalize e_G1 : upd G ot _ = G1; have n3 := new_at e_G1; have t3 := new_same fot e_G1
     refine ⟨small (Nat.le_of_ble_eq_true rfl), ?_⟩
     intro dt fdt; generalize e_G2 : upd G1 dt _ = G2; have n4 := new_at e_G2; have t4 := new_same fdt e_G2
     exact r6 _ _ (q _ _ (.put h wd os) ⟨dt, ot, rfl, n4, t4 _ _ n3⟩ ⟨by omega, by omega, h7⟩ ((((t1.trans t2).trans h4).trans t3).trans t4))
 · have w6' : ¬ (way : Int) < 6 := by omega
   refine stepF (fun R hR => by exists 1, w6'; exact hR) ?_
   by_cases w8 : way < 8
   · have w8' : (way : Int) < 8 := by omega
     refine stepT (fun R hR => by exists 1, w8'; exact hR) fun D6 n6 r6 _ _ => ?_
     exists 1, L2.ap_seq
     refine ⟨small (Nat.le_of_ble_eq_true rfl), ?_⟩
     intro dt fdt; generalize e_H1 : upd H dt _ = H1; have i1 := new_at e_H1; have t1 := new_same fdt e_H1
     exact r6 _ _ (q _ _ (.follow h sp o) ⟨dt, rfl, i1⟩ ⟨by omega, by omega⟩ t1)
   · have w8' : ¬ (way : Int) < 8 := by omega
     refine stepF (fun R hR => by exists 1, w8'; exact hR) ?_
     by_cases w10 : way < 10
     · have w10' : (way : Int) < 10 := by omega
       refine stepT (fun R hR => by exists 1, w10'; exact hR) fun D6 n6 r6 _ _ => ?_
       exists 1, L2.ap_seq
       refine ⟨small (Nat.le_of_ble_eq_true rfl), ?_⟩
       intro dt fdt; generalize e_H1 : upd H dt _ = H1; have i1 := new_at e_H1; have t1 := new_same fdt e_H1
       exact r6 _ _ (q _ _ (.tie h sp o) ⟨dt, rfl, i1⟩ ⟨by omega, by omega⟩ t1)
     · have w10' : ¬ (way : Int) < 10 := by omega
       refine stepF (fun R hR => by exists 1, w10'; exact hR) ?_
       by_cases e10 : way = 10
       · have e10' : (way : Int) = 10 := by omega
         refine stepT (fun R hR => by exists 1, e10'; exact hR) fun D6 n6 r6 _ _ => ?_
         exists 1, L2.ap_seq
         refine ⟨small (Nat.le_of_ble_eq_true rfl), ?_⟩
         intro dt fdt; generalize e_H1 : upd H dt _ = H1; have i1 := new_at e_H1; have t1 := new_same fdt e_H1
         exact r6 _ _ (q _ _ (.drop h) ⟨dt, rfl, i1⟩ (show h < c by omega) t1)
       · have e10' : ¬ (way : Int) = 10 := by omega
         refine stepF (fun R hR => by exists 1, e10'; exact hR) ?_
         by_cases e11 : way = 11
         · have e11' : (way : Int) = 11 := by omega
           refine stepT (fun R hR => by exists 1, e11'; exact hR) fun D6 n6 r6 _ _ => ?_
           exists 1, L2.ap_seq
           refine ⟨small (Nat.le_of_ble_eq_true rfl), ?_⟩
           intro dt fdt; generalize e_H1 : upd H dt _ = H1; have i1 := new_at e_H1; have t1 := new_same fdt e_H1
           exact r6 _ _ (q _ _ (.word h) ⟨dt, rfl, i1⟩ (show h < c by omega) t1)
         · have e11' : ¬ (way : Int) = 11 := by omega
           refine stepF (fun R hR => by exists 1, e11'; exact hR) ?_
           by_cases e12 : way = 12 ∧ cell * 48271 % 1049 % 2 = 0
           · have e12' : (way : Int) = 12 := by omega
             refine stepT (fun R hR => by exists 1, e12', e12.2, cmul; exact hR) fun D6 n6 r6 _ _ => ?_
             exists 1, L2.ap_seq
             refine ⟨small (Nat.le_of_ble_eq_true rfl), ?_⟩
             intro dt fdt; generalize e_H1 : upd H dt _ = H1; have i1 := new_at e_H1; have t1 := new_same fdt e_H1
             exact r6 _ _ (q _ _ .tidy ⟨dt, rfl, i1⟩ trivial t1)
           · refine stepF (fun R hR => ?_) ?_
             · by_cases z : way = 12
               · have e12' : (way : Int) = 12 := by omega
                 have e2' : ¬ cell * 48271 % 1049 % 2 = 0 := fun h => e12 ⟨z, h⟩
                 exists 1, e12', e2', cmul
                 exact hR
               · have e12' : ¬ (way : Int) = 12 := by omega
                 exists 1, e12'
                 exact hR
             by_cases w15 : way < 15
             · have w15' : (way : Int) < 15 := by omega
               refine stepT (fun R hR => by exists 1, w15'; exact hR) fun D6 n6 r6 _ _ => ?_
               exists 1, L2.ap_seq
               refine ⟨small (Nat.le_of_ble_eq_true rfl), ?_⟩
               intro dt fdt; generalize e_H1 : upd H dt _ = H1; have i1 := new_at e_H1; have t1 := new_same fdt e_H1
               exact r6 _ _ (q _ _ .begin ⟨dt, rfl, i1⟩ trivial t1)
             · have w15' : ¬ (way : Int) < 15 := by omega
               refine stepF (fun R hR => by exists 1, w15'; exact hR) ?_
               exists 1, L2.ap_seq
               refine ⟨small (Nat.le_of_ble_eq_true rfl), ?_⟩
               intro dt fdt; generalize e_H1 : upd H dt _ = H1; have i1 := new_at e_H1; have t1 := new_same fdt e_H1
               exact q _ _ .step ⟨dt, rfl, i1⟩ trivial t1
def spDrawn : Sp := fun vs H Q _ => ∃ (cl : Addr) (cells : List Int) (c : Nat), vs = [.ref cl, .int c] ∧ H cl = some (.lst (cells.map V.int)) ∧ 1 ≤ c ∧ c ≤ 1000 ∧ cells.length ≤ 200 ∧
 ∀ dl D ds H', H' dl = some (.lst D) → DeedsV H' D ds → (∀ d ∈ ds, DeedOk c d) → ds.countP isPut ≤ cells.length → ds.length ≤ 2 * cells.length → Same H H' → H dl = none → Q (.ref dl) H'
theorem cnt_snoc (ds : List Deed) (d : Deed) : (ds ++ [d]).countP isPut ≤ ds.countP isPut + 1 := by
 rw [List.countP_append]
 have : [d].countP isPut ≤ [d].length := List.countP_le_length
 simp only [List.length_cons, List.length_nil] at this
 omega
theorem cnt_step (ds : List Deed) : (ds ++ [Deed.step]).countP isPut = ds.countP isPut := by
 rw [List.countP_append]; rfl
theorem ok_drawn (T : Txt K mg A) : FnOk P w K mg base (CXe P w) 2 A.a_drawn A.d_drawn ["_law_cells", "_law_count"] spDrawn := by
 refine T.f_drawn.okN sc_drawn (fun vs H Q E h => ?_) (fun cdv B outer s H vs Q E hr h => ?_)
 · obtain ⟨cl, cells, c, rfl, _⟩ := h
   rfl
 obtain ⟨cl, cells, c, rfl, hcl, c1, c2, cz, q⟩ := h
 have hu := hu_of hr
 have hq : _ + 1 + 0 < cLine := hu_of hr
 have nd := sc_drawn.nd
 refine ⟨_, (pss_cons (ps_set (i := 2) nd rfl (nm_drawn.at rfl (i := 2) rfl rfl) (pe_lst pa_nil))
  (pss_cons (ps_for PassesOwn.never rfl (pi_range1 rfl T.z_range (pa_cons (pe_callB call_len_f rfl T.z_len bt_len (pa_cons (pvn nm_drawn rfl rfl 0 rfl rfl) pa_nil)) pa_nil)) (pg_name (i := 3) nd rfl (nm_drawn.at rfl (i := 3) rfl rfl)) (pss_cons (ps_set (i := 4) nd rfl (nm_drawn.at rfl (i := 4) rfl rfl) (pe_op op_add_f (pe_idx hu (pvn nm_drawn rfl rfl 0 rfl rfl) (pvn nm_drawn rfl rfl 3 rfl rfl) (fun _ _ => rfl)) (pe_op op_mul_f pe_int (pvn nm_drawn rfl rfl 3 rfl rfl))))
   (pss_cons (ps_expr (pe_append (pvn nm_drawn rfl rfl 2 rfl rfl) (pe_call (ok_deed_of T) (hr.mono (by decide)) rfl T.m_deed_of T.f_deed_of.kp T.b_deed_of .nil passN (pa_cons (pvn nm_drawn rfl rfl 4 rfl rfl) (pa_cons (pvn nm_drawn rfl rfl 3 rfl rfl) (pa_cons (pvn nm_drawn rfl rfl 1 rfl rfl) pa_nil))))))
   (pss_one (ps_if (pt_cmpR (op_eq_f hq) (pe_op op_mod (pe_op op_mod (pe_op op_mul_f (pvn nm_drawn rfl rfl 4 rfl rfl) pe_int) pe_int) pe_int) pe_int (nomark _)) (pss_one (ps_expr (pe_append (pvn nm_drawn rfl rfl 2 rfl rfl) (pe_tup (pa_cons pe_str pa_nil))))) pss_nil)))))
  (pss_one (ps_ret (pvn nm_drawn rfl rfl 2 rfl rfl))))), ?_⟩
 show tSeq _ _ _ [some (.ref cl), some (.int c), none, none, none] H
 refine step1 fun D1 m1 r1 _ _ => ?_
 exists 1, L2.ap_seq
 intro dl fdl; generalize e_H1 : upd H dl _ = H1; have n1 := new_at e_H1; have s1 := new_same fdl e_H1
 refine m1 _ _ ?_
 refine step1 fun D2 m2 r2 _ _ => ?_
 exists 1, s1 _ _ hcl
 refine ⟨by omega, by omega, ?_⟩
 rw [Int.toNat_natCast]
 obtain ⟨Pv, hPv⟩ : ∃ Pv : Nat → St → Hp → Prop, Pv = fun i σ G => ∃ (D : List V) (ds : List Deed) (k3 k4 : Option V), σ = [some (.ref cl), some (.int c), some (.ref dl), k3, k4] ∧ G dl = some (.lst D) ∧ DeedsV G D ds ∧ (∀ d ∈ ds, DeedOk c d) ∧ ds.countP isPut ≤ i ∧ ds.length ≤ 2 * i ∧ Same H G := ⟨_, rfl⟩
 refine forW_range Pv ?_ (fun i σ G hi hI => ?_) (fun σ G hI => ?_)
 · rw [hPv]
   exact ⟨[], [], _, _, rfl, n1, ⟨rfl, (fun i v d h => nomatch h)⟩, (fun d h => nomatch h), Nat.le_refl _, Nat.le_refl _, s1⟩
 · rw [hPv] at hI
   obtain ⟨D, ds, k3, k4, rfl, gd, hD, hk, hc, hlen, sG⟩ := hI
   have ei : cells[i]? = some cells[i] := List.getElem?_eq_getElem hi
   have gi : atI (cells.map V.int) (i : Int) = some (.int cells[i]) := atI_nat (by rw [List.getElem?_map, ei]; rfl)
   rw [show ((0 : Int) + (i : Int)) = (i : Int) by omega]
   have c5 : CMul 5 (i : Int) := .inl ⟨by decide, by decide⟩
   generalize cells[i] = z at gi
   rw [ap_gName]
   refine step1 fun D3 m3 r3 _ _ => ?_
   exists 1, sG _ _ hcl, gi, c5
   refine m3 _ _ ?_
   refine step1 fun D4 m4 r4 _ _ => ?_
   exists 1, gd
   refine ⟨_, i, c, rfl, c1, c2, fun v G2 d hv dk s2 => ?_⟩
   have lD : D.length ≤ 400 := by rw [hD.1]; omega
   exists 1, s2 _ _ gd
   refine ⟨small1000 (by omega), m4 _ _ ?_⟩
   generalize e3 : upd G2 dl _ = G3
   have g3 := new_at e3
   have s3 : Same H G3 := e3 ▸ same_upd (sG.trans s2) fdl
   have tk : ∀ b xs, G2 b = some (.tup xs) → G3 b = some (.tup xs) := fun b xs h => (wr_ne e3 (ne_of h (s2 _ _ gd) (by intro z; cases z))).trans h
   have hD3 : DeedsV G3 (D ++ [v]) (ds ++ [d]) := ((hD.mono fun b xs h => s2 _ _ h).snoc hv).mono tk
   have hk3 : ∀ d' ∈ ds ++ [d], DeedOk c d' := fun d' h => by
    rcases List.mem_append.mp h with z | z
    · exact hk d' z
    · rw [List.mem_singleton.mp z]; exact dk
   have hc3 := cnt_snoc ds d
   by_cases hb : (z + 5 * (i : Int)) * 48271 % 1051 % 2 = 0
   · exists 1, cmul, hb, g3
     refine ⟨small (Nat.le_of_ble_eq_true rfl), ?_⟩
     intro st fst; generalize e_G4 : upd G3 st _ = G4; have i4 := new_at e_G4; have t4 := new_same fst e_G4
     exists 1, t4 _ _ g3
     refine ⟨small1000 (by simp; omega), ?_⟩
     generalize e5 : upd G4 dl _ = G5
     have tk5 : ∀ b xs, G4 b = some (.tup xs) → G5 b = some (.tup xs) := fun b xs h => (wr_ne e5 (ne_of h (t4 _ _ g3) (by intro z; cases z))).trans h
     rw [hPv]
     refine ⟨_, (ds ++ [d]) ++ [.step], _, _, rfl, new_at e5, ((hD3.mono fun b xs h => t4 _ _ h).snoc (d := .step) ⟨st, rfl, i4⟩).mono tk5, ?_, ?_, ?_, e5 ▸ same_upd (s3.trans t4) fdl⟩
     · intro d' h
       rcases List.mem_append.mp h with z | z
       · exact hk3 d' z
       · rw [List.mem_singleton.mp z]; trivial
     · rw [cnt_step]; omega
     · simp; omega
   · exists 1, cmul, hb
     rw [hPv]
     exact ⟨_, ds ++ [d], _, _, rfl, g3, hD3, hk3, by omega, by simp; omega, s3⟩
 · rw [hPv] at hI
   obtain ⟨D, ds, k3, k4, rfl, gd, hD, hk, hc, hlen, sG⟩ := hI
   refine m2 _ _ ?_
   exists 1, L2.ap_seq
   exact q dl D ds G gd hD hk hc hlen sG fdl
end
end PW
namespace PW
open PySem L2 WM
def NAt (H : Hp) (nl : Addr) (notes : Notes Str) : Prop := ∃ N, H nl = some (.lst N) ∧ N.length = notes.length ∧ ∀ (i : Nat) (v : V) (p : Str × List (Option Nat)), N[i]? = some v → notes[i]? = some p → ∃ t l, v = .ref t ∧ H t = some (.tup [.str p.1, .ref l]) ∧ H l = some (.lst (p.2.map thV))
theorem NAt.get {H : Hp} {notes : Notes Str} {N : List V} (lN : N.length = notes.length) (gN : ∀ (i : Nat) (v : V) (p : Str × List (Option Nat)), N[i]? = some v → notes[i]? = some p → ∃ t l, v = .ref t ∧ H t = some (.tup [.str p.1, .ref l]) ∧ H l = some (.lst (p.2.map thV))) {i : Nat} {p : Str × List (Option Nat)} (e : notes[i]? = some p) :
 ∃ t l, N[i]? = some (.ref t) ∧ H t = some (.tup [.str p.1, .ref l]) ∧ H l = some (.lst (p.2.map thV)) := by
 have hl : i < N.length := by rw [lN]; exact getElem?_ne_none_lt e
 have eN : N[i]? = some N[i] := List.getElem?_eq_getElem hl
 obtain ⟨t, l, e1, e2, e4⟩ := gN i _ p eN e
 exact ⟨t, l, by rw [eN, e1], e2, e4⟩
end PW
namespace PW
open PySem L2 WM
theorem MAt.notup {H : Hp} {nl hd : Addr} {rs : List Addr} {notes : Notes Str} {heads : List (Option Nat)} (m : MAt H nl hd rs notes heads) {c : Addr} {xs : List V} (h : H c = some (.tup xs)) : c ∉ nl :: hd :: rs := by
 obtain ⟨N, h1, h2, h3⟩ := m.nls
 intro z
 rcases List.mem_cons.mp z with z | z
 · rw [z, h1] at h; cases h
 · rcases List.mem_cons.mp z with z | z
   · rw [z, m.hds] at h; cases h
   · obtain ⟨i, hi⟩ := List.mem_iff_getElem?.mp z
     have hl : i < notes.length := by rw [← m.len]; exact getElem?_ne_none_lt hi
     obtain ⟨t, l, _, _, e3, e4⟩ := m.get h1 (List.getElem?_eq_getElem hl)
     rw [hi] at e3; cases e3
     rw [e4] at h; cases h
theorem WallAt.keep {C : Addr} {H H' : Hp} {x a b : Addr} {W : Wa} {S : List Addr} (w : WallAt C H x a b W) (k : Keep S H H') (hx : x ∉ S) (ha : a ∉ S) (hb : b ∉ S) (ht : ∀ c xs, H c = some (.tup xs) → c ∉ S) : WallAt C H' x a b W := by
 obtain ⟨⟨dx, ho⟩, ⟨P, hP, hA⟩, hk, ab⟩ := w
 exact ⟨⟨dx, k _ _ ho hx⟩, ⟨P, k _ _ hP ha, hA.mono fun c xs h => k _ _ h (ht c xs h)⟩, k _ _ hk hb, ab⟩
theorem WallAt.some {C : Addr} {H : Hp} {x a b : Addr} {W : Wa} (w : WallAt C H x a b W) : H x ≠ none ∧ H a ≠ none ∧ H b ≠ none := by
 obtain ⟨⟨dx, g1⟩, ⟨P, g2, _⟩, g3, _⟩ := w
 exact ⟨by rw [g1]; exact Option.some_ne_none _, by rw [g2]; exact Option.some_ne_none _, by rw [g3]; exact Option.some_ne_none _⟩
structure LSt (C : Addr) (G : Hp) (x a b nl hd : Addr) (rs : List Addr) (W : Wa) (notes : Notes Str) (heads : List (Option Nat)) (φ : Nat → Option Nat) (np : Nat) : Prop where
 wall : WallAt C G x a b W
 sm : WSm W
 sim : Sim W notes heads φ
 mat : MAt G nl hd rs notes heads
 ap : ∀ q ∈ nl :: hd :: rs, q ≠ x ∧ q ≠ a ∧ q ≠ b
 rows : ∀ p ∈ notes, p.2.length ≤ 1000
 nn : notes.length ≤ np
 tt : tot W ≤ np
section
variable {C : Addr} {G G1 G2 : Hp} {x a b nl hd : Addr} {rs rs' : List Addr} {W W' : Wa} {notes : Notes Str} {heads : List (Option Nat)} {φ : Nat → Option Nat} {np : Nat} {d : Deed} {r : V}
theorem sim_hv (s : Sim W notes heads φ) : ∀ h own : Nat, heads[h]? = some (some own) → own < notes.length := fun h own e => by
 have hl : h < W.hooks.length := by rw [s.h.1]; exact getElem?_ne_none_lt e
 have rr := s.h.2 h _ _ (List.getElem?_eq_getElem hl) e
 cases hk : W.hooks[h] with
 | none => rw [hk] at rr; exact rr.elim
 | some n =>
  rw [hk] at rr
  have rr : φ own = some (rl W.pegs n) := rr
  obtain ⟨_, _, _, _, e2, _⟩ := s.n.note own _ rr
  exact getElem?_ne_none_lt e2
theorem LSt.hlen (L : LSt C G x a b nl hd rs W notes heads φ np) : heads.length = W.hooks.length := L.sim.h.1.symm
theorem LSt.msm (L : LSt C G x a b nl hd rs W notes heads φ np) (h : np < 1000) : MSm notes heads :=
 ⟨Nat.lt_of_le_of_lt L.nn h, by rw [L.hlen]; exact L.sm.hks, L.rows, sim_hv L.sim⟩
theorem LSt.same (L : LSt C G x a b nl hd rs W notes heads φ np) (s : Same G G1) : LSt C G1 x a b nl hd rs W notes heads φ np :=
 ⟨L.wall.same s, L.sm, L.sim, L.mat.same s, L.ap, L.rows, L.nn, L.tt⟩
theorem LSt.fr (L : LSt C G x a b nl hd rs W notes heads φ np) (f : Fr3 x a b G G1) : MAt G1 nl hd rs notes heads :=
 L.mat.keep (fun c hc o h => f c o h (L.ap c hc).1 (L.ap c hc).2.1 (L.ap c hc).2.2) (f.tup L.wall)
theorem mdl_len : (mdl notes heads d).1.length ≤ notes.length + (if isPut d = true then 1 else 0) := by
 have hs : ∀ own k o, (setT notes own k o).length = notes.length := fun own k o => by
  unfold setT; split
  · rw [List.length_set]
  · rfl
 cases d <;> simp only [mdl, isPut]
 case put => simp
 case tie h k o =>
  split
  · split
    · split
      · simp
      · rw [hs]; simp
    · simp
  · simp
 case follow h k o =>
  split
  · split
    · split <;> simp
    · simp
  · simp
 all_goals simp
theorem mdl_rows {c : Nat} (hr : ∀ p ∈ notes, p.2.length ≤ 1000) (dk : DeedOk c d) : ∀ p ∈ (mdl notes heads d).1, p.2.length ≤ 1000 := by
 have hs : ∀ own k o, ∀ p ∈ setT notes own k o, p.2.length ≤ 1000 := fun own k o p hp => by
  unfold setT at hp; split at hp
  · rename_i w row e
    rcases mem_set hp with z | z
    · exact hr p z
    · rw [z]; simp only [List.length_set]; exact hr _ (List.mem_of_getElem? e)
  · exact hr p hp
 cases d <;> simp only [mdl]
 case put h w os =>
  intro p hp
  rcases List.mem_append.mp hp with z | z
  · exact hr p z
  · rw [List.mem_singleton.mp z]; simp only [List.length_map]; exact dk.2.1
 case tie h k o =>
  split
  · split
    · split
      · exact hr
      · exact hs _ _ _
    · exact hr
  · exact hr
 case follow h k o =>
  split
  · split
    · split <;> exact hr
    · exact hr
  · exact hr
 all_goals exact hr
theorem LSt.both2 (L : LSt C G x a b nl hd rs W notes heads φ np) (dk : DeedOk W.hooks.length d) (ha : Mable d) (dd : Does W d W' r) (hp : isPut d = true → r ≠ .non) (hW1 : WallAt C G1 x a b W') (m1 : MAt G1 nl hd rs notes heads)
 (m2 : MAt G2 nl hd rs' (mdl notes heads d).1 (mdl notes heads d).2.1) (k2 : Keep (nl :: hd :: rs) G1 G2) (hrs : ∀ c ∈ rs', c ∈ rs ∨ G1 c = none) :
 ∃ φ', LSt C G2 x a b nl hd rs' W' (mdl notes heads d).1 (mdl notes heads d).2.1 φ' (np + (if isPut d = true then 1 else 0)) ∧ After notes heads φ W W' d r φ' := by
 obtain ⟨φ', af⟩ := deed_sim L.sm.ok L.sim dk ha dd hp
 have nx : ∀ q, q ∈ nl :: hd :: rs → q ≠ x ∧ q ≠ a ∧ q ≠ b := L.ap
 have ws := hW1.some
 refine ⟨φ', ⟨hW1.keep k2 (fun z => (nx _ z).1 rfl) (fun z => (nx _ z).2.1 rfl) (fun z => (nx _ z).2.2 rfl) fun c xs h => m1.notup h, (does_smM L.sm dk ha dd).1, af.sim, m2, fun q hq => ?_, mdl_rows L.rows dk, Nat.le_trans mdl_len (Nat.add_le_add_right L.nn _), Nat.le_trans af.tt (Nat.add_le_add_right L.tt _)⟩, af⟩
 rcases List.mem_cons.mp hq with z | hq
 · exact nx q (by rw [z]; simp)
 · rcases List.mem_cons.mp hq with z | hq
   · exact nx q (by rw [z]; simp)
   · rcases hrs q hq with z | z
     · exact nx q (List.mem_cons_of_mem _ (List.mem_cons_of_mem _ z))
     · exact ⟨fun e => ws.1 (by rw [← e]; exact z), fun e => ws.2.1 (by rw [← e]; exact z), fun e => ws.2.2 (by rw [← e]; exact z)⟩
theorem LSt.both (L : LSt C G x a b nl hd rs W notes heads φ np) (dk : DeedOk W.hooks.length d) (ha : Mable d) (dd : Does W d W' r) (hp : isPut d = true → r ≠ .non) (hW1 : WallAt C G1 x a b W') (f1 : Fr3 x a b G G1)
 (m2 : MAt G2 nl hd rs' (mdl notes heads d).1 (mdl notes heads d).2.1) (k2 : Keep (nl :: hd :: rs) G1 G2) (hrs : ∀ c ∈ rs', c ∈ rs ∨ G1 c = none) :
 ∃ φ', LSt C G2 x a b nl hd rs' W' (mdl notes heads d).1 (mdl notes heads d).2.1 φ' (np + (if isPut d = true then 1 else 0)) ∧ After notes heads φ W W' d r φ' := L.both2 dk ha dd hp hW1 (L.fr f1) m2 k2 hrs
end
theorem cnt_take {ds : List Deed} {i : Nat} {d : Deed} (h : ds[i]? = some d) : (ds.take (i + 1)).countP isPut = (ds.take i).countP isPut + (if isPut d = true then 1 else 0) := by
 rw [List.take_succ, h, List.countP_append]
 simp [List.countP_cons]
theorem cnt_le {ds : List Deed} (i : Nat) : (ds.take i).countP isPut ≤ ds.countP isPut := (List.take_sublist i ds).countP_le
end PW
namespace PW
open PySem L2 WM
def kind : Deed → Str
 | .put .. => "put"
 | .tie .. => "tie"
 | .follow .. => "follow"
 | .drop _ => "drop"
 | .word _ => "word"
 | .begin => "begin"
 | .step => "step"
 | .tidy => "tidy"
theorem DeedV.tup {H : Hp} {v : V} {d : Deed} (h : DeedV H v d) : ∃ t xs, v = .ref t ∧ H t = some (.tup (.str (kind d) :: xs)) ∧ (Mable d → 0 < xs.length) ∧ (¬ Mable d → xs = []) := by
 cases d with
 | put _ _ _ => obtain ⟨t, oa, rfl, h1, _⟩ := h; exact ⟨t, _, rfl, h1, fun _ => by simp, fun z => absurd trivial z⟩
 | tie _ _ _ => obtain ⟨t, rfl, h1⟩ := h; exact ⟨t, _, rfl, h1, fun _ => by simp, fun z => absurd trivial z⟩
 | follow _ _ _ => obtain ⟨t, rfl, h1⟩ := h; exact ⟨t, _, rfl, h1, fun _ => by simp, fun z => absurd trivial z⟩
 | drop _ => obtain ⟨t, rfl, h1⟩ := h; exact ⟨t, _, rfl, h1, fun _ => by simp, fun z => absurd trivial z⟩
 | word _ => obtain ⟨t, rfl, h1⟩ := h; exact ⟨t, _, rfl, h1, fun _ => by simp, fun z => absurd trivial z⟩
 | begin => obtain ⟨t, rfl, h1⟩ := h; exact ⟨t, _, rfl, h1, fun z => z.elim, fun _ => rfl⟩
 | step => obtain ⟨t, rfl, h1⟩ := h; exact ⟨t, _, rfl, h1, fun z => z.elim, fun _ => rfl⟩
 | tidy => obtain ⟨t, rfl, h1⟩ := h; exact ⟨t, _, rfl, h1, fun z => z.elim, fun _ => rfl⟩
theorem mable_put {d : Deed} (h : ¬ Mable d) : isPut d = false := by
 cases d <;> first | rfl | exact absurd trivial h
theorem new_tot (n c : Nat) : tot (newW n c) = 0 := by
 have : (newW n c).kept = 0 := by rw [kw_new, kw_kept (Nat.zero_le _)]
 unfold tot
 rw [this]; rfl
theorem new_rows (n c : Nat) : RowsLe 1000 (newW n c) := fun wd ts hm => by
 have := List.eq_of_mem_replicate (show some (Peg.note wd ts) ∈ List.replicate (2 * n) none from hm)
 cases this
theorem new_lst {C : Addr} {G : Hp} {x a b nl hd : Addr} {n c : Nat} (hW : WallAt C G x a b (newW n c)) (n1 : 1 ≤ n) (n2 : n ≤ 1000) (c2 : c ≤ 1000) (hn : G nl = some (.lst [])) (hh : G hd = some (.lst (List.replicate c .non))) (ne : nl ≠ hd)
 (a1 : nl ≠ x ∧ nl ≠ a ∧ nl ≠ b) (a2 : hd ≠ x ∧ hd ≠ a ∧ hd ≠ b) (np : Nat) : LSt C G x a b nl hd [] (newW n c) [] (List.replicate c none) (fun _ => none) np := by
 refine ⟨hW, ⟨newW_ok c (by omega), n2, new_rows n c, by simp [newW]; omega⟩, new_sim n c, ⟨⟨[], hn, rfl, fun i v p h => nomatch h⟩, by rw [hh]; simp [thV], rfl, List.nodup_nil, ne, by simp, by simp⟩, fun q hq => ?_, (fun p h => nomatch h), Nat.zero_le _, by rw [new_tot]; exact Nat.zero_le _⟩
 rcases List.mem_cons.mp hq with z | hq
 · rw [z]; exact a1
 · rcases List.mem_cons.mp hq with z | hq
   · rw [z]; exact a2
   · cases hq
end PW
namespace PW
open PySem L2 WM
theorem ifT {tt : TT} {a b : TS} {D : Ends} {σ : St} {H : Hp} (ht : ∀ R : Bool → Hp → Prop, R true H → tt σ H R) (k : a D σ H) : tIfS tt a b D σ H := ht _ (by
 show if true = true then _ else _
 rw [if_pos rfl]; exact k)
theorem ifF {tt : TT} {a b : TS} {D : Ends} {σ : St} {H : Hp} (ht : ∀ R : Bool → Hp → Prop, R false H → tt σ H R) (k : b D σ H) : tIfS tt a b D σ H := ht _ (by
 show if false = true then _ else _
 rw [if_neg Bool.false_ne_true]; exact k)
theorem ifFs {tt : TT} {a : TS} {D : Ends} {σ : St} {H : Hp} (ht : ∀ R : Bool → Hp → Prop, (∀ H1, Same H H1 → R false H1) → tt σ H R) (k : ∀ H1, Same H H1 → D.nx σ H1) : tIfS tt a tNext D σ H := ht _ (fun H1 s => by
 show if false = true then _ else _
 rw [if_neg Bool.false_ne_true]; exact k H1 s)
end PW
namespace PW
open PySem L2 WM
theorem put_kind {d : Deed} (h : isPut d = true) : (kind d = "put") = True := by
 cases d <;> first | exact eq_true rfl | cases h
theorem noput_kind {d : Deed} (h : isPut d = false) : (kind d = "put") = False := by
 cases d <;> first | exact eq_false (by simp only [kind]; decide +kernel) | cases h
theorem put_does {W W' : Wa} {d : Deed} {r : V} (h : isPut d = true) (dd : Does W d W' r) : (W = W' ∧ r = .non) ∨ r = .bl true := by
 cases d <;> first | cases h | skip
 rcases dd with ⟨_, e1, e2⟩ | ⟨_, _, e⟩
 · exact .inl ⟨e1.symm, e2⟩
 · exact .inr e
theorem LSt.apart {C : Addr} {G G1 : Hp} {x a b nl hd dl : Addr} {rs rs' : List Addr} {W : Wa} {notes : Notes Str} {heads : List (Option Nat)} {φ : Nat → Option Nat} {np : Nat} {ys : List V} (_ : LSt C G x a b nl hd rs W notes heads φ np) (dap : dl ∉ nl :: hd :: rs) (g : G1 dl = some (.lst ys)) (hrs : ∀ c ∈ rs', c ∈ rs ∨ G1 c = none) : dl ∉ nl :: hd :: rs' := fun z => by
 rcases List.mem_cons.mp z with z | z
 · exact dap (by rw [z]; simp)
 · rcases List.mem_cons.mp z with z | z
   · exact dap (by rw [z]; simp)
   · rcases hrs _ z with z | z
     · exact dap (List.mem_cons_of_mem _ (List.mem_cons_of_mem _ z))
     · rw [g] at z; cases z
end PW
namespace PW
open PySem L2 WM
def FlatEq (u v : V) : Prop := u = v ∧ (v = .non ∨ (∃ b, v = .bl b) ∨ (∃ i, v = .int i) ∨ ∃ z, v = .str z)
def ElemsBy (sp : Sp) (H : Hp) (xs ys : List V) : Prop := xs.length = ys.length ∧ ys.length ≤ 1000 ∧ ∀ (j : Nat) (x y : V), xs[j]? = some x → ys[j]? = some y → ∀ (G : Hp) (Q : VK) (E : XK), Same H G → (∀ H', Same G H' → Q (.bl true) H') → sp [x, y] G Q E
def spSo (sp : Sp) : Sp := fun vs H Q _ => ∃ u v, vs = [u, v] ∧ (FlatEq u v ∨ ∃ p q xs ys, u = .ref p ∧ v = .ref q ∧ ((H p = some (.lst xs) ∧ H q = some (.lst ys)) ∨ (H p = some (.tup xs) ∧ H q = some (.tup ys))) ∧ ElemsBy sp H xs ys) ∧ ∀ H', Same H H' → Q (.bl true) H'
def spNo : Sp := fun _ _ _ _ => False
section
variable {P : Program} {w : World} {K : PySem.W.Frag} {mg : Str → Option Value} {base : Heap} {A : Adr}
theorem so_no (T : Txt K mg A) : FnOk P w K mg base (CXe P w) 1 A.a_so A.d_so ["_law_found", "_law_meant"] spNo := T.f_so.okN sc_so (fun _ _ _ _ h => h.elim) (fun _ _ _ _ _ _ _ _ _ h => h.elim)
theorem so_step (T : Txt K mg A) {k : Nat} {sp : Sp} (ih : FnOk P w K mg base (CXe P w) k A.a_so A.d_so ["_law_found", "_law_meant"] sp) : FnOk P w K mg base (CXe P w) (k + 1) A.a_so A.d_so ["_law_found", "_law_meant"] (spSo sp) := by
 have ok_so : ∀ (_ : Txt K mg A), FnOk P w K mg base (CXe P w) k A.a_so A.d_so ["_law_found", "_law_meant"] sp := fun _ => ih
 refine T.f_so.okN sc_so (fun vs H Q E h => ?_) (fun cdv B outer s H vs Q E hr h => ?_)
 · obtain ⟨u, v, rfl, _⟩ := h
   rfl
 obtain ⟨u, v, rfl, h, q⟩ := h
 have hu := hu_of hr
 have hq : _ + 1 + 0 < cLine := hu_of hr
 have nd := sc_so.nd
 refine ⟨_, (pss_cons (ps_if (pt_cmpR op_is_f (pvn nm_so rfl rfl 1 rfl rfl) pe_non (nomark _)) (pss_one (ps_ret (pe_cmpR op_is_f (pvn nm_so rfl rfl 0 rfl rfl) pe_non (nomark _)))) pss_nil)
  (pss_cons (ps_if (pt_val (pe_callB call_isi_f rfl T.z_isinstance bt_isinstance (pa_cons (pvn nm_so rfl rfl 1 rfl rfl) (pa_cons (pe_bltn (v := .ty "bool") rfl T.z_bool bt_bool rfl) pa_nil)))) (pss_one (ps_ret (pe_and (pe_callB call_isi_f rfl T.z_isinstance bt_isinstance (pa_cons (pvn nm_so rfl rfl 0 rfl rfl) (pa_cons (pe_bltn (v := .ty "bool") rfl T.z_bool bt_bool rfl) pa_nil))) (pe_one (pe_cmpR (op_eq_f hq) (pvn nm_so rfl rfl 0 rfl rfl) (pvn nm_so rfl rfl 1 rfl rfl) (nomark _)))))) pss_nil)
  (pss_cons (ps_if (pt_val (pe_callB call_isi_f rfl T.z_isinstance bt_isinstance (pa_cons (pvn nm_so rfl rfl 1 rfl rfl) (pa_cons (pe_bltn (v := .ty "int") rfl T.z_int bt_int rfl) pa_nil)))) (pss_one (ps_ret (pe_and (pe_callB call_isi_f rfl T.z_isinstance bt_isinstance (pa_cons (pvn nm_so rfl rfl 0 rfl rfl) (pa_cons (pe_bltn (v := .ty "int") rfl T.z_int bt_int rfl) pa_nil))) (pe_and (pe_not (pe_callB call_isi_f rfl T.z_isinstance bt_isinstance (pa_cons (pvn nm_so rfl rfl 0 rfl rfl) (pa_cons (pe_bltn (v := .ty "bool") rfl T.z_bool bt_bool rfl) pa_nil)))) (pe_one (pe_cmpR (op_eq_f hq) (pvn nm_so rfl rfl 0 rfl rfl) (pvn nm_so rfl rfl 1 rfl rfl) (nomark _))))))) pss_nil)
  (pss_cons (ps_if (pt_val (pe_callB call_isi_f rfl T.z_isinstance bt_isinstance (pa_cons (pvn nm_so rfl rfl 1 rfl rfl) (pa_cons (pe_bltn (v := .ty "str") rfl T.z_str bt_str rfl) pa_nil)))) (pss_one (ps_ret (pe_and (pe_callB call_isi_f rfl T.z_isinstance bt_isinstance (pa_cons (pvn nm_so rfl rfl 0 rfl rfl) (pa_cons (pe_bltn (v := .ty "str") rfl T.z_str bt_str rfl) pa_nil))) (pe_one (pe_cmpR (op_eq_f hq) (pvn nm_so rfl rfl 0 rfl rfl) (pvn nm_so rfl rfl 1 rfl rfl) (nomark _)))))) pss_nil)
  (pss_cons (ps_if (pt_val (pe_callB call_isi_f rfl T.z_isinstance bt_isinstance (pa_cons (pvn nm_so rfl rfl 1 rfl rfl) (pa_cons (pe_bltn (v := .ty "dict") rfl T.z_dict bt_dict rfl) pa_nil)))) (pss_one (ps_ret (pe_and (pe_callB call_isi_f rfl T.z_isinstance bt_isinstance (pa_cons (pvn nm_so rfl rfl 0 rfl rfl) (pa_cons (pe_bltn (v := .ty "dict") rfl T.z_dict bt_dict rfl) pa_nil))) (pe_one (pe_call (ok_so T) (hr.mono (Nat.le_refl _)) rfl T.m_so T.f_so.kp T.b_so .nil passN (pa_cons pe_never (pa_cons pe_never pa_nil))))))) pss_nil)
  (pss_cons (ps_if (pt_cmpR (op_ne_f hq) (pe_callB call_isi_f rfl T.z_isinstance bt_isinstance (pa_cons (pvn nm_so rfl rfl 1 rfl rfl) (pa_cons (pe_bltn (v := .ty "tuple") rfl T.z_tuple bt_tuple rfl) pa_nil))) (pe_callB call_isi_f rfl T.z_isinstance bt_isinstance (pa_cons (pvn nm_so rfl rfl 0 rfl rfl) (pa_cons (pe_bltn (v := .ty "tuple") rfl T.z_tuple bt_tuple rfl) pa_nil))) (nomark _)) (pss_one (ps_ret pe_bl)) pss_nil)
  (pss_cons (ps_if (PW.pt (pw_or (pt_cmpR (op_ne_f hq) (pe_callB call_isi_f rfl T.z_isinstance bt_isinstance (pa_cons (pvn nm_so rfl rfl 1 rfl rfl) (pa_cons (pe_bltn (v := .ty "list") rfl T.z_list bt_list rfl) pa_nil))) (pe_callB call_isi_f rfl T.z_isinstance bt_isinstance (pa_cons (pvn nm_so rfl rfl 0 rfl rfl) (pa_cons (pe_bltn (v := .ty "list") rfl T.z_list bt_list rfl) pa_nil))) (nomark _)) (pw_or1 (pt_not (pt_val (pe_callB call_isi_t rfl T.z_isinstance bt_isinstance (pa_cons (pvn nm_so rfl rfl 1 rfl rfl) (pa_cons (pe_tup (pa_cons (pe_bltn (v := .ty "list") rfl T.z_list bt_list rfl) (pa_cons (pe_bltn (v := .ty "tuple") rfl T.z_tuple bt_tuple rfl) pa_nil))) pa_nil)))))))) (pss_one (ps_ret pe_bl)) pss_nil)
  (pss_cons (ps_if (pt_cmpR (op_ne_f hq) (pe_callB call_len_f rfl T.z_len bt_len (pa_cons (pvn nm_so rfl rfl 0 rfl rfl) pa_nil)) (pe_callB call_len_f rfl T.z_len bt_len (pa_cons (pvn nm_so rfl rfl 1 rfl rfl) pa_nil)) (nomark _)) (pss_one (ps_ret pe_bl)) pss_nil)
  (pss_cons (ps_for PassesOwn.never rfl (pi_range1 rfl T.z_range (pa_cons (pe_callB call_len_f rfl T.z_len bt_len (pa_cons (pvn nm_so rfl rfl 1 rfl rfl) pa_nil)) pa_nil)) (pg_name (i := 2) nd rfl (nm_so.at rfl (i := 2) rfl rfl)) (pss_one (ps_if (pt_not (pt_val (pe_call (ok_so T) (hr.mono (Nat.le_refl _)) rfl T.m_so T.f_so.kp T.b_so .nil passN (pa_cons (pe_idx hu (pvn nm_so rfl rfl 0 rfl rfl) (pvn nm_so rfl rfl 2 rfl rfl) (fun _ _ => rfl)) (pa_cons (pe_idx hu (pvn nm_so rfl rfl 1 rfl rfl) (pvn nm_so rfl rfl 2 rfl rfl) (fun _ _ => rfl)) pa_nil))))) (pss_one (ps_ret pe_bl)) pss_nil)))
  (pss_one (ps_ret pe_bl))))))))))), ?_⟩
 show tSeq _ _ _ [some u, some v, none] H
 have q0 := q H fun _ _ h => h
 rcases h with ⟨rfl, rfl | ⟨b, rfl⟩ | ⟨i, rfl⟩ | ⟨z, rfl⟩⟩ | ⟨p, p', xs, ys, rfl, rfl, hh, le, lb, el⟩
 · exists 1, L2.ap_seq
   exact q0
 · exists 1, L2.ap_seq
   exact q0
 · exists 1, L2.ap_seq
   exact q0
 · exists 1, L2.ap_seq
   exact q0
 · have le' : ((xs.length : Nat) : Int) = ((ys.length : Nat) : Int) := by rw [le]
   rcases hh with ⟨h1, h2⟩ | ⟨h1, h2⟩
   · refine stepF (fun R hR => by exists 1, L2.ap_seq; exact hR) ?_
     refine stepF (fun R hR => by exists 1, h2; exact hR) ?_
     refine stepF (fun R hR => by exists 1, h2; exact hR) ?_
     refine stepF (fun R hR => by exists 1, h2; exact hR) ?_
     refine stepF (fun R hR => by exists 1, h2; exact hR) ?_
     refine stepF (fun R hR => by exists 1, h1, h2; exact hR) ?_
     refine stepFs (fun R hR => by
      exists 1, h1, h2
      refine ⟨small (Nat.le_of_ble_eq_true rfl), ?_⟩
      intro tt ftt; generalize e_H1 : upd H tt _ = H1; have i1 := new_at e_H1; have s1 := new_same ftt e_H1
      refine ⟨p', tt, rfl, i1, .inl ⟨_, s1 _ _ h2⟩, ?_⟩
      exists 1, L2.ap_seq
      exact hR _ s1) fun H1 s1 => ?_
     refine stepF (fun R hR => by exists 1, s1 _ _ h1, s1 _ _ h2, le'; exact hR) ?_
     refine step1 fun D1 d1 _ _ _ => ?_
     exists 1, s1 _ _ h2
     refine ⟨by omega, by omega, ?_⟩
     rw [Int.toNat_natCast]
     obtain ⟨Pv, hPv⟩ : ∃ Pv : Nat → St → Hp → Prop, Pv = fun j σ G => (∃ k2, σ = [some (.ref p), some (.ref p'), k2]) ∧ Same H G := ⟨_, rfl⟩
     refine forW_range Pv ?_ (fun j σ G hj hI => ?_) (fun σ G hI => ?_)
     · rw [hPv]; exact ⟨⟨_, rfl⟩, s1⟩
     · rw [hPv] at hI
       obtain ⟨⟨k2, rfl⟩, sG⟩ := hI
       rw [show ((0 : Int) + (j : Int)) = (j : Int) by omega, ap_gName]
       obtain ⟨y, ey⟩ : ∃ y, ys[j]? = some y := ⟨_, List.getElem?_eq_getElem hj⟩
       obtain ⟨x, ex⟩ : ∃ x, xs[j]? = some x := ⟨_, List.getElem?_eq_getElem (by omega)⟩
       refine ifFs (fun R hR => by
        exists 1, sG _ _ h1, sG _ _ h2, atI_nat ex, atI_nat ey
        exact el j x y ex ey G _ _ sG (fun H' s' => by
         exists 1, L2.ap_seq
         exact hR H' s')) fun G' s' => ?_
       show Pv _ _ _
       rw [hPv]; exact ⟨⟨_, rfl⟩, sG.trans s'⟩
     · rw [hPv] at hI
       obtain ⟨⟨k2, rfl⟩, sG⟩ := hI
       refine d1 _ _ ?_
       exists 1, L2.ap_seq
       exact q _ sG
   · refine stepF (fun R hR => by exists 1, L2.ap_seq; exact hR) ?_
     refine stepF (fun R hR => by exists 1, h2; exact hR) ?_
     refine stepF (fun R hR => by exists 1, h2; exact hR) ?_
     refine stepF (fun R hR => by exists 1, h2; exact hR) ?_
     refine stepF (fun R hR => by exists 1, h2; exact hR) ?_
     refine stepF (fun R hR => by exists 1, h1, h2; exact hR) ?_
     refine stepFs (fun R hR => by
      exists 1, h1, h2
      refine ⟨small (Nat.le_of_ble_eq_true rfl), ?_⟩
      intro tt ftt; generalize e_H1 : upd H tt _ = H1; have i1 := new_at e_H1; have s1 := new_same ftt e_H1
      refine ⟨p', tt, rfl, i1, .inr ⟨_, s1 _ _ h2⟩, ?_⟩
      exists 1, L2.ap_seq
      exact hR _ s1) fun H1 s1 => ?_
     refine stepF (fun R hR => by exists 1, s1 _ _ h1, s1 _ _ h2, le'; exact hR) ?_
     refine step1 fun D1 d1 _ _ _ => ?_
     exists 1, s1 _ _ h2
     refine ⟨by omega, by omega, ?_⟩
     rw [Int.toNat_natCast]
     obtain ⟨Pv, hPv⟩ : ∃ Pv : Nat → St → Hp → Prop, Pv = fun j σ G => (∃ k2, σ = [some (.ref p), some (.ref p'), k2]) ∧ Same H G := ⟨_, rfl⟩
     refine forW_range Pv ?_ (fun j σ G hj hI => ?_) (fun σ G hI => ?_)
     · rw [hPv]; exact ⟨⟨_, rfl⟩, s1⟩
     · rw [hPv] at hI
       obtain ⟨⟨k2, rfl⟩, sG⟩ := hI
       rw [show ((0 : Int) + (j : Int)) = (j : Int) by omega, ap_gName]
       obtain ⟨y, ey⟩ : ∃ y, ys[j]? = some y := ⟨_, List.getElem?_eq_getElem hj⟩
       obtain ⟨x, ex⟩ : ∃ x, xs[j]? = some x := ⟨_, List.getElem?_eq_getElem (by omega)⟩
       refine ifFs (fun R hR => by
        exists 1, sG _ _ h1, sG _ _ h2, atI_nat ex, atI_nat ey
        exact el j x y ex ey G _ _ sG (fun H' s' => by
         exists 1, L2.ap_seq
         exact hR H' s')) fun G' s' => ?_
       show Pv _ _ _
       rw [hPv]; exact ⟨⟨_, rfl⟩, sG.trans s'⟩
     · rw [hPv] at hI
       obtain ⟨⟨k2, rfl⟩, sG⟩ := hI
       refine d1 _ _ ?_
       exists 1, L2.ap_seq
       exact q _ sG
end
end PW
namespace PW
open PySem L2 WM
theorem kit_exm {K : PySem.W.Frag} {t c : Value} {b : Bool} (h : PySem.W.exmOne K t c = some b) (hs : PySem.W.exmOne K t t = some true) : PySem.W.kitOne K t c = some b := by
 unfold PySem.W.kitOne
 by_cases e : (t == c) = true
 · rw [if_pos e]
   rw [← beq_iff_eq.mp e, hs] at h
   exact h
 · rw [if_neg e]
   unfold PySem.W.exmOne at h
   split at h
   · exact h
   · cases h
structure Kinds (K : PySem.W.Frag) (A : Adr) (C : Addr) (b1 b2 b3 b4 b5 b6 : Bool) : Prop where
 xc : ExcCls K C
 we : PySem.W.exmOne K (.ref C) (.ref A.c_WallError) = some true
 ve : PySem.W.kitOne K (.ref C) (.type "ValueError") = some true
 k1 : PySem.W.kitOne K (.ref C) (.ref A.c_Full) = some b1
 k2 : PySem.W.kitOne K (.ref C) (.ref A.c_NoNote) = some b2
 k3 : PySem.W.kitOne K (.ref C) (.ref A.c_NoThread) = some b3
 k4 : PySem.W.kitOne K (.ref C) (.ref A.c_Busy) = some b4
 k5 : PySem.W.kitOne K (.ref C) (.ref A.c_NoRound) = some b5
 k6 : PySem.W.kitOne K (.ref C) (.ref A.c_NoView) = some b6
 one : [b1, b2, b3, b4, b5, b6].count true = 1
theorem isi_ref {K : PySem.W.Frag} {C D ea : Addr} {b : Bool} {H : Hp} {Q : VK} (cg : ClsGet K) (xc : ExcCls K C) (hea : H ea = some (excO ea C)) (h : PySem.W.kitOne K (.ref C) (.ref D) = some b) (q : Q (.bl b) H) : fIsiX K [.ref ea, .ref D] H Q := ⟨ea, C, _, b, rfl, hea, xc, cg, (fun u e => by cases e; exact h), q⟩
theorem isi_ty {K : PySem.W.Frag} {C ea : Addr} {b : Bool} {t : String} {H : Hp} {Q : VK} (cg : ClsGet K) (xc : ExcCls K C) (hea : H ea = some (excO ea C)) (h : PySem.W.kitOne K (.ref C) (.type t) = some b) (q : Q (.bl b) H) : fIsiX K [.ref ea, .ty t] H Q := ⟨ea, C, _, b, rfl, hea, xc, cg, (fun u e => by cases e; exact h), q⟩
end PW
namespace PW
open PySem L2 WM
inductive Try where
 | put (h : Nat) | tie (h k : Nat) | follow (h k : Nat) | word (h : Nat) | begin | step
def TryV (H : Hp) (v : V) : Try → Prop
 | .put h => ∃ t u, v = .ref t ∧ H t = some (.tup [.str "put", .int h, .ref u]) ∧ H u = some (.tup [.int h])
 | .tie h k => ∃ t, v = .ref t ∧ H t = some (.tup [.str "tie", .int h, .int k])
 | .follow h k => ∃ t, v = .ref t ∧ H t = some (.tup [.str "follow", .int h, .int k])
 | .word h => ∃ t, v = .ref t ∧ H t = some (.tup [.str "word", .int h])
 | .begin => ∃ t, v = .ref t ∧ H t = some (.tup [.str "begin"])
 | .step => ∃ t, v = .ref t ∧ H t = some (.tup [.str "step"])
theorem TryV.mono {H H' : Hp} (s : Same H H') {v : V} : ∀ {d : Try}, TryV H v d → TryV H' v d
 | .put _, ⟨t, u, e, h1, h2⟩ => ⟨t, u, e, s _ _ h1, s _ _ h2⟩
 | .tie _ _, ⟨t, e, h1⟩ => ⟨t, e, s _ _ h1⟩
 | .follow _ _, ⟨t, e, h1⟩ => ⟨t, e, s _ _ h1⟩
 | .word _, ⟨t, e, h1⟩ => ⟨t, e, s _ _ h1⟩
 | .begin, ⟨t, e, h1⟩ => ⟨t, e, s _ _ h1⟩
 | .step, ⟨t, e, h1⟩ => ⟨t, e, s _ _ h1⟩
inductive Cl where
 | noNote | noThread | full | busy | noRound
def Cl.ad (A : Adr) : Cl → Addr
 | .noNote => A.c_NoNote | .noThread => A.c_NoThread | .full => A.c_Full | .busy => A.c_Busy | .noRound => A.c_NoRound
def Cl.told : Cl → Str
 | .noNote => "no note" | .noThread => "no thread" | .full => "full" | .busy => "busy" | .noRound => "no round"
def RefT (W : Wa) (h k : Nat) (c : Cl) : Prop := (c = .noNote ∧ W.hooks[h]? = some none) ∨ (c = .noThread ∧ ∃ n wd ts, W.hooks[h]? = some (some n) ∧ W.pegs[n]? = some (some (.note wd ts)) ∧ ts.length ≤ k)
def Ref (W : Wa) : Try → Cl → Prop
 | .put h, c => c = .full ∧ h < W.hooks.length ∧ W.low + W.size - W.free ≤ W.kept
 | .tie h k, c => RefT W h k c
 | .follow h k, c => RefT W h k c
 | .word h, c => c = .noNote ∧ W.hooks[h]? = some none
 | .begin, c => c = .busy ∧ W.moving = true
 | .step, c => c = .noRound ∧ W.moving = false
def spTry (A : Adr) : Sp := fun vs H Q E => ∃ (x a b : Addr) (W : Wa) (v : V) (d : Try), vs = [.ref x, v] ∧ WallAt A.C H x a b W ∧ WSm W ∧ TryV H v d ∧
 ((∃ c, Ref W d c ∧ ∀ H', Same H H' → E (.ref (c.ad A)) none H') ∨ (d = .begin ∧ W.moving = false ∧ ∀ H', WallAt A.C H' x a b W.begin → Fr3 x a b H H' → Q .non H'))
def spRefusal (A : Adr) : Sp := fun vs H Q _ => ∃ (x a b : Addr) (W : Wa) (v : V) (d : Try), vs = [.ref x, v] ∧ WallAt A.C H x a b W ∧ WSm W ∧ TryV H v d ∧
 ((∃ c, Ref W d c ∧ ∀ H', Same H H' → Q (.str c.told) H') ∨ (d = .begin ∧ W.moving = false ∧ ∀ H', WallAt A.C H' x a b W.begin → Fr3 x a b H H' → Q (.str "none") H'))
def spUnder (A : Adr) : Sp := fun vs H Q _ => ∃ (x a b : Addr) (W : Wa) (v : V) (d : Try) (c : Cl), vs = [.ref x, v] ∧ WallAt A.C H x a b W ∧ WSm W ∧ TryV H v d ∧ Ref W d c ∧ ∀ H', Same H H' → Q (.bl true) H'
def spStill (A : Adr) : Sp := fun vs H Q _ => ∃ (x a b : Addr) (W : Wa) (v : V) (d : Try) (c : Cl), vs = [.ref x, v, .str c.told] ∧ WallAt A.C H x a b W ∧ WSm W ∧ W.size ≤ 400 ∧ TryV H v d ∧ Ref W d c ∧ ∀ H', Same H H' → Q (.bl true) H'
section
variable {P : Program} {w : World} {K : PySem.W.Frag} {mg : Str → Option Value} {base : Heap} {A : Adr}
theorem kinds (T : Txt K mg A) (c : Cl) : ∃ b1 b2 b3 b4 b5 b6, Kinds K A (c.ad A) b1 b2 b3 b4 b5 b6 := by
 cases c with
 | noNote => exact ⟨_, _, _, _, _, _, T.xc_NoNote, T.e_NoNote, kit_exm T.q_NoNote_ValueError T.q_NoNote_NoNote, kit_exm T.q_NoNote_Full T.q_NoNote_NoNote, kit_exm T.q_NoNote_NoNote T.q_NoNote_NoNote, kit_exm T.q_NoNote_NoThread T.q_NoNote_NoNote, kit_exm T.q_NoNote_Busy T.q_NoNote_NoNote, kit_exm T.q_NoNote_NoRound T.q_NoNote_NoNote, kit_exm T.q_NoNote_NoView T.q_NoNote_NoNote, rfl⟩
 | noThread => exact ⟨_, _, _, _, _, _, T.xc_NoThread, T.e_NoThread, kit_exm T.q_NoThread_ValueError T.q_NoThread_NoThread, kit_exm T.q_NoThread_Full T.q_NoThread_NoThread, kit_exm T.q_NoThread_NoNote T.q_NoThread_NoThread, kit_exm T.q_NoThread_NoThread T.q_NoThread_NoThread, kit_exm T.q_NoThread_Busy T.q_NoThread_NoThread, kit_exm T.q_NoThread_NoRound T.q_NoThread_NoThread, kit_exm T.q_NoThread_NoView T.q_NoThread_NoThread, rfl⟩
 | full => exact ⟨_, _, _, _, _, _, T.xc_Full, T.e_Full, kit_exm T.q_Full_ValueError T.q_Full_Full, kit_exm T.q_Full_Full T.q_Full_Full, kit_exm T.q_Full_NoNote T.q_Full_Full, kit_exm T.q_Full_NoThread T.q_Full_Full, kit_exm T.q_Full_Busy T.q_Full_Full, kit_exm T.q_Full_NoRound T.q_Full_Full, kit_exm T.q_Full_NoView T.q_Full_Full, rfl⟩
 | busy => exact ⟨_, _, _, _, _, _, T.xc_Busy, T.e_Busy, kit_exm T.q_Busy_ValueError T.q_Busy_Busy, kit_exm T.q_Busy_Full T.q_Busy_Busy, kit_exm T.q_Busy_NoNote T.q_Busy_Busy, kit_exm T.q_Busy_NoThread T.q_Busy_Busy, kit_exm T.q_Busy_Busy T.q_Busy_Busy, kit_exm T.q_Busy_NoRound T.q_Busy_Busy, kit_exm T.q_Busy_NoView T.q_Busy_Busy, rfl⟩
 | noRound => exact ⟨_, _, _, _, _, _, T.xc_NoRound, T.e_NoRound, kit_exm T.q_NoRound_ValueError T.q_NoRound_NoRound, kit_exm T.q_NoRound_Full T.q_NoRound_NoRound, kit_exm T.q_NoRound_NoNote T.q_NoRound_NoRound, kit_exm T.q_NoRound_NoThread T.q_NoRound_NoRound, kit_exm T.q_NoRound_Busy T.q_NoRound_NoRound, kit_exm T.q_NoRound_NoRound T.q_NoRound_NoRound, kit_exm T.q_NoRound_NoView T.q_NoRound_NoRound, rfl⟩
theorem ok_tried (T : Txt K mg A) : FnOk P w K mg base (CXe P w) 6 A.a_tried A.d_tried ["_law_shut", "_law_deed"] (spTry A) := by
 refine T.f_tried.okE sc_tried (fun vs H Q E h => ?_) (fun cdv B outer s H vs Q E hr h => ?_)
 · obtain ⟨x, a, b, W, v, d, rfl, _⟩ := h
   rfl
 obtain ⟨x, a, b, W, v, d, rfl, hW, sm, hd, q⟩ := h
 obtain ⟨dx, ho⟩ := hW.ob
 have wk := sm.ok
 have hu := hu_of hr
 have hq : _ + 1 + 0 < cLine := hu_of hr
 have nd := sc_tried.nd
 refine ⟨_, (pss_one (ps_if (pt_cmpR (op_eq_f hq) (pe_idx hu (pvn nm_tried rfl rfl 1 rfl rfl) pe_int (fun _ _ => rfl)) pe_str (nomark _)) (pss_one (ps_expr (pe_meth (pvn nm_tried rfl rfl 0 rfl rfl) T.cl T.mt_put (ok_put T) (hr.mono (by decide)) T.b_put .nil passE (pa_cons (pe_idx hu (pvn nm_tried rfl rfl 1 rfl rfl) pe_int (fun _ _ => rfl)) (pa_cons pe_str (pa_cons (pe_idx hu (pvn nm_tried rfl rfl 1 rfl rfl) pe_int (fun _ _ => rfl)) pa_nil)))))) (pss_one (ps_if (pt_cmpR (op_eq_f hq) (pe_idx hu (pvn nm_tried rfl rfl 1 rfl rfl) pe_int (fun _ _ => rfl)) pe_str (nomark _)) (pss_one (ps_expr (pe_meth (pvn nm_tried rfl rfl 0 rfl rfl) T.cl T.mt_tie (ok_tie T) (hr.mono (by decide)) T.b_tie .nil passE (pa_cons (pe_idx hu (pvn nm_tried rfl rfl 1 rfl rfl) pe_int (fun _ _ => rfl)) (pa_cons (pe_idx hu (pvn nm_tried rfl rfl 1 rfl rfl) pe_int (fun _ _ => rfl)) (pa_cons (pe_idx hu (pvn nm_tried rfl rfl 1 rfl rfl) pe_int (fun _ _ => rfl)) pa_nil)))))) (pss_one (ps_if (pt_cmpR (op_eq_f hq) (pe_idx hu (pvn nm_tried rfl rfl 1 rfl rfl) pe_int (fun _ _ => rfl)) pe_str (nomark _)) (pss_one (ps_expr (pe_meth (pvn nm_tried rfl rfl 0 rfl rfl) T.cl T.mt_follow (ok_follow T) (hr.mono (by decide)) T.b_follow .nil passE (pa_cons (pe_idx hu (pvn nm_tried rfl rfl 1 rfl rfl) pe_int (fun _ _ => rfl)) (pa_cons (pe_idx hu (pvn nm_tried rfl rfl 1 rfl rfl) pe_int (fun _ _ => rfl)) (pa_cons (pe_idx hu (pvn nm_tried rfl rfl 1 rfl rfl) pe_int (fun _ _ => rfl)) pa_nil)))))) (pss_one (ps_if (pt_cmpR (op_eq_f hq) (pe_idx hu (pvn nm_tried rfl rfl 1 rfl rfl) pe_int (fun _ _ => rfl)) pe_str (nomark _)) (pss_one (ps_expr (pe_meth (pvn nm_tried rfl rfl 0 rfl rfl) T.cl T.mt_word_of (ok_word_of T) (hr.mono (by decide)) T.b_word_of .nil passE (pa_cons (pe_idx hu (pvn nm_tried rfl rfl 1 rfl rfl) pe_int (fun _ _ => rfl)) pa_nil)))) (pss_one (ps_if (pt_cmpR (op_eq_f hq) (pe_idx hu (pvn nm_tried rfl rfl 1 rfl rfl) pe_int (fun _ _ => rfl)) pe_str (nomark _)) (pss_one (ps_expr (pe_meth0 (pvn nm_tried rfl rfl 0 rfl rfl) T.cl T.mt_begin (ok_begin T) (hr.mono (by decide)) T.b_begin .nil passE))) (pss_one (ps_expr (pe_meth0 (pvn nm_tried rfl rfl 0 rfl rfl) T.cl T.mt_step (ok_step T) (hr.mono (by decide)) T.b_step .nil passE))))))))))))), ?_⟩
 show tIfS _ _ _ _ [some (.ref x), some v] H
 have hr0 : Same H H := fun _ _ h => h
 cases d with
 | put h =>
  obtain ⟨t, u, rfl, h1, h2⟩ := hd
  rcases q with ⟨c, ⟨rfl, hh, hf⟩, q⟩ | ⟨z, _⟩
  · refine ifT (fun R hR => by exists 1, h1, at0; exact hR) ?_
    exists 1, h1, at1, at2, ho, T.cl, wf_no (show notF "put" = true by decide +kernel)
    exact ⟨x, a, b, u, W, h, "a", [h], rfl, hW, wk.toPOk, sm.sz, hh, by rw [h2]; rfl, Nat.le_of_ble_eq_true rfl, (fun j hj => by rw [List.mem_singleton.mp hj]; exact hh), fun _ H' s' => q H' s', fun z => absurd hf (by omega)⟩
  · cases z
 | tie h k =>
  obtain ⟨t, rfl, h1⟩ := hd
  rcases q with ⟨c, rf, q⟩ | ⟨z, _⟩
  · refine ifF (fun R hR => by exists 1, h1, at0, (show ¬ (("tie" : Str) = "put") by decide +kernel); exact hR) ?_
    refine ifT (fun R hR => by exists 1, h1, at0; exact hR) ?_
    exists 1, h1, at1, at2, ho, T.cl, wf_no (show notF "tie" = true by decide +kernel)
    rcases rf with ⟨rfl, ht⟩ | ⟨rfl, n, wd, ts, ht, hp, hl⟩
    · exact ⟨x, a, b, W, h, k, h, none, none, rfl, hW, ht, ht, fun _ => q H hr0, fun n z => nomatch z⟩
    · exact ⟨x, a, b, W, h, k, h, some n, some n, rfl, hW, ht, ht, (fun z => nomatch z), fun n' z => by
       cases z
       exact ⟨wd, ts, hp, sm.rows _ _ (List.mem_of_getElem? hp), fun _ => q H hr0, fun z => absurd hl (by omega)⟩⟩
  · cases z
 | follow h k =>
  obtain ⟨t, rfl, h1⟩ := hd
  rcases q with ⟨c, rf, q⟩ | ⟨z, _⟩
  · refine ifF (fun R hR => by exists 1, h1, at0, (show ¬ (("follow" : Str) = "put") by decide +kernel); exact hR) ?_
    refine ifF (fun R hR => by exists 1, h1, at0, (show ¬ (("follow" : Str) = "tie") by decide +kernel); exact hR) ?_
    refine ifT (fun R hR => by exists 1, h1, at0; exact hR) ?_
    exists 1, h1, at1, at2, ho, T.cl, wf_no (show notF "follow" = true by decide +kernel)
    rcases rf with ⟨rfl, ht⟩ | ⟨rfl, n, wd, ts, ht, hp, hl⟩
    · exact ⟨x, a, b, W, h, k, h, none, rfl, hW, wk, ht, getElem?_ne_none_lt ht, fun _ => q H hr0, fun n z => nomatch z⟩
    · exact ⟨x, a, b, W, h, k, h, some n, rfl, hW, wk, ht, getElem?_ne_none_lt ht, (fun z => nomatch z), fun n' z => by
       cases z
       exact ⟨wd, ts, hp, sm.rows _ _ (List.mem_of_getElem? hp), fun _ => q H hr0, fun u z => absurd (getElem?_ne_none_lt z) (by omega)⟩⟩
  · cases z
 | word h =>
  obtain ⟨t, rfl, h1⟩ := hd
  rcases q with ⟨c, ⟨rfl, ht⟩, q⟩ | ⟨z, _⟩
  · refine ifF (fun R hR => by exists 1, h1, at0, (show ¬ (("word" : Str) = "put") by decide +kernel); exact hR) ?_
    refine ifF (fun R hR => by exists 1, h1, at0, (show ¬ (("word" : Str) = "tie") by decide +kernel); exact hR) ?_
    refine ifF (fun R hR => by exists 1, h1, at0, (show ¬ (("word" : Str) = "follow") by decide +kernel); exact hR) ?_
    refine ifT (fun R hR => by exists 1, h1, at0; exact hR) ?_
    exists 1, h1, at1, ho, T.cl, wf_no (show notF "word_of" = true by decide +kernel)
    exact ⟨x, a, b, W, h, none, rfl, hW, ht, fun _ => q H hr0, fun n z => nomatch z⟩
  · cases z
 | begin =>
  obtain ⟨t, rfl, h1⟩ := hd
  refine ifF (fun R hR => by exists 1, h1, at0, (show ¬ (("begin" : Str) = "put") by decide +kernel); exact hR) ?_
  refine ifF (fun R hR => by exists 1, h1, at0, (show ¬ (("begin" : Str) = "tie") by decide +kernel); exact hR) ?_
  refine ifF (fun R hR => by exists 1, h1, at0, (show ¬ (("begin" : Str) = "follow") by decide +kernel); exact hR) ?_
  refine ifF (fun R hR => by exists 1, h1, at0, (show ¬ (("begin" : Str) = "word") by decide +kernel); exact hR) ?_
  refine ifT (fun R hR => by exists 1, h1, at0; exact hR) ?_
  exists 1, ho, T.cl, wf_no (show notF "begin" = true by decide +kernel)
  rcases q with ⟨c, ⟨rfl, hm⟩, q⟩ | ⟨_, hm, q⟩
  · exact ⟨x, a, b, W, rfl, hW, wk, sm.hks, fun _ => q H hr0, fun z => by rw [hm] at z; cases z⟩
  · exact ⟨x, a, b, W, rfl, hW, wk, sm.hks, (fun z => by rw [hm] at z; cases z), fun _ H' w' f' => q H' w' f'⟩
 | step =>
  obtain ⟨t, rfl, h1⟩ := hd
  rcases q with ⟨c, ⟨rfl, hm⟩, q⟩ | ⟨z, _⟩
  · refine ifF (fun R hR => by exists 1, h1, at0, (show ¬ (("step" : Str) = "put") by decide +kernel); exact hR) ?_
    refine ifF (fun R hR => by exists 1, h1, at0, (show ¬ (("step" : Str) = "tie") by decide +kernel); exact hR) ?_
    refine ifF (fun R hR => by exists 1, h1, at0, (show ¬ (("step" : Str) = "follow") by decide +kernel); exact hR) ?_
    refine ifF (fun R hR => by exists 1, h1, at0, (show ¬ (("step" : Str) = "word") by decide +kernel); exact hR) ?_
    refine ifF (fun R hR => by exists 1, h1, at0, (show ¬ (("step" : Str) = "begin") by decide +kernel); exact hR) ?_
    exists 1, ho, T.cl, wf_no (show notF "step" = true by decide +kernel)
    exact ⟨x, a, b, W, rfl, hW, hm, q H hr0⟩
  · cases z
theorem ok_refusal (T : Txt K mg A) : FnOk P w K mg base (CXe P w) 7 A.a_refusal A.d_refusal ["_law_shut", "_law_deed"] (spRefusal A) := by
 refine T.f_refusal.okN sc_refusal (fun vs H Q E h => ?_) (fun cdv B outer s H vs Q E hr h => ?_)
 · obtain ⟨x, a, b, W, v, d, rfl, _⟩ := h
   rfl
 obtain ⟨x, a, b, W, v, d, rfl, hW, sm, hd, q⟩ := h
 have nd := sc_refusal.nd
 refine ⟨_, (pss_cons (ps_set (i := 2) nd rfl (nm_refusal.at rfl (i := 2) rfl rfl) pe_str)
  (pss_cons (ps_try rfl rfl rfl (pssx_one (psx_expr (pex_call (ok_tried T) (hr.mono (by decide)) rfl T.m_tried T.f_tried.kp T.b_tried .nil (pa_cons (pvn nm_refusal rfl rfl 0 rfl rfl) (pa_cons (pvn nm_refusal rfl rfl 1 rfl rfl) pa_nil))))) (ph_cons rfl T.m_NoNote (fun _ => (pss_one (ps_set (i := 2) nd rfl (nm_refusal.at rfl (i := 2) rfl rfl) pe_str))) (ph_cons rfl T.m_NoThread (fun _ => (pss_one (ps_set (i := 2) nd rfl (nm_refusal.at rfl (i := 2) rfl rfl) pe_str))) (ph_cons rfl T.m_Full (fun _ => (pss_one (ps_set (i := 2) nd rfl (nm_refusal.at rfl (i := 2) rfl rfl) pe_str))) (ph_cons rfl T.m_Busy (fun _ => (pss_one (ps_set (i := 2) nd rfl (nm_refusal.at rfl (i := 2) rfl rfl) pe_str))) (ph_cons rfl T.m_NoRound (fun _ => (pss_one (ps_set (i := 2) nd rfl (nm_refusal.at rfl (i := 2) rfl rfl) pe_str))) ph_nil))))))
  (pss_one (ps_ret (pvn nm_refusal rfl rfl 2 rfl rfl))))), ?_⟩
 show tSeq _ _ _ [some (.ref x), some v, none] H
 refine step1 fun D1 n1 r1 _ _ => ?_
 exists 1, L2.ap_seq
 refine n1 _ _ ?_
 refine step1 fun D2 n2 r2 _ _ => ?_
 show tTry _ _ _ _ H
 unfold tTry
 exists 1, L2.ap_seq
 refine ⟨x, a, b, W, v, d, rfl, hW, sm, hd, ?_⟩
 rcases q with ⟨c, rf, q⟩ | ⟨rfl, hm, q⟩
 · refine .inl ⟨c, rf, fun H' s' => ?_⟩
   have fin : D2.nx [some (.ref x), some v, some (.str c.told)] H' := n2 _ _ (by exists 1, L2.ap_seq; exact q H' s')
   cases c with
   | noNote =>
    refine ⟨true, T.q_NoNote_NoNote, ?_⟩
    exists 1, L2.ap_seq
    exact fin
   | noThread =>
    refine ⟨false, T.q_NoThread_NoNote, ?_⟩
    rw [if_neg Bool.false_ne_true]
    refine ⟨true, T.q_NoThread_NoThread, ?_⟩
    exists 1, L2.ap_seq
    exact fin
   | full =>
    refine ⟨false, T.q_Full_NoNote, ?_⟩
    rw [if_neg Bool.false_ne_true]
    refine ⟨false, T.q_Full_NoThread, ?_⟩
    rw [if_neg Bool.false_ne_true]
    refine ⟨true, T.q_Full_Full, ?_⟩
    exists 1, L2.ap_seq
    exact fin
   | busy =>
    refine ⟨false, T.q_Busy_NoNote, ?_⟩
    rw [if_neg Bool.false_ne_true]
    refine ⟨false, T.q_Busy_NoThread, ?_⟩
    rw [if_neg Bool.false_ne_true]
    refine ⟨false, T.q_Busy_Full, ?_⟩
    rw [if_neg Bool.false_ne_true]
    refine ⟨true, T.q_Busy_Busy, ?_⟩
    exists 1, L2.ap_seq
    exact fin
   | noRound =>
    refine ⟨false, T.q_NoRound_NoNote, ?_⟩
    rw [if_neg Bool.false_ne_true]
    refine ⟨false, T.q_NoRound_NoThread, ?_⟩
    rw [if_neg Bool.false_ne_true]
    refine ⟨false, T.q_NoRound_Full, ?_⟩
    rw [if_neg Bool.false_ne_true]
    refine ⟨false, T.q_NoRound_Busy, ?_⟩
    rw [if_neg Bool.false_ne_true]
    refine ⟨true, T.q_NoRound_NoRound, ?_⟩
    exists 1, L2.ap_seq
    exact fin
 · refine .inr ⟨rfl, hm, fun H' w' f' => n2 _ _ ?_⟩
   exists 1, L2.ap_seq
   exact q H' w' f'
theorem ok_under_base (T : Txt K mg A) : FnOk P w K mg base (CXe P w) 7 A.a_under_base A.d_under_base ["_law_shut", "_law_deed"] (spUnder A) := by
 refine T.f_under_base.okN sc_under_base (fun vs H Q E h => ?_) (fun cdv B outer s H vs Q E hr h => ?_)
 · obtain ⟨x, a, b, W, v, d, c, rfl, _⟩ := h
   rfl
 obtain ⟨x, a, b, W, v, d, c, rfl, hW, sm, hd, rf, q⟩ := h
 have hu := hu_of hr
 have hq : _ + 1 + 0 < cLine := hu_of hr
 have nd := sc_under_base.nd
 obtain ⟨b1, b2, b3, b4, b5, b6, kd⟩ := kinds T c
 refine ⟨_, (pss_cons (ps_try rfl rfl rfl (pssx_one (psx_expr (pex_call (ok_tried T) (hr.mono (by decide)) rfl T.m_tried T.f_tried.kp T.b_tried .nil (pa_cons (pvn nm_under_base rfl rfl 0 rfl rfl) (pa_cons (pvn nm_under_base rfl rfl 1 rfl rfl) pa_nil))))) (ph_as (i := 2) rfl T.m_WallError nd rfl lk_under_base_e (fun _ => (pss_cons (ps_set (i := 3) nd rfl (nm_under_base.at rfl (i := 3) rfl rfl) (pe_lst (pa_cons (pe_callB (call_isi_x (K := K) rfl) rfl T.z_isinstance bt_isinstance (pa_cons (pvn nm_under_base rfl rfl 2 rfl rfl) (pa_cons (pe_glob (v := .ref A.c_Full) rfl T.m_Full rfl) pa_nil))) (pa_cons (pe_callB (call_isi_x (K := K) rfl) rfl T.z_isinstance bt_isinstance (pa_cons (pvn nm_under_base rfl rfl 2 rfl rfl) (pa_cons (pe_glob (v := .ref A.c_NoNote) rfl T.m_NoNote rfl) pa_nil))) (pa_cons (pe_callB (call_isi_x (K := K) rfl) rfl T.z_isinstance bt_isinstance (pa_cons (pvn nm_under_base rfl rfl 2 rfl rfl) (pa_cons (pe_glob (v := .ref A.c_NoThread) rfl T.m_NoThread rfl) pa_nil))) pa_nil)))))
  (pss_cons (ps_set (i := 3) nd rfl (nm_under_base.at rfl (i := 3) rfl rfl) (pe_op op_add_f (pvn nm_under_base rfl rfl 3 rfl rfl) (pe_lst (pa_cons (pe_callB (call_isi_x (K := K) rfl) rfl T.z_isinstance bt_isinstance (pa_cons (pvn nm_under_base rfl rfl 2 rfl rfl) (pa_cons (pe_glob (v := .ref A.c_Busy) rfl T.m_Busy rfl) pa_nil))) (pa_cons (pe_callB (call_isi_x (K := K) rfl) rfl T.z_isinstance bt_isinstance (pa_cons (pvn nm_under_base rfl rfl 2 rfl rfl) (pa_cons (pe_glob (v := .ref A.c_NoRound) rfl T.m_NoRound rfl) pa_nil))) (pa_cons (pe_callB (call_isi_x (K := K) rfl) rfl T.z_isinstance bt_isinstance (pa_cons (pvn nm_under_base rfl rfl 2 rfl rfl) (pa_cons (pe_glob (v := .ref A.c_NoView) rfl T.m_NoView rfl) pa_nil))) pa_nil))))))
  (pss_one (ps_ret (pe_and (pe_callB (call_isi_x (K := K) rfl) rfl T.z_isinstance bt_isinstance (pa_cons (pvn nm_under_base rfl rfl 2 rfl rfl) (pa_cons (pe_bltn (v := .ty "ValueError") rfl T.z_ValueError bt_ValueError rfl) pa_nil))) (pe_one (pe_cmpR (op_eq_f hq) (pe_count (pvn nm_under_base rfl rfl 3 rfl rfl) pe_bl) pe_int (nomark _))))))))) ph_nil))
  (pss_one (ps_ret pe_bl))), ?_⟩
 show tSeq _ _ _ [some (.ref x), some v, none, none] H
 refine step1 fun D2 n2 r2 _ _ => ?_
 show tTry _ _ _ _ H
 unfold tTry
 exists 1, L2.ap_seq
 refine ⟨x, a, b, W, v, d, rfl, hW, sm, hd, .inl ⟨c, rf, fun H' s' => ?_⟩⟩
 generalize c.ad A = C at kd
 refine ⟨true, kd.we, ?_⟩
 rw [if_pos rfl]
 refine ⟨C, rfl, fun ea fea => ?_⟩
 generalize eE : upd H' ea (excO ea C) = H1
 have hea := new_at eE
 have s1 := new_same fea eE
 refine step1 fun D3 n3 r3 _ _ => ?_
 exists 1, L2.ap_seq
 refine isi_ref T.cg kd.xc hea kd.k1 ?_
 refine isi_ref T.cg kd.xc hea kd.k2 ?_
 refine isi_ref T.cg kd.xc hea kd.k3 ?_
 refine ⟨small (Nat.le_of_ble_eq_true rfl), ?_⟩
 intro l2 fl2; generalize e_H2 : upd H1 l2 _ = H2; have i2 := new_at e_H2; have s2 := new_same fl2 e_H2
 refine n3 _ _ ?_
 have hea2 := s2 _ _ hea
 refine step1 fun D4 n4 r4 _ _ => ?_
 exists 1, L2.ap_seq
 refine isi_ref T.cg kd.xc hea2 kd.k4 ?_
 refine isi_ref T.cg kd.xc hea2 kd.k5 ?_
 refine isi_ref T.cg kd.xc hea2 kd.k6 ?_
 refine ⟨small (Nat.le_of_ble_eq_true rfl), ?_⟩
 intro l3 fl3; generalize e_H3 : upd H2 l3 _ = H3; have i3 := new_at e_H3; have s3 := new_same fl3 e_H3
 exists 1, i3, s3 _ _ i2
 refine ⟨small (Nat.le_of_ble_eq_true rfl), ?_⟩
 intro l4 fl4; generalize e_H4 : upd H3 l4 _ = H4; have i4 := new_at e_H4; have s4 := new_same fl4 e_H4
 refine n4 _ _ ?_
 have hea4 := s4 _ _ (s3 _ _ hea2)
 exists 1, L2.ap_seq
 refine isi_ty T.cg kd.xc hea4 kd.ve ?_
 have one : (([b1, b2, b3, b4, b5, b6].count true : Nat) : Int) = 1 := by rw [kd.one]; rfl
 exists 1, i4, w_count
 refine ⟨[b1, b2, b3, b4, b5, b6], rfl, ?_⟩
 rw [decide_eq_true one]
 exact r2 _ _ (q H4 ((((s'.trans s1).trans s2).trans s3).trans s4))
def okFlat (v : V) : Prop := v = .non ∨ (∃ b, v = .bl b) ∨ (∃ i, v = .int i) ∨ ∃ z, v = .str z
theorem so_flat {sp : Sp} {v : V} {G : Hp} {Q : VK} {E : XK} (h : okFlat v) (q : ∀ H', Same G H' → Q (.bl true) H') : spSo sp [v, v] G Q E := ⟨_, _, rfl, .inl ⟨rfl, h⟩, q⟩
theorem th_flat (t : Option Nat) : okFlat (thV t) := by
 cases t with
 | none => exact .inl rfl
 | some n => exact .inr (.inr (.inl ⟨_, rfl⟩))
theorem so_tup {sp : Sp} {p : Addr} {xs : List V} {G : Hp} {Q : VK} {E : XK} (hp : G p = some (.tup xs)) (hl : xs.length ≤ 1000) (el : ∀ x ∈ xs, ∀ (G' : Hp) (Q : VK) (E : XK), Same G G' → (∀ H', Same G' H' → Q (.bl true) H') → sp [x, x] G' Q E) (q : ∀ H', Same G H' → Q (.bl true) H') : spSo sp [.ref p, .ref p] G Q E :=
 ⟨_, _, rfl, .inr ⟨p, p, xs, xs, rfl, rfl, .inr ⟨hp, hp⟩, rfl, hl, fun j x y ex ey G' Q E s q' => by
  rw [ex] at ey; cases ey
  exact el x (List.mem_of_getElem? ex) G' Q E s q'⟩, q⟩
theorem so_lst {sp : Sp} {p r : Addr} {xs : List V} {G : Hp} {Q : VK} {E : XK} (hp : G p = some (.lst xs)) (hr : G r = some (.lst xs)) (hl : xs.length ≤ 1000) (el : ∀ x ∈ xs, ∀ (G' : Hp) (Q : VK) (E : XK), Same G G' → (∀ H', Same G' H' → Q (.bl true) H') → sp [x, x] G' Q E) (q : ∀ H', Same G H' → Q (.bl true) H') : spSo sp [.ref p, .ref r] G Q E :=
 ⟨_, _, rfl, .inr ⟨p, r, xs, xs, rfl, rfl, .inl ⟨hp, hr⟩, rfl, hl, fun j x y ex ey G' Q E s q' => by
  rw [ex] at ey; cases ey
  exact el x (List.mem_of_getElem? ex) G' Q E s q'⟩, q⟩
theorem so_peg {sp : Sp} {v : V} {pg : Option (Peg Str)} {G : Hp} {Q : VK} {E : XK} (hv : PegV G v pg) (hr : ∀ wd ts, pg = some (.note wd ts) → ts.length ≤ 1000) (q : ∀ H', Same G H' → Q (.bl true) H') : spSo (spSo (spSo sp)) [v, v] G Q E := by
 cases pg with
 | none =>
  obtain rfl : v = .non := hv
  exact so_flat (.inl rfl) q
 | some pg => cases pg with
  | note wd ts =>
   obtain ⟨t, u, rfl, h1, h2⟩ := hv
   refine so_tup h1 (Nat.le_of_ble_eq_true rfl) (fun x hx G' Q' E' s' q' => ?_) q
   rcases List.mem_cons.mp hx with rfl | hx
   · exact so_flat (.inr (.inr (.inr ⟨_, rfl⟩))) q'
   · rcases List.mem_cons.mp hx with rfl | hx
     · exact so_flat (.inr (.inr (.inr ⟨_, rfl⟩))) q'
     · rw [List.mem_singleton.mp hx]
       refine so_tup (s' _ _ h2) (by rw [List.length_map]; exact hr wd ts rfl) (fun y hy G'' Q'' E'' s'' q'' => ?_) q'
       obtain ⟨t, _, rfl⟩ := List.mem_map.mp hy
       exact so_flat (th_flat t) q''
  | mark m =>
   obtain ⟨t, rfl, h1⟩ := hv
   refine so_tup h1 (Nat.le_of_ble_eq_true rfl) (fun x hx G' Q' E' s' q' => ?_) q
   rcases List.mem_cons.mp hx with rfl | hx
   · exact so_flat (.inr (.inr (.inr ⟨_, rfl⟩))) q'
   · rw [List.mem_singleton.mp hx]
     exact so_flat (.inr (.inr (.inl ⟨_, rfl⟩))) q'
abbrev spSo4 : Sp := spSo (spSo (spSo (spSo spNo)))
theorem ok_so (T : Txt K mg A) : FnOk P w K mg base (CXe P w) 5 A.a_so A.d_so ["_law_found", "_law_meant"] spSo4 := so_step T (so_step T (so_step T (so_step T (so_no T))))
theorem ok_still (T : Txt K mg A) : FnOk P w K mg base (CXe P w) 8 A.a_still A.d_still ["_law_shut", "_law_deed", "_law_due"] (spStill A) := by
 refine T.f_still.okN sc_still (fun vs H Q E h => ?_) (fun cdv B outer s H vs Q E hr h => ?_)
 · obtain ⟨x, a, b, W, v, d, c, rfl, _⟩ := h
   rfl
 obtain ⟨x, a, b, W, v, d, c, rfl, hW, sm, hz, hd, rf, q⟩ := h
 obtain ⟨dx, ho⟩ := hW.ob
 obtain ⟨Ps, hP, hA⟩ := hW.pg
 have hb := hW.hk
 have hu := hu_of hr
 have hq : _ + 1 + 0 < cLine := hu_of hr
 have nd := sc_still.nd
 refine ⟨_, (pss_cons (ps_set (i := 3) nd rfl (nm_still.at rfl (i := 3) rfl rfl) (pe_callTy call_list_f rfl T.z_list bt_list (pa_cons (pe_fld (pvn nm_still rfl rfl 0 rfl rfl) rfl) pa_nil)))
  (pss_cons (ps_set (i := 4) nd rfl (nm_still.at rfl (i := 4) rfl rfl) (pe_callTy call_list_f rfl T.z_list bt_list (pa_cons (pe_fld (pvn nm_still rfl rfl 0 rfl rfl) rfl) pa_nil)))
  (pss_cons (ps_if (PW.pt (pw_or (pt_cmpR (op_ne_f hq) (pe_call (ok_refusal T) (hr.mono (by decide)) rfl T.m_refusal T.f_refusal.kp T.b_refusal .nil passN (pa_cons (pvn nm_still rfl rfl 0 rfl rfl) (pa_cons (pvn nm_still rfl rfl 1 rfl rfl) pa_nil))) (pvn nm_still rfl rfl 2 rfl rfl) (nomark _)) (pw_or1 (pt_not (pt_val (pe_call (ok_under_base T) (hr.mono (by decide)) rfl T.m_under_base T.f_under_base.kp T.b_under_base .nil passN (pa_cons (pvn nm_still rfl rfl 0 rfl rfl) (pa_cons (pvn nm_still rfl rfl 1 rfl rfl) pa_nil)))))))) (pss_one (ps_ret pe_bl)) pss_nil)
  (pss_one (ps_ret (pe_and (pe_call (ok_so T) (hr.mono (by decide)) rfl T.m_so T.f_so.kp T.b_so .nil passN (pa_cons (pe_fld (pvn nm_still rfl rfl 0 rfl rfl) rfl) (pa_cons (pvn nm_still rfl rfl 3 rfl rfl) pa_nil))) (pe_one (pe_call (ok_so T) (hr.mono (by decide)) rfl T.m_so T.f_so.kp T.b_so .nil passN (pa_cons (pe_fld (pvn nm_still rfl rfl 0 rfl rfl) rfl) (pa_cons (pvn nm_still rfl rfl 4 rfl rfl) pa_nil)))))))))), ?_⟩
 show tSeq _ _ _ [some (.ref x), some v, some (.str c.told), none, none] H
 refine step1 fun D1 n1 r1 _ _ => ?_
 exists 1, ho, T.cl, T.na_pegs, wf_pegs, hP
 intro l1 fl1; generalize e_H1 : upd H l1 _ = H1; have i1 := new_at e_H1; have s1 := new_same fl1 e_H1
 refine n1 _ _ ?_
 refine step1 fun D2 n2 r2 _ _ => ?_
 exists 1, s1 _ _ ho, T.cl, T.na_hooks, wf_hooks, s1 _ _ hb
 intro l2 fl2; generalize e_H2 : upd H1 l2 _ = H2; have i2 := new_at e_H2; have s2 := new_same fl2 e_H2
 refine n2 _ _ ?_
 have s02 : Same H H2 := s1.trans s2
 refine stepFs (fun R hR => by
  exists 1, L2.ap_seq
  refine ⟨x, a, b, W, v, d, rfl, hW.same s02, sm, hd.mono s02, .inl ⟨c, rf, fun H3 s3 => ?_⟩⟩
  exists 1, L2.ap_seq
  refine ⟨x, a, b, W, v, d, c, rfl, (hW.same s02).same s3, sm, (hd.mono s02).mono s3, rf, fun H4 s4 => ?_⟩
  exists 1, L2.ap_seq
  exact hR _ (s3.trans s4)) fun H3 s3 => ?_
 have s03 : Same H H3 := s02.trans s3
 have lP : Ps.length ≤ 1000 := by rw [hA.len, sm.ok.len]; omega
 exists 1, s03 _ _ ho, T.cl, T.na_pegs, wf_pegs
 refine so_lst (s03 _ _ hP) (s3 _ _ (s2 _ _ i1)) lP (fun v hv G Q' E' sG q' => ?_) (fun H4 s4 => ?_)
 · obtain ⟨i, hi⟩ := List.mem_iff_getElem?.mp hv
   have hl : i < W.pegs.length := by rw [← hA.len]; exact getElem?_ne_none_lt hi
   have e := List.getElem?_eq_getElem hl
   refine so_peg ((hA.at_ i v _ hi e).mono fun c xs h => sG _ _ (s03 _ _ h)) (fun wd ts z => sm.rows wd ts (by rw [← z]; exact List.getElem_mem hl)) q'
 · exists 1, s4 _ _ (s03 _ _ ho), T.cl, T.na_hooks, wf_hooks
   refine so_lst (s4 _ _ (s03 _ _ hb)) (s4 _ _ (s3 _ _ i2)) (by rw [List.length_map]; exact sm.hks) (fun v hv G Q' E' sG q' => ?_) (fun H5 s5 => q H5 ((s03.trans s4).trans s5))
   obtain ⟨t, _, rfl⟩ := List.mem_map.mp hv
   exact so_flat (th_flat t) q'
end
end PW
namespace PW
open PySem L2 WM
theorem begin_rows {c : Nat} {W : Wa} (h : RowsLe c W) : RowsLe c W.begin := overAll_rows (W := W.begin0) (ts := W.hooks) h
theorem mdl_len_eq {notes : Notes Str} {heads : List (Option Nat)} {d : Deed} : (mdl notes heads d).1.length = notes.length + (if isPut d = true then 1 else 0) := by
 have hs : ∀ own k o, (setT notes own k o).length = notes.length := fun own k o => by
  unfold setT; split
  · rw [List.length_set]
  · rfl
 cases d <;> simp only [mdl, isPut]
 case put => simp
 case tie h k o =>
  split
  · split
    · split
      · simp
      · rw [hs]; simp
    · simp
  · simp
 case follow h k o =>
  split
  · split
    · split <;> simp
    · simp
  · simp
 all_goals simp
theorem does_free {W W' : Wa} {d : Deed} {r : V} (p : WOk W) (hm : W.moving = false) (ha : Mable d) (dd : Does W d W' r) (hp : isPut d = true → r ≠ .non) : W'.free = W.free + (if isPut d = true then 1 else 0) := by
 have hl : ∀ (V : Wa) (n k : Nat) (t : Option Nat), (V.lead n k t).free = V.free := fun V n k t => by
  unfold Wl.lead; split <;> rfl
 cases d with
 | begin => exact ha.elim
 | step => exact ha.elim
 | tidy => exact ha.elim
 | put h w os =>
  rcases dd with ⟨_, _, z⟩ | ⟨_, rfl, _⟩
  · exact absurd z (hp rfl)
  · rfl
 | tie h k o =>
  rcases dd with ⟨_, rfl, _⟩ | ⟨n, u, u', _, _, rfl, _⟩
  · rfl
  · exact hl _ _ _ _
 | follow h k o =>
  rcases dd with ⟨_, rfl, _⟩ | ⟨n, u, ⟨wd, ts, e, hp', ht⟩, rfl, _⟩
  · rfl
  · have hn : W.Near n := p.hk _ (List.mem_of_getElem? e) n rfl
    have ho : (W.over u).1 = W := by
     cases u with
     | none => rfl
     | some m =>
      rcases p.thr n wd ts k m hn hp' ht with z | ⟨z, _⟩
      · rw [ov_near (p.toPOk.isFar_near z)]
      · rw [hm] at z; cases z
    show ((W.over u).1.lead n k (W.over u).2).free = _
    rw [hl, ho]; rfl
 | drop h => obtain ⟨rfl, _⟩ := dd; rfl
 | word h => obtain ⟨rfl, _⟩ := dd; rfl
section
variable {P : Program} {w : World} {K : PySem.W.Frag} {mg : Str → Option Value} {base : Heap} {A : Adr}
theorem cut_some (ns : List Int) (lo hi : Option Int) : ∃ cells : List Int, cutV (ns.map V.int) lo hi = cells.map V.int ∧ cells.length ≤ ns.length := by
 refine ⟨_, by unfold cutV; rw [← List.map_drop, ← List.map_take], ?_⟩
 rw [List.length_take, List.length_drop]; omega
theorem ok_law {f : Addr} {fd : FuncData} (F : Fun K "law" "law" s_law f fd) (T : Txt K mg A) : FnOk P w K mg base (CXe P w) 14 f fd ["_law_script"] (spLaw K) := by
 refine F.okN sc_law (fun vs H Q E h => ?_) (fun cdv B outer s H vs Q E hr h => ?_)
 · obtain ⟨a, ns, rfl, _⟩ := h
   rfl
 obtain ⟨a, ns, rfl, hS, h63, hQ⟩ := h
 have hu := hu_of hr
 have hq : _ + 1 + 0 < cLine := hu_of hr
 have nd := sc_law.nd
 generalize eL : ns.map V.int = L at hS
 have lL : L.length = ns.length := by rw [← eL, List.length_map]
 refine ⟨_, (pss_cons (ps_set (i := 1) nd rfl (nm_law.at rfl (i := 1) rfl rfl) (pe_op op_add_f pe_int (pe_op op_mod (pe_op op_mod (pe_op op_mul_f (pe_call (ok_at T) (hr.mono (by decide)) rfl T.m_at T.f_at.kp T.b_at .nil passN (pa_cons (pvn nm_law rfl rfl 0 rfl rfl) (pa_cons pe_int pa_nil))) pe_int) pe_int) pe_int)))
  (pss_cons (ps_set (i := 2) nd rfl (nm_law.at rfl (i := 2) rfl rfl) (pe_op op_add_f pe_int (pe_op op_mod (pe_op op_mod (pe_op op_mul_f (pe_call (ok_at T) (hr.mono (by decide)) rfl T.m_at T.f_at.kp T.b_at .nil passN (pa_cons (pvn nm_law rfl rfl 0 rfl rfl) (pa_cons pe_int pa_nil))) pe_int) pe_int) pe_int)))
  (pss_cons (ps_set (i := 3) nd rfl (nm_law.at rfl (i := 3) rfl rfl) (pe_make T.mkW (ok_init T) (hr.mono (by decide)) rfl T.mgC T.b_init .nil passN (pa_cons (pvn nm_law rfl rfl 1 rfl rfl) (pa_cons (pvn nm_law rfl rfl 2 rfl rfl) pa_nil))))
  (pss_cons (ps_set (i := 4) nd rfl (nm_law.at rfl (i := 4) rfl rfl) (pe_lst pa_nil))
  (pss_cons (ps_set (i := 5) nd rfl (nm_law.at rfl (i := 5) rfl rfl) (pe_op op_mul_f (pe_lst (pa_cons pe_non pa_nil)) (pvn nm_law rfl rfl 2 rfl rfl)))
  (pss_cons (ps_for PassesOwn.never rfl (pi_seq (pe_call (ok_drawn T) (hr.mono (by decide)) rfl T.m_drawn T.f_drawn.kp T.b_drawn .nil passN (pa_cons (pe_slice (sl_S a L) (pvn nm_law rfl rfl 0 rfl rfl) (po_some pe_int) (po_some pe_int)) (pa_cons (pvn nm_law rfl rfl 2 rfl rfl) pa_nil)))) (pg_name (i := 6) nd rfl (nm_law.at rfl (i := 6) rfl rfl)) (pss_one (ps_if (pt_cmpR op_gt (pe_callB call_len_f rfl T.z_len bt_len (pa_cons (pvn nm_law rfl rfl 6 rfl rfl) pa_nil)) pe_int (nomark _)) (pss_cons (ps_set (i := 11) nd rfl (nm_law.at rfl (i := 11) rfl rfl) (pe_call (ok_done T) (hr.mono (by decide)) rfl T.m_done T.f_done.kp T.b_done .nil passN (pa_cons (pvn nm_law rfl rfl 3 rfl rfl) (pa_cons (pvn nm_law rfl rfl 6 rfl rfl) pa_nil))))
    (pss_one (ps_if (PW.pt (pw_or (pt_cmpR (op_ne_f hq) (pe_idx hu (pvn nm_law rfl rfl 6 rfl rfl) pe_int (fun _ _ => rfl)) pe_str (nomark _)) (pw_or1 (pt_cmpR op_is_f (pvn nm_law rfl rfl 11 rfl rfl) pe_bl (nomark _))))) (pss_one (ps_expr (pe_call (ok_model T) (hr.mono (by decide)) rfl T.m_model T.f_model.kp T.b_model .nil passN (pa_cons (pvn nm_law rfl rfl 4 rfl rfl) (pa_cons (pvn nm_law rfl rfl 5 rfl rfl) (pa_cons (pvn nm_law rfl rfl 6 rfl rfl) pa_nil)))))) pss_nil))) pss_nil)))
  (pss_cons (ps_for PassesOwn.never rfl (pi_range1 rfl T.z_range (pa_cons (pvn nm_law rfl rfl 2 rfl rfl) pa_nil)) (pg_name (i := 7) nd rfl (nm_law.at rfl (i := 7) rfl rfl)) (pss_cons (ps_set (i := 8) nd rfl (nm_law.at rfl (i := 8) rfl rfl) pe_str)
   (pss_cons (ps_set (i := 9) nd rfl (nm_law.at rfl (i := 9) rfl rfl) pe_int)
   (pss_cons (ps_if (pt_cmpR op_isnot_f (pe_idx hu (pvn nm_law rfl rfl 5 rfl rfl) (pvn nm_law rfl rfl 7 rfl rfl) (fun _ _ => rfl)) pe_non (nomark _)) (pss_cons (ps_set (i := 8) nd rfl (nm_law.at rfl (i := 8) rfl rfl) pe_str)
    (pss_cons (ps_set (i := 9) nd rfl (nm_law.at rfl (i := 9) rfl rfl) (pe_callB call_len_f rfl T.z_len bt_len (pa_cons (pe_idx hu (pe_idx hu (pvn nm_law rfl rfl 4 rfl rfl) (pe_idx hu (pvn nm_law rfl rfl 5 rfl rfl) (pvn nm_law rfl rfl 7 rfl rfl) (fun _ _ => rfl)) (fun _ _ => rfl)) pe_int (fun _ _ => rfl)) pa_nil)))
    (pss_cons (ps_set (i := 12) nd rfl (nm_law.at rfl (i := 12) rfl rfl) (pe_meth (pvn nm_law rfl rfl 3 rfl rfl) T.cl T.mt_word_of (ok_word_of T) (hr.mono (by decide)) T.b_word_of .nil passN (pa_cons (pvn nm_law rfl rfl 7 rfl rfl) pa_nil)))
    (pss_one (ps_if (PW.pt (pw_or (pt_not (pt_val (pe_callB call_isi_f rfl T.z_isinstance bt_isinstance (pa_cons (pvn nm_law rfl rfl 12 rfl rfl) (pa_cons (pe_bltn (v := .ty "str") rfl T.z_str bt_str rfl) pa_nil))))) (pw_or1 (pt_cmpR (op_ne_f hq) (pvn nm_law rfl rfl 12 rfl rfl) (pe_idx hu (pe_idx hu (pvn nm_law rfl rfl 4 rfl rfl) (pe_idx hu (pvn nm_law rfl rfl 5 rfl rfl) (pvn nm_law rfl rfl 7 rfl rfl) (fun _ _ => rfl)) (fun _ _ => rfl)) pe_int (fun _ _ => rfl)) (nomark _))))) (pss_one (ps_ret pe_bl)) pss_nil))))) (pss_one (ps_if (pt_not (pt_val (pe_call (ok_still T) (hr.mono (by decide)) rfl T.m_still T.f_still.kp T.b_still .nil passN (pa_cons (pvn nm_law rfl rfl 3 rfl rfl) (pa_cons (pe_tup (pa_cons pe_str (pa_cons (pvn nm_law rfl rfl 7 rfl rfl) pa_nil))) (pa_cons (pvn nm_law rfl rfl 8 rfl rfl) pa_nil)))))) (pss_one (ps_ret pe_bl)) pss_nil)))
   (pss_cons (ps_for PassesOwn.never rfl (pi_seq (pe_lst (pa_cons pe_int (pa_cons pe_int (pa_cons pe_int pa_nil))))) (pg_name (i := 10) nd rfl (nm_law.at rfl (i := 10) rfl rfl)) (pss_cons (ps_if (pt_not (pt_val (pe_call (ok_still T) (hr.mono (by decide)) rfl T.m_still T.f_still.kp T.b_still .nil passN (pa_cons (pvn nm_law rfl rfl 3 rfl rfl) (pa_cons (pe_tup (pa_cons pe_str (pa_cons (pvn nm_law rfl rfl 7 rfl rfl) (pa_cons (pe_op op_add_f (pvn nm_law rfl rfl 9 rfl rfl) (pvn nm_law rfl rfl 10 rfl rfl)) pa_nil)))) (pa_cons (pvn nm_law rfl rfl 8 rfl rfl) pa_nil)))))) (pss_one (ps_ret pe_bl)) pss_nil)
    (pss_one (ps_if (pt_not (pt_val (pe_call (ok_still T) (hr.mono (by decide)) rfl T.m_still T.f_still.kp T.b_still .nil passN (pa_cons (pvn nm_law rfl rfl 3 rfl rfl) (pa_cons (pe_tup (pa_cons pe_str (pa_cons (pvn nm_law rfl rfl 7 rfl rfl) (pa_cons (pe_op op_add_f (pvn nm_law rfl rfl 9 rfl rfl) (pvn nm_law rfl rfl 10 rfl rfl)) pa_nil)))) (pa_cons (pvn nm_law rfl rfl 8 rfl rfl) pa_nil)))))) (pss_one (ps_ret pe_bl)) pss_nil))))
   (pss_one (ps_if (PW.pt (pw_and (pt_cmpR op_ge (pe_callB call_len_f rfl T.z_len bt_len (pa_cons (pvn nm_law rfl rfl 4 rfl rfl) pa_nil)) (pvn nm_law rfl rfl 1 rfl rfl) (nomark _)) (pw_and1 (pt_not (pt_val (pe_call (ok_still T) (hr.mono (by decide)) rfl T.m_still T.f_still.kp T.b_still .nil passN (pa_cons (pvn nm_law rfl rfl 3 rfl rfl) (pa_cons (pe_tup (pa_cons pe_str (pa_cons (pvn nm_law rfl rfl 7 rfl rfl) (pa_cons (pe_tup (pa_cons (pvn nm_law rfl rfl 7 rfl rfl) pa_nil)) pa_nil)))) (pa_cons pe_str pa_nil))))))))) (pss_one (ps_ret pe_bl)) pss_nil)))))))
  (pss_cons (ps_if (pt_not (pt_val (pe_call (ok_still T) (hr.mono (by decide)) rfl T.m_still T.f_still.kp T.b_still .nil passN (pa_cons (pvn nm_law rfl rfl 3 rfl rfl) (pa_cons (pe_tup (pa_cons pe_str pa_nil)) (pa_cons pe_str pa_nil)))))) (pss_one (ps_ret pe_bl)) pss_nil)
  (pss_one (ps_ret (pe_and (pe_cmpR (op_eq_f hq) (pe_call (ok_refusal T) (hr.mono (by decide)) rfl T.m_refusal T.f_refusal.kp T.b_refusal .nil passN (pa_cons (pvn nm_law rfl rfl 3 rfl rfl) (pa_cons (pe_tup (pa_cons pe_str pa_nil)) pa_nil))) pe_str (nomark _)) (pe_one (pe_call (ok_still T) (hr.mono (by decide)) rfl T.m_still T.f_still.kp T.b_still .nil passN (pa_cons (pvn nm_law rfl rfl 3 rfl rfl) (pa_cons (pe_tup (pa_cons pe_str pa_nil)) (pa_cons pe_str pa_nil)))))))))))))))), ?_⟩
 show tSeq _ _ _ [some (.ref a), none, none, none, none, none, none, none, none, none, none, none, none] H
 obtain ⟨z0, ez0, lz0⟩ := modN (sAt ns 0 * 48271 % 1061) 5 (by decide)
 obtain ⟨z1, ez1, lz1⟩ := modN (sAt ns 1 * 48271 % 1063) 4 (by decide)
 refine step1 fun D1 n1 r1 _ _ => ?_
 exists 1, L2.ap_seq
 refine ⟨a, ns, 0, rfl, by rw [eL]; exact hS, ?_⟩
 exists 1, cmul, ez0
 refine n1 _ _ ?_
 rw [show (1 : Int) + (z0 : Int) = ((1 + z0 : Nat) : Int) by omega]
 generalize hn : 1 + z0 = n
 refine step1 fun D2 n2 r2 _ _ => ?_
 exists 1, L2.ap_seq
 refine ⟨a, ns, 1, rfl, by rw [eL]; exact hS, ?_⟩
 exists 1, cmul, ez1
 refine n2 _ _ ?_
 rw [show (1 : Int) + (z1 : Int) = ((1 + z1 : Nat) : Int) by omega]
 generalize hc0 : 1 + z1 = c
 refine step1 fun D3 n3 r3 _ _ => ?_
 exists 1, L2.ap_seq
 intro x dx hx hdx hxd
 generalize e0 : upd H dx _ = H0'
 have o0 : H0' x = none := by rw [wr_ne e0 (fun z => hxd z.symm)]; exact hx
 generalize e1 : upd H0' x _ = H1
 have s01 : Same H H1 := (new_same hdx e0).trans (new_same o0 e1)
 refine ⟨x, dx, n, c, rfl, new_at e1, by omega, by omega, fun pa pb H2 hW2 fa fb k2 => ⟨rfl, n3 _ _ ?_⟩⟩
 have hS2 : Scr K H2 a L := (hS.same s01).to fun ob xs h => k2 _ _ h (ne_of h (new_at e1) (by intro z; cases z))
 refine step1 fun D4 n4 r4 _ _ => ?_
 exists 1, L2.ap_seq
 intro nl fnl; generalize e_H3 : upd H2 nl _ = H3; have i3 := new_at e_H3; have s3 := new_same fnl e_H3
 refine n4 _ _ ?_
 refine step1 fun D5 n5 r5 _ _ => ?_
 exists 1, L2.ap_seq
 refine ⟨small (Nat.le_of_ble_eq_true rfl), ?_⟩
 intro p4 f4; generalize e_H4 : upd H3 p4 _ = H4; have i4 := new_at e_H4; have s4 := new_same f4 e_H4
 exists 1, i4
 refine ⟨by omega, by omega, small (by omega), ?_⟩
 intro hd fhd; generalize e_H5 : upd H4 hd _ = H5; have i5 := new_at e_H5; have s5 := new_same fhd e_H5
 refine n5 _ _ ?_
 have hS5 : Scr K H5 a L := ((hS2.same s3).same s4).same s5
 refine step1 fun D6 n6 r6 _ _ => ?_
 exists 1, hS5
 intro cl fcl; generalize e_H6 : upd H5 cl _ = H6; have i6 := new_at e_H6; have s6 := new_same fcl e_H6
 obtain ⟨cells, ecut, dl2⟩ := cut_some ns (some 2) (some 22)
 rw [← eL, ecut] at i6
 have w2 := hW2.some
 have hW6 := ((hW2.same s3).same s4).same s5 |>.same s6
 have w4 := (hW2.same (s3.trans s4)).some
 have nlx : nl ≠ x ∧ nl ≠ pa ∧ nl ≠ pb := ⟨fun z => w2.1 (z ▸ fnl), fun z => w2.2.1 (z ▸ fnl), fun z => w2.2.2 (z ▸ fnl)⟩
 have hdx : hd ≠ x ∧ hd ≠ pa ∧ hd ≠ pb := ⟨fun z => w4.1 (z ▸ fhd), fun z => w4.2.1 (z ▸ fhd), fun z => w4.2.2 (z ▸ fhd)⟩
 have nlh : nl ≠ hd := fun z => by rw [← z, s4 _ _ i3] at fhd; cases fhd
 have i5' : H5 hd = some (.lst (List.replicate c .non)) := by rw [i5]; simp [List.flatten_replicate_singleton]
 have i3' := s6 _ _ (s5 _ _ (s4 _ _ i3))
 have L6 := new_lst hW6 (by omega) (by omega) (by omega) i3' (s6 _ _ i5') nlh nlx hdx 0
 refine ⟨cl, cells, c, rfl, i6, by omega, by omega, by omega, fun dl D ds H7 hdl hD hk hc hlen s7 fdl => ?_⟩
 exists 1, L2.ap_seq
 have dne : ∀ q, H6 q ≠ none → dl ≠ q := fun q h z => h (by rw [← z]; exact fdl)
 have w6 := hW6.some
 have dx1 := dne x w6.1
 have dx2 := dne pa w6.2.1
 have dx3 := dne pb w6.2.2
 obtain ⟨Pv, hPv⟩ : ∃ Pv : Nat → St → Hp → Prop, Pv = fun i σ G => ∃ (W : Wa) (notes : Notes Str) (heads : List (Option Nat)) (φ : Nat → Option Nat) (rs : List Addr) (k6 k11 : Option V), σ = [some (.ref a), some (.int n), some (.int c), some (.ref x), some (.ref nl), some (.ref hd), k6, none, none, none, none, k11, none] ∧
  LSt A.C G x pa pb nl hd rs W notes heads φ ((ds.take i).countP isPut) ∧ W.size = n ∧ W.hooks.length = c ∧ W.moving = false ∧ W.low = 0 ∧ W.free = notes.length ∧ G dl = some (.lst D) ∧ DeedsV G D ds ∧ dl ∉ nl :: hd :: rs := ⟨_, rfl⟩
 refine forS_seq (xs := D) (by rw [hdl]; rfl) Pv ?_ (fun i σ G _ hI => ?_) (fun i v σ G hv hI => ?_) (fun σ G hI => ?_)
 · rw [hPv]
   refine ⟨_, _, _, _, _, _, _, rfl, L6.same s7, rfl, by simp [newW], rfl, rfl, rfl, hdl, hD, ?_⟩
   simp only [List.mem_cons, List.not_mem_nil, or_false, not_or]
   exact ⟨dne nl (by rw [i3']; exact Option.some_ne_none _), dne hd (by rw [s6 _ _ i5']; exact Option.some_ne_none _)⟩
 · rw [hPv] at hI
   obtain ⟨W, notes, heads, φ, rs, k6, k11, rfl, L, _, _, _, _, _, gdl, _⟩ := hI
   rw [gdl, hdl]
 · rw [hPv] at hI
   obtain ⟨W, notes, heads, φ, rs, k6, k11, rfl, L, hn', hcn, hmv, hlo, hfr, gdl, gD, dap⟩ := hI
   obtain ⟨d, ed, hdv⟩ := gD.get hv
   have dk : DeedOk W.hooks.length d := by rw [hcn]; exact hk d (List.mem_of_getElem? ed)
   have b1 := cnt_take ed
   have b2 := cnt_le (ds := ds) (i + 1)
   have b3 := cnt_le (ds := ds) i
   obtain ⟨t, xs, rfl, ht, l1, l2⟩ := hdv.tup
   rw [ap_gName]
   by_cases ha : Mable d
   · have l1' : (1 : Int) < ((xs.length + 1 : Nat) : Int) := by have := l1 ha; omega
     refine ifT (fun R hR => by exists 1, ht, l1'; exact hR) ?_
     refine step1 fun E1 m1 _ _ _ => ?_
     exists 1, L2.ap_seq
     refine ⟨x, pa, pb, W, _, d, rfl, L.wall, L.sm, hdv, dk, by cases d <;> first | trivial | exact ha.elim, fun W' r G1 dd hW1 f1 => m1 _ _ ?_⟩
     have tk1 := f1.tup L.wall
     obtain ⟨_, sm2, sm3⟩ := does_smM L.sm dk ha dd
     have g1dl : G1 dl = some (.lst D) := f1 _ _ gdl dx1 dx2 dx3
     by_cases hrf : isPut d = true ∧ r = .non
     · obtain ⟨hp, rfl⟩ := hrf
       have kp := put_kind hp
       rcases put_does hp dd with ⟨rfl, _⟩ | z
       · refine ifF (fun R hR => by exists 1, tk1 _ _ ht, at0, kp; exact hR) ?_
         show Pv _ _ _
         rw [hPv]
         refine ⟨W, notes, heads, φ, rs, _, _, rfl, ?_, hn', hcn, hmv, hlo, hfr, g1dl, gD.mono tk1, dap⟩
         rw [b1, hp]
         exact ⟨hW1, L.sm, L.sim, L.fr f1, L.ap, L.rows, Nat.le_succ_of_le L.nn, Nat.le_succ_of_le L.tt⟩
       · cases z
     · have hp : isPut d = true → r ≠ .non := fun h z => hrf ⟨h, z⟩
       refine ifT (fun R hR => by
        cases hi : isPut d with
        | true =>
         rcases put_does hi dd with ⟨_, z⟩ | rfl
         · exact absurd z (hp hi)
         · exists 1, tk1 _ _ ht, at0, put_kind hi
           exact hR
        | false =>
         exists 1, tk1 _ _ ht, at0, noput_kind hi
         exact hR) ?_
       exists 1, L2.ap_seq
       refine ⟨nl, hd, rs, _, d, notes, heads, rfl, L.fr f1, L.msm (by omega), hdv.mono tk1, by rw [L.hlen]; exact dk, ha, fun G2 rs' m2 k2 hrs => ?_⟩
       obtain ⟨φ', L', af⟩ := L.both dk ha dd hp hW1 f1 m2 k2 hrs
       show Pv _ _ _
       rw [hPv]
       refine ⟨W', _, _, φ', rs', _, _, rfl, by rw [b1]; exact L', by rw [sm3]; exact hn', by rw [sm2]; exact hcn, af.mov.trans hmv, af.low.trans hlo, ?_, k2 _ _ g1dl dap, (gD.mono tk1).mono fun c xs h => k2 _ _ h ((L.fr f1).notup h), L.apart dap g1dl hrs⟩
       rw [does_free L.sm.ok hmv ha dd hp, mdl_len_eq, hfr]
   · have l2' := l2 ha
     subst l2'
     refine ifF (fun R hR => by exists 1, ht; exact hR) ?_
     show Pv _ _ _
     rw [hPv]
     refine ⟨W, notes, heads, φ, rs, _, _, rfl, ?_, hn', hcn, hmv, hlo, hfr, gdl, gD, dap⟩
     rw [b1, mable_put ha]
     exact L
 · rw [hPv] at hI
   obtain ⟨W, notes, heads, φ, rs, k6, k11, rfl, L, hn', hcn, hmv, hlo, hfr, gdl, gD, dap⟩ := hI
   clear hPv Pv
   refine n6 _ _ ?_
   have b3 := cnt_le (ds := ds) D.length
   have wk := L.sm.ok
   have hsz : W.size ≤ 400 := by omega
   have lh : heads.length = c := by rw [L.hlen]; exact hcn
   obtain ⟨N, hN, lN, gN⟩ := L.mat.nls
   have hhd := L.mat.hds
   refine step1 fun D7 n7 r7 _ _ => ?_
   exists 1, L2.ap_seq
   refine ⟨by omega, by omega, ?_⟩
   rw [Int.toNat_natCast]
   obtain ⟨Pv, hPv⟩ : ∃ Pv : Nat → St → Hp → Prop, Pv = fun j σ G1 => (∃ k6 k7 k8 k9 k10 k11 k12, σ = [some (.ref a), some (.int n), some (.int c), some (.ref x), some (.ref nl), some (.ref hd), k6, k7, k8, k9, k10, k11, k12]) ∧ Same G G1 := ⟨_, rfl⟩
   refine forW_range Pv ?_ (fun j σ G1 hj hI => ?_) (fun σ G1 hI => ?_)
   · rw [hPv]; exact ⟨⟨_, _, _, _, _, _, _, rfl⟩, fun _ _ h => h⟩
   · rw [hPv] at hI
     obtain ⟨⟨k6, k7, k8, k9, k10, k11, k12, rfl⟩, sG⟩ := hI
     rw [show ((0 : Int) + (j : Int)) = (j : Int) by omega, ap_gName]
     have hj : j < c := hj
     have hjW : j < W.hooks.length := by omega
     have hW1 := L.wall.same sG
     obtain ⟨ox, hox⟩ := hW1.ob
     have hhd1 := sG _ _ hhd
     have hN1 := sG _ _ hN
     refine step1 fun E1 m1 _ _ _ => ?_
     exists 1, L2.ap_seq
     refine m1 _ _ ?_
     refine step1 fun E2 m2 _ _ _ => ?_
     exists 1, L2.ap_seq
     refine m2 _ _ ?_
     refine step1 fun E3 m3 _ _ _ => ?_
     suffices nx : ∀ (many : Nat) (c0 : Cl) (k12' : Option V) (G2 : Hp), Same G G2 → (∀ k, many ≤ k → RefT W j k c0) → E3.nx [some (.ref a), some (.int n), some (.int c), some (.ref x), some (.ref nl), some (.ref hd), k6, some (.int j), some (.str c0.told), some (.int many), k10, k11, k12'] G2 by
      have e := List.getElem?_eq_getElem hjW
      cases ht : W.hooks[j] with
      | none =>
       rw [ht] at e
       have eh := atMap (hook_none L.sim e)
       refine ifF (fun R hR => by exists 1, hhd1, eh, thV_none; exact hR) ?_
       refine ifFs (fun R hR => by
        exists 1, L2.ap_seq
        refine ⟨small (Nat.le_of_ble_eq_true rfl), ?_⟩
        intro l2 fl2; generalize e_G2 : upd G1 l2 _ = G2; have i2 := new_at e_G2; have s2 := new_same fl2 e_G2
        refine ⟨x, pa, pb, W, .ref l2, .word j, .noNote, rfl, hW1.same s2, L.sm, hsz, ⟨l2, rfl, i2⟩, ⟨rfl, e⟩, fun G3 s3 => ?_⟩
        exists 1, L2.ap_seq
        exact hR _ (s2.trans s3)) fun G2 s2 => ?_
       exact nx 0 .noNote _ G2 (sG.trans s2) fun k _ => .inl ⟨rfl, e⟩
      | some q =>
       rw [ht] at e
       obtain ⟨wd, ts, hp⟩ := hook_note wk e
       obtain ⟨own, row, eo, _, en, lr, _, _⟩ := hook_some L.sim wk e hp
       have eh := atMap eo
       obtain ⟨t, l, e1, e2, _, e4⟩ := L.mat.get hN en
       have e2' := sG _ _ e2
       have e4' := sG _ _ e4
       refine ifT (fun R hR => by exists 1, hhd1, eh, thV_some; exact hR) ?_
       refine step1 fun E4 m4 _ _ _ => ?_
       exists 1, L2.ap_seq
       refine m4 _ _ ?_
       refine step1 fun E5 m5 _ _ _ => ?_
       exists 1, hN1, hhd1, eh, thV_some, atI_nat e1, e2', at1, e4'
       refine m5 _ _ ?_
       refine step1 fun E6 m6 _ _ _ => ?_
       exists 1, hox, T.cl, wf_no (show notF "word_of" = true by decide +kernel)
       refine ⟨x, pa, pb, W, j, some q, rfl, hW1, e, (fun z => nomatch z), fun q' z => ?_⟩
       cases z
       refine ⟨wd, ts, hp, m6 _ _ ?_⟩
       refine ifF (fun R hR => by exists 1, hN1, hhd1, eh, thV_some, atI_nat e1, e2', at0; exact hR) ?_
       exact nx row.length .noThread _ G1 sG fun k hk' => .inr ⟨rfl, q, wd, ts, e, hp, by omega⟩
     intro many c0 k12' G2 sG2 rf
     refine m3 _ _ ?_
     have hW2' := L.wall.same sG2
     refine step1 fun E4 m4 _ _ _ => ?_
     exists 1, L2.ap_seq
     refine ⟨small (Nat.le_of_ble_eq_true rfl), ?_⟩
     intro lm flm; generalize e_G3 : upd G2 lm _ = G3; have i3m := new_at e_G3; have s3m := new_same flm e_G3
     have sG3 := sG2.trans s3m
     obtain ⟨Pw, hPw⟩ : ∃ Pw : Nat → St → Hp → Prop, Pw = fun i σ G4 => (∃ k10', σ = [some (.ref a), some (.int n), some (.int c), some (.ref x), some (.ref nl), some (.ref hd), k6, some (.int j), some (.str c0.told), some (.int many), k10', k11, k12']) ∧ Same G3 G4 := ⟨_, rfl⟩
     refine forS_seq (xs := [.int 0, .int 1, .int 1000000]) (by rw [i3m]; rfl) Pw ?_ (fun i σ G4 _ hI => ?_) (fun i v σ G4 hv hI => ?_) (fun σ G4 hI => ?_)
     · rw [hPw]; exact ⟨⟨_, rfl⟩, fun _ _ h => h⟩
     · rw [hPw] at hI; rw [hI.2 _ _ i3m, i3m]
     · rw [hPw] at hI
       obtain ⟨⟨k10', rfl⟩, s34⟩ := hI
       obtain ⟨m, rfl⟩ : ∃ m : Nat, v = .int (m : Int) := by
        match i, hv with
        | 0, hv => cases hv; exact ⟨0, rfl⟩
        | 1, hv => cases hv; exact ⟨1, rfl⟩
        | 2, hv => cases hv; exact ⟨1000000, rfl⟩
       rw [ap_gName]
       have hW4 := (L.wall.same sG3).same s34
       have em : (many : Int) + (m : Int) = ((many + m : Nat) : Int) := by omega
       refine stepFs (fun R hR => by
        exists 1, em
        refine ⟨small (Nat.le_of_ble_eq_true rfl), ?_⟩
        intro l5 fl5; generalize e_G5 : upd G4 l5 _ = G5; have i5t := new_at e_G5; have s5t := new_same fl5 e_G5
        refine ⟨x, pa, pb, W, .ref l5, .tie j (many + m), c0, rfl, hW4.same s5t, L.sm, hsz, ⟨l5, rfl, i5t⟩, rf _ (by omega), fun G6 s6t => ?_⟩
        exists 1, L2.ap_seq
        exact hR _ (s5t.trans s6t)) fun G5 s5t => ?_
       refine ifFs (fun R hR => by
        exists 1, em
        refine ⟨small (Nat.le_of_ble_eq_true rfl), ?_⟩
        intro l6 fl6; generalize e_G6 : upd G5 l6 _ = G6; have i6t := new_at e_G6; have s6t := new_same fl6 e_G6
        refine ⟨x, pa, pb, W, .ref l6, .follow j (many + m), c0, rfl, (hW4.same s5t).same s6t, L.sm, hsz, ⟨l6, rfl, i6t⟩, rf _ (by omega), fun G7 s7t => ?_⟩
        exists 1, L2.ap_seq
        exact hR _ (s6t.trans s7t)) fun G6 s6t => ?_
       show Pw _ _ _
       rw [hPw]; exact ⟨⟨_, rfl⟩, (s34.trans s5t).trans s6t⟩
     · rw [hPw] at hI
       obtain ⟨⟨k10', rfl⟩, s34⟩ := hI
       refine m4 _ _ ?_
       have sG4 := sG3.trans s34
       have fin : ∀ G5, Same G4 G5 → Pv (j + 1) [some (.ref a), some (.int n), some (.int c), some (.ref x), some (.ref nl), some (.ref hd), k6, some (.int j), some (.str c0.told), some (.int many), k10', k11, k12'] G5 := fun G5 s5 => by
        rw [hPv]; exact ⟨⟨_, _, _, _, _, _, _, rfl⟩, sG4.trans s5⟩
       have hN4 := sG4 _ _ hN
       by_cases hf : n ≤ notes.length
       · have hf' : (n : Int) ≤ ((N.length : Nat) : Int) := by omega
         refine ifFs (fun R hR => by
          exists 1, hN4, hf'
          refine ⟨small (Nat.le_of_ble_eq_true rfl), ?_⟩
          intro l5 fl5; generalize e_G5 : upd G4 l5 _ = G5; have i5t := new_at e_G5; have s5t := new_same fl5 e_G5
          refine ⟨small (Nat.le_of_ble_eq_true rfl), ?_⟩
          intro l6 fl6; generalize e_G6 : upd G5 l6 _ = G6; have i6t := new_at e_G6; have s6t := new_same fl6 e_G6
          refine ⟨x, pa, pb, W, .ref l6, .put j, .full, rfl, ((L.wall.same sG4).same s5t).same s6t, L.sm, hsz, ⟨l6, l5, rfl, i6t, s6t _ _ i5t⟩, ⟨rfl, hjW, by omega⟩, fun G7 s7t => ?_⟩
          exists 1, L2.ap_seq
          exact hR _ ((s5t.trans s6t).trans s7t)) fun G5 s5 => ?_
         exact fin _ s5
       · have hf' : ¬ (n : Int) ≤ ((N.length : Nat) : Int) := by omega
         refine ifF (fun R hR => by exists 1, hN4, hf'; exact hR) ?_
         exact fin _ fun _ _ h => h
   · rw [hPv] at hI
     obtain ⟨⟨k6, k7, k8, k9, k10, k11, k12, rfl⟩, sG⟩ := hI
     refine n7 _ _ ?_
     refine stepFs (fun R hR => by
      exists 1, L2.ap_seq
      refine ⟨small (Nat.le_of_ble_eq_true rfl), ?_⟩
      intro l5 fl5; generalize e_G5 : upd G1 l5 _ = G5; have i5t := new_at e_G5; have s5t := new_same fl5 e_G5
      refine ⟨x, pa, pb, W, .ref l5, .step, .noRound, rfl, (L.wall.same sG).same s5t, L.sm, hsz, ⟨l5, rfl, i5t⟩, ⟨rfl, hmv⟩, fun G6 s6t => ?_⟩
      exists 1, L2.ap_seq
      exact hR _ (s5t.trans s6t)) fun G2 s2 => ?_
     have hW3 := (L.wall.same sG).same s2
     exists 1, L2.ap_seq
     refine ⟨small (Nat.le_of_ble_eq_true rfl), ?_⟩
     intro l5 fl5; generalize e_G5 : upd G2 l5 _ = G5; have i5t := new_at e_G5; have s5t := new_same fl5 e_G5
     refine ⟨x, pa, pb, W, .ref l5, .begin, rfl, hW3.same s5t, L.sm, ⟨l5, rfl, i5t⟩, .inr ⟨rfl, hmv, fun G6 hW6 f6 => ?_⟩⟩
     obtain ⟨_, bf2, _, bf4, bf5⟩ := begin_fields wk hmv
     have smb : WSm W.begin := ⟨begin_ok wk hmv, by rw [bf2]; exact L.sm.sz, begin_rows L.sm.rows, by rw [bf5]; exact L.sm.hks⟩
     exists 1, L2.ap_seq
     refine ⟨small (Nat.le_of_ble_eq_true rfl), ?_⟩
     intro l7 fl7; generalize e_G7 : upd G6 l7 _ = G7; have i7t := new_at e_G7; have s7t := new_same fl7 e_G7
     exact ⟨x, pa, pb, W.begin, .ref l7, .begin, .busy, rfl, hW6.same s7t, smb, by rw [bf2]; exact hsz, ⟨l7, rfl, i7t⟩, ⟨rfl, bf4⟩, fun H' _ => hQ H'⟩
end
end PW
namespace PySem.W.Fast
theorem tw17079667483653434947:True:=⟨⟩
theorem tw17537377215747726735:True:=⟨⟩
theorem tw8454806439726699220:True:=⟨⟩
theorem tw5863379223449173658:True:=⟨⟩
theorem tw17689476035794546631:True:=⟨⟩
theorem tw13104327582915007931:True:=⟨⟩
theorem tw17083635996175084043:True:=⟨⟩
theorem tw3930033214710167951:True:=⟨⟩
theorem tw16706062497407664997:True:=⟨⟩
theorem tw9274812678653943261:True:=⟨⟩
theorem tw2266894846032379599:True:=⟨⟩
theorem tw9175280313548737519:True:=⟨⟩
theorem tw2604340535659849527:True:=⟨⟩
theorem tw12832046769376051194:True:=⟨⟩
theorem tw16201170921884745993:True:=⟨⟩
theorem tw11874656938430670315:True:=⟨⟩
theorem tw2880632103305239986:True:=⟨⟩
theorem tw18445683558724835034:True:=⟨⟩
theorem tw16331307771049208526:True:=⟨⟩
theorem tw12041009427502191990:True:=⟨⟩
theorem tw16853189843490262042:True:=⟨⟩
theorem tw6870980290124271106:True:=⟨⟩
theorem tw16491737338822729265:True:=⟨⟩
theorem tw7858965086700892293:True:=⟨⟩
theorem tw968880854056363014:True:=⟨⟩
theorem tw15433662392789470394:True:=⟨⟩
theorem tw10586423373735622812:True:=⟨⟩
theorem tw15474309592940021774:True:=⟨⟩
theorem tw17647034377516964065:True:=⟨⟩
theorem tw17365977812624438538:True:=⟨⟩
theorem tw17874960482211446197:True:=⟨⟩
theorem tw10991641376525313182:True:=⟨⟩
theorem tw275207775812967214:True:=⟨⟩
theorem tw4142570392948349117:True:=⟨⟩
theorem tw5979017027524502633:True:=⟨⟩
theorem tw7425571717222140891:True:=⟨⟩
theorem tw2607035908768245928:True:=⟨⟩
theorem tw15275351441695419002:True:=⟨⟩
theorem tw8145790564105922234:True:=⟨⟩
theorem tw17589880002124407436:True:=⟨⟩
theorem tw8523934782727105135:True:=⟨⟩
theorem tw17046224477570945195:True:=⟨⟩
theorem tw6927394711128292240:True:=⟨⟩
theorem tw6781941880610907347:True:=⟨⟩
theorem tw12865656053110763847:True:=⟨⟩
theorem tw17723654428802891045:True:=⟨⟩
theorem tw12459947275117646641:True:=⟨⟩
theorem tw1252768049641253560:True:=⟨⟩
theorem tw15291266775246199681:True:=⟨⟩
theorem tw1268580491205135270:True:=⟨⟩
theorem tw10705799757972443105:True:=⟨⟩
theorem tw18276270447097704311:True:=⟨⟩
theorem tw2991500889950929474:True:=⟨⟩
theorem tw17449537074045415086:True:=⟨⟩
theorem tw1847285760649005389:True:=⟨⟩
theorem tw3333274782870131534:True:=⟨⟩
theorem tw8714713765781257569:True:=⟨⟩
theorem tw2114407759097526983:True:=⟨⟩
theorem tw13711377885302560755:True:=⟨⟩
theorem tw15165983197791117733:True:=⟨⟩
theorem tw7890872227182529503:True:=⟨⟩
theorem tw297947566461929773:True:=⟨⟩
theorem tw11546409836025628813:True:=⟨⟩
theorem tw13596370063177834255:True:=⟨⟩
theorem tw7398733164847533732:True:=⟨⟩
theorem tw6206816517933587459:True:=⟨⟩
theorem tw13985321700869877954:True:=⟨⟩
theorem tw712255570942661254:True:=⟨⟩
theorem tw13786297164927967127:True:=⟨⟩
theorem tw8119102818277105896:True:=⟨⟩
theorem tw13384515637185344404:True:=⟨⟩
theorem tw12111494538735763239:True:=⟨⟩
theorem tw11698997685462470038:True:=⟨⟩
theorem tw7835758330042821224:True:=⟨⟩
theorem tw15826225107048997159:True:=⟨⟩
theorem tw3670965111563840959:True:=⟨⟩
theorem tw8086378098778637030:True:=⟨⟩
theorem tw16365629218369376910:True:=⟨⟩
theorem tw1365185615705948284:True:=⟨⟩
theorem tw17029690923298349491:True:=⟨⟩
theorem tw11279314383768679757:True:=⟨⟩
theorem tw5409752752929790002:True:=⟨⟩
theorem tw16125438354570397486:True:=⟨⟩
theorem tw3216414754105663776:True:=⟨⟩
theorem tw15719287373478448593:True:=⟨⟩
theorem tw1908996323941578772:True:=⟨⟩
theorem tw6294751109677746385:True:=⟨⟩
theorem tw3692685888128510095:True:=⟨⟩
theorem tw2399713335888050988:True:=⟨⟩
theorem tw4181072640021320563:True:=⟨⟩
theorem tw11487062963747534673:True:=⟨⟩
theorem tw6605839664362456816:True:=⟨⟩
theorem tw16323125381041599263:True:=⟨⟩
theorem tw2328530027611917859:True:=⟨⟩
theorem tw14084756954628627108:True:=⟨⟩
theorem tw7233347191922015948:True:=⟨⟩
theorem tw13857293803479853722:True:=⟨⟩
theorem tw3324574144560601197:True:=⟨⟩
theorem tw10693818833043369772:True:=⟨⟩
theorem tw11893439551330621247:True:=⟨⟩
theorem tw8968988537914928456:True:=⟨⟩
theorem tw13785252892802319835:True:=⟨⟩
theorem tw13109459187165746167:True:=⟨⟩
theorem tw14716828482042746526:True:=⟨⟩
theorem tw14165790076929695551:True:=⟨⟩
theorem tw4120244541890531539:True:=⟨⟩
theorem tw3248362735334146144:True:=⟨⟩
theorem tw6766842079485244792:True:=⟨⟩
theorem tw13827718832841422101:True:=⟨⟩
theorem tw5683614356288472200:True:=⟨⟩
theorem tw2349817489850436176:True:=⟨⟩
theorem tw5495346222630452931:True:=⟨⟩
theorem tw6068587183946534838:True:=⟨⟩
theorem tw12085485370597829159:True:=⟨⟩
theorem tw11725926823632858896:True:=⟨⟩
theorem tw5192350392757720703:True:=⟨⟩
theorem tw5298612153244585588:True:=⟨⟩
theorem tw8455256117749968630:True:=⟨⟩
theorem tw1967955485988980996:True:=⟨⟩
theorem tw2988277860325014956:True:=⟨⟩
theorem tw11184788950792449353:True:=⟨⟩
theorem tw16677915471950772821:True:=⟨⟩
theorem tw5028002275256782051:True:=⟨⟩
theorem tw4977460567632705734:True:=⟨⟩
theorem tw12329420435646295264:True:=⟨⟩
theorem tw17964335329816958420:True:=⟨⟩
theorem tw11735519628602307011:True:=⟨⟩
theorem tw4419957150385364859:True:=⟨⟩
theorem tw15979068514790374938:True:=⟨⟩
theorem tw11884992396459610821:True:=⟨⟩
theorem tw17053676496061860177:True:=⟨⟩
theorem tw134646441470119702:True:=⟨⟩
theorem tw9841281730342016518:True:=⟨⟩
theorem tw3784628675534456745:True:=⟨⟩
theorem tw662260283206837266:True:=⟨⟩
theorem tw2867210440346061430:True:=⟨⟩
theorem tw18085835097671670366:True:=⟨⟩
theorem tw12740184327285853379:True:=⟨⟩
theorem tw7417827295257782077:True:=⟨⟩
theorem tw7165216050414729404:True:=⟨⟩
theorem tw3508834438304371312:True:=⟨⟩
theorem tw12478893016903510172:True:=⟨⟩
theorem tw2703854236171440513:True:=⟨⟩
theorem tw14345201656023108007:True:=⟨⟩
theorem tw16751138256665899001:True:=⟨⟩
theorem tw2840993474337480550:True:=⟨⟩
theorem tw13071387841566287387:True:=⟨⟩
theorem tw15479006010775779774:True:=⟨⟩
theorem tw16260043431971610624:True:=⟨⟩
theorem tw17655551108135842413:True:=⟨⟩
theorem tw8327080438716104479:True:=⟨⟩
theorem tw10727049275689308797:True:=⟨⟩
theorem tw6622947130041998341:True:=⟨⟩
theorem tw3177040280193628508:True:=⟨⟩
theorem tw3720373674504819289:True:=⟨⟩
theorem tw14152682949441053408:True:=⟨⟩
theorem tw15899941360572760035:True:=⟨⟩
theorem tw16294337327100124698:True:=⟨⟩
theorem tw5641411859940605080:True:=⟨⟩
theorem tw6327754397817242329:True:=⟨⟩
theorem tw18255035087778572565:True:=⟨⟩
theorem tw12708515107886048402:True:=⟨⟩
theorem tw4544577391451841812:True:=⟨⟩
theorem tw13286723443461465267:True:=⟨⟩
theorem tw15730899253044682966:True:=⟨⟩
theorem tw12656169840671581863:True:=⟨⟩
theorem tw4517788313893046448:True:=⟨⟩
theorem tw8180169593577547945:True:=⟨⟩
theorem tw370081133217389275:True:=⟨⟩
theorem tw14349654032683507910:True:=⟨⟩
theorem tw2487713892456496739:True:=⟨⟩
theorem tw9837223300114427928:True:=⟨⟩
theorem tw10587203996819598309:True:=⟨⟩
theorem tw3206071910562958776:True:=⟨⟩
theorem tw9729043615890391726:True:=⟨⟩
theorem tw7784968790700146236:True:=⟨⟩
theorem tw14325139255988520710:True:=⟨⟩
theorem tw18204138710384502810:True:=⟨⟩
theorem tw2611133407285344509:True:=⟨⟩
theorem tw18384551883059141053:True:=⟨⟩
theorem tw20548511886264968:True:=⟨⟩
theorem tw4113740809815807486:True:=⟨⟩
theorem tw17218649353517637393:True:=⟨⟩
theorem tw1010352229238848143:True:=⟨⟩
theorem tw5440409289497501087:True:=⟨⟩
theorem tw8601861228593265791:True:=⟨⟩
theorem tw2533545056453234251:True:=⟨⟩
theorem tw14636526817144680696:True:=⟨⟩
theorem tw4698407713638639064:True:=⟨⟩
theorem tw13661038277840543374:True:=⟨⟩
theorem tw13003278920145735427:True:=⟨⟩
theorem tw3335889640282824215:True:=⟨⟩
theorem tw7848600462940456326:True:=⟨⟩
theorem tw16624230534087659171:True:=⟨⟩
theorem tw10016101932043316811:True:=⟨⟩
theorem tw14701443101607467815:True:=⟨⟩
theorem tw4524892295402922051:True:=⟨⟩
theorem tw13459433194361546586:True:=⟨⟩
theorem tw15970699555839014960:True:=⟨⟩
theorem tw4224466053289996557:True:=⟨⟩
theorem tw9807775646586483937:True:=⟨⟩
theorem tw16153904004261757713:True:=⟨⟩
theorem tw4709662948449228554:True:=⟨⟩
theorem tw9607570174817549606:True:=⟨⟩
theorem tw8612012142676479726:True:=⟨⟩
theorem tw7924760884132183009:True:=⟨⟩
theorem tw10199719713699064817:True:=⟨⟩
theorem tw950548631416602318:True:=⟨⟩
theorem tw12114477114190370347:True:=⟨⟩
theorem tw16315763511754665417:True:=⟨⟩
theorem tw4382368389811234143:True:=⟨⟩
theorem tw9924219383283081089:True:=⟨⟩
theorem tw17852690219092039552:True:=⟨⟩
theorem tw3135680078086012206:True:=⟨⟩
theorem tw11667849651147027831:True:=⟨⟩
theorem tw10885956716018276615:True:=⟨⟩
theorem tw6618870220912815840:True:=⟨⟩
theorem tw10255857787548235216:True:=⟨⟩
theorem tw11159430440010702664:True:=⟨⟩
theorem tw4410030905189853135:True:=⟨⟩
theorem tw2780429644302309378:True:=⟨⟩
theorem tw12248515042223515085:True:=⟨⟩
theorem tw10884714372024036471:True:=⟨⟩
theorem tw1462779580278968207:True:=⟨⟩
theorem tw16816065199700062821:True:=⟨⟩
theorem tw12281062553650359823:True:=⟨⟩
theorem tw4768412163537538892:True:=⟨⟩
theorem tw5170472760387993204:True:=⟨⟩
theorem tw11213301079555870512:True:=⟨⟩
theorem tw12090797752372650013:True:=⟨⟩
theorem tw10530597347259217287:True:=⟨⟩
theorem tw9602606146022546245:True:=⟨⟩
theorem tw2833893653492403614:True:=⟨⟩
theorem tw10925897487987479573:True:=⟨⟩
theorem tw13652780907221815396:True:=⟨⟩
theorem tw15245472283094884937:True:=⟨⟩
theorem tw5758111661271319676:True:=⟨⟩
theorem tw16723864525602043885:True:=⟨⟩
theorem tw12656926171233819043:True:=⟨⟩
theorem tw414306956100999870:True:=⟨⟩
theorem tw8996752836502890121:True:=⟨⟩
theorem tw13375156860846807535:True:=⟨⟩
theorem tw11143025586576320759:True:=⟨⟩
theorem tw71170567632323803:True:=⟨⟩
theorem tw13078513455455005323:True:=⟨⟩
theorem tw14135487378232893651:True:=⟨⟩
theorem tw95561826647005353:True:=⟨⟩
theorem tw7100674795899374049:True:=⟨⟩
theorem tw15003617386898187406:True:=⟨⟩
theorem tw8224674657875839738:True:=⟨⟩
theorem tw3037211008166753625:True:=⟨⟩
theorem tw7322099258374286539:True:=⟨⟩
theorem tw13591896772080369298:True:=⟨⟩
theorem tw10934303093839068938:True:=⟨⟩
theorem tw1073504601564310227:True:=⟨⟩
theorem tw261672987513358803:True:=⟨⟩
theorem tw4517123839403266364:True:=⟨⟩
theorem tw12302055128547364765:True:=⟨⟩
theorem tw8976080527075842769:True:=⟨⟩
theorem tw9867356397140334865:True:=⟨⟩
theorem tw897407704198810902:True:=⟨⟩
theorem tw17650542115972142558:True:=⟨⟩
theorem tw14494200248618219244:True:=⟨⟩
theorem tw16861945863110802620:True:=⟨⟩
theorem tw6625629277897890056:True:=⟨⟩
theorem tw6128415545208874877:True:=⟨⟩
theorem tw2462165171406715818:True:=⟨⟩
theorem tw79245321772907983:True:=⟨⟩
theorem tw11580690043015825139:True:=⟨⟩
theorem tw3176167090606439369:True:=⟨⟩
theorem tw9962203358802954847:True:=⟨⟩
theorem tw16120256567211547525:True:=⟨⟩
theorem tw4070297729646656144:True:=⟨⟩
theorem tw12177403479485793709:True:=⟨⟩
theorem tw16298665813559923637:True:=⟨⟩
theorem tw407282376605854412:True:=⟨⟩
theorem tw2255331786928847470:True:=⟨⟩
theorem tw17370683270818542531:True:=⟨⟩
theorem tw10305446615222571493:True:=⟨⟩
theorem tw5585286681350835110:True:=⟨⟩
theorem tw18292351005108325916:True:=⟨⟩
theorem tw13014462068868363590:True:=⟨⟩
theorem tw1331649158480590464:True:=⟨⟩
theorem tw9158259444748204161:True:=⟨⟩
theorem tw531295429872300640:True:=⟨⟩
theorem tw15163950562618968373:True:=⟨⟩
theorem tw7673378930487975418:True:=⟨⟩
theorem tw3264416014670745845:True:=⟨⟩
theorem tw2121188523227376315:True:=⟨⟩
theorem tw6129181611279061706:True:=⟨⟩
theorem tw893943227083078280:True:=⟨⟩
theorem tw4695586162112563268:True:=⟨⟩
theorem tw18214818535759265818:True:=⟨⟩
theorem tw14386065223097165230:True:=⟨⟩
theorem tw3963541275086067232:True:=⟨⟩
theorem tw5576656549088752354:True:=⟨⟩
theorem tw14523637823582647982:True:=⟨⟩
theorem tw8100572212798495021:True:=⟨⟩
theorem tw18043977799486358629:True:=⟨⟩
theorem tw6518691906592432015:True:=⟨⟩
theorem tw8416202227608931664:True:=⟨⟩
theorem tw8767336818664754534:True:=⟨⟩
theorem tw14980987248480819811:True:=⟨⟩
theorem tw13985561563345361822:True:=⟨⟩
theorem tw2926374984073504945:True:=⟨⟩
theorem tw3767924934169354356:True:=⟨⟩
theorem tw673906821035314024:True:=⟨⟩
theorem tw7207601492450742503:True:=⟨⟩
theorem tw98761929040485258:True:=⟨⟩
theorem tw6094346021073528584:True:=⟨⟩
theorem tw1091314924307649377:True:=⟨⟩
theorem tw3296852669705570094:True:=⟨⟩
theorem tw1776749904816984151:True:=⟨⟩
theorem tw4667542506653771022:True:=⟨⟩
theorem tw5194253040115803251:True:=⟨⟩
theorem tw6929888537043547294:True:=⟨⟩
theorem tw399873301260285551:True:=⟨⟩
theorem tw5675220466593865569:True:=⟨⟩
theorem tw10606733444931877618:True:=⟨⟩
theorem tw15304253595885818755:True:=⟨⟩
theorem tw7479348005156214745:True:=⟨⟩
theorem tw1717808780350347559:True:=⟨⟩
end PySem.W.Fast
namespace PW
open PySem L2
theorem len1 {β : Type} {l : List β} (h : l.length = 1) : ∃ a, l = [a] := by
 cases l with | nil => cases h | cons a l => cases l with | nil => exact ⟨a, rfl⟩ | cons z l => simp at h
theorem len2 {β : Type} {l : List β} (h : l.length = 2) : ∃ a b, l = [a, b] := by
 cases l with | nil => cases h | cons a l => cases l with | nil => cases h | cons b l => cases l with | nil => exact ⟨a, b, rfl⟩ | cons z l => simp at h
theorem len3 {β : Type} {l : List β} (h : l.length = 3) : ∃ a b c, l = [a, b, c] := by
 cases l with | nil => cases h | cons a l => cases l with | nil => cases h | cons b l => cases l with | nil => cases h | cons c l => cases l with | nil => exact ⟨a, b, c, rfl⟩ | cons z l => simp at h
theorem len4 {β : Type} {l : List β} (h : l.length = 4) : ∃ a b c d, l = [a, b, c, d] := by
 cases l with | nil => cases h | cons a l => cases l with | nil => cases h | cons b l => cases l with | nil => cases h | cons c l => cases l with | nil => cases h | cons d l => cases l with | nil => exact ⟨a, b, c, d, rfl⟩ | cons z l => simp at h
theorem all_mk {l : PySem.W.OpenLaw} {w : World} {K : PySem.W.Frag} {h : Heap} {mg : Str → Option Value} {fa : Addr} (X : K.In h) (G : h.Ns mainGlobals mg) (hfa : mg "law" = some (.ref fa))
 {C : Addr}
 {c_WallError : Addr}
 {c_Full : Addr}
 {c_NoNote : Addr}
 {c_NoThread : Addr}
 {c_Busy : Addr}
 {c_NoRound : Addr}
 {c_NoView : Addr}
 {a_real : Addr} {od_real an_real : Option Addr} {sl_real : Array (Option Value)} {oc_real kV_real dc_real pm_real cd_real ct_real : Value}
 {a_done : Addr} {od_done an_done : Option Addr} {sl_done : Array (Option Value)} {oc_done kV_done dc_done pm_done cd_done ct_done : Value}
 {a_answer_to : Addr} {od_answer_to an_answer_to : Option Addr} {sl_answer_to : Array (Option Value)} {oc_answer_to kV_answer_to dc_answer_to pm_answer_to cd_answer_to ct_answer_to : Value}
 {a_so : Addr} {od_so an_so : Option Addr} {sl_so : Array (Option Value)} {oc_so kV_so dc_so pm_so cd_so ct_so : Value}
 {a_at : Addr} {od_at an_at : Option Addr} {sl_at : Array (Option Value)} {oc_at kV_at dc_at pm_at cd_at ct_at : Value}
 {a_deed_of : Addr} {od_deed_of an_deed_of : Option Addr} {sl_deed_of : Array (Option Value)} {oc_deed_of kV_deed_of dc_deed_of pm_deed_of cd_deed_of ct_deed_of : Value}
 {a_drawn : Addr} {od_drawn an_drawn : Option Addr} {sl_drawn : Array (Option Value)} {oc_drawn kV_drawn dc_drawn pm_drawn cd_drawn ct_drawn : Value}
 {a_model : Addr} {od_model an_model : Option Addr} {sl_model : Array (Option Value)} {oc_model kV_model dc_model pm_model cd_model ct_model : Value}
 {a_tried : Addr} {od_tried an_tried : Option Addr} {sl_tried : Array (Option Value)} {oc_tried kV_tried dc_tried pm_tried cd_tried ct_tried : Value}
 {a_refusal : Addr} {od_refusal an_refusal : Option Addr} {sl_refusal : Array (Option Value)} {oc_refusal kV_refusal dc_refusal pm_refusal cd_refusal ct_refusal : Value}
 {a_under_base : Addr} {od_under_base an_under_base : Option Addr} {sl_under_base : Array (Option Value)} {oc_under_base kV_under_base dc_under_base pm_under_base cd_under_base ct_under_base : Value}
 {a_still : Addr} {od_still an_still : Option Addr} {sl_still : Array (Option Value)} {oc_still kV_still dc_still pm_still cd_still ct_still : Value}
 {a_law : Addr} {od_law an_law : Option Addr} {sl_law : Array (Option Value)} {oc_law kV_law dc_law pm_law cd_law ct_law : Value}
 {a_init : Addr} {od_init an_init : Option Addr} {sl_init : Array (Option Value)} {oc_init kV_init dc_init pm_init cd_init ct_init : Value}
 {a_put : Addr} {od_put an_put : Option Addr} {sl_put : Array (Option Value)} {oc_put kV_put dc_put pm_put cd_put ct_put : Value}
 {a_tie : Addr} {od_tie an_tie : Option Addr} {sl_tie : Array (Option Value)} {oc_tie kV_tie dc_tie pm_tie cd_tie ct_tie : Value}
 {a_drop : Addr} {od_drop an_drop : Option Addr} {sl_drop : Array (Option Value)} {oc_drop kV_drop dc_drop pm_drop cd_drop ct_drop : Value}
 {a_follow : Addr} {od_follow an_follow : Option Addr} {sl_follow : Array (Option Value)} {oc_follow kV_follow dc_follow pm_follow cd_follow ct_follow : Value}
 {a_word_of : Addr} {od_word_of an_word_of : Option Addr} {sl_word_of : Array (Option Value)} {oc_word_of kV_word_of dc_word_of pm_word_of cd_word_of ct_word_of : Value}
 {a_begin : Addr} {od_begin an_begin : Option Addr} {sl_begin : Array (Option Value)} {oc_begin kV_begin dc_begin pm_begin cd_begin ct_begin : Value}
 {a_step : Addr} {od_step an_step : Option Addr} {sl_step : Array (Option Value)} {oc_step kV_step dc_step pm_step cd_step ct_step : Value}
 {a_tidy : Addr} {od_tidy an_tidy : Option Addr} {sl_tidy : Array (Option Value)} {oc_tidy kV_tidy dc_tidy pm_tidy cd_tidy ct_tidy : Value}
 {a_note_of : Addr} {od_note_of an_note_of : Option Addr} {sl_note_of : Array (Option Value)} {oc_note_of kV_note_of dc_note_of pm_note_of cd_note_of ct_note_of : Value}
 {a_thread_of : Addr} {od_thread_of an_thread_of : Option Addr} {sl_thread_of : Array (Option Value)} {oc_thread_of kV_thread_of dc_thread_of pm_thread_of cd_thread_of ct_thread_of : Value}
 {a_lead : Addr} {od_lead an_lead : Option Addr} {sl_lead : Array (Option Value)} {oc_lead kV_lead dc_lead pm_lead cd_lead ct_lead : Value}
 {a_hang : Addr} {od_hang an_hang : Option Addr} {sl_hang : Array (Option Value)} {oc_hang kV_hang dc_hang pm_hang cd_hang ct_hang : Value}
 {a_far_low : Addr} {od_far_low an_far_low : Option Addr} {sl_far_low : Array (Option Value)} {oc_far_low kV_far_low dc_far_low pm_far_low cd_far_low ct_far_low : Value}
 {a_is_far : Addr} {od_is_far an_is_far : Option Addr} {sl_is_far : Array (Option Value)} {oc_is_far kV_is_far dc_is_far pm_is_far cd_is_far ct_is_far : Value}
 {a_kept_back : Addr} {od_kept_back an_kept_back : Option Addr} {sl_kept_back : Array (Option Value)} {oc_kept_back kV_kept_back dc_kept_back pm_kept_back cd_kept_back ct_kept_back : Value}
 {a_moved_over : Addr} {od_moved_over an_moved_over : Option Addr} {sl_moved_over : Array (Option Value)} {oc_moved_over kV_moved_over dc_moved_over pm_moved_over cd_moved_over ct_moved_over : Value}
 {a_look_through : Addr} {od_look_through an_look_through : Option Addr} {sl_look_through : Array (Option Value)} {oc_look_through kV_look_through dc_look_through pm_look_through cd_look_through ct_look_through : Value}
 {a_clear_far : Addr} {od_clear_far an_clear_far : Option Addr} {sl_clear_far : Array (Option Value)} {oc_clear_far kV_clear_far dc_clear_far pm_clear_far cd_clear_far ct_clear_far : Value}
 (aC : PySem.W.nsIn K mainGlobals "Wall" = some (some (.ref C)))
 (a_WallErrorx : PySem.W.nsIn K mainGlobals "WallError" = some (some (.ref c_WallError)))
 (a_Fullx : PySem.W.nsIn K mainGlobals "Full" = some (some (.ref c_Full)))
 (a_NoNotex : PySem.W.nsIn K mainGlobals "NoNote" = some (some (.ref c_NoNote)))
 (a_NoThreadx : PySem.W.nsIn K mainGlobals "NoThread" = some (some (.ref c_NoThread)))
 (a_Busyx : PySem.W.nsIn K mainGlobals "Busy" = some (some (.ref c_Busy)))
 (a_NoRoundx : PySem.W.nsIn K mainGlobals "NoRound" = some (some (.ref c_NoRound)))
 (a_NoViewx : PySem.W.nsIn K mainGlobals "NoView" = some (some (.ref c_NoView)))
 (p_real : PySem.W.nsIn K mainGlobals "real" = some (some (.ref a_real)))
 (l_real : K.lookup a_real = some ⟨oc_real, od_real, .func (PySem.W.fnOf "real" "real" (defArgs s_real) (defBody s_real) (defScope s_real) .none kV_real dc_real pm_real an_real cd_real ct_real), sl_real⟩)
 (o_real : PySem.W.codeIn K cd_real "real" = true)
 (k_real : PySem.W.keepIn K (.ref a_real) = true)
 (p_done : PySem.W.nsIn K mainGlobals "done" = some (some (.ref a_done)))
 (l_done : K.lookup a_done = some ⟨oc_done, od_done, .func (PySem.W.fnOf "done" "done" (defArgs s_done) (defBody s_done) (defScope s_done) .none kV_done dc_done pm_done an_done cd_done ct_done), sl_done⟩)
 (o_done : PySem.W.codeIn K cd_done "done" = true)
 (k_done : PySem.W.keepIn K (.ref a_done) = true)
 (p_answer_to : PySem.W.nsIn K mainGlobals "answer_to" = some (some (.ref a_answer_to)))
 (l_answer_to : K.lookup a_answer_to = some ⟨oc_answer_to, od_answer_to, .func (PySem.W.fnOf "answer_to" "answer_to" (defArgs s_answer_to) (defBody s_answer_to) (defScope s_answer_to) .none kV_answer_to dc_answer_to pm_answer_to an_answer_to cd_answer_to ct_answer_to), sl_answer_to⟩)
 (o_answer_to : PySem.W.codeIn K cd_answer_to "answer_to" = true)
 (k_answer_to : PySem.W.keepIn K (.ref a_answer_to) = true)
 (p_so : PySem.W.nsIn K mainGlobals "_law_so" = some (some (.ref a_so)))
 (l_so : K.lookup a_so = some ⟨oc_so, od_so, .func (PySem.W.fnOf "_law_so" "_law_so" (defArgs s_so) (defBody s_so) (defScope s_so) .none kV_so dc_so pm_so an_so cd_so ct_so), sl_so⟩)
 (o_so : PySem.W.codeIn K cd_so "_law_so" = true)
 (k_so : PySem.W.keepIn K (.ref a_so) = true)
 (p_at : PySem.W.nsIn K mainGlobals "_law_at" = some (some (.ref a_at)))
 (l_at : K.lookup a_at = some ⟨oc_at, od_at, .func (PySem.W.fnOf "_law_at" "_law_at" (defArgs s_at) (defBody s_at) (defScope s_at) .none kV_at dc_at pm_at an_at cd_at ct_at), sl_at⟩)
 (o_at : PySem.W.codeIn K cd_at "_law_at" = true)
 (k_at : PySem.W.keepIn K (.ref a_at) = true)
 (p_deed_of : PySem.W.nsIn K mainGlobals "_law_deed_of" = some (some (.ref a_deed_of)))
 (l_deed_of : K.lookup a_deed_of = some ⟨oc_deed_of, od_deed_of, .func (PySem.W.fnOf "_law_deed_of" "_law_deed_of" (defArgs s_deed_of) (defBody s_deed_of) (defScope s_deed_of) .none kV_deed_of dc_deed_of pm_deed_of an_deed_of cd_deed_of ct_deed_of), sl_deed_of⟩)
 (o_deed_of : PySem.W.codeIn K cd_deed_of "_law_deed_of" = true)
 (k_deed_of : PySem.W.keepIn K (.ref a_deed_of) = true)
 (p_drawn : PySem.W.nsIn K mainGlobals "_law_drawn" = some (some (.ref a_drawn)))
 (l_drawn : K.lookup a_drawn = some ⟨oc_drawn, od_drawn, .func (PySem.W.fnOf "_law_drawn" "_law_drawn" (defArgs s_drawn) (defBody s_drawn) (defScope s_drawn) .none kV_drawn dc_drawn pm_drawn an_drawn cd_drawn ct_drawn), sl_drawn⟩)
 (o_drawn : PySem.W.codeIn K cd_drawn "_law_drawn" = true)
 (k_drawn : PySem.W.keepIn K (.ref a_drawn) = true)
 (p_model : PySem.W.nsIn K mainGlobals "_law_model" = some (some (.ref a_model)))
 (l_model : K.lookup a_model = some ⟨oc_model, od_model, .func (PySem.W.fnOf "_law_model" "_law_model" (defArgs s_model) (defBody s_model) (defScope s_model) .none kV_model dc_model pm_model an_model cd_model ct_model), sl_model⟩)
 (o_model : PySem.W.codeIn K cd_model "_law_model" = true)
 (k_model : PySem.W.keepIn K (.ref a_model) = true)
 (p_tried : PySem.W.nsIn K mainGlobals "_law_tried" = some (some (.ref a_tried)))
 (l_tried : K.lookup a_tried = some ⟨oc_tried, od_tried, .func (PySem.W.fnOf "_law_tried" "_law_tried" (defArgs s_tried) (defBody s_tried) (defScope s_tried) .none kV_tried dc_tried pm_tried an_tried cd_tried ct_tried), sl_tried⟩)
 (o_tried : PySem.W.codeIn K cd_tried "_law_tried" = true)
 (k_tried : PySem.W.keepIn K (.ref a_tried) = true)
 (p_refusal : PySem.W.nsIn K mainGlobals "_law_refusal" = some (some (.ref a_refusal)))
 (l_refusal : K.lookup a_refusal = some ⟨oc_refusal, od_refusal, .func (PySem.W.fnOf "_law_refusal" "_law_refusal" (defArgs s_refusal) (defBody s_refusal) (defScope s_refusal) .none kV_refusal dc_refusal pm_refusal an_refusal cd_refusal ct_refusal), sl_refusal⟩)
 (o_refusal : PySem.W.codeIn K cd_refusal "_law_refusal" = true)
 (k_refusal : PySem.W.keepIn K (.ref a_refusal) = true)
 (p_under_base : PySem.W.nsIn K mainGlobals "_law_under_base" = some (some (.ref a_under_base)))
 (l_under_base : K.lookup a_under_base = some ⟨oc_under_base, od_under_base, .func (PySem.W.fnOf "_law_under_base" "_law_under_base" (defArgs s_under_base) (defBody s_under_base) (defScope s_under_base) .none kV_under_base dc_under_base pm_under_base an_under_base cd_under_base ct_under_base), sl_under_base⟩)
 (o_under_base : PySem.W.codeIn K cd_under_base "_law_under_base" = true)
 (k_under_base : PySem.W.keepIn K (.ref a_under_base) = true)
 (p_still : PySem.W.nsIn K mainGlobals "_law_still" = some (some (.ref a_still)))
 (l_still : K.lookup a_still = some ⟨oc_still, od_still, .func (PySem.W.fnOf "_law_still" "_law_still" (defArgs s_still) (defBody s_still) (defScope s_still) .none kV_still dc_still pm_still an_still cd_still ct_still), sl_still⟩)
 (o_still : PySem.W.codeIn K cd_still "_law_still" = true)
 (k_still : PySem.W.keepIn K (.ref a_still) = true)
 (p_law : PySem.W.nsIn K mainGlobals "law" = some (some (.ref a_law)))
 (l_law : K.lookup a_law = some ⟨oc_law, od_law, .func (PySem.W.fnOf "law" "law" (defArgs s_law) (defBody s_law) (defScope s_law) .none kV_law dc_law pm_law an_law cd_law ct_law), sl_law⟩)
 (o_law : PySem.W.codeIn K cd_law "law" = true)
 (k_law : PySem.W.keepIn K (.ref a_law) = true)
 (p_init : PySem.W.findIn K (.ref C) "__init__" = some (some (.ref a_init)))
 (i_init : PySem.W.isFn K (.ref a_init) = true)
 (l_init : K.lookup a_init = some ⟨oc_init, od_init, .func (PySem.W.fnOf "__init__" "Wall.__init__" (defArgs s_init) (defBody s_init) (defScope s_init) .none kV_init dc_init pm_init an_init cd_init ct_init), sl_init⟩)
 (o_init : PySem.W.codeIn K cd_init "Wall.__init__" = true)
 (k_init : PySem.W.keepIn K (.ref a_init) = true)
 (p_put : PySem.W.findIn K (.ref C) "put" = some (some (.ref a_put)))
 (i_put : PySem.W.isFn K (.ref a_put) = true)
 (l_put : K.lookup a_put = some ⟨oc_put, od_put, .func (PySem.W.fnOf "put" "Wall.put" (defArgs s_put) (defBody s_put) (defScope s_put) .none kV_put dc_put pm_put an_put cd_put ct_put), sl_put⟩)
 (o_put : PySem.W.codeIn K cd_put "Wall.put" = true)
 (k_put : PySem.W.keepIn K (.ref a_put) = true)
 (p_tie : PySem.W.findIn K (.ref C) "tie" = some (some (.ref a_tie)))
 (i_tie : PySem.W.isFn K (.ref a_tie) = true)
 (l_tie : K.lookup a_tie = some ⟨oc_tie, od_tie, .func (PySem.W.fnOf "tie" "Wall.tie" (defArgs s_tie) (defBody s_tie) (defScope s_tie) .none kV_tie dc_tie pm_tie an_tie cd_tie ct_tie), sl_tie⟩)
 (o_tie : PySem.W.codeIn K cd_tie "Wall.tie" = true)
 (k_tie : PySem.W.keepIn K (.ref a_tie) = true)
 (p_drop : PySem.W.findIn K (.ref C) "drop" = some (some (.ref a_drop)))
 (i_drop : PySem.W.isFn K (.ref a_drop) = true)
 (l_drop : K.lookup a_drop = some ⟨oc_drop, od_drop, .func (PySem.W.fnOf "drop" "Wall.drop" (defArgs s_drop) (defBody s_drop) (defScope s_drop) .none kV_drop dc_drop pm_drop an_drop cd_drop ct_drop), sl_drop⟩)
 (o_drop : PySem.W.codeIn K cd_drop "Wall.drop" = true)
 (k_drop : PySem.W.keepIn K (.ref a_drop) = true)
 (p_follow : PySem.W.findIn K (.ref C) "follow" = some (some (.ref a_follow)))
 (i_follow : PySem.W.isFn K (.ref a_follow) = true)
 (l_follow : K.lookup a_follow = some ⟨oc_follow, od_follow, .func (PySem.W.fnOf "follow" "Wall.follow" (defArgs s_follow) (defBody s_follow) (defScope s_follow) .none kV_follow dc_follow pm_follow an_follow cd_follow ct_follow), sl_follow⟩)
 (o_follow : PySem.W.codeIn K cd_follow "Wall.follow" = true)
 (k_follow : PySem.W.keepIn K (.ref a_follow) = true)
 (p_word_of : PySem.W.findIn K (.ref C) "word_of" = some (some (.ref a_word_of)))
 (i_word_of : PySem.W.isFn K (.ref a_word_of) = true)
 (l_word_of : K.lookup a_word_of = some ⟨oc_word_of, od_word_of, .func (PySem.W.fnOf "word_of" "Wall.word_of" (defArgs s_word_of) (defBody s_word_of) (defScope s_word_of) .none kV_word_of dc_word_of pm_word_of an_word_of cd_word_of ct_word_of), sl_word_of⟩)
 (o_word_of : PySem.W.codeIn K cd_word_of "Wall.word_of" = true)
 (k_word_of : PySem.W.keepIn K (.ref a_word_of) = true)
 (p_begin : PySem.W.findIn K (.ref C) "begin" = some (some (.ref a_begin)))
 (i_begin : PySem.W.isFn K (.ref a_begin) = true)
 (l_begin : K.lookup a_begin = some ⟨oc_begin, od_begin, .func (PySem.W.fnOf "begin" "Wall.begin" (defArgs s_begin) (defBody s_begin) (defScope s_begin) .none kV_begin dc_begin pm_begin an_begin cd_begin ct_begin), sl_begin⟩)
 (o_begin : PySem.W.codeIn K cd_begin "Wall.begin" = true)
 (k_begin : PySem.W.keepIn K (.ref a_begin) = true)
 (p_step : PySem.W.findIn K (.ref C) "step" = some (some (.ref a_step)))
 (i_step : PySem.W.isFn K (.ref a_step) = true)
 (l_step : K.lookup a_step = some ⟨oc_step, od_step, .func (PySem.W.fnOf "step" "Wall.step" (defArgs s_step) (defBody s_step) (defScope s_step) .none kV_step dc_step pm_step an_step cd_step ct_step), sl_step⟩)
 (o_step : PySem.W.codeIn K cd_step "Wall.step" = true)
 (k_step : PySem.W.keepIn K (.ref a_step) = true)
 (p_tidy : PySem.W.findIn K (.ref C) "tidy" = some (some (.ref a_tidy)))
 (i_tidy : PySem.W.isFn K (.ref a_tidy) = true)
 (l_tidy : K.lookup a_tidy = some ⟨oc_tidy, od_tidy, .func (PySem.W.fnOf "tidy" "Wall.tidy" (defArgs s_tidy) (defBody s_tidy) (defScope s_tidy) .none kV_tidy dc_tidy pm_tidy an_tidy cd_tidy ct_tidy), sl_tidy⟩)
 (o_tidy : PySem.W.codeIn K cd_tidy "Wall.tidy" = true)
 (k_tidy : PySem.W.keepIn K (.ref a_tidy) = true)
 (p_note_of : PySem.W.findIn K (.ref C) "note_of" = some (some (.ref a_note_of)))
 (i_note_of : PySem.W.isFn K (.ref a_note_of) = true)
 (l_note_of : K.lookup a_note_of = some ⟨oc_note_of, od_note_of, .func (PySem.W.fnOf "note_of" "Wall.note_of" (defArgs s_note_of) (defBody s_note_of) (defScope s_note_of) .none kV_note_of dc_note_of pm_note_of an_note_of cd_note_of ct_note_of), sl_note_of⟩)
 (o_note_of : PySem.W.codeIn K cd_note_of "Wall.note_of" = true)
 (k_note_of : PySem.W.keepIn K (.ref a_note_of) = true)
 (p_thread_of : PySem.W.findIn K (.ref C) "thread_of" = some (some (.ref a_thread_of)))
 (i_thread_of : PySem.W.isFn K (.ref a_thread_of) = true)
 (l_thread_of : K.lookup a_thread_of = some ⟨oc_thread_of, od_thread_of, .func (PySem.W.fnOf "thread_of" "Wall.thread_of" (defArgs s_thread_of) (defBody s_thread_of) (defScope s_thread_of) .none kV_thread_of dc_thread_of pm_thread_of an_thread_of cd_thread_of ct_thread_of), sl_thread_of⟩)
 (o_thread_of : PySem.W.codeIn K cd_thread_of "Wall.thread_of" = true)
 (k_thread_of : PySem.W.keepIn K (.ref a_thread_of) = true)
 (p_lead : PySem.W.findIn K (.ref C) "lead" = some (some (.ref a_lead)))
 (i_lead : PySem.W.isFn K (.ref a_lead) = true)
 (l_lead : K.lookup a_lead = some ⟨oc_lead, od_lead, .func (PySem.W.fnOf "lead" "Wall.lead" (defArgs s_lead) (defBody s_lead) (defScope s_lead) .none kV_lead dc_lead pm_lead an_lead cd_lead ct_lead), sl_lead⟩)
 (o_lead : PySem.W.codeIn K cd_lead "Wall.lead" = true)
 (k_lead : PySem.W.keepIn K (.ref a_lead) = true)
 (p_hang : PySem.W.findIn K (.ref C) "hang" = some (some (.ref a_hang)))
 (i_hang : PySem.W.isFn K (.ref a_hang) = true)
 (l_hang : K.lookup a_hang = some ⟨oc_hang, od_hang, .func (PySem.W.fnOf "hang" "Wall.hang" (defArgs s_hang) (defBody s_hang) (defScope s_hang) .none kV_hang dc_hang pm_hang an_hang cd_hang ct_hang), sl_hang⟩)
 (o_hang : PySem.W.codeIn K cd_hang "Wall.hang" = true)
 (k_hang : PySem.W.keepIn K (.ref a_hang) = true)
 (p_far_low : PySem.W.findIn K (.ref C) "far_low" = some (some (.ref a_far_low)))
 (i_far_low : PySem.W.isFn K (.ref a_far_low) = true)
 (l_far_low : K.lookup a_far_low = some ⟨oc_far_low, od_far_low, .func (PySem.W.fnOf "far_low" "Wall.far_low" (defArgs s_far_low) (defBody s_far_low) (defScope s_far_low) .none kV_far_low dc_far_low pm_far_low an_far_low cd_far_low ct_far_low), sl_far_low⟩)
 (o_far_low : PySem.W.codeIn K cd_far_low "Wall.far_low" = true)
 (k_far_low : PySem.W.keepIn K (.ref a_far_low) = true)
 (p_is_far : PySem.W.findIn K (.ref C) "is_far" = some (some (.ref a_is_far)))
 (i_is_far : PySem.W.isFn K (.ref a_is_far) = true)
 (l_is_far : K.lookup a_is_far = some ⟨oc_is_far, od_is_far, .func (PySem.W.fnOf "is_far" "Wall.is_far" (defArgs s_is_far) (defBody s_is_far) (defScope s_is_far) .none kV_is_far dc_is_far pm_is_far an_is_far cd_is_far ct_is_far), sl_is_far⟩)
 (o_is_far : PySem.W.codeIn K cd_is_far "Wall.is_far" = true)
 (k_is_far : PySem.W.keepIn K (.ref a_is_far) = true)
 (p_kept_back : PySem.W.findIn K (.ref C) "kept_back" = some (some (.ref a_kept_back)))
 (i_kept_back : PySem.W.isFn K (.ref a_kept_back) = true)
 (l_kept_back : K.lookup a_kept_back = some ⟨oc_kept_back, od_kept_back, .func (PySem.W.fnOf "kept_back" "Wall.kept_back" (defArgs s_kept_back) (defBody s_kept_back) (defScope s_kept_back) .none kV_kept_back dc_kept_back pm_kept_back an_kept_back cd_kept_back ct_kept_back), sl_kept_back⟩)
 (o_kept_back : PySem.W.codeIn K cd_kept_back "Wall.kept_back" = true)
 (k_kept_back : PySem.W.keepIn K (.ref a_kept_back) = true)
 (p_moved_over : PySem.W.findIn K (.ref C) "moved_over" = some (some (.ref a_moved_over)))
 (i_moved_over : PySem.W.isFn K (.ref a_moved_over) = true)
 (l_moved_over : K.lookup a_moved_over = some ⟨oc_moved_over, od_moved_over, .func (PySem.W.fnOf "moved_over" "Wall.moved_over" (defArgs s_moved_over) (defBody s_moved_over) (defScope s_moved_over) .none kV_moved_over dc_moved_over pm_moved_over an_moved_over cd_moved_over ct_moved_over), sl_moved_over⟩)
 (o_moved_over : PySem.W.codeIn K cd_moved_over "Wall.moved_over" = true)
 (k_moved_over : PySem.W.keepIn K (.ref a_moved_over) = true)
 (p_look_through : PySem.W.findIn K (.ref C) "look_through" = some (some (.ref a_look_through)))
 (i_look_through : PySem.W.isFn K (.ref a_look_through) = true)
 (l_look_through : K.lookup a_look_through = some ⟨oc_look_through, od_look_through, .func (PySem.W.fnOf "look_through" "Wall.look_through" (defArgs s_look_through) (defBody s_look_through) (defScope s_look_through) .none kV_look_through dc_look_through pm_look_through an_look_through cd_look_through ct_look_through), sl_look_through⟩)
 (o_look_through : PySem.W.codeIn K cd_look_through "Wall.look_through" = true)
 (k_look_through : PySem.W.keepIn K (.ref a_look_through) = true)
 (p_clear_far : PySem.W.findIn K (.ref C) "clear_far" = some (some (.ref a_clear_far)))
 (i_clear_far : PySem.W.isFn K (.ref a_clear_far) = true)
 (l_clear_far : K.lookup a_clear_far = some ⟨oc_clear_far, od_clear_far, .func (PySem.W.fnOf "clear_far" "Wall.clear_far" (defArgs s_clear_far) (defBody s_clear_far) (defScope s_clear_far) .none kV_clear_far dc_clear_far pm_clear_far an_clear_far cd_clear_far ct_clear_far), sl_clear_far⟩)
 (o_clear_far : PySem.W.codeIn K cd_clear_far "Wall.clear_far" = true)
 (k_clear_far : PySem.W.keepIn K (.ref a_clear_far) = true)
 (pg : PySem.W.plainGet K C Str.empty = true)
 (hd : PySem.W.hasDictIn K C = true)
 (po : PySem.W.plainOver K C = true)
 (sa : PySem.W.findIn K (.ref C) "__setattr__" = some (some (.builtin "object.__setattr__")))
 (mkC : PySem.W.makesIn K C = true)
 (kc : PySem.W.keepIn K (.ref C) = true)
 (n_size : PySem.W.findIn K (.ref C) "size" = some none)
 (n_pegs : PySem.W.findIn K (.ref C) "pegs" = some none)
 (n_hooks : PySem.W.findIn K (.ref C) "hooks" = some none)
 (n_low : PySem.W.findIn K (.ref C) "low" = some none)
 (n_free : PySem.W.findIn K (.ref C) "free" = some none)
 (n_moving : PySem.W.findIn K (.ref C) "moving" = some none)
 (n_looked : PySem.W.findIn K (.ref C) "looked" = some none)
 (x_WallError : PySem.W.excIn K c_WallError bmV "ValueError.__new__" = true)
 (x_Full : PySem.W.excIn K c_Full bmV "ValueError.__new__" = true)
 (e_Full : PySem.W.exmOne K (.ref c_Full) (.ref c_WallError) = some true)
 (x_NoNote : PySem.W.excIn K c_NoNote bmV "ValueError.__new__" = true)
 (e_NoNote : PySem.W.exmOne K (.ref c_NoNote) (.ref c_WallError) = some true)
 (x_NoThread : PySem.W.excIn K c_NoThread bmV "ValueError.__new__" = true)
 (e_NoThread : PySem.W.exmOne K (.ref c_NoThread) (.ref c_WallError) = some true)
 (x_Busy : PySem.W.excIn K c_Busy bmV "ValueError.__new__" = true)
 (e_Busy : PySem.W.exmOne K (.ref c_Busy) (.ref c_WallError) = some true)
 (x_NoRound : PySem.W.excIn K c_NoRound bmV "ValueError.__new__" = true)
 (e_NoRound : PySem.W.exmOne K (.ref c_NoRound) (.ref c_WallError) = some true)
 (x_NoView : PySem.W.excIn K c_NoView bmV "ValueError.__new__" = true)
 (e_NoView : PySem.W.exmOne K (.ref c_NoView) (.ref c_WallError) = some true)
 (e_q_NoNote_NoNote : PySem.W.exmOne K (.ref c_NoNote) (.ref c_NoNote) = some true)
 (e_q_NoNote_NoThread : PySem.W.exmOne K (.ref c_NoNote) (.ref c_NoThread) = some false)
 (e_q_NoNote_Full : PySem.W.exmOne K (.ref c_NoNote) (.ref c_Full) = some false)
 (e_q_NoNote_Busy : PySem.W.exmOne K (.ref c_NoNote) (.ref c_Busy) = some false)
 (e_q_NoNote_NoRound : PySem.W.exmOne K (.ref c_NoNote) (.ref c_NoRound) = some false)
 (e_q_NoNote_NoView : PySem.W.exmOne K (.ref c_NoNote) (.ref c_NoView) = some false)
 (e_q_NoNote_ValueError : PySem.W.exmOne K (.ref c_NoNote) (.type "ValueError") = some true)
 (e_q_NoThread_NoNote : PySem.W.exmOne K (.ref c_NoThread) (.ref c_NoNote) = some false)
 (e_q_NoThread_NoThread : PySem.W.exmOne K (.ref c_NoThread) (.ref c_NoThread) = some true)
 (e_q_NoThread_Full : PySem.W.exmOne K (.ref c_NoThread) (.ref c_Full) = some false)
 (e_q_NoThread_Busy : PySem.W.exmOne K (.ref c_NoThread) (.ref c_Busy) = some false)
 (e_q_NoThread_NoRound : PySem.W.exmOne K (.ref c_NoThread) (.ref c_NoRound) = some false)
 (e_q_NoThread_NoView : PySem.W.exmOne K (.ref c_NoThread) (.ref c_NoView) = some false)
 (e_q_NoThread_ValueError : PySem.W.exmOne K (.ref c_NoThread) (.type "ValueError") = some true)
 (e_q_Full_NoNote : PySem.W.exmOne K (.ref c_Full) (.ref c_NoNote) = some false)
 (e_q_Full_NoThread : PySem.W.exmOne K (.ref c_Full) (.ref c_NoThread) = some false)
 (e_q_Full_Full : PySem.W.exmOne K (.ref c_Full) (.ref c_Full) = some true)
 (e_q_Full_Busy : PySem.W.exmOne K (.ref c_Full) (.ref c_Busy) = some false)
 (e_q_Full_NoRound : PySem.W.exmOne K (.ref c_Full) (.ref c_NoRound) = some false)
 (e_q_Full_NoView : PySem.W.exmOne K (.ref c_Full) (.ref c_NoView) = some false)
 (e_q_Full_ValueError : PySem.W.exmOne K (.ref c_Full) (.type "ValueError") = some true)
 (e_q_Busy_NoNote : PySem.W.exmOne K (.ref c_Busy) (.ref c_NoNote) = some false)
 (e_q_Busy_NoThread : PySem.W.exmOne K (.ref c_Busy) (.ref c_NoThread) = some false)
 (e_q_Busy_Full : PySem.W.exmOne K (.ref c_Busy) (.ref c_Full) = some false)
 (e_q_Busy_Busy : PySem.W.exmOne K (.ref c_Busy) (.ref c_Busy) = some true)
 (e_q_Busy_NoRound : PySem.W.exmOne K (.ref c_Busy) (.ref c_NoRound) = some false)
 (e_q_Busy_NoView : PySem.W.exmOne K (.ref c_Busy) (.ref c_NoView) = some false)
 (e_q_Busy_ValueError : PySem.W.exmOne K (.ref c_Busy) (.type "ValueError") = some true)
 (e_q_NoRound_NoNote : PySem.W.exmOne K (.ref c_NoRound) (.ref c_NoNote) = some false)
 (e_q_NoRound_NoThread : PySem.W.exmOne K (.ref c_NoRound) (.ref c_NoThread) = some false)
 (e_q_NoRound_Full : PySem.W.exmOne K (.ref c_NoRound) (.ref c_Full) = some false)
 (e_q_NoRound_Busy : PySem.W.exmOne K (.ref c_NoRound) (.ref c_Busy) = some false)
 (e_q_NoRound_NoRound : PySem.W.exmOne K (.ref c_NoRound) (.ref c_NoRound) = some true)
 (e_q_NoRound_NoView : PySem.W.exmOne K (.ref c_NoRound) (.ref c_NoView) = some false)
 (e_q_NoRound_ValueError : PySem.W.exmOne K (.ref c_NoRound) (.type "ValueError") = some true)
 (y_NoNote_ga : PySem.W.findIn K (.ref c_NoNote) "__getattribute__" = some (some (.builtin "BaseException.__getattribute__")))
 (y_NoNote_hk : PySem.W.findIn K (.ref c_NoNote) "__getattr__" = some none)
 (y_NoNote_ha : PySem.W.findIn K (.ref c_NoNote) "__class__" = some (some (.builtin "object.__class__")))
 (y_NoNote_hm : PySem.W.mroIn K c_NoNote (.type "object") = some true)
 (y_NoNote_hb : PySem.W.mroIn K c_NoNote (.type "BaseException") = some true)
 (y_NoThread_ga : PySem.W.findIn K (.ref c_NoThread) "__getattribute__" = some (some (.builtin "BaseException.__getattribute__")))
 (y_NoThread_hk : PySem.W.findIn K (.ref c_NoThread) "__getattr__" = some none)
 (y_NoThread_ha : PySem.W.findIn K (.ref c_NoThread) "__class__" = some (some (.builtin "object.__class__")))
 (y_NoThread_hm : PySem.W.mroIn K c_NoThread (.type "object") = some true)
 (y_NoThread_hb : PySem.W.mroIn K c_NoThread (.type "BaseException") = some true)
 (y_Full_ga : PySem.W.findIn K (.ref c_Full) "__getattribute__" = some (some (.builtin "BaseException.__getattribute__")))
 (y_Full_hk : PySem.W.findIn K (.ref c_Full) "__getattr__" = some none)
 (y_Full_ha : PySem.W.findIn K (.ref c_Full) "__class__" = some (some (.builtin "object.__class__")))
 (y_Full_hm : PySem.W.mroIn K c_Full (.type "object") = some true)
 (y_Full_hb : PySem.W.mroIn K c_Full (.type "BaseException") = some true)
 (y_Busy_ga : PySem.W.findIn K (.ref c_Busy) "__getattribute__" = some (some (.builtin "BaseException.__getattribute__")))
 (y_Busy_hk : PySem.W.findIn K (.ref c_Busy) "__getattr__" = some none)
 (y_Busy_ha : PySem.W.findIn K (.ref c_Busy) "__class__" = some (some (.builtin "object.__class__")))
 (y_Busy_hm : PySem.W.mroIn K c_Busy (.type "object") = some true)
 (y_Busy_hb : PySem.W.mroIn K c_Busy (.type "BaseException") = some true)
 (y_NoRound_ga : PySem.W.findIn K (.ref c_NoRound) "__getattribute__" = some (some (.builtin "BaseException.__getattribute__")))
 (y_NoRound_hk : PySem.W.findIn K (.ref c_NoRound) "__getattr__" = some none)
 (y_NoRound_ha : PySem.W.findIn K (.ref c_NoRound) "__class__" = some (some (.builtin "object.__class__")))
 (y_NoRound_hm : PySem.W.mroIn K c_NoRound (.type "object") = some true)
 (y_NoRound_hb : PySem.W.mroIn K c_NoRound (.type "BaseException") = some true)
 (y_cg1 : PySem.W.specialIn K (.builtin "object.__class__") "__get__" = some (some (.builtin "getset_descriptor.__get__")))
 (y_cg2 : PySem.W.takesIn K (.builtin "object.__class__") = some true)
 (z_ValueError : PySem.W.nsIn K mainGlobals "ValueError" = some none)
 (z_len : PySem.W.nsIn K mainGlobals "len" = some none)
 (z_isinstance : PySem.W.nsIn K mainGlobals "isinstance" = some none)
 (z_list : PySem.W.nsIn K mainGlobals "list" = some none)
 (z_tuple : PySem.W.nsIn K mainGlobals "tuple" = some none)
 (z_int : PySem.W.nsIn K mainGlobals "int" = some none)
 (z_bool : PySem.W.nsIn K mainGlobals "bool" = some none)
 (z_str : PySem.W.nsIn K mainGlobals "str" = some none)
 (z_dict : PySem.W.nsIn K mainGlobals "dict" = some none)
 (z_range : PySem.W.nsIn K mainGlobals "range" = some none)
 (z_sorted : PySem.W.nsIn K mainGlobals "sorted" = some none)
 : ∃ fd : FuncData, (∀ (s : Shared) (v : Value), BindsTo s fd ⟨[v], []⟩ [("_law_script", v)]) ∧ ∀ base : Heap, K.In base → base.Ns mainGlobals mg → FnOk l.prog w K mg base (CXe l.prog w) 14 fa fd ["_law_script"] (spLaw K) := by
 have e := hfa.symm.trans (PySem.W.mg_of X G p_law)
 cases e
 have F_real := fun_mk (st := s_real) l_real o_real k_real
 have B_real := F_real.binds (ps := ["pegs", "number"]) fun _ _ _ _ _ _ us hl => by obtain ⟨_, _, rfl⟩ := len2 hl; rfl
 have F_done := fun_mk (st := s_done) l_done o_done k_done
 have B_done := F_done.binds (ps := ["wall", "deed"]) fun _ _ _ _ _ _ us hl => by obtain ⟨_, _, rfl⟩ := len2 hl; rfl
 have F_answer_to := fun_mk (st := s_answer_to) l_answer_to o_answer_to k_answer_to
 have B_answer_to := F_answer_to.binds (ps := ["wall", "deed"]) fun _ _ _ _ _ _ us hl => by obtain ⟨_, _, rfl⟩ := len2 hl; rfl
 have F_so := fun_mk (st := s_so) l_so o_so k_so
 have B_so := F_so.binds (ps := ["_law_found", "_law_meant"]) fun _ _ _ _ _ _ us hl => by obtain ⟨_, _, rfl⟩ := len2 hl; rfl
 have F_at := fun_mk (st := s_at) l_at o_at k_at
 have B_at := F_at.binds (ps := ["_law_script", "_law_k"]) fun _ _ _ _ _ _ us hl => by obtain ⟨_, _, rfl⟩ := len2 hl; rfl
 have F_deed_of := fun_mk (st := s_deed_of) l_deed_of o_deed_of k_deed_of
 have B_deed_of := F_deed_of.binds (ps := ["_law_cell", "_law_k", "_law_count"]) fun _ _ _ _ _ _ us hl => by obtain ⟨_, _, _, rfl⟩ := len3 hl; rfl
 have F_drawn := fun_mk (st := s_drawn) l_drawn o_drawn k_drawn
 have B_drawn := F_drawn.binds (ps := ["_law_cells", "_law_count"]) fun _ _ _ _ _ _ us hl => by obtain ⟨_, _, rfl⟩ := len2 hl; rfl
 have F_model := fun_mk (st := s_model) l_model o_model k_model
 have B_model := F_model.binds (ps := ["_law_notes", "_law_heads", "_law_deed"]) fun _ _ _ _ _ _ us hl => by obtain ⟨_, _, _, rfl⟩ := len3 hl; rfl
 have F_tried := fun_mk (st := s_tried) l_tried o_tried k_tried
 have B_tried := F_tried.binds (ps := ["_law_shut", "_law_deed"]) fun _ _ _ _ _ _ us hl => by obtain ⟨_, _, rfl⟩ := len2 hl; rfl
 have F_refusal := fun_mk (st := s_refusal) l_refusal o_refusal k_refusal
 have B_refusal := F_refusal.binds (ps := ["_law_shut", "_law_deed"]) fun _ _ _ _ _ _ us hl => by obtain ⟨_, _, rfl⟩ := len2 hl; rfl
 have F_under_base := fun_mk (st := s_under_base) l_under_base o_under_base k_under_base
 have B_under_base := F_under_base.binds (ps := ["_law_shut", "_law_deed"]) fun _ _ _ _ _ _ us hl => by obtain ⟨_, _, rfl⟩ := len2 hl; rfl
 have F_still := fun_mk (st := s_still) l_still o_still k_still
 have B_still := F_still.binds (ps := ["_law_shut", "_law_deed", "_law_due"]) fun _ _ _ _ _ _ us hl => by obtain ⟨_, _, _, rfl⟩ := len3 hl; rfl
 have F_law := fun_mk (st := s_law) l_law o_law k_law
 have F_init := fun_mk (st := s_init) l_init o_init k_init
 have B_init := F_init.binds (ps := ["self", "size", "count"]) fun _ _ _ _ _ _ us hl => by obtain ⟨_, _, _, rfl⟩ := len3 hl; rfl
 have F_put := fun_mk (st := s_put) l_put o_put k_put
 have B_put := F_put.binds (ps := ["self", "hook", "word", "others"]) fun _ _ _ _ _ _ us hl => by obtain ⟨_, _, _, _, rfl⟩ := len4 hl; rfl
 have F_tie := fun_mk (st := s_tie) l_tie o_tie k_tie
 have B_tie := F_tie.binds (ps := ["self", "hook", "k", "other"]) fun _ _ _ _ _ _ us hl => by obtain ⟨_, _, _, _, rfl⟩ := len4 hl; rfl
 have F_drop := fun_mk (st := s_drop) l_drop o_drop k_drop
 have B_drop := F_drop.binds (ps := ["self", "hook"]) fun _ _ _ _ _ _ us hl => by obtain ⟨_, _, rfl⟩ := len2 hl; rfl
 have F_follow := fun_mk (st := s_follow) l_follow o_follow k_follow
 have B_follow := F_follow.binds (ps := ["self", "hook", "k", "other"]) fun _ _ _ _ _ _ us hl => by obtain ⟨_, _, _, _, rfl⟩ := len4 hl; rfl
 have F_word_of := fun_mk (st := s_word_of) l_word_of o_word_of k_word_of
 have B_word_of := F_word_of.binds (ps := ["self", "hook"]) fun _ _ _ _ _ _ us hl => by obtain ⟨_, _, rfl⟩ := len2 hl; rfl
 have F_begin := fun_mk (st := s_begin) l_begin o_begin k_begin
 have B_begin := F_begin.binds (ps := ["self"]) fun _ _ _ _ _ _ us hl => by obtain ⟨_, rfl⟩ := len1 hl; rfl
 have F_step := fun_mk (st := s_step) l_step o_step k_step
 have B_step := F_step.binds (ps := ["self"]) fun _ _ _ _ _ _ us hl => by obtain ⟨_, rfl⟩ := len1 hl; rfl
 have F_tidy := fun_mk (st := s_tidy) l_tidy o_tidy k_tidy
 have B_tidy := F_tidy.binds (ps := ["self"]) fun _ _ _ _ _ _ us hl => by obtain ⟨_, rfl⟩ := len1 hl; rfl
 have F_note_of := fun_mk (st := s_note_of) l_note_of o_note_of k_note_of
 have B_note_of := F_note_of.binds (ps := ["self", "hook"]) fun _ _ _ _ _ _ us hl => by obtain ⟨_, _, rfl⟩ := len2 hl; rfl
 have F_thread_of := fun_mk (st := s_thread_of) l_thread_of o_thread_of k_thread_of
 have B_thread_of := F_thread_of.binds (ps := ["self", "hook", "k"]) fun _ _ _ _ _ _ us hl => by obtain ⟨_, _, _, rfl⟩ := len3 hl; rfl
 have F_lead := fun_mk (st := s_lead) l_lead o_lead k_lead
 have B_lead := F_lead.binds (ps := ["self", "number", "k", "thread"]) fun _ _ _ _ _ _ us hl => by obtain ⟨_, _, _, _, rfl⟩ := len4 hl; rfl
 have F_hang := fun_mk (st := s_hang) l_hang o_hang k_hang
 have B_hang := F_hang.binds (ps := ["self", "note"]) fun _ _ _ _ _ _ us hl => by obtain ⟨_, _, rfl⟩ := len2 hl; rfl
 have F_far_low := fun_mk (st := s_far_low) l_far_low o_far_low k_far_low
 have B_far_low := F_far_low.binds (ps := ["self"]) fun _ _ _ _ _ _ us hl => by obtain ⟨_, rfl⟩ := len1 hl; rfl
 have F_is_far := fun_mk (st := s_is_far) l_is_far o_is_far k_is_far
 have B_is_far := F_is_far.binds (ps := ["self", "number"]) fun _ _ _ _ _ _ us hl => by obtain ⟨_, _, rfl⟩ := len2 hl; rfl
 have F_kept_back := fun_mk (st := s_kept_back) l_kept_back o_kept_back k_kept_back
 have B_kept_back := F_kept_back.binds (ps := ["self"]) fun _ _ _ _ _ _ us hl => by obtain ⟨_, rfl⟩ := len1 hl; rfl
 have F_moved_over := fun_mk (st := s_moved_over) l_moved_over o_moved_over k_moved_over
 have B_moved_over := F_moved_over.binds (ps := ["self", "thread"]) fun _ _ _ _ _ _ us hl => by obtain ⟨_, _, rfl⟩ := len2 hl; rfl
 have F_look_through := fun_mk (st := s_look_through) l_look_through o_look_through k_look_through
 have B_look_through := F_look_through.binds (ps := ["self", "number"]) fun _ _ _ _ _ _ us hl => by obtain ⟨_, _, rfl⟩ := len2 hl; rfl
 have F_clear_far := fun_mk (st := s_clear_far) l_clear_far o_clear_far k_clear_far
 have B_clear_far := F_clear_far.binds (ps := ["self"]) fun _ _ _ _ _ _ us hl => by obtain ⟨_, rfl⟩ := len1 hl; rfl
 have T : Txt K mg ⟨C, c_WallError, c_Full, c_NoNote, c_NoThread, c_Busy, c_NoRound, c_NoView, a_real, _, a_done, _, a_answer_to, _, a_so, _, a_at, _, a_deed_of, _, a_drawn, _, a_model, _, a_tried, _, a_refusal, _, a_under_base, _, a_still, _, a_init, _, a_put, _, a_tie, _, a_drop, _, a_follow, _, a_word_of, _, a_begin, _, a_step, _, a_tidy, _, a_note_of, _, a_thread_of, _, a_lead, _, a_hang, _, a_far_low, _, a_is_far, _, a_kept_back, _, a_moved_over, _, a_look_through, _, a_clear_far, _⟩ := ⟨⟨pg, hd, po, sa⟩, PySem.W.mg_of X G aC, ⟨mkC, p_init, i_init, kc⟩, n_size, n_pegs, n_hooks, n_low, n_free, n_moving, n_looked, PySem.W.mg_of X G a_WallErrorx, x_WallError, PySem.W.mg_of X G a_Fullx, x_Full, e_Full, PySem.W.mg_of X G a_NoNotex, x_NoNote, e_NoNote, PySem.W.mg_of X G a_NoThreadx, x_NoThread, e_NoThread, PySem.W.mg_of X G a_Busyx, x_Busy, e_Busy, PySem.W.mg_of X G a_NoRoundx, x_NoRound, e_NoRound, PySem.W.mg_of X G a_NoViewx, x_NoView, e_NoView, e_q_NoNote_NoNote, e_q_NoNote_NoThread, e_q_NoNote_Full, e_q_NoNote_Busy, e_q_NoNote_NoRound, e_q_NoNote_NoView, e_q_NoNote_ValueError, e_q_NoThread_NoNote, e_q_NoThread_NoThread, e_q_NoThread_Full, e_q_NoThread_Busy, e_q_NoThread_NoRound, e_q_NoThread_NoView, e_q_NoThread_ValueError, e_q_Full_NoNote, e_q_Full_NoThread, e_q_Full_Full, e_q_Full_Busy, e_q_Full_NoRound, e_q_Full_NoView, e_q_Full_ValueError, e_q_Busy_NoNote, e_q_Busy_NoThread, e_q_Busy_Full, e_q_Busy_Busy, e_q_Busy_NoRound, e_q_Busy_NoView, e_q_Busy_ValueError, e_q_NoRound_NoNote, e_q_NoRound_NoThread, e_q_NoRound_Full, e_q_NoRound_Busy, e_q_NoRound_NoRound, e_q_NoRound_NoView, e_q_NoRound_ValueError, ⟨y_NoNote_ga, y_NoNote_hk, y_NoNote_ha, y_NoNote_hm, y_NoNote_hb⟩, ⟨y_NoThread_ga, y_NoThread_hk, y_NoThread_ha, y_NoThread_hm, y_NoThread_hb⟩, ⟨y_Full_ga, y_Full_hk, y_Full_ha, y_Full_hm, y_Full_hb⟩, ⟨y_Busy_ga, y_Busy_hk, y_Busy_ha, y_Busy_hm, y_Busy_hb⟩, ⟨y_NoRound_ga, y_NoRound_hk, y_NoRound_ha, y_NoRound_hm, y_NoRound_hb⟩, ⟨y_cg1, y_cg2⟩, F_real, B_real, PySem.W.mg_of X G p_real, F_done, B_done, PySem.W.mg_of X G p_done, F_answer_to, B_answer_to, PySem.W.mg_of X G p_answer_to, F_so, B_so, PySem.W.mg_of X G p_so, F_at, B_at, PySem.W.mg_of X G p_at, F_deed_of, B_deed_of, PySem.W.mg_of X G p_deed_of, F_drawn, B_drawn, PySem.W.mg_of X G p_drawn, F_model, B_model, PySem.W.mg_of X G p_model, F_tried, B_tried, PySem.W.mg_of X G p_tried, F_refusal, B_refusal, PySem.W.mg_of X G p_refusal, F_under_base, B_under_base, PySem.W.mg_of X G p_under_base, F_still, B_still, PySem.W.mg_of X G p_still, F_init, B_init, ⟨p_init, i_init, k_init⟩, F_put, B_put, ⟨p_put, i_put, k_put⟩, F_tie, B_tie, ⟨p_tie, i_tie, k_tie⟩, F_drop, B_drop, ⟨p_drop, i_drop, k_drop⟩, F_follow, B_follow, ⟨p_follow, i_follow, k_follow⟩, F_word_of, B_word_of, ⟨p_word_of, i_word_of, k_word_of⟩, F_begin, B_begin, ⟨p_begin, i_begin, k_begin⟩, F_step, B_step, ⟨p_step, i_step, k_step⟩, F_tidy, B_tidy, ⟨p_tidy, i_tidy, k_tidy⟩, F_note_of, B_note_of, ⟨p_note_of, i_note_of, k_note_of⟩, F_thread_of, B_thread_of, ⟨p_thread_of, i_thread_of, k_thread_of⟩, F_lead, B_lead, ⟨p_lead, i_lead, k_lead⟩, F_hang, B_hang, ⟨p_hang, i_hang, k_hang⟩, F_far_low, B_far_low, ⟨p_far_low, i_far_low, k_far_low⟩, F_is_far, B_is_far, ⟨p_is_far, i_is_far, k_is_far⟩, F_kept_back, B_kept_back, ⟨p_kept_back, i_kept_back, k_kept_back⟩, F_moved_over, B_moved_over, ⟨p_moved_over, i_moved_over, k_moved_over⟩, F_look_through, B_look_through, ⟨p_look_through, i_look_through, k_look_through⟩, F_clear_far, B_clear_far, ⟨p_clear_far, i_clear_far, k_clear_far⟩, PySem.W.mg_none_of X G z_ValueError, PySem.W.mg_none_of X G z_len, PySem.W.mg_none_of X G z_isinstance, PySem.W.mg_none_of X G z_list, PySem.W.mg_none_of X G z_tuple, PySem.W.mg_none_of X G z_int, PySem.W.mg_none_of X G z_bool, PySem.W.mg_none_of X G z_str, PySem.W.mg_none_of X G z_dict, PySem.W.mg_none_of X G z_range, PySem.W.mg_none_of X G z_sorted⟩
 exact ⟨PySem.W.fnOf "law" "law" (defArgs s_law) (defBody s_law) (defScope s_law) .none kV_law dc_law pm_law an_law cd_law ct_law, fun s v => .of_eq rfl, fun base _ _ => ok_law F_law T⟩
theorem walk {l : PySem.W.OpenLaw} {q : Program} {loose : List Str} {XP : (Str → Option Value) → Heap → Prop} {YP : World → Heap → Prop} {d : DefRec} {K : Params → PySem.W.Frag} (hn : l.most = some 63) (hdf : d.params.defaults = [])
 (hY : ∀ (w : World) (h : Heap), YP w h → (K w.params).In h)
 (F : ∀ (w : World) (mg : Str → Option Value) (fa : Addr) (h : Heap), (K w.params).In h → h.Ns mainGlobals mg → mg d.name = some (.ref fa) →
   ∃ fd : FuncData, (∀ (s : Shared) (u : Value), BindsTo s fd ⟨[u], []⟩ [("_law_script", u)]) ∧ ∀ base : Heap, (K w.params).In base → base.Ns mainGlobals mg → FnOk l.prog w (K w.params) mg base (CXe l.prog w) 14 fa fd ["_law_script"] (spLaw (K w.params))) :
 PySem.W.WalkO q loose XP YP l.row.toRowW d [] (fun f vs => PySem.call f vs) :=
 L2.walk_of (n := 63) (k := 14) (x := "_law_script") (CX := fun w => CXe l.prog w) (sp := fun w => spLaw (K w.params)) hn (by decide) hdf ⟨rfl, by decide, by decide⟩ hY F (fun _ _ a ns hl hO hS => ⟨a, ns, rfl, Scr.of hO hS, hl, fun _ => rfl⟩) fun _ _ _ _ _ h => by
  obtain ⟨_, _, _, _, _, _, _, _, _, _, _, _, _, _, z⟩ := h
  exact z
end PW
open PySem PySem.W PyProof.Rows
set_option maxRecDepth 100000 in
set_option maxHeartbeats 0 in
theorem PySem.Challenge.cw_pinwall_k14_refused_by_name_holds : PySem.Challenge.rw_pinwall_k14_refused_by_name.Holds := by
 w_on; o_law; k_head; (case hw => w_witness2)
 k_fill
 refine PW.walk (l := PySem.Challenge.rw_pinwall_k14_refused_by_name) rfl rfl (fun w h Y => PySem.W.kIn_of Y) ?F
 case F =>
  intro w mg fa h KX G hmg
  refine' PW.all_mk KX G hmg ?aC ?a_WallErrorx ?a_Fullx ?a_NoNotex ?a_NoThreadx ?a_Busyx ?a_NoRoundx ?a_NoViewx ?p_real ?l_real ?o_real ?k_real ?p_done ?l_done ?o_done ?k_done ?p_answer_to ?l_answer_to ?o_answer_to ?k_answer_to ?p_so ?l_so ?o_so ?k_so ?p_at ?l_at ?o_at ?k_at ?p_deed_of ?l_deed_of ?o_deed_of ?k_deed_of ?p_drawn ?l_drawn ?o_drawn ?k_drawn ?p_model ?l_model ?o_model ?k_model ?p_tried ?l_tried ?o_tried ?k_tried ?p_refusal ?l_refusal ?o_refusal ?k_refusal ?p_under_base ?l_under_base ?o_under_base ?k_under_base ?p_still ?l_still ?o_still ?k_still ?p_law ?l_law ?o_law ?k_law ?p_init ?i_init ?l_init ?o_init ?k_init ?p_put ?i_put ?l_put ?o_put ?k_put ?p_tie ?i_tie ?l_tie ?o_tie ?k_tie ?p_drop ?i_drop ?l_drop ?o_drop ?k_drop ?p_follow ?i_follow ?l_follow ?o_follow ?k_follow ?p_word_of ?i_word_of ?l_word_of ?o_word_of ?k_word_of ?p_begin ?i_begin ?l_begin ?o_begin ?k_begin ?p_step ?i_step ?l_step ?o_step ?k_step ?p_tidy ?i_tidy ?l_tidy ?o_tidy ?k_tidy ?p_note_of ?i_note_of ?l_note_of ?o_note_of ?k_note_of ?p_thread_of ?i_thread_of ?l_thread_of ?o_thread_of ?k_thread_of ?p_lead ?i_lead ?l_lead ?o_lead ?k_lead ?p_hang ?i_hang ?l_hang ?o_hang ?k_hang ?p_far_low ?i_far_low ?l_far_low ?o_far_low ?k_far_low ?p_is_far ?i_is_far ?l_is_far ?o_is_far ?k_is_far ?p_kept_back ?i_kept_back ?l_kept_back ?o_kept_back ?k_kept_back ?p_moved_over ?i_moved_over ?l_moved_over ?o_moved_over ?k_moved_over ?p_look_through ?i_look_through ?l_look_through ?o_look_through ?k_look_through ?p_clear_far ?i_clear_far ?l_clear_far ?o_clear_far ?k_clear_far ?pg ?hd ?po ?sa ?mkC ?kc ?n_size ?n_pegs ?n_hooks ?n_low ?n_free ?n_moving ?n_looked ?x_WallError ?x_Full ?e_Full ?x_NoNote ?e_NoNote ?x_NoThread ?e_NoThread ?x_Busy ?e_Busy ?x_NoRound ?e_NoRound ?x_NoView ?e_NoView ?e_q_NoNote_NoNote ?e_q_NoNote_NoThread ?e_q_NoNote_Full ?e_q_NoNote_Busy ?e_q_NoNote_NoRound ?e_q_NoNote_NoView ?e_q_NoNote_ValueError ?e_q_NoThread_NoNote ?e_q_NoThread_NoThread ?e_q_NoThread_Full ?e_q_NoThread_Busy ?e_q_NoThread_NoRound ?e_q_NoThread_NoView ?e_q_NoThread_ValueError ?e_q_Full_NoNote ?e_q_Full_NoThread ?e_q_Full_Full ?e_q_Full_Busy ?e_q_Full_NoRound ?e_q_Full_NoView ?e_q_Full_ValueError ?e_q_Busy_NoNote ?e_q_Busy_NoThread ?e_q_Busy_Full ?e_q_Busy_Busy ?e_q_Busy_NoRound ?e_q_Busy_NoView ?e_q_Busy_ValueError ?e_q_NoRound_NoNote ?e_q_NoRound_NoThread ?e_q_NoRound_Full ?e_q_NoRound_Busy ?e_q_NoRound_NoRound ?e_q_NoRound_NoView ?e_q_NoRound_ValueError ?y_NoNote_ga ?y_NoNote_hk ?y_NoNote_ha ?y_NoNote_hm ?y_NoNote_hb ?y_NoThread_ga ?y_NoThread_hk ?y_NoThread_ha ?y_NoThread_hm ?y_NoThread_hb ?y_Full_ga ?y_Full_hk ?y_Full_ha ?y_Full_hm ?y_Full_hb ?y_Busy_ga ?y_Busy_hk ?y_Busy_ha ?y_Busy_hm ?y_Busy_hb ?y_NoRound_ga ?y_NoRound_hk ?y_NoRound_ha ?y_NoRound_hm ?y_NoRound_hb ?y_cg1 ?y_cg2 ?z_ValueError ?z_len ?z_isinstance ?z_list ?z_tuple ?z_int ?z_bool ?z_str ?z_dict ?z_range ?z_sorted
  (case aC => k_is)
  (case a_WallErrorx => k_is)
  (case a_Fullx => k_is)
  (case a_NoNotex => k_is)
  (case a_NoThreadx => k_is)
  (case a_Busyx => k_is)
  (case a_NoRoundx => k_is)
  (case a_NoViewx => k_is)
  (case p_real => k_is)
  (case l_real => k_is)
  (case o_real => k_is)
  (case k_real => k_is)
  (case p_done => k_is)
  (case l_done => k_is)
  (case o_done => k_is)
  (case k_done => k_is)
  (case p_answer_to => k_is)
  (case l_answer_to => k_is)
  (case o_answer_to => k_is)
  (case k_answer_to => k_is)
  (case p_so => k_is)
  (case l_so => k_is)
  (case o_so => k_is)
  (case k_so => k_is)
  (case p_at => k_is)
  (case l_at => k_is)
  (case o_at => k_is)
  (case k_at => k_is)
  (case p_deed_of => k_is)
  (case l_deed_of => k_is)
  (case o_deed_of => k_is)
  (case k_deed_of => k_is)
  (case p_drawn => k_is)
  (case l_drawn => k_is)
  (case o_drawn => k_is)
  (case k_drawn => k_is)
  (case p_model => k_is)
  (case l_model => k_is)
  (case o_model => k_is)
  (case k_model => k_is)
  (case p_tried => k_is)
  (case l_tried => k_is)
  (case o_tried => k_is)
  (case k_tried => k_is)
  (case p_refusal => k_is)
  (case l_refusal => k_is)
  (case o_refusal => k_is)
  (case k_refusal => k_is)
  (case p_under_base => k_is)
  (case l_under_base => k_is)
  (case o_under_base => k_is)
  (case k_under_base => k_is)
  (case p_still => k_is)
  (case l_still => k_is)
  (case o_still => k_is)
  (case k_still => k_is)
  (case p_law => k_is)
  (case l_law => k_is)
  (case o_law => k_is)
  (case k_law => k_is)
  (case p_init => k_is)
  (case i_init => k_is)
  (case l_init => k_is)
  (case o_init => k_is)
  (case k_init => k_is)
  (case p_put => k_is)
  (case i_put => k_is)
  (case l_put => k_is)
  (case o_put => k_is)
  (case k_put => k_is)
  (case p_tie => k_is)
  (case i_tie => k_is)
  (case l_tie => k_is)
  (case o_tie => k_is)
  (case k_tie => k_is)
  (case p_drop => k_is)
  (case i_drop => k_is)
  (case l_drop => k_is)
  (case o_drop => k_is)
  (case k_drop => k_is)
  (case p_follow => k_is)
  (case i_follow => k_is)
  (case l_follow => k_is)
  (case o_follow => k_is)
  (case k_follow => k_is)
  (case p_word_of => k_is)
  (case i_word_of => k_is)
  (case l_word_of => k_is)
  (case o_word_of => k_is)
  (case k_word_of => k_is)
  (case p_begin => k_is)
  (case i_begin => k_is)
  (case l_begin => k_is)
  (case o_begin => k_is)
  (case k_begin => k_is)
  (case p_step => k_is)
  (case i_step => k_is)
  (case l_step => k_is)
  (case o_step => k_is)
  (case k_step => k_is)
  (case p_tidy => k_is)
  (case i_tidy => k_is)
  (case l_tidy => k_is)
  (case o_tidy => k_is)
  (case k_tidy => k_is)
  (case p_note_of => k_is)
  (case i_note_of => k_is)
  (case l_note_of => k_is)
  (case o_note_of => k_is)
  (case k_note_of => k_is)
  (case p_thread_of => k_is)
  (case i_thread_of => k_is)
  (case l_thread_of => k_is)
  (case o_thread_of => k_is)
  (case k_thread_of => k_is)
  (case p_lead => k_is)
  (case i_lead => k_is)
  (case l_lead => k_is)
  (case o_lead => k_is)
  (case k_lead => k_is)
  (case p_hang => k_is)
  (case i_hang => k_is)
  (case l_hang => k_is)
  (case o_hang => k_is)
  (case k_hang => k_is)
  (case p_far_low => k_is)
  (case i_far_low => k_is)
  (case l_far_low => k_is)
  (case o_far_low => k_is)
  (case k_far_low => k_is)
  (case p_is_far => k_is)
  (case i_is_far => k_is)
  (case l_is_far => k_is)
  (case o_is_far => k_is)
  (case k_is_far => k_is)
  (case p_kept_back => k_is)
  (case i_kept_back => k_is)
  (case l_kept_back => k_is)
  (case o_kept_back => k_is)
  (case k_kept_back => k_is)
  (case p_moved_over => k_is)
  (case i_moved_over => k_is)
  (case l_moved_over => k_is)
  (case o_moved_over => k_is)
  (case k_moved_over => k_is)
  (case p_look_through => k_is)
  (case i_look_through => k_is)
  (case l_look_through => k_is)
  (case o_look_through => k_is)
  (case k_look_through => k_is)
  (case p_clear_far => k_is)
  (case i_clear_far => k_is)
  (case l_clear_far => k_is)
  (case o_clear_far => k_is)
  (case k_clear_far => k_is)
  (case pg => k_is)
  (case hd => k_is)
  (case po => k_is)
  (case sa => k_is)
  (case mkC => k_is)
  (case kc => k_is)
  (case n_size => k_is)
  (case n_pegs => k_is)
  (case n_hooks => k_is)
  (case n_low => k_is)
  (case n_free => k_is)
  (case n_moving => k_is)
  (case n_looked => k_is)
  (case x_WallError => k_exc)
  (case x_Full => k_exc)
  (case e_Full => kts_exm)
  (case x_NoNote => k_exc)
  (case e_NoNote => kts_exm)
  (case x_NoThread => k_exc)
  (case e_NoThread => kts_exm)
  (case x_Busy => k_exc)
  (case e_Busy => kts_exm)
  (case x_NoRound => k_exc)
  (case e_NoRound => kts_exm)
  (case x_NoView => k_exc)
  (case e_NoView => kts_exm)
  (case e_q_NoNote_NoNote => kts_exm)
  (case e_q_NoNote_NoThread => kts_exm)
  (case e_q_NoNote_Full => kts_exm)
  (case e_q_NoNote_Busy => kts_exm)
  (case e_q_NoNote_NoRound => kts_exm)
  (case e_q_NoNote_NoView => kts_exm)
  (case e_q_NoNote_ValueError => kts_exm)
  (case e_q_NoThread_NoNote => kts_exm)
  (case e_q_NoThread_NoThread => kts_exm)
  (case e_q_NoThread_Full => kts_exm)
  (case e_q_NoThread_Busy => kts_exm)
  (case e_q_NoThread_NoRound => kts_exm)
  (case e_q_NoThread_NoView => kts_exm)
  (case e_q_NoThread_ValueError => kts_exm)
  (case e_q_Full_NoNote => kts_exm)
  (case e_q_Full_NoThread => kts_exm)
  (case e_q_Full_Full => kts_exm)
  (case e_q_Full_Busy => kts_exm)
  (case e_q_Full_NoRound => kts_exm)
  (case e_q_Full_NoView => kts_exm)
  (case e_q_Full_ValueError => kts_exm)
  (case e_q_Busy_NoNote => kts_exm)
  (case e_q_Busy_NoThread => kts_exm)
  (case e_q_Busy_Full => kts_exm)
  (case e_q_Busy_Busy => kts_exm)
  (case e_q_Busy_NoRound => kts_exm)
  (case e_q_Busy_NoView => kts_exm)
  (case e_q_Busy_ValueError => kts_exm)
  (case e_q_NoRound_NoNote => kts_exm)
  (case e_q_NoRound_NoThread => kts_exm)
  (case e_q_NoRound_Full => kts_exm)
  (case e_q_NoRound_Busy => kts_exm)
  (case e_q_NoRound_NoRound => kts_exm)
  (case e_q_NoRound_NoView => kts_exm)
  (case e_q_NoRound_ValueError => kts_exm)
  (case y_NoNote_ga => k_is)
  (case y_NoNote_hk => k_is)
  (case y_NoNote_ha => k_is)
  (case y_NoNote_hm => k_is)
  (case y_NoNote_hb => k_is)
  (case y_NoThread_ga => k_is)
  (case y_NoThread_hk => k_is)
  (case y_NoThread_ha => k_is)
  (case y_NoThread_hm => k_is)
  (case y_NoThread_hb => k_is)
  (case y_Full_ga => k_is)
  (case y_Full_hk => k_is)
  (case y_Full_ha => k_is)
  (case y_Full_hm => k_is)
  (case y_Full_hb => k_is)
  (case y_Busy_ga => k_is)
  (case y_Busy_hk => k_is)
  (case y_Busy_ha => k_is)
  (case y_Busy_hm => k_is)
  (case y_Busy_hb => k_is)
  (case y_NoRound_ga => k_is)
  (case y_NoRound_hk => k_is)
  (case y_NoRound_ha => k_is)
  (case y_NoRound_hm => k_is)
  (case y_NoRound_hb => k_is)
  (case y_cg1 => k_is)
  (case y_cg2 => k_is)
  (case z_ValueError => k_is)
  (case z_len => k_is)
  (case z_isinstance => k_is)
  (case z_list => k_is)
  (case z_tuple => k_is)
  (case z_int => k_is)
  (case z_bool => k_is)
  (case z_str => k_is)
  (case z_dict => k_is)
  (case z_range => k_is)
  (case z_sorted => k_is)
#print axioms PySem.Challenge.cw_pinwall_k14_refused_by_name_holds
