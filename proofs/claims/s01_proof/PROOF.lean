import PyProof.Rows.All
import Wide.All
import OpenK.AllK
import Wide.FinOn
import PyProof.EqAt
import PyProof.EqKinds
import PyProof.TupleCall
import KE.BitLaws
import Open.SpecLaws
import KE.OsHead
import KE.OsGo
import PyFlatLaws
import PySem.Challenge.RW_icerink_s01_answers
set_option Elab.async false
set_option linter.all false
set_option maxRecDepth 100000
namespace L2
open PySem PySem.Spec PyProof.Rows
/-- a key: an int or a str -/
abbrev Key := Sum Int Str
def keyIs : Key → Value → Bool
  | .inl k, v => Value.isInt k v
  | .inr x, v => Value.isStrOf x v
def keyH (w : World) : Key → Int
  | .inl k => hashInt k
  | .inr x => hashStr w x
theorem keyIs_shape : ∀ {k : Key} {v : Value}, keyIs k v = true → (∃ i t, k = Sum.inl i ∧ v = Value.int i t) ∨ (∃ x t, k = Sum.inr x ∧ v = Value.str x t)
  | .inl i, v, h => by
    obtain ⟨t, e⟩ := Value.isInt_shape (k := i) (v := v) h
    exact .inl ⟨i, t, rfl, e⟩
  | .inr x, v, h => by
    obtain ⟨t, e⟩ := Value.isStrOf_shape (x := x) (v := v) h
    exact .inr ⟨x, t, rfl, e⟩
theorem key_ll (a b : Int) : decide ((Sum.inl a : Key) = Sum.inl b) = (a == b) := by
  by_cases e : a = b
  · subst e; simp
  · have h : ¬ (Sum.inl a : Key) = Sum.inl b := fun q => e (Sum.inl.inj q)
    rw [decide_eq_false h]
    exact (beq_eq_false_iff_ne.mpr e).symm
theorem key_rr (a b : Str) : decide ((Sum.inr a : Key) = Sum.inr b) = decide (a = b) := by
  by_cases e : a = b
  · subst e; simp
  · have h : ¬ (Sum.inr a : Key) = Sum.inr b := fun q => e (Sum.inr.inj q)
    rw [decide_eq_false h, decide_eq_false e]
theorem key_lr (a : Int) (b : Str) : decide ((Sum.inl a : Key) = Sum.inr b) = false := decide_eq_false (fun q => nomatch q)
theorem key_rl (a : Str) (b : Int) : decide ((Sum.inr a : Key) = Sum.inl b) = false := decide_eq_false (fun q => nomatch q)
def mixKind (prog : Program) (w : World) : PySem.KeyKind prog w Key where
  is := keyIs
  hash := keyH w
  inj := fun v a b ha hb => by
    rcases keyIs_shape ha with ⟨i, t, rfl, rfl⟩ | ⟨x, t, rfl, rfl⟩
    · rcases keyIs_shape hb with ⟨j, u, rfl, e⟩ | ⟨y, u, rfl, e⟩
      · injection e with e1 _; rw [e1]
      · exact nomatch e
    · rcases keyIs_shape hb with ⟨j, u, rfl, e⟩ | ⟨y, u, rfl, e⟩
      · exact nomatch e
      · injection e with e1 _; rw [e1]
  byValue := fun k v h => by
    rcases keyIs_shape h with ⟨i, t, rfl, rfl⟩ | ⟨x, t, rfl, rfl⟩ <;> rfl
  pyHash := fun hv h => by
    rcases keyIs_shape hv with ⟨i, t, rfl, rfl⟩ | ⟨x, t, rfl, rfl⟩
    · exact wpAny_pyHash_int h
    · exact wpAny_pyHash_str h
  eqBool := fun hu hv h => by
    rcases keyIs_shape hu with ⟨i, t, rfl, rfl⟩ | ⟨x, t, rfl, rfl⟩
    · rcases keyIs_shape hv with ⟨j, u, rfl, rfl⟩ | ⟨y, u, rfl, rfl⟩
      · rw [key_ll] at h; exact wpAny_eqBool_int h
      · rw [key_lr] at h; exact SeqAt.EqAt.int_str i t y u _ _ _ _ h
    · rcases keyIs_shape hv with ⟨j, u, rfl, rfl⟩ | ⟨y, u, rfl, rfl⟩
      · rw [key_rl] at h; exact SeqAt.EqAt.str_int x t j u _ _ _ _ h
      · rw [key_rr] at h; exact wpAny_eqBool_str h
  «strs» := fun k x t v h => by
    rcases keyIs_shape h with ⟨i, u, rfl, e⟩ | ⟨y, u, rfl, e⟩
    · exact nomatch e
    · injection e with e1 _
      subst e1
      cases v <;> rfl
end L2
namespace L2
open PySem PySem.Spec PyProof.Rows
/-- a value, without the heap -/
inductive V where
  | non | bl (b : Bool) | int (i : Int) | str (x : Str) | byt (b : Array UInt8) | flt (b : UInt64) | ref (a : Addr) | ty (n : String)
  deriving DecidableEq
def RelV : V → Value → Prop
  | .non, u => u = Value.none
  | .bl b, u => u = Value.bool b
  | .int i, u => ∃ t, u = Value.int i t
  | .str x, u => ∃ t, u = Value.str x t
  | .byt b, u => ∃ t, u = Value.bytes b t
  | .flt b, u => ∃ t, u = Value.float b t
  | .ref a, u => u = Value.ref a
  | .ty n, u => u = Value.type n
abbrev Vals : List V → List Value → Prop := Paired RelV
theorem Vals.length {xs : List V} {us : List Value} (r : Vals xs us) : xs.length = us.length := Paired.length r
theorem Vals.get : ∀ {xs : List V} {us : List Value} {i : Nat} {x : V}, Vals xs us → xs[i]? = some x → ∃ u, us[i]? = some u ∧ RelV x u
  | _, _, _, _, .nil, e => by simp at e
  | _, _, 0, _, .cons r _, e => by simp at e; subst e; exact ⟨_, rfl, r⟩
  | _, _, i + 1, x, .cons _ t, e => by
    obtain ⟨u, h1, h2⟩ := Vals.get (i := i) (x := x) t (by simpa using e)
    exact ⟨u, by simpa using h1, h2⟩
theorem Vals.append : ∀ {xs ys : List V} {us ws : List Value}, Vals xs us → Vals ys ws → Vals (xs ++ ys) (us ++ ws)
  | _, _, _, _, .nil, s => s
  | _, _, _, _, .cons r t, s => .cons r (Vals.append t s)
theorem Vals.take : ∀ {xs : List V} {us : List Value} (n : Nat), Vals xs us → Vals (xs.take n) (us.take n)
  | _, _, 0, _ => .nil
  | _, _, _ + 1, .nil => .nil
  | _, _, n + 1, .cons r t => .cons r (Vals.take n t)
theorem Vals.drop : ∀ {xs : List V} {us : List Value} (n : Nat), Vals xs us → Vals (xs.drop n) (us.drop n)
  | _, _, 0, r => r
  | _, _, _ + 1, .nil => .nil
  | _, _, n + 1, .cons _ t => Vals.drop n t
def RelO : Option V → Option Value → Prop
  | some v, some u => RelV v u
  | none, none => True
  | _, _ => False
def KV {κ : Type} : List (κ × V) → List (κ × Value) → Prop := Paired fun (p : κ × V) (q : κ × Value) => p.1 = q.1 ∧ RelV p.2 q.2
/-- a key of a dict (00_mix): an int or a text -/
def kV : Key → V
  | .inl i => .int i
  | .inr x => .str x
/-- what stands at a tracked address -/
inductive HO where
  /-- a list -/
  | lst (xs : List V)
  /-- a tuple (never changes) -/
  | tup (xs : List V)
  /-- a dict whose keys are ints and texts; one whose keys are tuples of ints and texts (the empty one is both) -/
  | dK (kvs : List (Key × V)) | dT (kvs : List (List Key × V))
  /-- a set of ints: its members, its size -/
  | set (S : Int → Bool) (n : Nat)
  /-- an instance of the class at C, its dict at dx, its attributes -/
  | ins (C dx : Addr) (fs : List (Str × V))
  /-- the dict of the instance at x -/
  | own (x : Addr)
  /-- the dict of an exception -/
  | xd (fs : List (Str × V))
  /-- a bound method, f of x -/
  | met (f x : Addr)
  /-- a range object lo, lo + 1, .. below hi -/
  | rng (lo hi : Int)
  /-- a thing that is known to the object (the script; a dict while a loop walks it): read, never written while it is so -/
  | frz (o : Obj) (u : HO)
  /-- a code object's table -/
  | tbl (ps : Array Value)
  /-- any other thing, by what is true of its one object (a def of one's own: SetO a S n := HO.ext fun h => ..) -/
  | ext (φ : Heap → Prop)
abbrev Hp := Addr → Option HO
def upd (H : Hp) (a : Addr) (o : HO) : Hp := fun b => if b = a then some o else H b
theorem upd_same {H : Hp} {a : Addr} {o : HO} : upd H a o a = some o := by unfold upd; rw [if_pos rfl]
theorem upd_ne {H : Hp} {a b : Addr} {o : HO} (h : b ≠ a) : upd H a o b = H b := by unfold upd; rw [if_neg h]
/-- two objects of different content stand apart -/
theorem ne_of {H : Hp} {a b : Addr} {o u : HO} (h : H a = some o) (h' : H b = some u) (d : o ≠ u) : a ≠ b := by
  intro e; subst e; rw [h] at h'; exact d (Option.some.inj h')
theorem ne_of_none {H : Hp} {a b : Addr} {o : HO} (h : H a = some o) (h' : H b = none) : a ≠ b := by
  intro e; subst e; rw [h] at h'; cases h'
section
variable (P : Program) (w : World)
def ObjOk (H : Hp) (h : Heap) (a : Addr) : HO → Prop
  | .lst xs => xs.length ≤ sizeLine ∧ ∃ (its : List Value) (n : Nat), Vals xs its ∧ h.get? a = some { cls := .type "list", data := .seq its.toArray n }
  | .tup xs => xs.length ≤ sizeLine ∧ ∃ its : List Value, Vals xs its ∧ IsTup h a its.toArray
  | .dK kvs => kvs.length ≤ sizeLine ∧ (a == sysModules) = false ∧ ∃ vs, KV kvs vs ∧ h.DictOf (mixKind P w) a vs
  | .dT kvs => kvs.length ≤ sizeLine ∧ (a == sysModules) = false ∧ ∃ xs : List (List Key × Addr × Value),
      Paired (fun (p : List Key × V) (q : List Key × Addr × Value) => p.1 = q.1 ∧ H q.2.1 = some (.tup (p.1.map kV)) ∧ RelV p.2 q.2.2) kvs xs ∧
      ∃ o es ep, h.get? a = some o ∧ o.ExactDict ∧ o.data = .dict es ep ∧ es.toList = xs.map (entryOfKey (tupleKind (mixKind P w))) ∧ (xs.map (·.1)).Nodup
  | .set S n => h.SetOf (intKind P w) a S n
  | .ins C dx fs => H dx = some (.own a) ∧ fs.length ≤ 1000 ∧ dx ≠ a ∧ h.get? a = some (PySem.W.instObj C dx) ∧
      ∃ mA, h.Ns1 dx mA ∧ (∀ f, RelO (fs.lookup f) (mA f)) ∧ PySem.Within mA (fs.map (·.1))
  | .own _ => ∃ o, h.get? a = some o
  | .xd fs => ∃ mA, h.Ns1 a mA ∧ ∀ f, RelO (fs.lookup f) (mA f)
  | .rng lo hi => ∃ t u v, h.get? a = some { cls := .type "range", data := .fields #[.int lo t, .int hi u, .int 1 v] }
  | .frz o u => h.get? a = some o ∧ ObjOk H h a u
  | .tbl ps => h.get? a = some { cls := .none, data := .fields ps }
  | .met f x => h.get? a = some (PySem.W.methodObj (.ref f) (.ref x))
  | .ext φ => φ h ∧ (∃ o, h.get? a = some o) ∧ ∀ h1 h2 : Heap, φ h1 → (∀ o, h1.get? a = some o → h2.get? a = some o) → φ h2
/-- the abstract heap is held -/
def HOk (H : Hp) (h : Heap) : Prop := ∀ a o, H a = some o → ObjOk P w H h a o
end
section
variable {P : Program} {w : World} {H H' : Hp} {h h' : Heap} {a : Addr} {o : HO}
theorem ObjOk.lt (x : ObjOk P w H h a o) : a < h.objs.size := by
  cases o with
  | lst xs => obtain ⟨_, _, _, _, e⟩ := x; exact Heap.lt_size e
  | tup xs => obtain ⟨_, _, _, p⟩ := x; exact p.lt
  | dK kvs => obtain ⟨_, _, _, _, o, _, _, e, _⟩ := x; exact Heap.lt_size e
  | dT kvs => obtain ⟨_, _, _, _, o, _, _, e, _⟩ := x; exact Heap.lt_size e
  | set S n => obtain ⟨o, _, _, _, e, _⟩ := x; exact Heap.lt_size e
  | ins C dx fs => obtain ⟨_, _, _, e, _⟩ := x; exact Heap.lt_size e
  | own y => obtain ⟨_, e⟩ := x; exact Heap.lt_size e
  | xd fs => obtain ⟨_, ⟨_, _, _, e, _⟩, _⟩ := x; exact Heap.lt_size e
  | rng lo hi => obtain ⟨_, _, _, e⟩ := x; exact Heap.lt_size e
  | frz ob u => obtain ⟨e, _⟩ := x; exact Heap.lt_size e
  | tbl ps => exact Heap.lt_size (show h.get? a = some _ from x)
  | met f y => exact Heap.lt_size (show h.get? a = some _ from x)
  | ext φ => obtain ⟨_, ⟨_, e⟩, _⟩ := x; exact Heap.lt_size e
theorem Paired.mapP {α β : Type} {F G : α → β → Prop} : ∀ {l₁ : List α} {l₂ : List β}, Paired F l₁ l₂ → (∀ a b, F a b → G a b) → Paired G l₁ l₂
  | _, _, .nil, _ => .nil
  | _, _, .cons r t, f => .cons (f _ _ r) (Paired.mapP t f)
/-- what an object's description leans on: its own object, its own dict, the tuples -/
theorem ObjOk.stay (x : ObjOk P w H h a o) (k : ∀ b u, (b = a ∨ H b = some (.own a)) → h.get? b = some u → h'.get? b = some u)
    (ho : ∀ b, H b = some (.own a) → H' b = some (.own a)) (ht : ∀ b xs, H b = some (.tup xs) → H' b = some (.tup xs)) : ObjOk P w H' h' a o := by
  induction o with
  | lst xs => obtain ⟨z, its, n, r, e⟩ := x; exact ⟨z, its, n, r, k _ _ (.inl rfl) e⟩
  | tup xs => obtain ⟨z, its, r, ob, e, c⟩ := x; exact ⟨z, its, r, ob, k _ _ (.inl rfl) e, c⟩
  | dK kvs => obtain ⟨z, y, vs, r, ob, es, ep, e, c⟩ := x; exact ⟨z, y, vs, r, ob, es, ep, k _ _ (.inl rfl) e, c⟩
  | dT kvs =>
    obtain ⟨z, y, xs, r, ob, es, ep, e, c⟩ := x
    exact ⟨z, y, xs, Paired.mapP r fun p q z => ⟨z.1, ht _ _ z.2.1, z.2.2⟩, ob, es, ep, k _ _ (.inl rfl) e, c⟩
  | set S n => obtain ⟨ob, es, ep, t, e, c⟩ := x; exact ⟨ob, es, ep, t, k _ _ (.inl rfl) e, c⟩
  | ins C dx fs =>
    obtain ⟨d, z, ne, e, mA, ⟨od, es, ep, e2, c⟩, r⟩ := x
    exact ⟨ho _ d, z, ne, k _ _ (.inl rfl) e, mA, ⟨od, es, ep, k _ _ (.inr d) e2, c⟩, r⟩
  | own y => obtain ⟨ob, e⟩ := x; exact ⟨ob, k _ _ (.inl rfl) e⟩
  | xd fs => obtain ⟨mA, ⟨od, es, ep, e, c⟩, r⟩ := x; exact ⟨mA, ⟨od, es, ep, k _ _ (.inl rfl) e, c⟩, r⟩
  | rng lo hi => obtain ⟨t, u, v, e⟩ := x; exact ⟨t, u, v, k _ _ (.inl rfl) e⟩
  | frz ob u ih => obtain ⟨e, q⟩ := x; exact ⟨k _ _ (.inl rfl) e, ih q⟩
  | tbl ps =>
    have e : h.get? a = some { cls := .none, data := .fields ps } := x
    show h'.get? a = some { cls := .none, data := .fields ps }
    exact k a _ (.inl rfl) e
  | met f y =>
    have e : h.get? a = some (PySem.W.methodObj (.ref f) (.ref y)) := x
    show h'.get? a = some (PySem.W.methodObj (.ref f) (.ref y))
    exact k a _ (.inl rfl) e
  | ext φ => obtain ⟨p, ⟨o, e⟩, st⟩ := x; exact ⟨st _ _ p fun o q => k _ _ (.inl rfl) q, ⟨o, k _ _ (.inl rfl) e⟩, st⟩
theorem HOk.lt (x : HOk P w H h) (e : H a = some o) : a < h.objs.size := (x a o e).lt
theorem HOk.fresh (x : HOk P w H h) (e : h.objs.size ≤ a) : H a = none := by
  cases q : H a with
  | none => rfl
  | some u => exact absurd (Nat.lt_of_lt_of_le (x.lt q) e) (Nat.lt_irrefl _)
/-- every object of the heap is kept -/
theorem HOk.kept (x : HOk P w H h) (k : ∀ b u, h.get? b = some u → h'.get? b = some u) : HOk P w H h' := fun a o e =>
  (x a o e).stay (fun b u _ q => k b u q) (fun _ q => q) fun _ _ q => q
/-- a new object is laid and tracked -/
theorem HOk.laid (x : HOk P w H h) (k : ∀ b u, h.get? b = some u → h'.get? b = some u) (hp : h.objs.size ≤ a) (new : ObjOk P w (upd H a o) h' a o) : HOk P w (upd H a o) h' := fun b u e => by
  have hn := x.fresh hp
  by_cases hb : b = a
  · subst hb; rw [upd_same] at e; cases e; exact new
  · rw [upd_ne hb] at e
    exact (x b u e).stay (fun c v _ q => k c v q) (fun c q => by rw [upd_ne (ne_of_none q hn)]; exact q) fun c xs q => by rw [upd_ne (ne_of_none q hn)]; exact q
end
/-- what may be read as u: it is u, or a known u -/
def Rd (H : Hp) (a : Addr) (u : HO) : Prop := H a = some u ∨ ∃ o, H a = some (.frz o u)
theorem Rd.ok {P : Program} {w : World} {H : Hp} {h : Heap} {a : Addr} {u : HO} (r : Rd H a u) (x : HOk P w H h) : ObjOk P w H h a u := by
  rcases r with r | ⟨o, r⟩
  · exact x a u r
  · obtain ⟨_, q⟩ := x a _ r
    exact q
/-- what may be written -/
def Mut : Option HO → Prop
  | some (.lst _) => True
  | some (.dK _) => True
  | some (.dT _) => True
  | some (.set _ _) => True
  | some (.ins _ _ _) => True
  | some (.ext _) => True
  | _ => False
section
variable {P : Program} {w : World} {H : Hp} {h h' : Heap} {x e : Addr} {o' : HO}
/-- the object at e is changed: x itself, or the dict of the instance x -/
theorem HOk.write (ok : HOk P w H h) (mu : Mut (H x)) (he : e = x ∨ H e = some (.own x)) (k : ∀ b u, b ≠ e → h.get? b = some u → h'.get? b = some u) (heo : ∃ u, h'.get? e = some u)
    (new : ObjOk P w (upd H x o') h' x o') : HOk P w (upd H x o') h' := fun b u q => by
  have nown : ∀ c y, H c = some (.own y) → c ≠ x := fun c y r z => by subst z; rw [r] at mu; exact mu
  have ntup : ∀ c xs, H c = some (.tup xs) → c ≠ x := fun c xs r z => by subst z; rw [r] at mu; exact mu
  by_cases hb : b = x
  · subst hb; rw [upd_same] at q; cases q; exact new
  · rw [upd_ne hb] at q
    by_cases hbe : b = e
    · have q' : H b = some (.own x) := by
        rcases he with z | z
        · exact absurd (hbe.trans z) hb
        · rw [hbe]; exact z
      rw [q] at q'; cases q'
      obtain ⟨v, hv⟩ := heo
      exact ⟨v, by rw [hbe]; exact hv⟩
    · refine (ok b u q).stay (fun c v hc r => k c v ?_ r) (fun c r => by rw [upd_ne (nown c b r)]; exact r) fun c xs r => by rw [upd_ne (ntup c xs r)]; exact r
      rcases hc with rfl | hc
      · exact hbe
      · rintro rfl
        rcases he with z | z
        · exact nown c b hc z
        · rw [hc] at z; cases z; exact hb rfl
end
structure Un (fs ex : List Addr) (H H' : Hp) (h h' : Heap) : Prop where
  keep : ∀ b o, h.get? b = some o → H b = none → b ∉ fs → b ∉ ex → h'.get? b = some o
  slot : ∀ b o, h.get? b = some o → H b = none → b ∈ fs → b ∉ ex → ∃ sl, h'.get? b = some { o with slots := sl }
  free : ∀ b o, h.get? b = some o → H b = none → b ∉ ex → H' b = none
  there : ∀ b o, h.get? b = some o → b ∉ ex → ∃ o', h'.get? b = some o'
  tups : ∀ b xs, H b = some (.tup xs) → H' b = some (.tup xs)
  frzs : ∀ b o u, H b = some (.frz o u) → H' b = some (.frz o u)
  tbls : ∀ b ps, H b = some (.tbl ps) → ∃ more, H' b = some (.tbl (ps ++ more))
section
variable {fs fs' ex ex' : List Addr} {H H1 H2 : Hp} {h h1 h2 h' : Heap} {a x e : Addr} {o : HO}
theorem Un.any (u : Un fs ex H H1 h h1) {b : Addr} {ob : Obj} (q : h.get? b = some ob) (n : H b = none) (hx : b ∉ ex) : ∃ sl, h1.get? b = some { ob with slots := sl } := by
  by_cases hb : b ∈ fs
  · exact u.slot b ob q n hb hx
  · exact ⟨ob.slots, u.keep b ob q n hb hx⟩
theorem Un.kept (k : ∀ b u, h.get? b = some u → h'.get? b = some u) : Un fs ex H H h h' :=
  ⟨fun b ob q _ _ _ => k b ob q, fun b ob q _ _ _ => ⟨ob.slots, k b ob q⟩, fun _ _ _ n _ => n, fun b ob q _ => ⟨ob, k b ob q⟩, fun _ _ q => q, fun _ _ _ q => q, fun _ ps q => ⟨#[], by rw [q]; simp⟩⟩
theorem Un.refl : Un fs ex H H h h := Un.kept fun _ _ q => q
theorem Un.laid (k : ∀ b u, h.get? b = some u → h'.get? b = some u) (hp : h.objs.size ≤ a) (hn : H a = none) : Un fs ex H (upd H a o) h h' where
  keep := fun b u q _ _ _ => k b u q
  slot := fun b u q _ _ _ => ⟨u.slots, k b u q⟩
  free := fun b u q n _ => by rw [upd_ne (Nat.ne_of_lt (Nat.lt_of_lt_of_le (Heap.lt_size q) hp))]; exact n
  there := fun b u q _ => ⟨u, k b u q⟩
  tups := fun b xs q => by rw [upd_ne (ne_of_none q hn)]; exact q
  frzs := fun b u xs q => by rw [upd_ne (ne_of_none q hn)]; exact q
  tbls := fun b ps q => ⟨#[], by rw [upd_ne (ne_of_none q hn), q]; simp⟩
theorem Un.write (mu : Mut (H x)) (he : e = x ∨ H e = some (.own x)) (k : ∀ b u, b ≠ e → h.get? b = some u → h'.get? b = some u) (heo : ∃ u, h'.get? e = some u) : Un fs ex H (upd H x o) h h' := by
  have hx : ∀ b, H b = none → b ≠ x := fun b n z => by subst z; rw [n] at mu; exact mu
  have hb : ∀ b, H b = none → b ≠ e := fun b n z => by
    subst z
    rcases he with r | r
    · exact hx b n r
    · rw [n] at r; cases r
  have hm : ∀ b u, H b = some u → ¬ Mut (some u) → b ≠ x := fun b u q nm z => by subst z; rw [q] at mu; exact nm mu
  refine ⟨fun b u q n _ _ => k b u (hb b n) q, fun b u q n _ _ => ⟨u.slots, k b u (hb b n) q⟩, fun b u q n _ => by rw [upd_ne (hx b n)]; exact n, fun b u q _ => ?_,
    fun b xs q => by rw [upd_ne (hm b _ q fun z => z)]; exact q, fun b u xs q => by rw [upd_ne (hm b _ q fun z => z)]; exact q, fun b ps q => ⟨#[], by rw [upd_ne (hm b _ q fun z => z), q]; simp⟩⟩
  by_cases hbe : b = e
  · subst hbe; exact heo
  · exact ⟨u, k b u hbe q⟩
end
def trk (h : Heap) (H : Hp) : List Addr := (List.range h.objs.size).filter fun a => (H a).isSome
def hidT (h : Heap) (H : Hp) : Heap := PySem.W.hideAll h (trk h H)
theorem hidT_size (h : Heap) (H : Hp) : (hidT h H).objs.size = h.objs.size := PySem.W.hideAll_size _ _
theorem hidT_get {h : Heap} {H : Hp} {b : Addr} {o : Obj} (e : h.get? b = some o) (n : H b = none) : (hidT h H).get? b = some o :=
  PySem.W.hideAll_get _ e fun hm => by
    have q : (H b).isSome = true := (List.mem_filter.mp hm).2
    rw [n] at q; simp at q
theorem of_hidT {h : Heap} {H : Hp} {b : Addr} {o : Obj} (e : (hidT h H).get? b = some o) : h.get? b = some o ∧ H b = none := by
  have e' : h.get? b = some o := PySem.W.of_hideAll (trk h H) e
  refine ⟨e', ?_⟩
  cases q : H b with
  | none => rfl
  | some x =>
    have hm : b ∈ trk h H := List.mem_filter.mpr ⟨List.mem_range.mpr (Heap.lt_size e'), by simp [q]⟩
    have z : (hidT h H).get? b = none := PySem.W.hideAll_none (trk h H) hm
    rw [z] at e; cases e
end L2
namespace L2
open PySem PySem.Spec PyProof.Rows
/-- the module's facts, over the base: the heap at the law's entry without what is tracked there -/
structure Mod (K : PySem.W.Frag) (mg : Str → Option Value) (base : Heap) : Prop where
  kin : K.In base
  glob : base.Ns mainGlobals mg
  blt : ∃ mb, base.Ns builtinsNs mb ∧ ∀ x : Str, x ≠ "__name__" → mb x = bootBuiltins x
  nolimit : base.NoLimit
/-- the context: a def's body (or a comprehension's block) running. base: fixed through the whole law; s₀, H₀: the entry; outer: the frames whose slots others may change (a def's callers); stack: all frames that run;
   ex: iterators that were made ahead of the entry and are walked here (a comprehension's); fn: the names whose cells were made at the entry (a def: all; a comprehension's block: its own); calm: not within an except suite; pn: pins that every state bears; xe: what is wanted of an exception that leaves the code -/
structure Cx where
  prog : Program
  w : World
  K : PySem.W.Frag
  mg : Str → Option Value
  base : Heap
  A : Around
  N : List Str
  s_0 : Shared
  H_0 : Hp
  env : Env
  outer : List Env
  stack : List Env
  ex : List Addr
  fn : Str → Bool
  calm : Bool
  pn : List (Addr × Obj)
  xe : Value → Shared → Prop
/-- the callers' frames -/
def frs (l : List Env) : List Addr := l.filterMap (·.frame)
abbrev Cx.fs (X : Cx) : List Addr := frs X.outer
def Vis (sc : Scope) (x : Str) : Prop := sc.names.lookup x = some .local ∨ sc.names.lookup x = some .cell ∨ sc.names.lookup x = some .free
def Loc (sc : Scope) (x : Str) : Prop := sc.names.lookup x = some .local ∨ sc.names.lookup x = some .cell
def Look (env : Env) (h : Heap) (m : Str → Option Value) (x : Str) (u : Value) : Prop :=
  (env.kindOf x = some .local ∧ m x = some u) ∨ ((env.kindOf x = some .cell ∨ env.kindOf x = some .free) ∧ ∃ c, env.cells.lookup x = some c ∧ h.IsCell c (some u))
structure Cx.Ok (X : Cx) : Prop where
  mod : Mod X.K X.mg X.base
  kind : X.env.scope.kind = .function
  glob : X.env.globals = mainGlobals
  blt : X.env.builtins = builtinsNs
  above : X.s_0.heap.objs.size ≤ X.env.locals
  inj : ∀ x y c, X.env.cells.lookup x = some c → X.env.cells.lookup y = some c → x = y
  has : ∀ x, (X.env.kindOf x = some .cell ∨ X.env.kindOf x = some .free) → ∃ c, X.env.cells.lookup x = some c
  cab : ∀ x c, X.fn x = true → X.env.cells.lookup x = some c → X.s_0.heap.objs.size ≤ c
  hd : X.calm = true → X.A.handled = none
  frames : X.A.frames = some X.stack
  stk : X.stack = X.outer ∨ (X.stack = X.env :: X.outer ∧ X.env.frame = some X.env.locals)
  exf : ∀ b ∈ X.ex, b ≠ X.env.locals ∧ ∀ x c, X.env.cells.lookup x = some c → c ≠ b
  bs : ∀ b o, X.base.get? b = some o → X.s_0.heap.get? b = some o ∧ X.H_0 b = none
  bsz : X.base.objs.size ≤ X.s_0.heap.objs.size
  noex : ∀ b o, X.base.get? b = some o → b ∉ X.ex
  exfs : ∀ b ∈ X.ex, b ∉ X.fs
  funs : X.s_0.heap.FunFrames X.base X.outer
  frf : ∀ b ∈ X.fs, X.H_0 b = none
structure Inv (X : Cx) (pins : List (Addr × Obj)) (σ : List (Option V)) (H : Hp) (s : Shared) : Prop where
  ok : X.Ok
  os : s.os = X.s_0.os
  bare : AllBare s.gens
  base : Un X.fs X.ex X.H_0 H X.s_0.heap s.heap
  loc : ∃ m, s.heap.Ns X.env.locals m ∧ ∀ (i : Nat) (x : Str) (v : V), X.N[i]? = some x → σ[i]? = some (some v) → Vis X.env.scope x → ∃ u, RelV v u ∧ Look X.env s.heap m x u
  cell : ∀ x c, X.env.cells.lookup x = some c → ∃ v, s.heap.IsCell c v
  free : H X.env.locals = none
  freeC : ∀ x c, X.env.cells.lookup x = some c → H c = none
  pin : ∀ p ∈ X.pn ++ pins, s.heap.get? p.1 = some p.2 ∧ H p.1 = none ∧ p.1 ≠ X.env.locals ∧ p.1 ∉ X.fs ∧ ∀ v, p.2.data ≠ .cell v
  hok : HOk X.prog X.w H s.heap
  len : σ.length = X.N.length
section
variable {X : Cx} {pins : List (Addr × Obj)} {σ : List (Option V)} {H H' : Hp} {s : Shared} {h' : Heap}
theorem Cx.Ok.nofr (ok : X.Ok) {b : Addr} {o : Obj} (e : X.base.get? b = some o) : b ∉ X.fs := fun hb => by
  have := (ok.funs.mem hb).1
  rw [e] at this; cases this
theorem Inv.bs (I : Inv X pins σ H s) : ∀ b o, X.base.get? b = some o → s.heap.get? b = some o ∧ H b = none := fun b o e =>
  ⟨I.base.keep b o (I.ok.bs b o e).1 (I.ok.bs b o e).2 (I.ok.nofr e) (I.ok.noex b o e), I.base.free b o (I.ok.bs b o e).1 (I.ok.bs b o e).2 (I.ok.noex b o e)⟩
theorem Inv.bk (I : Inv X pins σ H s) : ∀ b o, X.base.get? b = some o → s.heap.get? b = some o := fun b o e => (I.bs b o e).1
theorem Inv.mod (I : Inv X pins σ H s) : Mod X.K X.mg X.base := I.ok.mod
theorem Inv.kIn (I : Inv X pins σ H s) : X.K.In s.heap := I.ok.mod.kin.keeps I.bk
theorem Inv.lt (I : Inv X pins σ H s) : X.env.locals < s.heap.objs.size := let ⟨_, hn, _⟩ := I.loc; hn.lt
theorem Inv.sz (I : Inv X pins σ H s) : X.s_0.heap.objs.size ≤ s.heap.objs.size := Nat.le_trans I.ok.above (Nat.le_of_lt I.lt)
theorem Inv.nofs (I : Inv X pins σ H s) {a : Addr} (h : s.heap.objs.size ≤ a) : a ∉ X.fs := fun hb => by
  obtain ⟨_, o, ho, _⟩ := I.ok.funs.mem hb
  exact absurd (Nat.lt_of_lt_of_le (Heap.lt_size ho) (Nat.le_trans I.sz h)) (Nat.lt_irrefl _)
theorem Inv.cne (I : Inv X pins σ H s) : ∀ x c, X.env.cells.lookup x = some c → c ≠ X.env.locals := fun x c e z => by
  obtain ⟨v, o, ho, hd⟩ := I.cell x c e
  obtain ⟨m, ⟨o', es, ep, ho', hd', _⟩, _⟩ := I.loc
  rw [z, ho'] at ho; cases ho; rw [hd'] at hd; cases hd
theorem Inv.funs (I : Inv X pins σ H s) : s.heap.FunFrames X.base X.outer := by
  have all : ∀ (l : List Env), (∀ b ∈ frs l, b ∈ X.fs) → X.s_0.heap.FunFrames X.base l → s.heap.FunFrames X.base l := by
    intro l
    induction l with
    | nil => intro _ _; trivial
    | cons env r ih =>
      intro hs hl
      obtain ⟨hk, ⟨L, o, hf, hn, ho, hd⟩, hr⟩ := hl
      have hL : L ∈ X.fs := hs L (by unfold frs; rw [List.filterMap_cons, hf]; exact List.mem_cons_self)
      obtain ⟨sl, e⟩ := I.base.slot L o ho (I.ok.frf L hL) hL fun z => I.ok.exfs L z hL
      exact ⟨hk, ⟨L, _, hf, hn, e, hd⟩, ih (fun b hb => hs b (by unfold frs; rw [List.filterMap_cons, hf]; exact List.mem_cons_of_mem _ hb)) hr⟩
  exact all X.outer (fun _ hb => hb) I.ok.funs
/-- the frames that run, for a call -/
theorem Inv.stack (I : Inv X pins σ H s) : s.heap.FunFrames X.base X.stack := by
  rcases I.ok.stk with e | ⟨e, hf⟩
  · rw [e]; exact I.funs
  · rw [e]
    obtain ⟨m, hn, _⟩ := I.loc
    refine .cons (by rw [I.ok.kind]; decide) hf hn ?_ I.funs
    exact Heap.get?_none_of_le (Nat.le_trans I.ok.bsz I.ok.above)
theorem Inv.stkSub (I : Inv X pins σ H s) : ∀ b ∈ frs X.stack, b ∈ X.env.locals :: X.fs := fun b hb => by
  rcases I.ok.stk with e | ⟨e, hf⟩
  · rw [e] at hb; exact List.mem_cons_of_mem _ hb
  · rw [e] at hb
    unfold frs at hb
    rw [List.filterMap_cons, hf] at hb
    exact hb
theorem Inv.stkFree (I : Inv X pins σ H s) : ∀ b ∈ frs X.stack, H b = none := fun b hb => by
  rcases List.mem_cons.mp (I.stkSub b hb) with e | hb
  · rw [e]; exact I.free
  · obtain ⟨_, o, ho, _⟩ := I.ok.funs.mem hb
    exact I.base.free b o ho (I.ok.frf b hb) fun z => I.ok.exfs b z hb
/-- THE STEP: the untracked objects but the frame and the records at ch are kept (the callers' frames up to slots), the frame's map is kept, the new abstract heap is held -/
theorem Inv.step {g' : Array GenState} {t' : Nat} {d' : Drawn} {ch : List Addr} (I : Inv X pins σ H s)
    (hch : ∀ b ∈ ch, (b ∈ X.ex ∨ X.s_0.heap.objs.size ≤ b) ∧ b ≠ X.env.locals ∧ (∀ x c, X.env.cells.lookup x = some c → c ≠ b) ∧ ∀ p ∈ X.pn ++ pins, p.1 ≠ b)
    (keep : ∀ b o, b ≠ X.env.locals → b ∉ X.fs → b ∉ ch → s.heap.get? b = some o → H b = none → h'.get? b = some o)
    (slot : ∀ b o, b ≠ X.env.locals → b ∈ X.fs → b ∉ ch → s.heap.get? b = some o → H b = none → ∃ sl, h'.get? b = some { o with slots := sl }) (free : ∀ b o, b ∉ ch → s.heap.get? b = some o → H b = none → H' b = none)
    (there : ∀ b o, b ∉ ch → s.heap.get? b = some o → ∃ o', h'.get? b = some o')
    (tups : ∀ b xs, H b = some (.tup xs) → H' b = some (.tup xs)) (frzs : ∀ b o u, H b = some (.frz o u) → H' b = some (.frz o u)) (tbls : ∀ b ps, H b = some (.tbl ps) → ∃ more, H' b = some (.tbl (ps ++ more)))
    (ns : ∀ m, s.heap.Ns X.env.locals m → h'.Ns X.env.locals m) (hok : HOk X.prog X.w H' h') (hg : AllBare g') :
    Inv X pins σ H' { s with heap := h', gens := g', drawn := d', toks := t' } := by
  have neL : ∀ b o, X.s_0.heap.get? b = some o → b ≠ X.env.locals := fun b o e => Nat.ne_of_lt (Nat.lt_of_lt_of_le (Heap.lt_size e) I.ok.above)
  have neC : ∀ b o, X.s_0.heap.get? b = some o → b ∉ X.ex → b ∉ ch := fun b o e hx hb => by
    rcases (hch b hb).1 with z | z
    · exact hx z
    · exact absurd (Nat.lt_of_lt_of_le (Heap.lt_size e) z) (Nat.lt_irrefl _)
  have cellK : ∀ x c, X.env.cells.lookup x = some c → ∀ v, s.heap.IsCell c v → h'.IsCell c v := fun x c e v ⟨o, ho, hd⟩ => by
    have nch : c ∉ ch := fun z => (hch c z).2.2.1 x c e rfl
    by_cases hc : c ∈ X.fs
    · obtain ⟨sl, q⟩ := slot c o (I.cne x c e) hc nch ho (I.freeC x c e)
      exact ⟨_, q, hd⟩
    · exact ⟨o, keep c o (I.cne x c e) hc nch ho (I.freeC x c e), hd⟩
  refine ⟨I.ok, I.os, hg, ⟨fun b o e n hb hx => ?_, fun b o e n hb hx => ?_, fun b o e n hx => ?_, fun b o e hx => ?_, fun b xs e => tups b xs (I.base.tups b xs e), fun b o xs e => frzs b o xs (I.base.frzs b o xs e), fun b ps e => ?_⟩, ?_, fun x c e => ?_, ?_, fun x c e => ?_, fun p hp => ?_, hok, I.len⟩
  · exact keep b o (neL b o e) hb (neC b o e hx) (I.base.keep b o e n hb hx) (I.base.free b o e n hx)
  · obtain ⟨sl, e1⟩ := I.base.slot b o e n hb hx
    obtain ⟨sl', e2⟩ := slot b _ (neL b o e) hb (neC b o e hx) e1 (I.base.free b o e n hx)
    exact ⟨sl', e2⟩
  · obtain ⟨o', e1⟩ := I.base.there b o e hx
    exact free b o' (neC b o e hx) e1 (I.base.free b o e n hx)
  · obtain ⟨o', e1⟩ := I.base.there b o e hx
    exact there b o' (neC b o e hx) e1
  · obtain ⟨m1, e1⟩ := I.base.tbls b ps e
    obtain ⟨m2, e2⟩ := tbls b _ e1
    exact ⟨m1 ++ m2, by rw [e2, Array.append_assoc]⟩
  · obtain ⟨m, hn, hl⟩ := I.loc
    refine ⟨m, ns m hn, fun i x v e1 e2 e3 => ?_⟩
    obtain ⟨u, r, l⟩ := hl i x v e1 e2 e3
    refine ⟨u, r, ?_⟩
    rcases l with l | ⟨k, c, e, z⟩
    · exact .inl l
    · exact .inr ⟨k, c, e, cellK x c e _ z⟩
  · obtain ⟨v, z⟩ := I.cell x c e
    exact ⟨v, cellK x c e v z⟩
  · obtain ⟨m, ⟨o, _, _, ho, _⟩, _⟩ := I.loc
    exact free _ o (fun z => (hch _ z).2.1 rfl) ho I.free
  · obtain ⟨v, o, ho, hd⟩ := I.cell x c e
    exact free c o (fun z => (hch c z).2.2.1 x c e rfl) ho (I.freeC x c e)
  · obtain ⟨e, n, ne, nf, d⟩ := I.pin p hp
    have nch : p.1 ∉ ch := fun z => (hch p.1 z).2.2.2 p hp rfl
    exact ⟨keep p.1 p.2 ne nf nch e n, free p.1 p.2 nch e n, ne, nf, d⟩
/-- .. where the frame's own object is kept too -/
theorem Inv.un {t' : Nat} (I : Inv X pins σ H s) (u : Un X.fs [] H H' s.heap h') (hok : HOk X.prog X.w H' h') : Inv X pins σ H' { s with heap := h', toks := t' } := by
  obtain ⟨m, ⟨o, es, ep, ho, r⟩, _⟩ := id I.loc
  obtain ⟨sl, hL⟩ := u.any ho I.free (by simp)
  exact I.step (g' := s.gens) (d' := s.drawn) (ch := []) (fun _ z => nomatch z) (fun b o _ hb _ e n => u.keep b o e n hb (by simp)) (fun b o _ hb _ e n => u.slot b o e n hb (by simp)) (fun b o _ e n => u.free b o e n (by simp)) (fun b o _ e => u.there b o e (by simp)) u.tups u.frzs u.tbls (fun m' hm => by
    obtain ⟨o', es', ep', ho', r'⟩ := hm
    rw [ho] at ho'; cases ho'
    exact ⟨_, es', ep', hL, r'⟩) hok I.bare
/-- behind a call (or a comprehension's block): the slots of this frame may have changed too, the records at ch may have turned -/
theorem Inv.call {g' : Array GenState} {t' : Nat} {d' : Drawn} {ch : List Addr} (I : Inv X pins σ H s) (u : Un (frs X.stack) ch H H' s.heap h') (hok : HOk X.prog X.w H' h') (hg : AllBare g')
    (hch : ∀ b ∈ ch, (b ∈ X.ex ∨ X.s_0.heap.objs.size ≤ b) ∧ b ≠ X.env.locals ∧ (∀ x c, X.env.cells.lookup x = some c → c ≠ b) ∧ ∀ p ∈ X.pn ++ pins, p.1 ≠ b) :
    Inv X pins σ H' { s with heap := h', gens := g', drawn := d', toks := t' } := by
  obtain ⟨m, ⟨o, es, ep, ho, r⟩, _⟩ := id I.loc
  obtain ⟨sl, hL⟩ := u.any ho I.free fun z => (hch _ z).2.1 rfl
  exact I.step (ch := ch) hch (fun b o hL hb hc e n => u.keep b o e n (fun z => (List.mem_cons.mp (I.stkSub b z)).elim hL hb) hc) (fun b o _ _ hc e n => u.any e n hc) (fun b o hc e n => u.free b o e n hc) (fun b o hc e => u.there b o e hc) u.tups u.frzs u.tbls (fun m' hm => by
    obtain ⟨o', es', ep', ho', r'⟩ := hm
    rw [ho] at ho'; cases ho'
    exact ⟨_, es', ep', hL, r'⟩) hok hg
/-- an untracked record of ours (an iterator) has turned -/
theorem Inv.turned {t' : Nat} {it : Addr} (I : Inv X pins σ H s) (k : ∀ b o, b ≠ it → s.heap.get? b = some o → h'.get? b = some o) (hn : H it = none) (hL : it ≠ X.env.locals)
    (h1 : it ∈ X.ex ∨ X.s_0.heap.objs.size ≤ it) (h2 : ∀ x c, X.env.cells.lookup x = some c → c ≠ it) (h3 : ∀ p ∈ X.pn ++ pins, p.1 ≠ it) : Inv X pins σ H { s with heap := h', toks := t' } := by
  have nit : ∀ b u, H b = some u → b ≠ it := fun b u e z => by rw [z, hn] at e; cases e
  refine I.step (g' := s.gens) (d' := s.drawn) (ch := [it]) (fun b hb => ?_) (fun b o _ _ hc e _ => k b o (fun z => hc (by simp [z])) e) (fun b o _ _ hc e _ => ⟨o.slots, k b o (fun z => hc (by simp [z])) e⟩) (fun _ _ _ _ n => n)
    (fun b o hc e => ⟨o, k b o (fun z => hc (by simp [z])) e⟩) (fun _ _ e => e) (fun _ _ _ e => e) (fun b ps e => ⟨#[], by rw [e]; simp⟩) (fun m hm => ?_) (fun b u e => ?_) I.bare
  · have e : b = it := by simpa using hb
    subst e
    exact ⟨h1, hL, h2, h3⟩
  · obtain ⟨o, es, ep, ho, r⟩ := hm
    exact ⟨o, es, ep, k _ o (Ne.symm hL) ho, r⟩
  · refine (I.hok b u e).stay (fun c v hc q => k c v ?_ q) (fun _ q => q) fun _ _ q => q
    rcases hc with z | z
    · rw [z]; exact nit b u e
    · exact nit c _ z
theorem Inv.tok (I : Inv X pins σ H s) (t : Nat) : Inv X pins σ H { s with toks := t } := I.un (h' := s.heap) (t' := t) Un.refl I.hok
/-- all objects kept -/
theorem Inv.kept {t' : Nat} (I : Inv X pins σ H s) (k : ∀ b u, s.heap.get? b = some u → h'.get? b = some u) : Inv X pins σ H { s with heap := h', toks := t' } := I.un (Un.kept k) (I.hok.kept k)
/-- a new object laid and tracked -/
theorem Inv.laid {a : Addr} {o : HO} {t' : Nat} (I : Inv X pins σ H s) (k : ∀ b u, s.heap.get? b = some u → h'.get? b = some u) (hp : s.heap.objs.size ≤ a) (new : ObjOk X.prog X.w (upd H a o) h' a o) :
    Inv X pins σ (upd H a o) { s with heap := h', toks := t' } := I.un (Un.laid k hp (I.hok.fresh hp)) (I.hok.laid k hp new)
/-- an object written -/
theorem Inv.write {x e : Addr} {o : HO} {t' : Nat} (I : Inv X pins σ H s) (mu : Mut (H x)) (he : e = x ∨ H e = some (.own x)) (k : ∀ b u, b ≠ e → s.heap.get? b = some u → h'.get? b = some u) (heo : ∃ u, h'.get? e = some u)
    (new : ObjOk X.prog X.w (upd H x o) h' x o) : Inv X pins σ (upd H x o) { s with heap := h', toks := t' } := I.un (Un.write mu he k heo) (I.hok.write mu he k heo new)
/-- forgetting slots, pins -/
theorem Inv.weak {σ' : List (Option V)} (I : Inv X pins σ H s) (hl : σ'.length = σ.length) (w : ∀ (i : Nat) v, σ'[i]? = some (some v) → σ[i]? = some (some v)) : Inv X pins σ' H s :=
  ⟨I.ok, I.os, I.bare, I.base, let ⟨m, hn, hl'⟩ := I.loc; ⟨m, hn, fun i x v e1 e2 e3 => hl' i x v e1 (w i v e2) e3⟩, I.cell, I.free, I.freeC, I.pin, I.hok, hl.trans I.len⟩
theorem Inv.pins_of {pins' : List (Addr × Obj)} (I : Inv X pins σ H s) (h : ∀ p ∈ pins', s.heap.get? p.1 = some p.2 ∧ H p.1 = none ∧ p.1 ≠ X.env.locals ∧ p.1 ∉ X.fs ∧ ∀ v, p.2.data ≠ .cell v) : Inv X pins' σ H s :=
  ⟨I.ok, I.os, I.bare, I.base, I.loc, I.cell, I.free, I.freeC, fun p hp => (List.mem_append.mp hp).elim (fun z => I.pin p (List.mem_append_left _ z)) (h p), I.hok, I.len⟩
theorem nodup_ix {N : List Str} (hN : N.Nodup) {i j : Nat} {x : Str} (a : N[i]? = some x) (b : N[j]? = some x) : i = j := by
  obtain ⟨h1, e1⟩ := List.getElem?_eq_some_iff.mp a
  obtain ⟨h2, e2⟩ := List.getElem?_eq_some_iff.mp b
  exact (List.getElem_inj hN).mp (e1.trans e2.symm)
/-- a name is stored; what changed -/
theorem store_ok2 {M : Model} {A : Around} {E : Value → Shared → Prop} {i : Nat} {x : Str} {v : V} {u : Value} {Q : Unit → Shared → Prop} (I : Inv X pins σ H s) (hN : X.N.Nodup) (hi : X.N[i]? = some x) (hx : Loc X.env.scope x) (r : RelV v u)
    (h : ∀ s', Inv X pins (σ.set i (some v)) H s' → (∃ a, Heap.SameBut a s.heap s'.heap ∧ (a = X.env.locals ∨ X.env.cells.lookup x = some a)) → Q () s') (hf : X.fn x = true ∨ X.env.scope.names.lookup x = some .local := by first | exact .inl rfl | exact .inr rfl | assumption) : wpAny M A (storeName X.env x u) Q E s := by
  obtain ⟨m, hn, hl⟩ := id I.loc
  have hcls : (X.env.scope.kind == .class || (X.env.scope.kind == .module && X.env.locals != X.env.globals)) = false := by rw [I.ok.kind]; rfl
  have hiσ : i < σ.length := by rw [I.len]; exact (List.getElem?_eq_some_iff.mp hi).1
  have cne := I.cne
  have tracked : ∀ {a : Addr} {h' : Heap}, (∃ o, s.heap.get? a = some o ∧ H a = none) → Heap.SameBut a s.heap h' → HOk X.prog X.w H h' := fun {a h'} ha hs b ob e => by
    obtain ⟨_, _, hfree⟩ := ha
    refine (I.hok b ob e).stay (fun c w' hc q => (hs.2 c ?_).trans q) (fun _ q => q) fun _ _ q => q
    rintro rfl
    rcases hc with rfl | hc
    · rw [hfree] at e; cases e
    · rw [hfree] at hc; cases hc
  rcases hx with hk | hk
  · refine wpAny_storeName_local hk hn (fun h' hn' hs => ?_) hcls
    obtain ⟨oL, _, _, hoL, _⟩ := id hn
    refine h _ ⟨I.ok, I.os, I.bare, ⟨fun b o e n hb hx => ?_, fun b o e n hb hx => ?_, I.base.free, fun b o e hx => ?_, I.base.tups, I.base.frzs, I.base.tbls⟩, ⟨_, hn', fun j y v' e1 e2 e3 => ?_⟩, fun y c e => ?_, I.free, I.freeC, fun p hp => ?_, tracked ⟨oL, hoL, I.free⟩ hs, by simpa using I.len⟩ ⟨_, hs, .inl rfl⟩
    · exact (hs.2 b (Nat.ne_of_lt (Nat.lt_of_lt_of_le (Heap.lt_size e) I.ok.above))).trans (I.base.keep b o e n hb hx)
    · obtain ⟨sl, e1⟩ := I.base.slot b o e n hb hx
      exact ⟨sl, (hs.2 b (Nat.ne_of_lt (Nat.lt_of_lt_of_le (Heap.lt_size e) I.ok.above))).trans e1⟩
    · obtain ⟨o', e1⟩ := I.base.there b o e hx
      exact ⟨o', (hs.2 b (Nat.ne_of_lt (Nat.lt_of_lt_of_le (Heap.lt_size e) I.ok.above))).trans e1⟩
    · by_cases hj : j = i
      · subst hj
        rw [hi] at e1; cases e1
        rw [List.getElem?_set_self hiσ] at e2
        cases e2
        exact ⟨u, r, .inl ⟨hk, by simp⟩⟩
      · rw [List.getElem?_set_ne (Ne.symm hj)] at e2
        obtain ⟨u', r', q⟩ := hl j y v' e1 e2 e3
        refine ⟨u', r', ?_⟩
        rcases q with ⟨k, e⟩ | ⟨k, c, e, z⟩
        · refine .inl ⟨k, ?_⟩
          have : y ≠ x := fun e => hj (nodup_ix hN e1 (e ▸ hi))
          simp [this, e]
        · exact .inr ⟨k, c, e, z.sameBut hs (cne y c e)⟩
    · obtain ⟨w', z⟩ := I.cell y c e
      exact ⟨w', z.sameBut hs (cne y c e)⟩
    · obtain ⟨e, n, ne, nf, d⟩ := I.pin p hp
      exact ⟨(hs.2 p.1 ne).trans e, n, ne, nf, d⟩
  · have hfn : X.fn x = true := by
      rcases hf with z | z
      · exact z
      · rw [z] at hk; cases hk
    obtain ⟨c, hc⟩ := I.ok.has x (.inl hk)
    obtain ⟨w', z⟩ := I.cell x c hc
    refine wpAny_storeName_cell I.ok.kind hk hc z (fun h' hc' hs => ?_)
    obtain ⟨oc, hoc, hocd⟩ := id z
    refine h { s with heap := h' } ⟨I.ok, I.os, I.bare, ⟨fun b o e n hb hx => ?_, fun b o e n hb hx => ?_, I.base.free, fun b o e hx => ?_, I.base.tups, I.base.frzs, I.base.tbls⟩, ⟨m, hn.sameBut hs (Ne.symm (cne x c hc)), fun j y v' e1 e2 e3 => ?_⟩, fun y c' e => ?_, I.free, I.freeC, fun p hp => ?_, tracked ⟨oc, hoc, I.freeC x c hc⟩ hs, by simpa using I.len⟩ ⟨c, hs, .inr hc⟩
    · exact (hs.2 b (Nat.ne_of_lt (Nat.lt_of_lt_of_le (Heap.lt_size e) (I.ok.cab x c hfn hc)))).trans (I.base.keep b o e n hb hx)
    · obtain ⟨sl, e1⟩ := I.base.slot b o e n hb hx
      exact ⟨sl, (hs.2 b (Nat.ne_of_lt (Nat.lt_of_lt_of_le (Heap.lt_size e) (I.ok.cab x c hfn hc)))).trans e1⟩
    · obtain ⟨o', e1⟩ := I.base.there b o e hx
      exact ⟨o', (hs.2 b (Nat.ne_of_lt (Nat.lt_of_lt_of_le (Heap.lt_size e) (I.ok.cab x c hfn hc)))).trans e1⟩
    · by_cases hj : j = i
      · subst hj
        rw [hi] at e1; cases e1
        rw [List.getElem?_set_self hiσ] at e2
        cases e2
        exact ⟨u, r, .inr ⟨.inl hk, c, hc, hc'⟩⟩
      · rw [List.getElem?_set_ne (Ne.symm hj)] at e2
        obtain ⟨u', r', q⟩ := hl j y v' e1 e2 e3
        refine ⟨u', r', ?_⟩
        rcases q with q | ⟨k, c', e, z'⟩
        · exact .inl q
        · refine .inr ⟨k, c', e, z'.sameBut hs ?_⟩
          rintro rfl
          exact hj (nodup_ix hN e1 (I.ok.inj _ _ _ e hc ▸ hi))
    · by_cases hcc : c' = c
      · subst hcc; exact ⟨_, hc'⟩
      · obtain ⟨w2, z2⟩ := I.cell y c' e
        exact ⟨w2, z2.sameBut hs hcc⟩
    · obtain ⟨e, n, ne, nf, d⟩ := I.pin p hp
      refine ⟨(hs.2 p.1 ?_).trans e, n, ne, nf, d⟩
      intro q
      rw [q, hoc] at e
      have q' : oc = p.2 := Option.some.inj e
      exact d w' (by rw [← q']; exact hocd)
theorem store_ok {M : Model} {A : Around} {E : Value → Shared → Prop} {i : Nat} {x : Str} {v : V} {u : Value} {Q : Unit → Shared → Prop} (I : Inv X pins σ H s) (hN : X.N.Nodup) (hi : X.N[i]? = some x) (hx : Loc X.env.scope x) (r : RelV v u)
    (h : ∀ s', Inv X pins (σ.set i (some v)) H s' → Q () s') (hf : X.fn x = true ∨ X.env.scope.names.lookup x = some .local := by first | exact .inl rfl | exact .inr rfl | assumption) : wpAny M A (storeName X.env x u) Q E s :=
  store_ok2 I hN hi hx r (fun s' I' _ => h s' I') hf
/-- behind a call or a block, the state as it is -/
theorem Inv.call' {s' : Shared} {ch : List Addr} (I : Inv X pins σ H s) (ho : s'.os = s.os) (u : Un (frs X.stack) ch H H' s.heap s'.heap) (hok : HOk X.prog X.w H' s'.heap) (hg : AllBare s'.gens)
    (hch : ∀ b ∈ ch, (b ∈ X.ex ∨ X.s_0.heap.objs.size ≤ b) ∧ b ≠ X.env.locals ∧ (∀ x c, X.env.cells.lookup x = some c → c ≠ b) ∧ ∀ p ∈ X.pn ++ pins, p.1 ≠ b) : Inv X pins σ H' s' := by
  obtain ⟨h', g', d', t', o'⟩ := s'
  have e : o' = s.os := ho
  subst e
  exact I.call (g' := g') (t' := t') (d' := d') u hok hg hch
end
/-- an exception: its class, its own dict's address (where it has one), the abstract heap behind it -/
abbrev XK := Value → Option Addr → Hp → Prop
abbrev St := List (Option V)
abbrev VK := V → Hp → Prop
/-- an expression's reading; a test's; an argument list's -/
abbrev TE := St → Hp → VK → Prop
abbrev TT := St → Hp → (Bool → Hp → Prop) → Prop
abbrev TA := St → Hp → (List V → Hp → Prop) → Prop
/-- what is wanted behind a statement -/
structure Ends where
  nx : St → Hp → Prop
  rt : VK
  bk : St → Hp → Prop := fun _ _ => False
  ct : St → Hp → Prop := fun _ _ => False
abbrev TS := Ends → St → Hp → Prop
def EP (X : Cx) (pins : List (Addr × Obj)) (σ : St) (Q : VK) (u : Value) (s' : Shared) : Prop := ∃ v H', Inv X pins σ H' s' ∧ RelV v u ∧ Q v H'
def TP (X : Cx) (pins : List (Addr × Obj)) (σ : St) (Q : Bool → Hp → Prop) (b : Bool) (s' : Shared) : Prop := ∃ H', Inv X pins σ H' s' ∧ Q b H'
def AP (X : Cx) (pins : List (Addr × Obj)) (σ : St) (Q : List V → Hp → Prop) (us : List Value) (s' : Shared) : Prop := ∃ vs H', Inv X pins σ H' s' ∧ Vals vs us ∧ Q vs H'
def SP (X : Cx) (pins : List (Addr × Obj)) (D : Ends) (f : Flow) (s' : Shared) : Prop :=
  match f with
  | .next => ∃ σ' H', Inv X pins σ' H' s' ∧ D.nx σ' H'
  | .brk => ∃ σ' H', Inv X pins σ' H' s' ∧ D.bk σ' H'
  | .cont => ∃ σ' H', Inv X pins σ' H' s' ∧ D.ct σ' H'
  | .ret u => ∃ v σ' H', Inv X pins σ' H' s' ∧ RelV v u ∧ D.rt v H'
def PE (X : Cx) (e : Expr) (t : TE) : Prop :=
  ∀ (pins : List (Addr × Obj)) (s : Shared) (σ : St) (H : Hp) (Q : VK), Inv X pins σ H s → t σ H Q → wpAny (model X.prog X.w) X.A (eval e X.env) (EP X pins σ Q) X.xe s
def PT (X : Cx) (e : Expr) (t : TT) : Prop :=
  ∀ (pins : List (Addr × Obj)) (s : Shared) (σ : St) (H : Hp) (Q : Bool → Hp → Prop), Inv X pins σ H s → t σ H Q → wpAny (model X.prog X.w) X.A (isTrue e X.env (eval e X.env)) (TP X pins σ Q) X.xe s
/-- a test whatever its 'whole' is (and, or) -/
def PW (X : Cx) (e : Expr) (t : TT) : Prop :=
  ∀ (whole : Sem Value) (pins : List (Addr × Obj)) (s : Shared) (σ : St) (H : Hp) (Q : Bool → Hp → Prop), Inv X pins σ H s → t σ H Q → wpAny (model X.prog X.w) X.A (isTrue e X.env whole) (TP X pins σ Q) X.xe s
theorem PW.pt {X : Cx} {e : Expr} {t : TT} (h : PW X e t) : PT X e t := h _
/-- an argument list (no star), from the left -/
def PA (X : Cx) (es : List Expr) (t : TA) : Prop :=
  ∀ (pos : Pos) (pins : List (Addr × Obj)) (s : Shared) (σ : St) (H : Hp) (Q : List V → Hp → Prop), Inv X pins σ H s → t σ H Q → wpAny (model X.prog X.w) X.A (spliced (backTo pos (starEach es X.env))) (AP X pins σ Q) X.xe s
def PS (X : Cx) (st : Stmt) (t : TS) : Prop :=
  ∀ (pins : List (Addr × Obj)) (s : Shared) (σ : St) (H : Hp) (D : Ends), Inv X pins σ H s → t D σ H → wpAny (model X.prog X.w) X.A (exec st X.env) (SP X pins D) X.xe s
def PSs (X : Cx) (st : List Stmt) (t : TS) : Prop :=
  ∀ (pins : List (Addr × Obj)) (s : Shared) (σ : St) (H : Hp) (D : Ends), Inv X pins σ H s → t D σ H → wpAny (model X.prog X.w) X.A (execs st X.env) (SP X pins D) X.xe s
/-- weaken the end -/
theorem thn {α : Type} {t : Sem α} {Q Q' : α → Shared → Prop} {M : Model} {A : Around} {E : Value → Shared → Prop} {s : Shared} (h : wpAny M A t Q E s) (hQ : ∀ a s, Q a s → Q' a s) : wpAny M A t Q' E s := wpAny_mono h hQ fun _ _ x => x
end L2
namespace L2
open PySem PySem.Spec PyProof.Rows
section
variable {X : Cx}
def tVar (i : Nat) : TE := fun σ H Q => ∃ v, σ[i]? = some (some v) ∧ Q v H
def tC (v : V) : TE := fun _ H Q => Q v H
theorem pe_var {i : Nat} {x : Str} {pos : Pos} (hN : X.N[i]? = some x) (hv : Vis X.env.scope x) (hd : (x == ("__debug__" : Str)) = false := by decide) (hcd : (x == ("__classdict__" : Str)) = false := by decide) : PE X (.Name x pos) (tVar i) := by
  intro pins s σ H Q I h
  obtain ⟨v, e, h⟩ := h
  obtain ⟨m, hn, hl⟩ := I.loc
  obtain ⟨u, r, l⟩ := hl i x v hN e hv
  have fin : EP X pins σ Q u s := ⟨v, H, I, r, h⟩
  rcases l with ⟨hk, hm⟩ | ⟨hk, c, hc, hcell⟩
  · exact wpAny_Name (wpAny_loadName_local I.ok.kind hk hn hm fin) hd
  · rcases hk with hk | hk
    · exact wpAny_Name (wpAny_loadName_cell I.ok.kind hk hc hcell fin) hd
    · exact wpAny_Name (wpAny_loadName_free I.ok.kind hk hc hcell fin hcd) hd
theorem pe_int {i j pos} : PE X (.Constant (.int i) j pos) (tC (.int i)) := fun _ _ _ H _ I h => wpAny_Constant_int ⟨.int i, H, I.tok _, ⟨_, rfl⟩, h⟩
theorem pe_non {j pos} : PE X (.Constant .none j pos) (tC .non) := fun _ _ _ H _ I h => Constant_none ⟨.non, H, I, rfl, h⟩
/-- a global name of the def -/
def Gl (X : Cx) (x : Str) : Prop := X.env.kindOf x = some .globalImplicit
theorem ld_glob {E : Value → Shared → Prop} {pins : List (Addr × Obj)} {s : Shared} {σ : St} {H : Hp} {x : Str} {u : Value} {pos : Pos} {Q : Value → Shared → Prop} (I : Inv X pins σ H s) (hg : Gl X x) (hm : X.mg x = some u) (h : Q u s)
    (hd : (x == ("__debug__" : Str)) = false := by decide) : wpAny (model X.prog X.w) X.A (eval (.Name x pos) X.env) Q E s :=
  Calls.Name_function_global I.ok.kind hg (Calls.loadGlobal_global (by rw [I.ok.glob]; exact I.mod.glob.keeps I.bk) hm h) hd
theorem ld_blt {E : Value → Shared → Prop} {pins : List (Addr × Obj)} {s : Shared} {σ : St} {H : Hp} {x : Str} {u : Value} {pos : Pos} {Q : Value → Shared → Prop} (I : Inv X pins σ H s) (hg : Gl X x) (hm : X.mg x = none) (hv : bootBuiltins x = some u) (h : Q u s)
    (hn : x ≠ "__name__" := by decide) (hd : (x == ("__debug__" : Str)) = false := by decide) : wpAny (model X.prog X.w) X.A (eval (.Name x pos) X.env) Q E s := by
  obtain ⟨mb, h1, h2⟩ := I.mod.blt
  exact Calls.Name_function_global I.ok.kind hg (Calls.loadGlobal_builtin (by rw [I.ok.glob]; exact I.mod.glob.keeps I.bk) hm (by rw [I.ok.blt]; exact h1.keeps I.bk) ((h2 x hn).trans hv) h) hd
/-- a module's constant, a class, a function, as a value -/
theorem pe_glob {x : Str} {v : V} {u : Value} {pos : Pos} (hg : Gl X x) (hm : X.mg x = some u) (r : RelV v u) (hd : (x == ("__debug__" : Str)) = false := by decide) : PE X (.Name x pos) (tC v) :=
  fun _ _ _ H _ I h => ld_glob I hg hm ⟨v, H, I, r, h⟩ hd
variable {a b : Expr} {ta tb : TE} {pos : Pos}
/-- a comparison as a value, as a test -/
def tB (t : TE) : TT := fun σ H Q => t σ H fun x H1 => ∃ c, x = .bl c ∧ Q c H1
/-- an expression whose value is a bool, as a test -/
theorem pt_val {e : Expr} {t : TE} (h : PE X e t) (he : ∀ whole, isTrue e X.env whole = (do let v ← whole; standAt e.pos; holding [v] (truthy v)) := by intro _; rfl) : PT X e (tB t) := by
  intro pins s σ H Q I hw
  refine isTrue_plain (thn (h pins s σ H _ I hw) fun v s1 ⟨x, H1, I1, r1, q1⟩ => ?_) (he _)
  obtain ⟨d, rfl, q⟩ := q1
  cases r1
  exact wpAny_truthy_bool ⟨H1, I1, q⟩
variable {tA tB' : TT} {rest : List Expr}
def tAnd (t u : TT) : TT := fun σ H Q => t σ H fun c H1 => if c = true then u σ H1 Q else Q false H1
def tOr (t u : TT) : TT := fun σ H Q => t σ H fun c H1 => if c = true then Q true H1 else u σ H1 Q
def tNot (t : TT) : TT := fun σ H Q => t σ H fun c H1 => Q (!c) H1
theorem pw_and1 (ha : PT X a tA) : PW X (.BoolOp .And [a] pos) tA := by
  intro wh pins s σ H Q I h
  refine isTrue_and (thn (ha pins s σ H Q I h) fun c s1 e => ?_)
  cases c with
  | true => exact isTrue_and_nil e
  | false => exact e
theorem pw_or1 (ha : PT X a tA) : PW X (.BoolOp .Or [a] pos) tA := by
  intro wh pins s σ H Q I h
  refine isTrue_or (thn (ha pins s σ H Q I h) fun c s1 e => ?_)
  cases c with
  | false => exact isTrue_or_nil e
  | true => exact e
theorem pw_and (ha : PT X a tA) (hb : PW X (.BoolOp .And (b :: rest) pos) tB') : PW X (.BoolOp .And (a :: b :: rest) pos) (tAnd tA tB') := by
  intro wh pins s σ H Q I h
  refine isTrue_and (thn (ha pins s σ H _ I h) fun c s1 ⟨H1, I1, q1⟩ => ?_)
  cases c with
  | true => exact hb wh pins s1 σ H1 Q I1 q1
  | false => exact ⟨H1, I1, q1⟩
theorem pw_or (ha : PT X a tA) (hb : PW X (.BoolOp .Or (b :: rest) pos) tB') : PW X (.BoolOp .Or (a :: b :: rest) pos) (tOr tA tB') := by
  intro wh pins s σ H Q I h
  refine isTrue_or (thn (ha pins s σ H _ I h) fun c s1 ⟨H1, I1, q1⟩ => ?_)
  cases c with
  | true => exact ⟨H1, I1, q1⟩
  | false => exact hb wh pins s1 σ H1 Q I1 q1
theorem pt_not (ha : PT X a tA) : PT X (.UnaryOp .Not a pos) (tNot tA) := by
  intro pins s σ H Q I h
  exact isTrue_not (ha pins s σ H (fun c H1 => Q (!c) H1) I h)
/-- .. as values (bools) -/
def tAndV (ta tb : TE) : TE := fun σ H Q => ta σ H fun x H1 => ∃ c, x = .bl c ∧ if c = true then tb σ H1 Q else Q (.bl false) H1
def tOrV (ta tb : TE) : TE := fun σ H Q => ta σ H fun x H1 => ∃ c, x = .bl c ∧ if c = true then Q (.bl true) H1 else tb σ H1 Q
def tNotV (ta : TE) : TE := fun σ H Q => ta σ H fun x H1 => ∃ c, x = .bl c ∧ Q (.bl (!c)) H1
theorem pe_one {op} {t : TE} (h : PE X a t) : PE X (.BoolOp op [a] pos) t := fun pins s σ H Q I hw => BoolOp_one (h pins s σ H Q I hw)
theorem pe_and (ha : PE X a ta) (hb : PE X (.BoolOp .And (b :: rest) pos) tb) : PE X (.BoolOp .And (a :: b :: rest) pos) (tAndV ta tb) := by
  intro pins s σ H Q I h
  refine BoolOp_and (thn (ha pins s σ H _ I h) fun v s1 ⟨x, H1, I1, r1, q1⟩ => ?_)
  obtain ⟨c, rfl, q1⟩ := q1
  cases r1
  refine wpAny_truthy_bool ?_
  cases c with
  | true => exact hb pins s1 σ H1 Q I1 q1
  | false => exact ⟨.bl false, H1, I1, rfl, q1⟩
theorem pe_or (ha : PE X a ta) (hb : PE X (.BoolOp .Or (b :: rest) pos) tb) : PE X (.BoolOp .Or (a :: b :: rest) pos) (tOrV ta tb) := by
  intro pins s σ H Q I h
  refine BoolOp_or (thn (ha pins s σ H _ I h) fun v s1 ⟨x, H1, I1, r1, q1⟩ => ?_)
  obtain ⟨c, rfl, q1⟩ := q1
  cases r1
  refine wpAny_truthy_bool ?_
  cases c with
  | false => exact hb pins s1 σ H1 Q I1 q1
  | true => exact ⟨.bl true, H1, I1, rfl, q1⟩
theorem pe_not (ha : PE X a ta) : PE X (.UnaryOp .Not a pos) (tNotV ta) := by
  intro pins s σ H Q I h
  refine UnaryOp_ (thn (ha pins s σ H _ I h) fun v s1 ⟨x, H1, I1, r1, q1⟩ => ?_)
  obtain ⟨c, rfl, q1⟩ := q1
  cases r1
  exact not_of (wpAny_truthy_bool ⟨.bl (!c), H1, I1, rfl, q1⟩)
/-- a if t else b -/
def tIf (t : TT) (ta tb : TE) : TE := fun σ H Q => t σ H fun c H1 => if c = true then ta σ H1 Q else tb σ H1 Q
theorem pe_ifExp {c : Expr} (hc : PT X c tA) (ha : PE X a ta) (hb : PE X b tb) : PE X (.IfExp c a b pos) (tIf tA ta tb) := by
  intro pins s σ H Q I h
  refine wpAny_IfExp (thn (hc pins s σ H _ I h) fun d s1 ⟨H1, I1, q1⟩ => ?_)
  cases d with
  | true => exact ha pins s1 σ H1 Q I1 q1
  | false => exact hb pins s1 σ H1 Q I1 q1
end
end L2
namespace L2
open PySem PySem.Spec PyProof.Rows
def SqL (K : PySem.W.Frag) (H : Hp) (a : Addr) (xs : List V) : Prop :=
  Rd H a (.lst xs) ∨
    ∃ (o : Obj) (its : Array Value) (n : Nat), K.lookup a = some o ∧ o.cls = .type "list" ∧ o.dict = none ∧ o.data = .seq its n ∧ its.size ≤ sizeLine ∧ Vals xs its.toList
def SqT (K : PySem.W.Frag) (H : Hp) (a : Addr) (xs : List V) : Prop :=
  Rd H a (.tup xs) ∨
    ∃ (o : Obj) (its : Array Value) (n : Nat), K.lookup a = some o ∧ o.cls = .type "tuple" ∧ o.data = .seq its n ∧ its.size ≤ sizeLine ∧ Vals xs its.toList
def absV : Value → Option V
  | .none => some .non
  | .bool b => some (.bl b)
  | .int i _ => some (.int i)
  | .str x _ => some (.str x)
  | .bytes b _ => some (.byt b)
  | .float b _ => some (.flt b)
  | .ref a => some (.ref a)
  | .type n => some (.ty n)
  | _ => none
theorem RelV.abs {x : V} {u : Value} (r : RelV x u) : absV u = some x := by
  cases x with
  | non => cases r; rfl
  | bl _ => cases r; rfl
  | int _ => obtain ⟨t, rfl⟩ := r; rfl
  | str _ => obtain ⟨t, rfl⟩ := r; rfl
  | byt _ => obtain ⟨t, rfl⟩ := r; rfl
  | flt _ => obtain ⟨t, rfl⟩ := r; rfl
  | ref _ => cases r; rfl
  | ty _ => cases r; rfl
theorem RelV.inj {x y : V} {u : Value} (r : RelV x u) (q : RelV y u) : x = y := Option.some.inj (r.abs.symm.trans q.abs)
theorem Vals.inj : ∀ {xs ys : List V} {us : List Value}, Vals xs us → Vals ys us → xs = ys
  | _, _, _, .nil, .nil => rfl
  | _, _, _, .cons r t, .cons r' t' => by rw [r.inj r', Vals.inj t t']
section
variable {X : Cx} {pins : List (Addr × Obj)} {σ : St} {H : Hp} {s : Shared} {a : Addr} {xs ys : List V}
theorem SqL.of {K : PySem.W.Frag} (h : H a = some (.lst xs)) : SqL K H a xs := .inl (.inl h)
theorem SqT.of {K : PySem.W.Frag} (h : H a = some (.tup xs)) : SqT K H a xs := .inl (.inl h)
theorem Inv.list (I : Inv X pins σ H s) (h : SqL X.K H a xs) : ∃ its : List Value, Vals xs its ∧ PlainL s.heap a its.toArray ∧ xs.length ≤ sizeLine := by
  rcases h with h | ⟨o, its, n, hk, hc, hd, hs, hz, r⟩
  · obtain ⟨z, its, n, r, e⟩ := h.ok I.hok
    exact ⟨its, r, ⟨_, n, e, rfl, rfl, rfl⟩, z⟩
  · refine ⟨its.toList, r, ⟨o, n, I.kIn a o hk, hc, hd, by simpa using hs⟩, ?_⟩
    have e := r.length
    simp only [Array.length_toList] at e
    omega
theorem Inv.tuple (I : Inv X pins σ H s) (h : SqT X.K H a xs) : ∃ its : List Value, Vals xs its ∧ IsTup s.heap a its.toArray ∧ xs.length ≤ sizeLine := by
  rcases h with h | ⟨o, its, n, hk, hc, hs, hz, r⟩
  · obtain ⟨z, its, r, p⟩ := h.ok I.hok
    exact ⟨its, r, p, z⟩
  · refine ⟨its.toList, r, ⟨o, I.kIn a o hk, hc, n, by simpa using hs⟩, ?_⟩
    have e := r.length
    simp only [Array.length_toList] at e
    omega
theorem Inv.list_inj (I : Inv X pins σ H s) (h : SqL X.K H a xs) (h' : SqL X.K H a ys) : xs = ys := by
  obtain ⟨its, r, ⟨o, n, e, _, _, d⟩, _⟩ := I.list h
  obtain ⟨its', r', ⟨o', n', e', _, _, d'⟩, _⟩ := I.list h'
  rw [e] at e'; cases e'
  rw [d] at d'
  injection d' with d1 _
  have : its = its' := by simpa using congrArg Array.toList d1
  subst this
  exact r.inj r'
end
abbrev Cx.wish (X : Cx) (E : Value → Shared → Prop) : Cx := { X with xe := E }
/-- no exception leaves -/
abbrev Cx.nox (X : Cx) : Cx := X.wish fun _ _ => False
theorem Cx.Ok.wish {X : Cx} (ok : X.Ok) (E : Value → Shared → Prop) : (X.wish E).Ok :=
  ⟨ok.mod, ok.kind, ok.glob, ok.blt, ok.above, ok.inj, ok.has, ok.cab, ok.hd, ok.frames, ok.stk, ok.exf, ok.bs, ok.bsz, ok.noex, ok.exfs, ok.funs, ok.frf⟩
theorem Cx.Ok.unwish {X : Cx} {E : Value → Shared → Prop} (ok : (X.wish E).Ok) : X.Ok :=
  ⟨ok.mod, ok.kind, ok.glob, ok.blt, ok.above, ok.inj, ok.has, ok.cab, ok.hd, ok.frames, ok.stk, ok.exf, ok.bs, ok.bsz, ok.noex, ok.exfs, ok.funs, ok.frf⟩
section
variable {X : Cx} {pins : List (Addr × Obj)} {σ : St} {H : Hp} {s : Shared} {E : Value → Shared → Prop}
theorem Inv.wish (I : Inv X pins σ H s) (E : Value → Shared → Prop) : Inv (X.wish E) pins σ H s := ⟨I.ok.wish E, I.os, I.bare, I.base, I.loc, I.cell, I.free, I.freeC, I.pin, I.hok, I.len⟩
theorem Inv.unwish (I : Inv (X.wish E) pins σ H s) : Inv X pins σ H s := ⟨I.ok.unwish, I.os, I.bare, I.base, I.loc, I.cell, I.free, I.freeC, I.pin, I.hok, I.len⟩
theorem SP.unwish {D : Ends} {f : Flow} {s' : Shared} (h : SP (X.wish E) pins D f s') : SP X pins D f s' := by
  cases f with
  | next => obtain ⟨σ', H', I, q⟩ := h; exact ⟨σ', H', I.unwish, q⟩
  | brk => obtain ⟨σ', H', I, q⟩ := h; exact ⟨σ', H', I.unwish, q⟩
  | cont => obtain ⟨σ', H', I, q⟩ := h; exact ⟨σ', H', I.unwish, q⟩
  | ret u => obtain ⟨v, σ', H', I, r, q⟩ := h; exact ⟨v, σ', H', I.unwish, r, q⟩
theorem PSs.nox {st : List Stmt} {t : TS} (h : PSs X.nox st t) : PSs X st t := fun pins s σ H D I hw =>
  wpAny_mono (h pins s σ H D (I.wish _) hw) (fun _ _ q => q.unwish) fun _ _ z => False.elim z
end
section
variable {X : Cx} {st : Stmt} {rest : List Stmt} {t u : TS} {e : Expr} {te : TE} {pos : Pos}
def tNext : TS := fun D σ H => D.nx σ H
def tSeq (t u : TS) : TS := fun D σ H => t { D with nx := u D } σ H
theorem pss_nil : PSs X [] tNext := fun _ _ σ H _ I h => wpAny_execs_nil ⟨σ, H, I, h⟩
theorem pss_cons (h1 : PS X st t) (h2 : PSs X rest u) : PSs X (st :: rest) (tSeq t u) := by
  intro pins s σ H D I h
  refine wpAny_execs_cons (thn (h1 pins s σ H { D with nx := u D } I h) fun f s1 q => ?_)
  cases f with
  | next =>
    obtain ⟨σ', H', I', q⟩ := q
    exact h2 pins s1 σ' H' D I' q
  | ret v => exact q
  | brk => exact q
  | cont => exact q
theorem pss_one (h1 : PS X st t) : PSs X [st] t := by
  intro pins s σ H D I h
  refine wpAny_execs_cons (thn (h1 pins s σ H D I h) fun f s1 q => ?_)
  cases f with
  | next => exact wpAny_execs_nil q
  | ret v => exact q
  | brk => exact q
  | cont => exact q
/-- in a def's body nothing is shown -/
theorem Inv.quiet {pins : List (Addr × Obj)} {σ : St} {H : Hp} {s : Shared} (I : Inv X pins σ H s) : interactive X.env = false := by simp [interactive, I.ok.kind]
/-- an expression whose value is dropped -/
def tDrop (te : TE) : TS := fun D σ H => te σ H fun _ H1 => D.nx σ H1
theorem ps_expr (he : PE X e te) (hs : swapsWith e none pos.line X.env = pure false := by rfl) : PS X (.Expr e pos) (tDrop te) := by
  intro pins s σ H D I h
  exact wpAny_Expr_any (thn (he pins s σ H _ I h) fun v s1 ⟨x, H1, I1, r1, q1⟩ => ⟨σ, H1, I1, q1⟩) I.quiet hs
def tRet (te : TE) : TS := fun D σ H => te σ H D.rt
theorem ps_ret (he : PE X e te) : PS X (.Return (some e) pos) (tRet te) := by
  intro pins s σ H D I h
  exact wpAny_Return_some (thn (he pins s σ H _ I h) fun v s1 ⟨x, H1, I1, r1, q1⟩ => ⟨x, σ, H1, I1, r1, q1⟩)
def tIfS (c : TT) (t u : TS) : TS := fun D σ H => c σ H fun b H1 => if b = true then t D σ H1 else u D σ H1
theorem ps_if {c : Expr} {a b : List Stmt} {tc : TT} (hc : PT X c tc) (ha : PSs X a t) (hb : PSs X b u) : PS X (.If c a b pos) (tIfS tc t u) := by
  intro pins s σ H D I h
  refine wpAny_If (thn (hc pins s σ H _ I h) fun d s1 ⟨H1, I1, q1⟩ => ?_)
  cases d with
  | true => exact ha pins s1 σ H1 D I1 q1
  | false => exact hb pins s1 σ H1 D I1 q1
end
abbrev TG := V → St → Hp → (St → Hp → Prop) → Prop
abbrev TGs := List V → St → Hp → (St → Hp → Prop) → Prop
def PG (X : Cx) (target : Expr) (t : TG) : Prop :=
  ∀ (pins : List (Addr × Obj)) (s : Shared) (σ : St) (H : Hp) (v : V) (u : Value) (Q : St → Hp → Prop), Inv X pins σ H s → RelV v u → t v σ H Q →
    wpAny (model X.prog X.w) X.A (assign target X.env u) (fun _ s' => ∃ σ' H', Inv X pins σ' H' s' ∧ Q σ' H') X.xe s
/-- several targets, one after another -/
def PGs (X : Cx) (ts : List Expr) (t : TGs) : Prop :=
  ∀ (pins : List (Addr × Obj)) (s : Shared) (σ : St) (H : Hp) (vs : List V) (us : List Value) (Q : St → Hp → Prop), Inv X pins σ H s → Vals vs us → t vs σ H Q →
    wpAny (model X.prog X.w) X.A (assignInOrder ((assignEach ts X.env).map (·.2)) us) (fun _ s' => ∃ σ' H', Inv X pins σ' H' s' ∧ Q σ' H') X.xe s
section
variable {X : Cx} {pos : Pos}
def gName (i : Nat) : TG := fun v σ H Q => Q (σ.set i (some v)) H
theorem pg_name {i : Nat} {x : Str} (hN : X.N.Nodup) (hi : X.N[i]? = some x) (hx : Loc X.env.scope x) (hf : X.fn x = true ∨ X.env.scope.names.lookup x = some .local := by first | exact .inl rfl | exact .inr rfl | assumption) : PG X (.Name x pos) (gName i) := by
  intro pins s σ H v u Q I r h
  exact wpAny_assign_Name (store_ok I hN hi hx r (fun s' I' => ⟨_, H, I', h⟩) hf)
def gNil : TGs := fun vs σ H Q => vs = [] ∧ Q σ H
def gCons (t : TG) (u : TGs) : TGs := fun vs σ H Q => ∃ v r, vs = v :: r ∧ t v σ H fun σ' H' => u r σ' H' Q
theorem pgs_nil : PGs X [] gNil := by
  intro pins s σ H vs us Q I r h
  obtain ⟨e, h⟩ := h
  subst e
  cases r
  exact assignInOrder_nil ⟨σ, H, I, h⟩
theorem pgs_cons {e : Expr} {es : List Expr} {t : TG} {u : TGs} (h1 : PG X e t) (h2 : PGs X es u)
    (hs : (assignEach (e :: es) X.env).map (·.2) = assign e X.env :: (assignEach es X.env).map (·.2) := by rfl) : PGs X (e :: es) (gCons t u) := by
  intro pins s σ H vs us Q I r h
  obtain ⟨v, vr, e1, h⟩ := h
  subst e1
  cases r with
  | cons r rr =>
    rw [hs]
    refine assignInOrder_cons (thn (h1 pins s σ H _ _ _ I r h) fun _ s1 ⟨σ1, H1, I1, q1⟩ => ?_)
    exact h2 pins s1 σ1 H1 _ _ Q I1 rr q1
/-- (a, b, ..) = a tuple of that length -/
def gTup (K : PySem.W.Frag) (n : Nat) (t : TGs) : TG := fun v σ H Q => ∃ a xs, v = .ref a ∧ SqT K H a xs ∧ xs.length = n ∧ t xs σ H Q
theorem pg_tup {es : List Expr} {k : Nat} {t : TGs} {n : Nat} (hc : X.calm = true) (h : PGs X es t)
    (hn : (assignEach es X.env).length = n := by rfl) (hst : (assignEach es X.env).findIdx? (·.1) = none := by rfl) : PG X (.Tuple es k pos) (gTup X.K n t) := by
  intro pins s σ H v u Q I r hw
  obtain ⟨a, xs, e1, hq, hl, hw⟩ := hw
  subst e1
  cases r
  obtain ⟨its, rv, ht, hz⟩ := I.tuple hq
  refine assign_Tuple_tuple (I.ok.hd hc) ht (by simp [hn, ← hl, rv.length]) hst fun h' hx => ?_
  have I1 : Inv X pins σ H { s with heap := h' } := I.kept (t' := s.toks) fun b o e => hx b o (Nat.ne_of_lt (Heap.lt_size e)) e
  exact h pins _ σ H xs _ Q I1 (by simpa using rv) hw
/-- target = value -/
def tAsg (te : TE) (g : TG) : TS := fun D σ H => te σ H fun x H1 => g x σ H1 D.nx
/-- name = value -/
theorem ps_set {i : Nat} {x : Str} {e : Expr} {te : TE} {pos' : Pos} (hN : X.N.Nodup) (hi : X.N[i]? = some x) (hx : Loc X.env.scope x) (he : PE X e te) (hs : swapsWith e (some (.Name x pos')) pos.line X.env = pure false := by rfl) (hf : X.fn x = true ∨ X.env.scope.names.lookup x = some .local := by first | exact .inl rfl | exact .inr rfl | assumption) :
    PS X (.Assign [.Name x pos'] e pos) (tAsg te (gName i)) := by
  intro pins s σ H D I h
  refine wpAny_Assign_Name (thn (he pins s σ H _ I h) fun v s1 ⟨y, H1, I1, r1, q1⟩ => ?_) hs
  exact store_ok I1 hN hi hx r1 (fun s2 I2 => ⟨_, H1, I2, q1⟩) hf
end
section
variable {X : Cx} {pos : Pos}
/-- the invariant W with its measure -/
def tWhile (c : TT) (tb : TS) : TS := fun D σ H => ∃ W : Nat → St → Hp → Prop, (∃ m, W m σ H) ∧ ∀ m σ H, W m σ H →
  c σ H fun b H1 => if b = true then ∃ N : St → Hp → Prop, (∀ σ' H', N σ' H' → ∃ m', m' < m ∧ W m' σ' H') ∧ tb { D with nx := N, ct := N, bk := D.nx } σ H1 else D.nx σ H1
theorem ps_while {c : Expr} {body : List Stmt} {tc : TT} {tb : TS} (hp : PassesOwn (model X.prog X.w) X.A X.env X.xe) (hc : PT X c tc) (hb : PSs X body tb) : PS X (.While c body [] pos) (tWhile tc tb) := by
  intro pins s σ H D I h
  obtain ⟨W, ⟨m0, w0⟩, turn⟩ := h
  refine wpAny_While (codeAny_whileLoop (fun n s' => ∃ σ' H', Inv X pins σ' H' s' ∧ W n σ' H') ?_ m0 ⟨σ, H, I, w0⟩)
  rintro n s1 ⟨σ1, H1, I1, w1⟩
  refine wpAny_passesOwn hp (thn (hc pins s1 σ1 H1 _ I1 (turn n σ1 H1 w1)) fun b s2 ⟨H2, I2, q2⟩ => ?_)
  cases b with
  | true =>
    obtain ⟨N, hN, q2⟩ := q2
    rw [if_pos rfl]
    refine wpAny_passesOwn hp (thn (hb pins s2 σ1 H2 _ I2 q2) fun f s3 q3 => ?_)
    cases f with
    | next =>
      obtain ⟨σ3, H3, I3, n3⟩ := q3
      obtain ⟨m', hm, w3⟩ := hN σ3 H3 n3
      exact ⟨m', hm, σ3, H3, I3, w3⟩
    | cont =>
      obtain ⟨σ3, H3, I3, n3⟩ := q3
      obtain ⟨m', hm, w3⟩ := hN σ3 H3 n3
      exact ⟨m', hm, σ3, H3, I3, w3⟩
    | brk => exact q3
    | ret v => exact q3
  | false =>
    rw [if_neg Bool.false_ne_true]
    exact wpAny_execs_nil ⟨σ1, H2, I2, q2⟩
end
/-- at turn i: it yields x (the heap may grow), or it stops -/
structure It where
  go : Nat → Hp → Prop
  yld : Nat → Hp → V → Hp → Prop
  stop : Nat → Hp → Prop
/-- the iterator's own objects may turn: they are not the frame's, not pinned, younger than the entry (or a comprehension's own) -/
def FpOk (X : Cx) (pins : List (Addr × Obj)) (H : Hp) (b : Addr) : Prop :=
  H b = none ∧ b ≠ X.env.locals ∧ b ∉ X.fs ∧ (b ∈ X.ex ∨ X.s_0.heap.objs.size ≤ b) ∧ (∀ x c, X.env.cells.lookup x = some c → c ≠ b) ∧ ∀ p ∈ X.pn ++ pins, p.1 ≠ b
theorem Inv.fpOk {X : Cx} {pins : List (Addr × Obj)} {σ : St} {H H' : Hp} {s : Shared} {b : Addr} (I : Inv X pins σ H s) (hb : s.heap.objs.size ≤ b) (hn : H' b = none) : FpOk X pins H' b := by
  refine ⟨hn, Nat.ne_of_gt (Nat.lt_of_lt_of_le I.lt hb), I.nofs hb, .inr (Nat.le_trans I.sz hb), fun x c e z => ?_, fun p hp z => ?_⟩
  · obtain ⟨v, q⟩ := I.cell x c e
    exact absurd (Nat.lt_of_lt_of_le q.lt (by rw [z]; exact hb)) (Nat.lt_irrefl _)
  · exact absurd (Nat.lt_of_lt_of_le (Heap.lt_size (I.pin p hp).1) (by rw [z]; exact hb)) (Nat.lt_irrefl _)
structure Turn (P : Program) (w : World) (K : PySem.W.Frag) (tg : Expr) (J : It) (fp : List Addr) (it : Addr) (tn : Nat → Heap → Prop) : Prop where
  mem : it ∈ fp
  obj : ∀ i h, tn i h → ∀ b ∈ fp, ∃ o, h.get? b = some o ∧ ∀ v, o.data ≠ .cell v
  keep : ∀ i h h', tn i h → (∀ b ∈ fp, ∀ o, h.get? b = some o → h'.get? b = some o) → tn i h'
  item : ∀ (X : Cx), X.prog = P → X.w = w → X.K = K → X.calm = true → ∀ (i : Nat) (pins : List (Addr × Obj)) (s : Shared) (σ : St) (H : Hp) (E : Value → Shared → Prop), Inv X pins σ H s → (∀ b ∈ fp, FpOk X pins H b) → tn i s.heap → J.go i H →
    wpAny (model P w) X.A (pyNext (.ref it)) (fun r s1 => ∃ u, r = some u ∧
      wpAny (model P w) X.A (letOwnedTupleGo tg (.ref it) u) (fun _ s2 => ∃ x H', Inv X pins σ H' s2 ∧ RelV x u ∧ J.yld i H x H' ∧ tn (i + 1) s2.heap ∧ ∀ b ∈ fp, H' b = none) E s1) E s
  done : ∀ (X : Cx), X.prog = P → X.w = w → X.K = K → X.calm = true → ∀ (i : Nat) (pins : List (Addr × Obj)) (s : Shared) (σ : St) (H : Hp) (E : Value → Shared → Prop), Inv X pins σ H s → (∀ b ∈ fp, FpOk X pins H b) → tn i s.heap → J.stop i H →
    wpAny (model P w) X.A (pyNext (.ref it)) (fun r s1 => r = none ∧ Inv X pins σ H s1) E s
  self : ∀ (A : Around) (i : Nat) (s : Shared) (Q : Value → Shared → Prop) (E : Value → Shared → Prop), tn i s.heap → Q (.ref it) s → wpAny (model P w) A (pyIter (.ref it)) Q E s
abbrev TI := St → Hp → (It → Hp → Prop) → Prop
/-- an iterator has come -/
def PIE (X : Cx) (pins : List (Addr × Obj)) (σ : St) (tg : Expr) (R : It → Hp → Prop) (itv : Value) (s2 : Shared) : Prop :=
  ∃ (it : Addr) (fp : List Addr) (tn : Nat → Heap → Prop) (J : It) (H' : Hp), itv = .ref it ∧ Inv X pins σ H' s2 ∧ Turn X.prog X.w X.K tg J fp it tn ∧ tn 0 s2.heap ∧ (∀ b ∈ fp, FpOk X pins H' b) ∧ R J H'
def PI (X : Cx) (tg iter : Expr) (wi : TI) : Prop :=
  ∀ (pins : List (Addr × Obj)) (s : Shared) (σ : St) (H : Hp) (R : It → Hp → Prop), Inv X pins σ H s → wi σ H R →
    wpAny (model X.prog X.w) X.A (eval iter X.env) (fun v s1 => wpAny (model X.prog X.w) X.A (pyIter v) (PIE X pins σ tg R) X.xe s1) X.xe s
/-- the step ahead of the store is nothing for an iterator that keeps no tuple -/
theorem go_of {M : Model} {A : Around} {E : Value → Shared → Prop} {s : Shared} {tg : Expr} {it : Addr} {u : Value} {o : Obj} {n : String} {vs : Array Value} {Q : Unit → Shared → Prop} (ho : s.heap.get? it = some o) (hc : o.cls = .type n) (hd : o.data = .fields vs)
    (hn : ["enumerate", "zip", "dict_itemiterator", "dict_reverseitemiterator", "odict_iterator", "itertools.zip_longest", "itertools.pairwise"].contains n = false) (hQ : Q () s) : wpAny M A (letOwnedTupleGo tg (.ref it) u) Q E s := by
  unfold letOwnedTupleGo
  cases tg <;> first
    | exact wpAny_pure hQ
    | (cases u <;> first
        | exact wpAny_pure hQ
        | (refine wpAny_bind (wpAny_load ho ?_)
           rw [hc, hd]
           show wpAny M A (if (["enumerate", "zip", "dict_itemiterator", "dict_reverseitemiterator", "odict_iterator", "itertools.zip_longest", "itertools.pairwise"].contains n && vs[0]? == some (rawInt _)) = true then _ else _) Q E s
           rw [if_neg (by intro h; rw [hn, Bool.false_and] at h; cases h)]
           exact wpAny_pure hQ))
/-- the list at a, as it stands at each turn (a loop may append to it) -/
def Itl (K : PySem.W.Frag) (a : Addr) : It :=
  ⟨fun i H => ∃ xs x, SqL K H a xs ∧ xs[i]? = some x, fun i H x H' => H' = H ∧ ∀ xs, SqL K H a xs → xs[i]? = some x, fun i H => ∃ xs, SqL K H a xs ∧ xs.length ≤ i⟩
/-- lo, lo + 1, .. (n of them) -/
def Itr (lo : Int) (n : Nat) : It := ⟨fun i _ => i < n, fun i H x H' => H' = H ∧ x = .int (lo + i), fun i _ => n ≤ i⟩
theorem turn_list {P : Program} {w : World} {K : PySem.W.Frag} {tg : Expr} (a it : Addr) : Turn P w K tg (Itl K a) [it] it (fun i h => h.IsListIter it a i) where
  mem := by simp
  obj := fun i h st b hb => by
    have e : b = it := by simpa using hb
    subst e
    obtain ⟨o, e, c, d⟩ := st
    exact ⟨o, e, fun v z => by rw [d] at z; cases z⟩
  keep := fun i h h' st k => st.at fun o e => k it (by simp) o e
  item := by
    intro X hP hw hK hc i pins s σ H E I hf st hg
    subst hP hw hK
    obtain ⟨xs, x, hq, hx⟩ := hg
    obtain ⟨its, rv, p, hz⟩ := I.list hq
    obtain ⟨u, hu, ru⟩ := rv.get hx
    obtain ⟨f0, f1, f2, f3, f4, f5⟩ := hf it (by simp)
    refine wpAny_pyNext_list_item st p.isList (x := u) (by simpa using hu) fun h' st' sb => ?_
    have I1 : Inv X pins σ H { s with heap := h' } := I.turned (t' := s.toks) (fun b o hb e => (sb.2 b hb).trans e) f0 f1 f3 f4 f5
    obtain ⟨o, e, c, d⟩ := id st'
    exact ⟨u, rfl, go_of (s := { s with heap := h' }) e c d (by decide) ⟨x, H, I1, ru, ⟨rfl, fun ys hy => by rw [I.list_inj hy hq]; exact hx⟩, st', fun b hb => (hf b hb).1⟩⟩
  done := by
    intro X hP hw hK hc i pins s σ H E I hf st hg
    subst hP hw hK
    obtain ⟨xs, hq, hx⟩ := hg
    obtain ⟨its, rv, p, hz⟩ := I.list hq
    obtain ⟨f0, f1, f2, f3, f4, f5⟩ := hf it (by simp)
    have hl := rv.length
    exact wpAny_pyNext_list_end (I.ok.hd hc) st p.isList (by simp; omega) fun h' eb => ⟨rfl, I.turned (t' := s.toks) (fun b o hb e => eb b o hb e) f0 f1 f3 f4 f5⟩
  self := fun _ _ _ _ _ st h => wpAny_pyIter_listiter st h
theorem turn_range {P : Program} {w : World} {K : PySem.W.Frag} {tg : Expr} (it : Addr) (lo : Int) (n : Nat) : Turn P w K tg (Itr lo n) [it] it (fun i h => IsRangeIter h it (lo + (i : Nat) * 1) ((n : Int) - (i : Nat)) 1) where
  mem := by simp
  obj := fun i h st b hb => by
    have e : b = it := by simpa using hb
    subst e
    exact ⟨_, st, fun v z => by
      have z' : Data.fields _ = Data.cell v := z
      cases z'⟩
  keep := fun i h h' st k => k it (by simp) _ st
  item := by
    intro X hP hw hK hc i pins s σ H E I hf st hg
    subst hP hw hK
    obtain ⟨f0, f1, f2, f3, f4, f5⟩ := hf it (by simp)
    have W := Walks.range (prog := X.prog) (w := X.w) (I.ok.hd hc) it lo 1 n
    refine W.item i s _ _ hg st fun v h' tk hv st' kk => ?_
    obtain ⟨t, rfl⟩ := hv
    have I1 : Inv X pins σ H { s with heap := h', toks := tk } := I.turned (fun b o hb e => kk b o (by simpa using hb) e) f0 f1 f3 f4 f5
    refine ⟨_, rfl, go_of (s := { s with heap := h', toks := tk }) (n := "range_iterator") st' rfl rfl (by decide) ⟨.int (lo + i), H, I1, ⟨t, ?_⟩, ⟨rfl, rfl⟩, st', fun b hb => (hf b hb).1⟩⟩
    rw [Int.mul_one]
  done := by
    intro X hP hw hK hc i pins s σ H E I hf st hg
    subst hP hw hK
    obtain ⟨f0, f1, f2, f3, f4, f5⟩ := hf it (by simp)
    exact wpAny_pyNext_range_end (I.ok.hd hc) st (by have : n ≤ i := hg; omega) fun h' eb => ⟨rfl, I.turned (t' := s.toks) (fun b o hb e => eb b o hb e) f0 f1 f3 f4 f5⟩
  self := fun _ _ _ _ _ st h => wpAny_pyIter_rangeiter st h
end L2
namespace L2
open PySem PySem.Spec PyProof.Rows
section
variable {X : Cx} {tg : Expr}
def iList (K : PySem.W.Frag) (tl : TE) : TI := fun σ H R => tl σ H fun x H1 => ∃ a, x = .ref a ∧ (∃ xs, SqL K H1 a xs) ∧ R (Itl K a) H1
theorem pi_list {l : Expr} {tl : TE} (hl : PE X l tl) : PI X tg l (iList X.K tl) := by
  intro pins s σ H R I h
  refine thn (hl pins s σ H _ I h) fun v s1 ⟨x, H1, I1, r1, q1⟩ => ?_
  obtain ⟨a, e, ⟨xs, hq⟩, q⟩ := q1
  subst e
  cases r1
  obtain ⟨its, rv, p, hz⟩ := I1.list hq
  refine wpAny_pyIter_list p.isList ?_
  refine ⟨s1.heap.objs.size, [s1.heap.objs.size], _, _, H1, rfl, I1.kept (t' := s1.toks) fun b o e => Heap.get?_push_of_some _ e, turn_list a _, ⟨_, Heap.get?_push_size _ rfl, rfl, rfl⟩, fun b hb => ?_, q⟩
  have e : b = s1.heap.objs.size := by simpa using hb
  subst e
  exact I1.fpOk (Nat.le_refl _) (I1.hok.fresh (Nat.le_refl _))
/-- a range object just made, walked -/
theorem range_it {pins : List (Addr × Obj)} {σ : St} {H : Hp} {s : Shared} {R : It → Hp → Prop} {E : Value → Shared → Prop} {lo hi : Int} {t u v : Tok} {tk : Nat} (I : Inv X pins σ H s) (h1 : -(2 ^ 62) ≤ lo) (h2 : lo < 2 ^ 62) (h3 : -(2 ^ 62) ≤ hi) (h4 : hi < 2 ^ 62)
    (q : R (Itr lo (hi - lo).toNat) H) : wpAny (model X.prog X.w) X.A (pyIter (.ref s.heap.objs.size)) (PIE X pins σ tg R) E { s with heap := s.heap.push { cls := .type "range", data := .fields #[.int lo t, .int hi u, .int 1 v] }, toks := tk } := by
  refine wpAny_pyIter_range (IsRange.new ..) (small_one h1 h2 h3 h4) ?_
  have I1 : Inv X pins σ H { s with heap := s.heap.push { cls := .type "range", data := .fields #[.int lo t, .int hi u, .int 1 v] }, toks := tk } := I.kept fun b o e => Heap.get?_push_of_some _ e
  refine ⟨(s.heap.push { cls := .type "range", data := .fields #[.int lo t, .int hi u, .int 1 v] }).objs.size, [(s.heap.push { cls := .type "range", data := .fields #[.int lo t, .int hi u, .int 1 v] }).objs.size], _, _, H, rfl,
    I1.kept (t' := tk) fun b o e => Heap.get?_push_of_some _ e, turn_range _ lo (hi - lo).toNat, ?_, fun b hb => ?_, q⟩
  · have e1 : lo + ((0 : Nat) : Int) * 1 = lo := by simp
    have e2 : (((hi - lo).toNat : Nat) : Int) - ((0 : Nat) : Int) = Builtin.Range.rangeSize lo hi 1 := by rw [rangeSize_one]; split <;> omega
    show IsRangeIter _ _ (lo + ((0 : Nat) : Int) * 1) ((((hi - lo).toNat : Nat) : Int) - ((0 : Nat) : Int)) 1
    rw [e1, e2]
    exact Heap.get?_push_size _ rfl
  · have e : b = (s.heap.push { cls := .type "range", data := .fields #[.int lo t, .int hi u, .int 1 v] }).objs.size := by simpa using hb
    subst e
    exact I1.fpOk (Nat.le_refl _) (I1.hok.fresh (Nat.le_refl _))
def iRng1 (ta : TA) : TI := fun σ H R => ta σ H fun vs H1 => ∃ j : Int, vs = [.int j] ∧ -(2 ^ 62) ≤ j ∧ j < 2 ^ 62 ∧ R (Itr 0 j.toNat) H1
theorem pi_range1 {a : Expr} {ta : TA} {p pos : Pos} (hg : Gl X "range") (hm : X.mg "range" = none) (ha : PA X [a] ta) (hs : starEach [a] X.env = [(false, eval a X.env)] := by rfl) : PI X tg (.Call (.Name "range" p) [a] [] pos) (iRng1 ta) := by
  intro pins s σ H R I h
  refine Call_ (ld_blt I hg hm boot_range (PyProof.Rows.callWith_type1 (thn (ha pos pins s σ H _ I h) fun us s1 ⟨vs, H1, I1, r1, q1⟩ => ?_) hs rfl))
  obtain ⟨j, e, q1, q2, q⟩ := q1
  subst e
  cases r1 with
  | cons r rr =>
    cases rr
    obtain ⟨t, rfl⟩ := r
    exact call_range_1 (range_it I1 (by omega) (by omega) q1 q2 (by simpa using q))
/-- W: the invariant by the turn and a measure; N: what the body is to reach -/
def tFor (wi : TI) (g : TG) (tb : TS) : TS := fun D σ H => wi σ H fun J H1 => ∃ W : Nat → Nat → St → Hp → Prop, (∃ m, W 0 m σ H1) ∧ ∀ i m σ H, W i m σ H →
  (J.stop i H ∧ D.nx σ H) ∨ (J.go i H ∧ ∃ N : St → Hp → Prop, (∀ σ' H', N σ' H' → ∃ m', m' < m ∧ W (i + 1) m' σ' H') ∧ ∀ x H', J.yld i H x H' → g x σ H' fun σ2 H2 => tb { D with nx := N, ct := N, bk := D.nx } σ2 H2)
/-- the records at fp as they stand -/
def pinsAt (fp : List Addr) (h : Heap) : List (Addr × Obj) := fp.filterMap fun b => (h.get? b).map fun o => (b, o)
theorem mem_pinsAt {fp : List Addr} {h : Heap} {b : Addr} {o : Obj} (hb : b ∈ fp) (e : h.get? b = some o) : (b, o) ∈ pinsAt fp h := List.mem_filterMap.mpr ⟨b, hb, by rw [e]; rfl⟩
theorem of_pinsAt {fp : List Addr} {h : Heap} {p : Addr × Obj} (hp : p ∈ pinsAt fp h) : p.1 ∈ fp ∧ h.get? p.1 = some p.2 := by
  obtain ⟨b, hb, e⟩ := List.mem_filterMap.mp hp
  cases q : h.get? b with
  | none => rw [q] at e; cases e
  | some o =>
    rw [q] at e
    have e' : (b, o) = p := Option.some.inj e
    subst e'
    exact ⟨hb, q⟩
theorem Inv.pinned {pins : List (Addr × Obj)} {σ : St} {H : Hp} {s : Shared} {fp : List Addr} (I : Inv X pins σ H s) (hf : ∀ b ∈ fp, FpOk X pins H b) (ho : ∀ b ∈ fp, ∃ o, s.heap.get? b = some o ∧ ∀ v, o.data ≠ .cell v) : Inv X (pins ++ pinsAt fp s.heap) σ H s :=
  I.pins_of fun p hp => (List.mem_append.mp hp).elim (fun z => I.pin p (List.mem_append_right _ z)) fun z => by
    obtain ⟨hb, e⟩ := of_pinsAt z
    obtain ⟨f0, f1, f2, _⟩ := hf p.1 hb
    obtain ⟨o, e', d⟩ := ho p.1 hb
    rw [e] at e'; cases e'
    exact ⟨e, f0, f1, f2, d⟩
theorem Inv.unpinned {pins pl : List (Addr × Obj)} {σ : St} {H : Hp} {s : Shared} (I : Inv X (pins ++ pl) σ H s) : Inv X pins σ H s := I.pins_of fun p hp => I.pin p (List.mem_append_right _ (List.mem_append_left _ hp))
theorem ps_for {iter : Expr} {body : List Stmt} {wi : TI} {g : TG} {tb : TS} {pos : Pos} (hp : PassesOwn (model X.prog X.w) X.A X.env X.xe) (hc : X.calm = true) (hi : PI X tg iter wi) (hg : PG X tg g) (hb : PSs X body tb)
    (hs : ∀ x, foldedSetIterable iter X.env x = pure x := by intro _; rfl) : PS X (.For tg iter body [] pos) (tFor wi g tb) := by
  intro pins s σ H D I h
  refine wpAny_For (thn (hi pins s σ H _ I h) fun v s1 h1 => thn h1 fun itv s2 h2 => ?_) hs
  obtain ⟨it, fp, tn, J, H2, e, I2, T, st2, f2, W, ⟨m0, w0⟩, turn⟩ := h2
  subst e
  -- what stays true of the iterator's objects through the loop
  have stat : ∀ {H' : Hp}, (∀ b ∈ fp, H' b = none) → ∀ b ∈ fp, FpOk X pins H' b := fun hn b hb => ⟨hn b hb, (f2 b hb).2⟩
  refine codeAny_forLoop_any (fun n s' => ∃ i σ' H', Inv X pins σ' H' s' ∧ tn i s'.heap ∧ (∀ b ∈ fp, H' b = none) ∧ W i n σ' H') ?_ m0 ⟨0, σ, H2, I2, st2, fun b hb => (f2 b hb).1, w0⟩
  rintro n s3 ⟨i, σ3, H3, I3, st3, fr3, w3⟩
  rcases turn i n σ3 H3 w3 with ⟨stop, qn⟩ | ⟨go, N, hN, step⟩
  · refine wpAny_passesOwn hp (thn (T.done X rfl rfl rfl hc i pins s3 σ3 H3 X.xe I3 (stat fr3) st3 stop) fun r s4 ⟨hr, I4⟩ => ?_)
    subst hr
    exact wpAny_execs_nil ⟨σ3, H3, I4, qn⟩
  · refine wpAny_passesOwn hp (thn (T.item X rfl rfl rfl hc i pins s3 σ3 H3 X.xe I3 (stat fr3) st3 go) fun r s4 ⟨u, hr, h4⟩ => ?_)
    subst hr
    refine wpAny_passesOwn hp (thn h4 fun _ s5 ⟨x, H5, I5, r5, y5, st5, fr5⟩ => ?_)
    have I5' := I5.pinned (stat fr5) (T.obj _ _ st5)
    refine wpAny_passesOwn hp (thn (hg _ s5 σ3 H5 x u _ I5' r5 (step x H5 y5)) fun _ s6 ⟨σ6, H6, I6, q6⟩ => ?_)
    refine wpAny_passesOwn hp (thn (hb _ s6 σ6 H6 _ I6 q6) fun f s7 q7 => ?_)
    have again : ∀ {σ7 : St} {H7 : Hp}, Inv X (pins ++ pinsAt fp s5.heap) σ7 H7 s7 → N σ7 H7 → ∃ m, m < n ∧ ∃ i σ' H', Inv X pins σ' H' s7 ∧ tn i s7.heap ∧ (∀ b ∈ fp, H' b = none) ∧ W i m σ' H' := fun {σ7 H7} I7 n7 => by
      obtain ⟨m', hm, w7⟩ := hN σ7 H7 n7
      refine ⟨m', hm, i + 1, σ7, H7, I7.unpinned, T.keep _ _ _ st5 fun b hb o e => (I7.pin (b, o) (List.mem_append_right _ (List.mem_append_right _ (mem_pinsAt hb e)))).1, fun b hb => ?_, w7⟩
      obtain ⟨o, e, d⟩ := T.obj _ _ st5 b hb
      exact (I7.pin (b, o) (List.mem_append_right _ (List.mem_append_right _ (mem_pinsAt hb e)))).2.1
    cases f with
    | next => obtain ⟨σ7, H7, I7, n7⟩ := q7; exact again I7 n7
    | cont => obtain ⟨σ7, H7, I7, n7⟩ := q7; exact again I7 n7
    | brk => obtain ⟨σ7, H7, I7, q7⟩ := q7; exact ⟨σ7, H7, I7.unpinned, q7⟩
    | ret v => obtain ⟨x7, σ7, H7, I7, r7, q7⟩ := q7; exact ⟨x7, σ7, H7, I7.unpinned, r7, q7⟩
end
/-- over a list that the body leaves as it is -/
theorem for_list {K : PySem.W.Frag} {a : Addr} {xs : List V} {g : TG} {tb : TS} {D : Ends} {σ : St} {H : Hp} (Pv : Nat → St → Hp → Prop) (h0 : Pv 0 σ H) (hl : ∀ i σ H, i ≤ xs.length → Pv i σ H → SqL K H a xs)
    (hs : ∀ i x σ H, xs[i]? = some x → Pv i σ H → g x σ H fun σ2 H2 => tb { D with nx := Pv (i + 1), ct := Pv (i + 1), bk := D.nx } σ2 H2) (hd : ∀ σ H, Pv xs.length σ H → D.nx σ H) :
    ∃ W : Nat → Nat → St → Hp → Prop, (∃ m, W 0 m σ H) ∧ ∀ i m σ H, W i m σ H →
      ((Itl K a).stop i H ∧ D.nx σ H) ∨ ((Itl K a).go i H ∧ ∃ N : St → Hp → Prop, (∀ σ' H', N σ' H' → ∃ m', m' < m ∧ W (i + 1) m' σ' H') ∧ ∀ x H', (Itl K a).yld i H x H' → g x σ H' fun σ2 H2 => tb { D with nx := N, ct := N, bk := D.nx } σ2 H2) := by
  refine ⟨fun i m σ H => m = xs.length - i ∧ i ≤ xs.length ∧ Pv i σ H, ⟨xs.length, by simp, Nat.zero_le _, h0⟩, ?_⟩
  rintro i m σ H ⟨rfl, hi, p⟩
  have q := hl i σ H hi p
  by_cases hlt : i < xs.length
  · refine .inr ⟨⟨xs, xs[i], q, by simp [hlt]⟩, Pv (i + 1), fun σ' H' p' => ⟨xs.length - (i + 1), by omega, rfl, hlt, p'⟩, fun x H' y => ?_⟩
    obtain ⟨e, y⟩ := y
    subst e
    exact hs i x σ _ (y xs q) p
  · have e : i = xs.length := by omega
    subst e
    exact .inl ⟨⟨xs, q, Nat.le_refl _⟩, hd σ H p⟩
theorem for_range {lo : Int} {n : Nat} {g : TG} {tb : TS} {D : Ends} {σ : St} {H : Hp} (Pv : Nat → St → Hp → Prop) (h0 : Pv 0 σ H)
    (hs : ∀ i σ H, i < n → Pv i σ H → g (.int (lo + i)) σ H fun σ2 H2 => tb { D with nx := Pv (i + 1), ct := Pv (i + 1), bk := D.nx } σ2 H2) (hd : ∀ σ H, Pv n σ H → D.nx σ H) :
    ∃ W : Nat → Nat → St → Hp → Prop, (∃ m, W 0 m σ H) ∧ ∀ i m σ H, W i m σ H →
      ((Itr lo n).stop i H ∧ D.nx σ H) ∨ ((Itr lo n).go i H ∧ ∃ N : St → Hp → Prop, (∀ σ' H', N σ' H' → ∃ m', m' < m ∧ W (i + 1) m' σ' H') ∧ ∀ x H', (Itr lo n).yld i H x H' → g x σ H' fun σ2 H2 => tb { D with nx := N, ct := N, bk := D.nx } σ2 H2) := by
  refine ⟨fun i m σ H => m = n - i ∧ i ≤ n ∧ Pv i σ H, ⟨n, by simp, Nat.zero_le _, h0⟩, ?_⟩
  rintro i m σ H ⟨rfl, hi, p⟩
  by_cases hlt : i < n
  · refine .inr ⟨hlt, Pv (i + 1), fun σ' H' p' => ⟨n - (i + 1), by omega, rfl, hlt, p'⟩, fun x H' y => ?_⟩
    obtain ⟨e, y⟩ := y
    subst e y
    exact hs i σ _ hlt p
  · have e : i = n := by omega
    subst e
    exact .inl ⟨Nat.le_refl _, hd σ H p⟩
end L2
namespace L2
open PySem PySem.Spec PyProof.Rows
abbrev R2 := V → V → Hp → VK → Prop
/-- a two-place operation on values: f is binaryOp op, inplaceOp op or compareOp op -/
def OpR (X : Cx) (f : Value → Value → Sem Value) (r : R2) : Prop :=
  ∀ (pins : List (Addr × Obj)) (s : Shared) (σ : St) (H : Hp) (x y : V) (v u : Value) (Q : VK), Inv X pins σ H s → RelV x v → RelV y u → r x y H Q →
    wpAny (model X.prog X.w) X.A (f v u) (EP X pins σ Q) X.xe s
/-- a call of a value that is known (a builtin, a type) with values -/
def CallR (X : Cx) (f : Value) (r : List V → Hp → VK → Prop) : Prop :=
  ∀ (pins : List (Addr × Obj)) (s : Shared) (σ : St) (H : Hp) (xs : List V) (us : List Value) (Q : VK), Inv X pins σ H s → Vals xs us → r xs H Q →
    wpAny (model X.prog X.w) X.A (call f us) (EP X pins σ Q) X.xe s
def tOp (r : R2) (ta tb : TE) : TE := fun σ H Q => ta σ H fun x H1 => tb σ H1 fun y H2 => r x y H2 Q
/-- ints in, under C, and a value out -/
def rI (C : Int → Int → Prop) (g : Int → Int → V) : R2 := fun x y H Q => ∃ i j, x = .int i ∧ y = .int j ∧ C i j ∧ Q (g i j) H
def rI0 (g : Int → Int → V) : R2 := fun x y H Q => ∃ i j, x = .int i ∧ y = .int j ∧ Q (g i j) H
section
variable {X : Cx} {a b c : Expr} {ta tb tc : TE} {pos : Pos}
theorem binT (ha : PE X a ta) (hb : PE X b tb) {pins : List (Addr × Obj)} {s : Shared} {σ : St} {H : Hp} {R : V → V → Hp → Prop} (I : Inv X pins σ H s)
    (h : ta σ H fun x H1 => tb σ H1 fun y H2 => R x y H2) {Q : Value → Shared → Prop} {f : Value → Value → Sem Value}
    (hf : ∀ v u s2 x y H2, Inv X pins σ H2 s2 → RelV x v → RelV y u → R x y H2 → wpAny (model X.prog X.w) X.A (f v u) Q X.xe s2) :
    wpAny (model X.prog X.w) X.A (eval a X.env) (fun v s₁ => wpAny (model X.prog X.w) X.A (eval b X.env) (fun u s₂ => wpAny (model X.prog X.w) X.A (f v u) Q X.xe s₂) X.xe s₁) X.xe s := by
  refine thn (ha pins s σ H _ I h) fun v s1 ⟨x, H1, I1, r1, q1⟩ => ?_
  refine thn (hb pins s1 σ H1 _ I1 q1) fun u s2 ⟨y, H2, I2, r2, q2⟩ => ?_
  exact hf v u s2 x y H2 I2 r1 r2 q2
theorem pe_op {op : Operator} {r : R2} (ho : OpR X (binaryOp op) r) (ha : PE X a ta) (hb : PE X b tb) : PE X (.BinOp a op b pos) (tOp r ta tb) := by
  intro pins s σ H Q I h
  exact wpAny_BinOp (binT ha hb I h fun v u s2 x y H2 I2 rx ry q => ho pins s2 σ H2 x y v u Q I2 rx ry q)
theorem opI {f : Value → Value → Sem Value} {C : Int → Int → Prop} {g : Int → Int → Int}
    (rule : ∀ (i j : Int) (t u : Tok) (s : Shared) (Q : Value → Shared → Prop) (E : Value → Shared → Prop), C i j → Q (.int (g i j) s.toks) { s with toks := s.toks + 1 } → wpAny (model X.prog X.w) X.A (f (.int i t) (.int j u)) Q E s) :
    OpR X f (rI C fun i j => .int (g i j)) := by
  intro pins s σ H x y v u Q I rx ry h
  obtain ⟨i, j, rfl, rfl, hc, q⟩ := h
  obtain ⟨t, rfl⟩ := rx
  obtain ⟨t', rfl⟩ := ry
  exact rule i j t t' s _ _ hc ⟨.int (g i j), H, I.tok _, ⟨_, rfl⟩, q⟩
theorem opI0 {f : Value → Value → Sem Value} {g : Int → Int → Int}
    (rule : ∀ (i j : Int) (t u : Tok) (s : Shared) (Q : Value → Shared → Prop) (E : Value → Shared → Prop), Q (.int (g i j) s.toks) { s with toks := s.toks + 1 } → wpAny (model X.prog X.w) X.A (f (.int i t) (.int j u)) Q E s) :
    OpR X f (rI0 fun i j => .int (g i j)) := by
  intro pins s σ H x y v u Q I rx ry h
  obtain ⟨i, j, rfl, rfl, q⟩ := h
  obtain ⟨t, rfl⟩ := rx
  obtain ⟨t', rfl⟩ := ry
  exact rule i j t t' s _ _ ⟨.int (g i j), H, I.tok _, ⟨_, rfl⟩, q⟩
theorem opB0 {f : Value → Value → Sem Value} {g : Int → Int → Bool}
    (rule : ∀ (i j : Int) (t u : Tok) (s : Shared) (Q : Value → Shared → Prop) (E : Value → Shared → Prop), Q (.bool (g i j)) s → wpAny (model X.prog X.w) X.A (f (.int i t) (.int j u)) Q E s) :
    OpR X f (rI0 fun i j => .bl (g i j)) := by
  intro pins s σ H x y v u Q I rx ry h
  obtain ⟨i, j, rfl, rfl, q⟩ := h
  obtain ⟨t, rfl⟩ := rx
  obtain ⟨t', rfl⟩ := ry
  exact rule i j t t' s _ _ ⟨.bl (g i j), H, I, rfl, q⟩
def CDiv (i j : Int) : Prop := 0 < j ∧ j < 1073741824
def CPow (i j : Int) : Prop := 0 ≤ j ∧ j ≤ 1000000 ∧ i.natAbs < 2 ^ 64
def CMul (i j : Int) : Prop := (-(2 ^ 64) < i ∧ i < 2 ^ 64) ∨ (-(2 ^ 64) < j ∧ j < 2 ^ 64)
theorem CMul.ok {i j : Int} (h : CMul i j) : IntMulOk i j := by
  rcases h with ⟨h1, h2⟩ | ⟨h1, h2⟩
  · exact .of_left (intBits_le_64 h1 h2)
  · exact .of_right (intBits_le_64 h1 h2)
theorem two_pow_nn (k : Nat) : (0 : Int) ≤ 2 ^ k := by
  rw [two_pow_cast]
  exact Int.natCast_nonneg _
theorem op_add : OpR X (binaryOp .Add) (rI0 fun i j => .int (i + j)) := opI0 fun _ _ _ _ _ _ _ q => add_int q
theorem op_sub : OpR X (binaryOp .Sub) (rI0 fun i j => .int (i - j)) := opI0 fun _ _ _ _ _ _ _ q => sub_int q
theorem op_mul : OpR X (binaryOp .Mult) (rI CMul fun i j => .int (i * j)) := opI fun _ _ _ _ _ _ _ hc q => mul_int q hc.ok
/-- // by a positive divisor -/
theorem op_fdiv : OpR X (binaryOp .FloorDiv) (rI CDiv fun i j => .int (i / j)) := opI fun i j _ _ _ _ _ hc q => by
  have h1 : (0 : Int) < j := hc.1
  have h2 : j < 1073741824 := hc.2
  exact floordiv_int (by omega) (by rw [Int.fdiv_eq_ediv_of_nonneg i (by omega)]; exact q) (.inl (PyProof.noPylong_small (by omega)))
theorem op_shl : OpR X (binaryOp .LShift) (rI CPow fun i j => .int (i * 2 ^ j.toNat)) := opI fun _ _ _ _ _ _ _ hc q => lshift_int_small hc.1 hc.2.1 hc.2.2 q
theorem op_shr : OpR X (binaryOp .RShift) (rI (fun _ j => 0 ≤ j) fun i j => .int (i / 2 ^ j.toNat)) := opI fun i j _ _ _ _ _ hc q =>
  rshift_int hc (by rw [Int.fdiv_eq_ediv_of_nonneg i (two_pow_nn _)]; exact q)
theorem op_and : OpR X (binaryOp .BitAnd) (rI0 fun i j => .int (Builtin.bitAnd i j)) := opI0 fun _ _ _ _ _ _ _ q => and_int q
theorem op_or : OpR X (binaryOp .BitOr) (rI0 fun i j => .int (Builtin.bitOr i j)) := opI0 fun _ _ _ _ _ _ _ q => or_int q
end
/-- the scalars that == tells apart as data does -/
def scal : V → V → Bool
  | .non, .non => true | .non, .int _ => true | .int _, .non => true | .non, .bl _ => true | .bl _, .non => true | .non, .str _ => true | .str _, .non => true
  | .int _, .int _ => true | .bl _, .bl _ => true | .str _, .str _ => true | .byt _, .byt _ => true
  | .int _, .str _ => true | .str _, .int _ => true | .bl _, .str _ => true | .str _, .bl _ => true
  | _, _ => false
def rEq : R2 := fun x y H Q => scal x y = true ∧ Q (.bl (decide (x = y))) H
def rNe : R2 := fun x y H Q => scal x y = true ∧ Q (.bl (!decide (x = y))) H
theorem dec_int {i j : Int} : decide (V.int i = V.int j) = (i == j) := by
  rw [Bool.eq_iff_iff]
  simp
theorem dec_bl {i j : Bool} : decide (V.bl i = V.bl j) = (i == j) := by
  rw [Bool.eq_iff_iff]
  simp
theorem dec_str {i j : Str} : decide (V.str i = V.str j) = (i == j) := by
  rw [Bool.eq_iff_iff]
  simp
theorem dec_byt {i j : Array UInt8} : decide (V.byt i = V.byt j) = (i.toList == j.toList) := by
  rw [Bool.eq_iff_iff]
  cases i
  cases j
  simp
section
variable {X : Cx} {a b c : Expr} {ta tb tc : TE} {pos : Pos}
theorem fin_bl {pins : List (Addr × Obj)} {σ : St} {H : Hp} {s : Shared} {Q : VK} {k k' : Bool} (I : Inv X pins σ H s) (q : Q (.bl k) H) (e : k = k') : EP X pins σ Q (.bool k') s := by
  subst e
  exact ⟨.bl k, H, I, rfl, q⟩
theorem op_eq : OpR X (compareOp .Eq) rEq := by
  intro pins s σ H x y v u Q I rx ry h
  obtain ⟨hs, q⟩ := h
  cases x with
  | non =>
    cases rx
    cases y with
    | non => cases ry; exact PySem.EqNone.eq_none_none (fin_bl I q (by simp))
    | bl j => cases ry; exact PySem.EqNone.eq_none_bool (fin_bl I q (by simp))
    | int j => obtain ⟨t', rfl⟩ := ry; exact PySem.EqNone.eq_none_int (fin_bl I q (by simp))
    | str j => obtain ⟨t', rfl⟩ := ry; exact PySem.EqNone.eq_none_str (fin_bl I q (by simp))
    | _ => exact absurd (show false = true from hs) Bool.false_ne_true
  | bl i =>
    cases rx
    cases y with
    | non => cases ry; exact PySem.EqNone.eq_bool_none (fin_bl I q (by simp))
    | bl j => cases ry; exact eq_bool (fin_bl I q dec_bl)
    | str j => obtain ⟨t', rfl⟩ := ry; exact PySem.EqMixed.eq_bool_str (fin_bl I q (by simp))
    | _ => exact absurd (show false = true from hs) Bool.false_ne_true
  | int i =>
    obtain ⟨t, rfl⟩ := rx
    cases y with
    | non => cases ry; exact PySem.EqNone.eq_int_none (fin_bl I q (by simp))
    | int j => obtain ⟨t', rfl⟩ := ry; exact eq_int (fin_bl I q dec_int)
    | str j => obtain ⟨t', rfl⟩ := ry; exact PySem.EqMixed.eq_int_str (fin_bl I q (by simp))
    | _ => exact absurd (show false = true from hs) Bool.false_ne_true
  | str i =>
    obtain ⟨t, rfl⟩ := rx
    cases y with
    | non => cases ry; exact PySem.EqNone.eq_str_none (fin_bl I q (by simp))
    | bl j => cases ry; exact PySem.EqMixed.eq_str_bool (fin_bl I q (by simp))
    | int j => obtain ⟨t', rfl⟩ := ry; exact PySem.EqMixed.eq_str_int (fin_bl I q (by simp))
    | str j => obtain ⟨t', rfl⟩ := ry; exact eq_str (fin_bl I q dec_str)
    | _ => exact absurd (show false = true from hs) Bool.false_ne_true
  | byt i =>
    obtain ⟨t, rfl⟩ := rx
    cases y with
    | byt j => obtain ⟨t', rfl⟩ := ry; exact PySem.W.eq_bytes (fin_bl I q dec_byt)
    | _ => exact absurd (show false = true from hs) Bool.false_ne_true
  | _ => cases y <;> exact absurd (show false = true from hs) Bool.false_ne_true
theorem op_lt : OpR X (compareOp .Lt) (rI0 fun i j => .bl (decide (i < j))) := opB0 fun _ _ _ _ _ _ _ q => lt_int q
theorem op_le : OpR X (compareOp .LtE) (rI0 fun i j => .bl (decide (i ≤ j))) := opB0 fun _ _ _ _ _ _ _ q => le_int q
theorem op_gt : OpR X (compareOp .Gt) (rI0 fun i j => .bl (decide (j < i))) := opB0 fun _ _ _ _ _ _ _ q => gt_int q
theorem op_ge : OpR X (compareOp .GtE) (rI0 fun i j => .bl (decide (j ≤ i))) := opB0 fun _ _ _ _ _ _ _ q => ge_int q
/-- is None, is not None: the right side a value none -/
theorem op_isN : OpR X (compareOp .Is) (fun x y H Q => y = .non ∧ Q (.bl (decide (x = .non))) H) := by
  intro pins s σ H x y v u Q I rx ry h
  obtain ⟨rfl, q⟩ := h
  cases ry
  refine is_none_gen (fin_bl I q ?_)
  cases x <;> first
    | (cases rx; rfl)
    | (obtain ⟨t, rfl⟩ := rx; rfl)
theorem nomark (b : Expr) {op : CmpOp} (h : op ≠ .In := by decide) (h2 : op ≠ .NotIn := by decide) : behindInMarks op b = false := by
  have e1 : (op == CmpOp.In) = false := by cases op <;> first | rfl | exact absurd rfl h
  have e2 : (op == CmpOp.NotIn) = false := by cases op <;> first | rfl | exact absurd rfl h2
  cases b <;> simp [behindInMarks, e1, e2]
/-- a comparison as a value; hm: nomark b, or (for in, not in) by with_unfolding_all rfl -/
theorem pe_cmpR {op : CmpOp} {r : R2} (ho : OpR X (compareOp op) r) (ha : PE X a ta) (hb : PE X b tb) (hm : behindInMarks op b = false) : PE X (.Compare a [op] [b] pos) (tOp r ta tb) := by
  intro pins s σ H Q I h
  exact wpAny_Compare1 (binT ha hb I h fun v u s2 x y H2 I2 rx ry q => ho pins s2 σ H2 x y v u Q I2 rx ry q) hm
/-- a reading of a value as a test -/
def tTest (t : TE) : TT := fun σ H Q => t σ H fun x H' => ∃ k, x = .bl k ∧ Q k H'
theorem pt_cmpR {op : CmpOp} {r : R2} (ho : OpR X (compareOp op) r) (ha : PE X a ta) (hb : PE X b tb) (hm : behindInMarks op b = false) : PT X (.Compare a [op] [b] pos) (tTest (tOp r ta tb)) := by
  intro pins s σ H Q I h
  refine wpAny_isTrue_Compare1 (thn (ha pins s σ H _ I h) fun v s1 ⟨x, H1, I1, r1, q1⟩ => thn (hb pins s1 σ H1 _ I1 q1) fun u s2 ⟨y, H2, I2, r2, q2⟩ =>
    thn (ho pins s2 σ H2 x y v u _ I2 r1 r2 q2) fun c s3 ⟨z, H3, I3, r3, k, e, q3⟩ => ?_) hm
  subst e
  cases r3
  exact wpAny_truthy_bool ⟨H3, I3, q3⟩
theorem line63 : (sizeLine : Nat) < 2 ^ 63 := by rw [sizeLine_eq]; decide
theorem vals1 {x : V} {us : List Value} (r : Vals [x] us) : ∃ u, us = [u] ∧ RelV x u := by
  cases r with
  | cons r1 r2 => cases r2; exact ⟨_, rfl, r1⟩
theorem vals2 {x y : V} {us : List Value} (r : Vals [x, y] us) : ∃ u w', us = [u, w'] ∧ RelV x u ∧ RelV y w' := by
  cases r with
  | cons r1 r2 =>
    cases r2 with
    | cons r3 r4 => cases r4; exact ⟨_, _, rfl, r1, r3⟩
theorem call_abs : CallR X (.builtin "abs") (fun xs H Q => ∃ i, xs = [.int i] ∧ Q (.int (if i < 0 then -i else i)) H) := by
  intro pins s σ H xs us Q I r h
  obtain ⟨i, rfl, q⟩ := h
  obtain ⟨u, rfl, t, rfl⟩ := vals1 r
  exact call_abs_int fun u tk => ⟨.int (if i < 0 then -i else i), H, I.tok _, ⟨_, rfl⟩, q⟩
theorem call_min2 (hc : X.calm = true) : CallR X (.builtin "min") (fun xs H Q => ∃ i j, xs = [.int i, .int j] ∧ Q (.int (if j < i then j else i)) H) := by
  intro pins s σ H xs us Q I r h
  obtain ⟨i, j, rfl, q⟩ := h
  obtain ⟨u, w', rfl, ⟨t, rfl⟩, ⟨t', rfl⟩⟩ := vals2 r
  refine min_two_ints (I.ok.hd hc) fun h' tk k => ⟨_, H, I.kept k, ?_, q⟩
  by_cases hj : j < i
  · rw [if_pos hj, if_pos hj]; exact ⟨_, rfl⟩
  · rw [if_neg hj, if_neg hj]; exact ⟨_, rfl⟩
end
end L2
namespace L2
open PySem PySem.Spec PyProof.Rows
structure ObjM (h : Heap) (x dx C : Addr) (mA : Str → Option Value) : Prop where
  obj : h.get? x = some (PySem.W.instObj C dx)
  ns : h.Ns1 dx mA
  ne : dx ≠ x
theorem lookIn_ns {h : Heap} {dx : Addr} {mA : Str → Option Value} (n : h.Ns1 dx mA) : ∃ od, h.get? dx = some od ∧ ∀ name, PySem.W.lookIn name od = some (mA name) := by
  obtain ⟨o, es, ep, ho, hd, hk, _, hm⟩ := n
  refine ⟨o, ho, fun name => ?_⟩
  have e := hm name
  unfold nsFind findBy at e
  rw [← Array.find?_toList] at e
  unfold PySem.W.lookIn
  rw [hd]
  dsimp only
  split
  · rename_i y q
    rw [q] at e
    exact congrArg some e
  · rename_i q
    rw [q] at e
    have a : es.toList.any (·.refKey) = false := by
      rw [List.any_eq_false]
      intro y hy
      obtain ⟨z, t, hkey⟩ := hk y (Array.mem_toList_iff.mp hy)
      simp [DictEntry.refKey, hkey]
    have a' : ¬ es.toList.any (·.refKey) = true := by rw [a]; exact Bool.false_ne_true
    rw [if_neg a']
    exact congrArg some e
theorem ObjM.look {h : Heap} {x dx C : Addr} {mA : Str → Option Value} (I : ObjM h x dx C mA) : ∃ od, PySem.W.InstAt h x (PySem.W.instObj C dx) C (some od) ∧ ∀ name, PySem.W.lookIn name od = some (mA name) :=
  let ⟨od, ho, hl⟩ := lookIn_ns I.ns
  ⟨od, ⟨I.obj, rfl, rfl, ho⟩, hl⟩
section
variable {prog : Program} {w : World} {A : Around} {E : Value → Shared → Prop} {s : Shared} {K : PySem.W.Frag} {x dx C f : Addr} {mA : Str → Option Value} {name : Str} {v : Value}
theorem get_map {expr : Bool} {Q : Value → Shared → Prop} (X : K.In s.heap) (I : ObjM s.heap x dx C mA) (hg : PySem.W.plainGet K C name = true) (hh : PySem.W.hasDictIn K C = true)
    (ha : PySem.W.findIn K (.ref C) name = some none) (hv : mA name = some v) (hv' : PySem.W.handedIn v = true) (h : Q v { s with toks := s.toks + 1 }) :
    wpAny (model prog w) A (getAttr (.ref x) name expr) Q E s := by
  obtain ⟨od, J, hl⟩ := I.look
  exact PySem.W.get_value X J (PySem.W.plainGet_of hg).1 (PySem.W.findObj_own hh ha rfl (by rw [hl, hv])) hv' h
theorem set_map {ns : List Str} {Q : Unit → Shared → Prop} (X : K.In s.heap) (I : ObjM s.heap x dx C mA)
    (hs : PySem.W.findIn K (.ref C) "__setattr__" = some (some (.builtin "object.__setattr__"))) (hp : PySem.W.plainOver K C = true) (ht : PySem.W.takerIn K C name = some none) (hh : PySem.W.hasDictIn K C = true)
    (hw : PySem.Within mA ns) (hsz : ns.length ≤ sizeLine)
    (h : ∀ h', ObjM h' x dx C (fun y => if y = name then some v else mA y) → Heap.SameBut dx s.heap h' → Q () { s with heap := h', toks := s.toks + 2 }) :
    wpAny (model prog w) A (setAttr (.ref x) name v) Q E s := by
  obtain ⟨od, J, hl⟩ := I.look
  refine PySem.W.set_plain X J hs (PySem.W.osa_open (s := { s with toks := s.toks + 1 }) (r := none) X J hp ht fun b => ?_)
  obtain ⟨cd, hc, hd'⟩ := PySem.W.any_some hh
  have hx : s.heap.get? x = some ⟨.ref C, some dx, .plain, #[]⟩ := I.obj
  refine wpAny_bind (wpAny_pure (wpAny_bind (wpAny_bind (wpAny_loadPart hx (wpAny_bind (PySem.W.Looks.here (s := { s with toks := s.toks + 1 }) (PySem.W.looks_clsIn X hc) ?_))))))
  rw [hd']
  refine wpAny_pure (a := some dx) (wpAny_bind (wpAny_pure (wpAny_bind ?_)))
  refine wpAny_nsSet1 (s := { s with toks := s.toks + 1 }) I.ns fun h' hn2 hs2 => ?_
  obtain ⟨oD, esD, epD, hoD, hdD, hcD⟩ := hn2.count (PySem.Within.cons name v hw)
  refine wpAny_bind (wpAny_lookBehind hoD (by rw [hdD]; exact pastItsLine_dict (Nat.le_trans hcD (by rw [List.length_cons]; omega))) ?_)
  exact wpAny_pure (h _ ⟨(hs2.2 _ (Ne.symm I.ne)).trans I.obj, hn2, I.ne⟩ hs2)
/-- C(..): the dict at the heap's end, the instance behind it; then its __init__ -/
theorem make_map {R : Result → Shared → Prop} {vs : List Value} {kw : List (Str × Value)} (X : K.In s.heap) (hm : PySem.W.makesIn K C = true)
    (hi : PySem.W.findIn K (.ref C) "__init__" = some (some (.ref f))) (hf : PySem.W.typeIn K (.ref f) = some (.type "function"))
    (h : codeAny (model prog w) (A.under (.builtin "type.__call__" ⟨.ref C :: vs, kw⟩)) (.call (.ref f) ⟨.ref (s.heap.objs.size + 1) :: vs, kw⟩) (PySem.W.InitBack (s.heap.objs.size + 1) R)
      { s with heap := (s.heap.push PySem.W.emptyDict).push (PySem.W.instObj C s.heap.objs.size) }) :
    codeAny (model prog w) A (.call (.ref C) ⟨vs, kw⟩) R s := by
  obtain ⟨hh, g, d, t, os⟩ := s
  exact PySem.W.make_core (PySem.W.makes_of X hm) (PySem.W.looks_findIn X hi) (fun self => PySem.W.bind_fn X self hf) (.inl rfl) h
end
def putF (f : Str) (v : V) : List (Str × V) → List (Str × V)
  | [] => [(f, v)]
  | (g, x) :: r => if g = f then (g, v) :: r else (g, x) :: putF f v r
theorem lookup_putF (f g : Str) (v : V) : ∀ fs : List (Str × V), (putF f v fs).lookup g = if g = f then some v else fs.lookup g
  | [] => by
    show List.lookup g [(f, v)] = _
    by_cases h : g = f
    · have hb : (g == f) = true := beq_iff_eq.mpr h
      simp only [List.lookup, hb, if_pos h]
    · have hb : (g == f) = false := beq_eq_false_iff_ne.mpr h
      simp only [List.lookup, hb, if_neg h]
  | (k, x) :: r => by
    have ih := lookup_putF f g v r
    rw [show putF f v ((k, x) :: r) = (if k = f then (k, v) :: r else (k, x) :: putF f v r) from rfl]
    by_cases hk : k = f
    · rw [if_pos hk]
      by_cases h : g = k
      · have hb : (g == k) = true := beq_iff_eq.mpr h
        simp only [List.lookup, hb, if_pos (h.trans hk)]
      · have hb : (g == k) = false := beq_eq_false_iff_ne.mpr h
        simp only [List.lookup, hb, if_neg (fun e : g = f => h (e.trans hk.symm))]
    · rw [if_neg hk]
      by_cases h : g = k
      · have hb : (g == k) = true := beq_iff_eq.mpr h
        simp only [List.lookup, hb, if_neg (fun e : g = f => hk (h.symm.trans e))]
      · have hb : (g == k) = false := beq_eq_false_iff_ne.mpr h
        simp only [List.lookup, hb]
        exact ih
theorem keys_putF (f : Str) (v : V) : ∀ fs : List (Str × V), f ∈ (putF f v fs).map (·.1) ∧ ∀ g, g ∈ fs.map (·.1) → g ∈ (putF f v fs).map (·.1)
  | [] => ⟨by simp [putF], fun g h => by simp at h⟩
  | (k, x) :: r => by
    obtain ⟨i1, i2⟩ := keys_putF f v r
    rw [show putF f v ((k, x) :: r) = (if k = f then (k, v) :: r else (k, x) :: putF f v r) from rfl]
    by_cases hk : k = f
    · rw [if_pos hk]
      subst hk
      exact ⟨by simp, fun g h => by simpa using h⟩
    · rw [if_neg hk]
      refine ⟨?_, fun g h => ?_⟩
      · rw [List.map_cons]
        exact List.mem_cons_of_mem _ i1
      · rw [List.map_cons] at h ⊢
        rcases List.mem_cons.mp h with e | e
        · exact List.mem_cons.mpr (.inl e)
        · exact List.mem_cons_of_mem _ (i2 g e)
theorem length_putF (f : Str) (v : V) : ∀ fs : List (Str × V), (putF f v fs).length ≤ fs.length + 1
  | [] => by simp [putF]
  | (k, x) :: r => by
    have ih := length_putF f v r
    rw [show putF f v ((k, x) :: r) = (if k = f then (k, v) :: r else (k, x) :: putF f v r) from rfl]
    by_cases hk : k = f
    · rw [if_pos hk, List.length_cons, List.length_cons]; omega
    · rw [if_neg hk, List.length_cons, List.length_cons]; omega
theorem RelO.some_of {v : V} {o : Option Value} (r : RelO (some v) o) : ∃ u, o = some u ∧ RelV v u := by
  cases o with
  | none => exact (show False from r).elim
  | some u => exact ⟨u, rfl, r⟩
theorem handed_of {v : V} {u : Value} (r : RelV v u) : PySem.W.handedIn u = true := by
  cases v with
  | non => cases (show u = Value.none from r); rfl
  | bl b => cases (show u = Value.bool b from r); rfl
  | int i => obtain ⟨t, e⟩ := (show ∃ t, u = Value.int i t from r); cases e; rfl
  | str x => obtain ⟨t, e⟩ := (show ∃ t, u = Value.str x t from r); cases e; rfl
  | byt b => obtain ⟨t, e⟩ := (show ∃ t, u = Value.bytes b t from r); cases e; rfl
  | flt b => obtain ⟨t, e⟩ := (show ∃ t, u = Value.float b t from r); cases e; rfl
  | ref a => cases (show u = Value.ref a from r); rfl
  | ty n => cases (show u = Value.type n from r); rfl
section
variable {P : Program} {w : World} {H H' : Hp} {h h' : Heap} {a C dx : Addr} {fs fs' : List (Str × V)}
theorem ins_get (hok : HOk P w H h) (e : H a = some (.ins C dx fs)) : ∃ mA, ObjM h a dx C mA ∧ (∀ f, RelO (fs.lookup f) (mA f)) ∧ PySem.Within mA (fs.map (·.1)) ∧ fs.length ≤ 1000 ∧ H dx = some (.own a) := by
  obtain ⟨d, z, ne, ob, mA, n, r, q⟩ := (show ObjOk P w H h a (.ins C dx fs) from hok a _ e)
  exact ⟨mA, ⟨ob, n, ne⟩, r, q, z, d⟩
end
structure Cls (K : PySem.W.Frag) (C : Addr) : Prop where
  pg : PySem.W.plainGet K C Str.empty = true
  hd : PySem.W.hasDictIn K C = true
  po : PySem.W.plainOver K C = true
  sa : PySem.W.findIn K (.ref C) "__setattr__" = some (some (.builtin "object.__setattr__"))
theorem Cls.get {K : PySem.W.Frag} {C : Addr} (c : Cls K C) (f : Str) : PySem.W.plainGet K C f = true := c.pg
/-- no class of it has the name -/
def NoAttr (K : PySem.W.Frag) (C : Addr) (f : Str) : Prop := PySem.W.findIn K (.ref C) f = some none
theorem NoAttr.taker {K : PySem.W.Frag} {C : Addr} {f : Str} (n : NoAttr K C f) : PySem.W.takerIn K C f = some none := by
  unfold PySem.W.takerIn
  rw [show PySem.W.findIn K (.ref C) f = some none from n]
  rfl
section
variable {X : Cx} {pins : List (Addr × Obj)} {σ : St} {H : Hp} {s : Shared} {a C dx : Addr} {fs : List (Str × V)} {f : Str} {v : V} {A : Around} {E : Value → Shared → Prop}
theorem getattr_ok {b : Bool} {Q : Value → Shared → Prop} (I : Inv X pins σ H s) (e : H a = some (.ins C dx fs)) (c : Cls X.K C) (n : NoAttr X.K C f) (l : fs.lookup f = some v)
    (h : ∀ u s', Inv X pins σ H s' → RelV v u → Q u s') : wpAny (model X.prog X.w) A (getAttr (.ref a) f b) Q E s := by
  obtain ⟨mA, O, r, _, _, _⟩ := ins_get I.hok e
  obtain ⟨u, hu, ru⟩ := RelO.some_of (v := v) (o := mA f) (by rw [← l]; exact r f)
  exact get_map I.kIn O (c.get f) c.hd n hu (handed_of ru) (h u _ (I.tok _) ru)
theorem setattr_ok {y : V} {u : Value} {Q : Unit → Shared → Prop} (I : Inv X pins σ H s) (e : H a = some (.ins C dx fs)) (c : Cls X.K C) (n : NoAttr X.K C f) (hl : fs.length < 1000) (ry : RelV y u)
    (h : ∀ s', Inv X pins σ (upd H a (.ins C dx (putF f y fs))) s' → Q () s') : wpAny (model X.prog X.w) A (setAttr (.ref a) f u) Q E s := by
  obtain ⟨mA, O, r, wi, _, ho⟩ := ins_get I.hok e
  have hz : (fs.map (·.1)).length ≤ sizeLine := by rw [List.length_map, sizeLine_eq]; omega
  refine set_map I.kIn O c.sa c.po n.taker c.hd wi hz fun h' O' sb => h _ ?_
  have hd : ∃ o, h'.get? dx = some o := let ⟨o, _, _, e', _⟩ := O'.ns; ⟨o, e'⟩
  refine I.write (x := a) (e := dx) (by rw [e]; exact True.intro) (.inr ho) (fun b q hb z => (sb.2 b hb).trans z) hd ?_
  refine ⟨by rw [upd_ne O.ne]; exact ho, ?_, O.ne, O'.obj, _, O'.ns, fun g => ?_, fun g hg => ?_⟩
  · have := length_putF f y fs; omega
  · show RelO ((putF f y fs).lookup g) (if g = f then some u else mA g)
    rw [lookup_putF]
    by_cases q : g = f
    · rw [if_pos q, if_pos q]; exact ry
    · rw [if_neg q, if_neg q]; exact r g
  · by_cases q : g = f
    · rw [q]; exact (keys_putF f y fs).1
    · refine (keys_putF f y fs).2 g (wi g fun z => hg ?_)
      show (if g = f then some u else mA g) = none
      rw [if_neg q]; exact z
/-- a new instance, tracked, without attributes -/
theorem Inv.made (I : Inv X pins σ H s) : Inv X pins σ (upd (upd H s.heap.objs.size (.own (s.heap.objs.size + 1))) (s.heap.objs.size + 1) (.ins C s.heap.objs.size []))
    { s with heap := (s.heap.push PySem.W.emptyDict).push (PySem.W.instObj C s.heap.objs.size) } := by
  have e1 : (s.heap.push PySem.W.emptyDict).get? s.heap.objs.size = some PySem.W.emptyDict := Heap.get?_push_size s.heap rfl
  have e2 : ((s.heap.push PySem.W.emptyDict).push (PySem.W.instObj C s.heap.objs.size)).get? (s.heap.objs.size + 1) = some (PySem.W.instObj C s.heap.objs.size) := by
    have := Heap.get?_push_size (s.heap.push PySem.W.emptyDict) (o := PySem.W.instObj C s.heap.objs.size) rfl
    rwa [Heap.size_push] at this
  have e3 : (s.heap.push PySem.W.emptyDict).Ns s.heap.objs.size (fun _ => none) := ⟨PySem.W.emptyDict, #[], _, e1, rfl, (fun e he => absurd he (by simp)), fun _ => rfl⟩
  have I1 := I.laid (a := s.heap.objs.size) (o := .own (s.heap.objs.size + 1)) (h' := s.heap.push PySem.W.emptyDict) (t' := s.toks) (fun b u q => Heap.get?_push_of_some _ q) (Nat.le_refl _) ⟨_, e1⟩
  refine I1.laid (a := s.heap.objs.size + 1) (o := .ins C s.heap.objs.size []) (t' := s.toks) (fun b u q => Heap.get?_push_of_some _ q) (Nat.le_of_eq (Heap.size_push _ _)) ?_
  have ne : s.heap.objs.size ≠ s.heap.objs.size + 1 := Nat.ne_of_lt (Nat.lt_succ_self _)
  refine ⟨by rw [upd_ne ne, upd_same], Nat.zero_le _, ne, e2, fun _ => none, (Heap.Ns1.of_empty e3).at fun o q => Heap.get?_push_of_some _ q, fun _ => True.intro, fun y hy => absurd rfl hy⟩
/-- e.f where nothing but the object is asked: through attributeBase (super) and the last hold -/
theorem attr_of {prog : Program} {w : World} {env : Env} {e : Expr} {f : Str} {pos : Pos} {s : Shared} {Q : Value → Shared → Prop} (hb : attributeBase e f env (eval e env) = eval e env)
    (h : wpAny (model prog w) A (eval e env) (fun o s₁ => wpAny (model prog w) A (getAttr o f true) Q E s₁) E s) : wpAny (model prog w) A (eval (.Attribute e f pos) env) Q E s :=
  Attribute_any_ h (by rw [arm_eval_Attribute, hb])
end
/-- e.f, an attribute of the instance -/
def tFld (K : PySem.W.Frag) (ta : TE) (f : Str) : TE := fun σ H Q => ta σ H fun x H1 => ∃ a C dx fs v, x = .ref a ∧ H1 a = some (.ins C dx fs) ∧ Cls K C ∧ NoAttr K C f ∧ fs.lookup f = some v ∧ Q v H1
/-- e.f = value -/
def sFld (K : PySem.W.Frag) (ta tv : TE) (f : Str) : TS := fun D σ H => tv σ H fun y H1 => ta σ H1 fun x H2 => ∃ a C dx fs, x = .ref a ∧ H2 a = some (.ins C dx fs) ∧ Cls K C ∧ NoAttr K C f ∧ fs.length < 1000 ∧
  D.nx σ (upd H2 a (.ins C dx (putF f y fs)))
/-- an augmented operator on two values -/
def InOp (X : Cx) (op : Operator) (rd : V → V → Hp → VK → Prop) : Prop :=
  ∀ (pins : List (Addr × Obj)) (s : Shared) (σ : St) (H : Hp) (x y : V) (u v : Value) (Q : VK), Inv X pins σ H s → RelV x u → RelV y v → rd x y H Q → wpAny (model X.prog X.w) X.A (inplaceOp op u v) (EP X pins σ Q) X.xe s
/-- e.f op= value -/
def sFldAug (K : PySem.W.Frag) (ta tv : TE) (rd : V → V → Hp → VK → Prop) (f : Str) : TS := fun D σ H => ta σ H fun x H1 => ∃ a C dx fs v, x = .ref a ∧ H1 a = some (.ins C dx fs) ∧ Cls K C ∧ NoAttr K C f ∧ fs.lookup f = some v ∧
  tv σ H1 fun y H2 => rd v y H2 fun z H3 => ∃ dx' fs', H3 a = some (.ins C dx' fs') ∧ fs'.length < 1000 ∧ D.nx σ (upd H3 a (.ins C dx' (putF f z fs')))
section
variable {X : Cx} {o e value : Expr} {f : Str} {pos pos' tpos : Pos} {ta tv : TE}
theorem pe_fld (he : PE X e ta) (hb : attributeBase e f X.env (eval e X.env) = eval e X.env) : PE X (.Attribute e f pos) (tFld X.K ta f) := by
  intro pins s σ H Q I h
  refine attr_of hb (thn (he pins s σ H _ I h) fun u s1 ⟨x, H1, I1, rx, a, C, dx, fs, v, ex, ea, c, n, l, q⟩ => ?_)
  subst ex
  obtain rfl : u = Value.ref a := rx
  exact getattr_ok I1 ea c n l fun u' s2 I2 ru => ⟨v, H1, I2, ru, q⟩
theorem ps_fld (ha : PE X o ta) (hv : PE X value tv) (hs : swapsWith value (some (.Attribute o f pos')) pos.line X.env = pure false) : PS X (.Assign [.Attribute o f pos'] value pos) (sFld X.K ta tv f) := by
  intro pins s σ H D I h
  refine plainObj_wpAny_Assign_Attribute (thn (hv pins s σ H _ I h) fun u s1 ⟨y, H1, I1, ry, q⟩ => thn (ha pins s1 σ H1 _ I1 q) fun ov s2 ⟨x, H2, I2, rx, a, C, dx, fs, ex, ea, c, n, l, q2⟩ => ?_) hs
  subst ex
  obtain rfl : ov = Value.ref a := rx
  exact setattr_ok I2 ea c n l ry fun s3 I3 => ⟨σ, _, I3, q2⟩
theorem ps_fldaug {op : Operator} {rd : V → V → Hp → VK → Prop} (ha : PE X o ta) (hv : PE X value tv) (hop : InOp X op rd) : PS X (.AugAssign (.Attribute o f tpos) op value pos) (sFldAug X.K ta tv rd f) := by
  intro pins s σ H D I h
  refine wpAny_AugAssign_AttributeAny (thn (ha pins s σ H _ I h) fun ov s1 ⟨x, H1, I1, rx, a, C, dx, fs, v, ex, ea, c, n, l, q⟩ => ?_)
  subst ex
  obtain rfl : ov = Value.ref a := rx
  refine getattr_ok I1 ea c n l fun u s2 I2 ru => thn (hv pins s2 σ H1 _ I2 q) fun w3 s3 ⟨y, H2, I3, ry, q3⟩ => thn (hop pins s3 σ H2 v y u w3 _ I3 ru ry q3) fun w4 s4 ⟨z, H3, I4, rz, dx', fs', ea', l', q4⟩ => ?_
  exact setattr_ok I4 ea' c n l' rz fun s5 I5 => ⟨σ, _, I5, q4⟩
def rAdd : V → V → Hp → VK → Prop := fun x y H Q => ∃ i j, x = .int i ∧ y = .int j ∧ Q (.int (i + j)) H
def rSub : V → V → Hp → VK → Prop := fun x y H Q => ∃ i j, x = .int i ∧ y = .int j ∧ Q (.int (i - j)) H
theorem in_add : InOp X .Add rAdd := by
  rintro pins s σ H x y u v Q I rx ry ⟨i, j, rfl, rfl, q⟩
  obtain ⟨t, rfl⟩ := (show ∃ t, u = Value.int i t from rx)
  obtain ⟨t', rfl⟩ := (show ∃ t', v = Value.int j t' from ry)
  exact PyProof.Rows.iadd_int ⟨.int (i + j), H, I.tok _, ⟨_, rfl⟩, q⟩
theorem in_sub : InOp X .Sub rSub := by
  rintro pins s σ H x y u v Q I rx ry ⟨i, j, rfl, rfl, q⟩
  obtain ⟨t, rfl⟩ := (show ∃ t, u = Value.int i t from rx)
  obtain ⟨t', rfl⟩ := (show ∃ t', v = Value.int j t' from ry)
  exact PyProof.Rows.isub_int ⟨.int (i - j), H, I.tok _, ⟨_, rfl⟩, q⟩
end
section
variable {X : Cx} {pins : List (Addr × Obj)} {σ : St} {H : Hp} {s : Shared} {A : Around} {E : Value → Shared → Prop} {Q : Value → Shared → Prop} {c : Value} {b : Bool}
end
end L2
namespace L2
open PySem PySem.Spec PyProof.Rows
structure Room (k : Nat) (A : Around) : Prop where
  hd : A.handled = none
  dp : A.depth + 3 * k + 5 < recursionLimit
  un : A.units + 16 * k + 200 < cLine
theorem Room.mono {j k : Nat} {A : Around} (r : Room k A) (h : j ≤ k) : Room j A := ⟨r.hd, by have := r.dp; omega, by have := r.un; omega⟩
theorem Room.deeper {k : Nat} {A : Around} (r : Room (k + 1) A) (env : Env) : Room k (A.deeper env) :=
  ⟨r.hd, by have := r.dp; show A.depth + 1 + 3 * k + 5 < _; omega, by have := r.un; show A.units + 3 + 16 * k + 200 < _; omega⟩
theorem make_depth {A : Around} {C : Addr} {us : List Value} {kw : List (Str × Value)} : (A.under (.builtin "type.__call__" ⟨.ref C :: us, kw⟩)).depth = A.depth + 1 := by
  first | rfl | simp [Around.under, Code.weight, Code.isCreation, Code.isGuard, Code.isCaller, Code.frames, Code.isFrame, guardIds]
theorem make_units {A : Around} {C : Addr} {us : List Value} {kw : List (Str × Value)} : (A.under (.builtin "type.__call__" ⟨.ref C :: us, kw⟩)).units = A.units + 1 := by
  first | rfl | simp [Around.under, Code.cUnits, Code.frames, Code.isFrame]
theorem Room.make {k : Nat} {A : Around} (r : Room (k + 1) A) (C : Addr) (us : List Value) (kw : List (Str × Value)) : Room k (A.under (.builtin "type.__call__" ⟨.ref C :: us, kw⟩)) :=
  ⟨r.hd, by have := r.dp; rw [make_depth]; omega, by have := r.un; rw [make_units]; omega⟩
theorem Room.depth {k : Nat} {A : Around} (r : Room k A) : A.depth < recursionLimit := by have := r.dp; omega
def tNil : TA := fun _ H Q => Q [] H
def tCons (ta : TE) (tr : TA) : TA := fun σ H Q => ta σ H fun x H1 => tr σ H1 fun xs H2 => Q (x :: xs) H2
section
variable {X : Cx} {e : Expr} {es : List Expr} {te : TE} {t : TA} {pos : Pos}
theorem pa_nil : PA X [] tNil := fun _ _ _ _ H Q I h => Calls.spliced_nil ⟨[], H, I, .nil, h⟩
theorem pa_cons (ha : PE X e te) (hr : PA X es t) (hs : starEach (e :: es) X.env = (false, eval e X.env) :: starEach es X.env := by rfl) : PA X (e :: es) (tCons te t) := by
  intro pos pins s σ H Q I h
  rw [hs]
  show wpAny _ _ (spliced ((false, eval e X.env) :: backTo pos (starEach es X.env))) _ _ s
  refine Calls.spliced_cons (thn (ha pins s σ H _ I h) fun u s1 ⟨x, H1, I1, r1, q1⟩ => ?_)
  exact thn (hr pos pins s1 σ H1 _ I1 q1) fun us s2 ⟨xs, H2, I2, r2, q2⟩ => ⟨x :: xs, H2, I2, .cons r1 r2, q2⟩
/-- a tuple, a list of written items -/
def tTup (t : TA) : TE := fun σ H Q => t σ H fun xs H1 => xs.length ≤ sizeLine ∧ ∀ p, H1 p = none → Q (.ref p) (upd H1 p (.tup xs))
def tLst (t : TA) : TE := fun σ H Q => t σ H fun xs H1 => xs.length ≤ sizeLine ∧ ∀ p, H1 p = none → Q (.ref p) (upd H1 p (.lst xs))
theorem pe_tup {x1} (h : PA X es t) : PE X (.Tuple es x1 pos) (tTup t) := by
  intro pins s σ H Q I hq
  refine wpAny_Tuple_spliced (thn (h pos pins s σ H _ I hq) fun us s1 ⟨xs, H1, I1, r, z, q⟩ => ⟨by rw [← r.length]; exact z, ?_⟩)
  have hf : H1 s1.heap.objs.size = none := I1.hok.fresh (Nat.le_refl _)
  refine ⟨.ref s1.heap.objs.size, upd H1 s1.heap.objs.size (.tup xs), I1.laid (t' := s1.toks) (fun b u e => Heap.get?_push_of_some _ e) (Nat.le_refl _) ?_, rfl, q _ hf⟩
  exact ⟨z, us, r, ⟨_, Heap.get?_push_size _ rfl, rfl, _, rfl⟩⟩
theorem pe_lst (h : PA X es t) : PE X (.List es pos) (tLst t) := by
  intro pins s σ H Q I hq
  refine wpAny_List_spliced (thn (h pos pins s σ H _ I hq) fun us s1 ⟨xs, H1, I1, r, z, q⟩ => ⟨by rw [← r.length]; exact z, ?_⟩)
  have hf : H1 s1.heap.objs.size = none := I1.hok.fresh (Nat.le_refl _)
  refine ⟨.ref s1.heap.objs.size, upd H1 s1.heap.objs.size (.lst xs), I1.laid (t' := s1.toks) (fun b u e => Heap.get?_push_of_some _ e) (Nat.le_refl _) ?_, rfl, q _ hf⟩
  exact ⟨z, us, 0, r, Heap.get?_push_size _ rfl⟩
end
/-- a def's promise: the bound arguments in the parameters' order, the heap, the wanted end, the wanted exception -/
abbrev Sp := List V → Hp → VK → XK → Prop
/-- how an exception lies behind a call (file 08 gives it): the callers' frames, abstract heap and state ahead of the call, the wish, the exception, the state -/
abbrev CXT := List Env → Hp → Shared → XK → Value → Shared → Prop
/-- the state at a call -/
structure Env0 (P : Program) (w : World) (K : PySem.W.Frag) (mg : Str → Option Value) (base : Heap) (A : Around) (outer : List Env) (s : Shared) (H : Hp) : Prop where
  frames : A.frames = some outer
  mod : Mod K mg base
  bs : ∀ b o, base.get? b = some o → s.heap.get? b = some o ∧ H b = none
  bsz : base.objs.size ≤ s.heap.objs.size
  funs : s.heap.FunFrames base outer
  frf : ∀ b ∈ frs outer, H b = none
  hok : HOk P w H s.heap
  bare : AllBare s.gens
/-- a call's end -/
def CE (outer : List Env) (P : Program) (w : World) (H : Hp) (s : Shared) (Q : VK) (u : Value) (s' : Shared) : Prop :=
  ∃ v H', s'.os = s.os ∧ AllBare s'.gens ∧ Un (frs outer) [] H H' s.heap s'.heap ∧ HOk P w H' s'.heap ∧ RelV v u ∧ Q v H'
def CR (CX : CXT) (outer : List Env) (P : Program) (w : World) (H : Hp) (s : Shared) (Q : VK) (E : XK) (r : Result) (s' : Shared) : Prop :=
  match r with
  | .ok (.ret u) => CE outer P w H s Q u s'
  | .ok _ => False
  | .error e => CX outer H s E e s'
structure FnOk (P : Program) (w : World) (K : PySem.W.Frag) (mg : Str → Option Value) (base : Heap) (CX : CXT) (k : Nat) (f : Addr) (fd : FuncData) (ps : List Str) (sp : Sp) : Prop where
  len : ∀ vs H Q E, sp vs H Q E → vs.length = ps.length
  run : ∀ (A : Around) (outer : List Env) (s : Shared) (H : Hp) (args : Args) (us : List Value) (vs : List V) (Q : VK) (E : XK), Room k A → Env0 P w K mg base A outer s H → BindsTo s fd args (ps.zip us) → Vals vs us → sp vs H Q E →
    codeAny (model P w) A (.call (.ref f) args) (CR CX outer P w H s Q E) s
theorem FnOk.mono {P : Program} {w : World} {K : PySem.W.Frag} {mg : Str → Option Value} {base : Heap} {CX : CXT} {j k : Nat} {f : Addr} {fd : FuncData} {ps : List Str} {sp : Sp} (F : FnOk P w K mg base CX j f fd ps sp) (h : j ≤ k) :
    FnOk P w K mg base CX k f fd ps sp := ⟨F.len, fun A outer s H args us vs Q E hr => F.run A outer s H args us vs Q E (hr.mono h)⟩
theorem Env0.make {P : Program} {w : World} {K : PySem.W.Frag} {mg : Str → Option Value} {base : Heap} {A : Around} {outer : List Env} {s : Shared} {H : Hp} (e : Env0 P w K mg base A outer s H) (C : Addr) (us : List Value) (kw : List (Str × Value)) :
    Env0 P w K mg base (A.under (.builtin "type.__call__" ⟨.ref C :: us, kw⟩)) outer s H := ⟨by first | exact e.frames | (simpa [Around.under, Code.envs, Code.isFrame, pushEnvs] using e.frames), e.mod, e.bs, e.bsz, e.funs, e.frf, e.hok, e.bare⟩
section
variable {X : Cx} {pins : List (Addr × Obj)} {σ : St} {H : Hp} {s s' : Shared}
/-- from a body: what a callee wants -/
theorem Inv.env0 (I : Inv X pins σ H s) : Env0 X.prog X.w X.K X.mg X.base X.A X.stack s H :=
  ⟨I.ok.frames, I.ok.mod, I.bs, Nat.le_trans I.ok.bsz I.sz, I.stack, I.stkFree, I.hok, I.bare⟩
/-- behind a call -/
theorem Inv.after {Q : VK} {u : Value} (I : Inv X pins σ H s) (h : CE X.stack X.prog X.w H s Q u s') : EP X pins σ Q u s' := by
  obtain ⟨v, H', os, bare, un, hok, r, q⟩ := h
  obtain ⟨hh, g, d, t, os'⟩ := s'
  obtain rfl : os' = s.os := os
  exact ⟨v, H', I.call (h' := hh) (g' := g) (d' := d) (t' := t) (ch := []) un hok bare (fun b z => absurd z (by simp)), r, q⟩
end
/-- f(..): the written arguments, then the defaults dvs; E: what is wanted of an exception -/
def tCall (sp : Sp) (dvs : List V) (E : XK) (t : TA) : TE := fun σ H Q => t σ H fun vs H1 => sp (vs ++ dvs) H1 Q E
/-- C(..): a new instance and its dict, then __init__ -/
def tMake (C : Addr) (sp : Sp) (dvs : List V) (E : XK) (t : TA) : TE := fun σ H Q => t σ H fun vs H1 => ∀ x dx, H1 x = none → H1 dx = none → dx ≠ x →
  sp (.ref x :: (vs ++ dvs)) (upd (upd H1 dx (.own x)) x (.ins C dx [])) (fun v H2 => v = .non ∧ Q (.ref x) H2) E
/-- how the parameters are bound: us the positional arguments, kw the keywords' values by name, ds the defaults that fill up -/
def Binds (K : PySem.W.Frag) (fd : FuncData) (ps : List Str) (ds : List Value) : Prop :=
  ∀ (s : Shared) (us : List Value), K.In s.heap → (us ++ ds).length = ps.length → BindsTo s fd ⟨us, []⟩ (ps.zip (us ++ ds))
/-- every parameter is given -/
theorem Binds.all {K : PySem.W.Frag} {fd : FuncData} {ps : List Str} (h : ∀ us : List Value, us.length = ps.length → bindArgs fd ⟨us, []⟩ = pure (ps.zip us)) : Binds K fd ps [] := fun s us _ hl => by
  rw [List.append_nil] at hl ⊢
  exact .of_eq (h us hl)
/-- an exception of a callee reaches what this body wants of exceptions -/
def Passes (CX : CXT) (X : Cx) (E : XK) : Prop := ∀ (pins : List (Addr × Obj)) (σ : St) (H : Hp) (s : Shared) (e : Value) (s' : Shared), Inv X pins σ H s → CX X.stack H s E e s' → X.xe e s'
section
variable {X : Cx} {CX : CXT} {k : Nat} {f C : Addr} {fd : FuncData} {ps : List Str} {sp : Sp} {dvs : List V} {ds : List Value} {E : XK} {x m : Str} {p pos apos : Pos} {e o : Expr} {es : List Expr} {ta : TE} {t : TA}
/-- the callee runs -/
theorem run_fn {pins : List (Addr × Obj)} {σ : St} {H : Hp} {s : Shared} {Q : VK} {us : List Value} {vs : List V} (F : FnOk X.prog X.w X.K X.mg X.base CX k f fd ps sp) (hr : Room k X.A) (hb : Binds X.K fd ps ds) (hd : Vals dvs ds) (hx : Passes CX X E)
    (I : Inv X pins σ H s) (r : Vals vs us) (h : sp (vs ++ dvs) H Q E) : wpAny (model X.prog X.w) X.A (call (.ref f) us) (EP X pins σ Q) X.xe s := by
  have r2 : Vals (vs ++ dvs) (us ++ ds) := r.append hd
  have hl : (us ++ ds).length = ps.length := by rw [← r2.length]; exact F.len _ _ _ _ h
  refine wpAny_call (codeAny_mono (F.run X.A X.stack s H ⟨us, []⟩ (us ++ ds) (vs ++ dvs) Q E hr I.env0 (hb s us I.kIn hl) r2 h) fun r s' hq => ?_)
  cases r with
  | error e => exact hx pins σ H s e s' I hq
  | ok fl =>
    cases fl with
    | ret u => exact I.after hq
    | next => exact False.elim hq
    | brk => exact False.elim hq
    | cont => exact False.elim hq
theorem pe_call (F : FnOk X.prog X.w X.K X.mg X.base CX k f fd ps sp) (hr : Room k X.A) (hg : Gl X x) (hm : X.mg x = some (.ref f)) (hk : PySem.W.keepIn X.K (.ref f) = true) (hb : Binds X.K fd ps ds) (hd : Vals dvs ds) (hx : Passes CX X E)
    (ha : PA X (e :: es) t) (hdb : (x == ("__debug__" : Str)) = false := by decide) (he : starEach (e :: es) X.env = (false, eval e X.env) :: starEach es X.env := by rfl) (hpl : (backTo pos (starEach es X.env)).any (·.1) = false := by rfl) :
    PE X (.Call (.Name x p) (e :: es) [] pos) (tCall sp dvs E t) := by
  intro pins s σ H Q I h
  refine wpAny_Call_Name_kw (ld_glob I hg hm ?_ hdb)
  refine PySem.W.callWith_K (h₀ := X.base) I.ok.mod.kin hk (thn (ha pos pins s σ H _ I h) fun us s1 ⟨vs, H1, I1, r, q⟩ => ⟨I1.kIn, ?_⟩) he hpl
  exact run_fn F hr hb hd hx I1 r q
/-- what a class must have to be made -/
structure Mk (K : PySem.W.Frag) (C f : Addr) : Prop where
  makes : PySem.W.makesIn K C = true
  init : PySem.W.findIn K (.ref C) "__init__" = some (some (.ref f))
  fn : PySem.W.isFn K (.ref f) = true
  kp : PySem.W.keepIn K (.ref C) = true
theorem run_make {pins : List (Addr × Obj)} {σ : St} {H : Hp} {s : Shared} {Q : VK} {us : List Value} {vs : List V} (M : Mk X.K C f) (F : FnOk X.prog X.w X.K X.mg X.base CX k f fd ps sp) (hr : Room (k + 1) X.A) (hb : Binds X.K fd ps ds) (hd : Vals dvs ds)
    (hx : Passes CX X E) (I : Inv X pins σ H s) (r : Vals vs us)
    (h : ∀ x dx, H x = none → H dx = none → dx ≠ x → sp (.ref x :: (vs ++ dvs)) (upd (upd H dx (.own x)) x (.ins C dx [])) (fun v H2 => v = .non ∧ Q (.ref x) H2) E) :
    wpAny (model X.prog X.w) X.A (call (.ref C) us) (EP X pins σ Q) X.xe s := by
  have hq := h (s.heap.objs.size + 1) s.heap.objs.size (I.hok.fresh (Nat.le_succ _)) (I.hok.fresh (Nat.le_refl _)) (Nat.ne_of_lt (Nat.lt_succ_self _))
  have I2 := Inv.made (C := C) I
  have r2 : Vals (V.ref (s.heap.objs.size + 1) :: (vs ++ dvs)) (Value.ref (s.heap.objs.size + 1) :: (us ++ ds)) := .cons rfl (r.append hd)
  have hl : (Value.ref (s.heap.objs.size + 1) :: us ++ ds).length = ps.length := by
    have e := r2.length
    rw [F.len _ _ _ _ hq] at e
    exact e.symm
  refine wpAny_call (make_map (f := f) I.kIn M.makes M.init (beq_iff_eq.mp M.fn) (codeAny_mono (F.run _ X.stack _ _ ⟨Value.ref (s.heap.objs.size + 1) :: us, []⟩ (Value.ref (s.heap.objs.size + 1) :: (us ++ ds)) _ _ E (hr.make C us [])
    (I2.env0.make C us []) (hb _ (Value.ref (s.heap.objs.size + 1) :: us) I2.kIn hl) r2 hq) fun r s' hq' => ?_))
  cases r with
  | error e => exact hx pins σ _ _ e s' I2 hq'
  | ok fl =>
    cases fl with
    | ret u =>
      obtain ⟨v, H', I3, rv, ev, q3⟩ := I2.after hq'
      subst ev
      exact ⟨rv, ⟨V.ref (s.heap.objs.size + 1), H', I3, rfl, q3⟩⟩
    | next => exact False.elim hq'
    | brk => exact False.elim hq'
    | cont => exact False.elim hq'
theorem pe_make (M : Mk X.K C f) (F : FnOk X.prog X.w X.K X.mg X.base CX k f fd ps sp) (hr : Room (k + 1) X.A) (hg : Gl X x) (hm : X.mg x = some (.ref C)) (hb : Binds X.K fd ps ds) (hd : Vals dvs ds) (hx : Passes CX X E)
    (ha : PA X (e :: es) t) (hdb : (x == ("__debug__" : Str)) = false := by decide) (he : starEach (e :: es) X.env = (false, eval e X.env) :: starEach es X.env := by rfl) (hpl : (backTo pos (starEach es X.env)).any (·.1) = false := by rfl) :
    PE X (.Call (.Name x p) (e :: es) [] pos) (tMake C sp dvs E t) := by
  intro pins s σ H Q I h
  refine wpAny_Call_Name_kw (ld_glob I hg hm ?_ hdb)
  refine PySem.W.callWith_K (h₀ := X.base) I.ok.mod.kin M.kp (thn (ha pos pins s σ H _ I h) fun us s1 ⟨vs, H1, I1, r, q⟩ => ⟨I1.kIn, ?_⟩) he hpl
  exact run_make M F hr hb hd hx I1 r q
theorem pe_make0 (M : Mk X.K C f) (F : FnOk X.prog X.w X.K X.mg X.base CX k f fd ps sp) (hr : Room (k + 1) X.A) (hg : Gl X x) (hm : X.mg x = some (.ref C)) (hb : Binds X.K fd ps ds) (hd : Vals dvs ds) (hx : Passes CX X E)
    (hdb : (x == ("__debug__" : Str)) = false := by decide) : PE X (.Call (.Name x p) [] [] pos) (tMake C sp dvs E tNil) := by
  intro pins s σ H Q I h
  refine wpAny_Call_Name_kw (ld_glob I hg hm ?_ hdb)
  exact PySem.W.callWith_K0 I.kIn M.kp (run_make (us := []) M F hr hb hd hx I .nil h)
end
section
variable {X : Cx} {CX : CXT} {k : Nat} {f C : Addr} {fd : FuncData} {ps ks : List Str} {sp : Sp} {E : XK} {x m : Str} {p pos apos kpos : Pos} {e o : Expr} {es : List Expr} {kws : List Keyword} {te ta : TE} {t tk : TA} {nm : Option Str}
variable {g : List Value → List Value → List Value} {gV : List V → List V → List V}
end
/-- names: the parameters first -/
structure FnScope (N P : List Str) (sc : Scope) : Prop where
  kind : sc.kind = .function
  co : sc.isCoroutine = false
  gen : sc.isGenerator = false
  nd : N.Nodup
  pre : N.take P.length = P
  par : ∀ x ∈ P, sc.names.lookup x = some .local ∨ sc.names.lookup x = some .cell
  nofree : ∀ y ∈ sc.names, y.2 ≠ .free
theorem bindL_out {kindOf : Str → Option NameKind} {x : Str} : ∀ {binds : List (Str × Value)} {m : Str → Option Value}, (∀ v, (x, v) ∉ binds) → bindL kindOf binds m x = m x
  | [], _, _ => rfl
  | (n, v) :: r, m, h => by
    unfold bindL
    rw [bindL_out fun w hw => h w (List.mem_cons_of_mem _ hw)]
    split
    · have : x ≠ n := by rintro rfl; exact h v List.mem_cons_self
      simp [this]
    · rfl
theorem bindC_out {kindOf : Str → Option NameKind} {x : Str} : ∀ {binds : List (Str × Value)} {m : Str → Option Value}, (∀ v, (x, v) ∉ binds) → bindC kindOf binds m x = m x
  | [], _, _ => rfl
  | (n, v) :: r, m, h => by
    unfold bindC
    rw [bindC_out fun w hw => h w (List.mem_cons_of_mem _ hw)]
    split
    · rfl
    · have : x ≠ n := by rintro rfl; exact h v List.mem_cons_self
      simp [this]
theorem bindL_get {kindOf : Str → Option NameKind} {x : Str} {v : Value} : ∀ {P : List Str} {vs : List Value} {i : Nat} {m : Str → Option Value}, P.Nodup → P[i]? = some x → vs[i]? = some v → kindOf x = some .local →
    bindL kindOf (P.zip vs) m x = some v
  | [], _, _, _, _, h, _, _ => by simp at h
  | _ :: _, [], _, _, _, _, h, _ => by simp at h
  | p :: P, w :: vs, 0, m, nd, h1, h2, hk => by
    simp at h1 h2; subst h1; subst h2
    show bindL kindOf ((p, w) :: P.zip vs) m p = _
    unfold bindL
    rw [bindL_out fun v hv => (List.nodup_cons.mp nd).1 (List.of_mem_zip hv).1, if_pos hk]
    simp
  | p :: P, w :: vs, i + 1, m, nd, h1, h2, hk => by
    show bindL kindOf ((p, w) :: P.zip vs) m x = _
    unfold bindL
    exact bindL_get (i := i) (List.nodup_cons.mp nd).2 (by simpa using h1) (by simpa using h2) hk
theorem bindC_get {kindOf : Str → Option NameKind} {x : Str} {v : Value} : ∀ {P : List Str} {vs : List Value} {i : Nat} {m : Str → Option Value}, P.Nodup → P[i]? = some x → vs[i]? = some v → kindOf x ≠ some .local →
    bindC kindOf (P.zip vs) m x = some v
  | [], _, _, _, _, h, _, _ => by simp at h
  | _ :: _, [], _, _, _, _, h, _ => by simp at h
  | p :: P, w :: vs, 0, m, nd, h1, h2, hk => by
    simp at h1 h2; subst h1; subst h2
    show bindC kindOf ((p, w) :: P.zip vs) m p = _
    unfold bindC
    rw [bindC_out fun v hv => (List.nodup_cons.mp nd).1 (List.of_mem_zip hv).1, if_neg hk]
    simp
  | p :: P, w :: vs, i + 1, m, nd, h1, h2, hk => by
    show bindC kindOf ((p, w) :: P.zip vs) m x = _
    unfold bindC
    exact bindC_get (i := i) (List.nodup_cons.mp nd).2 (by simpa using h1) (by simpa using h2) hk
/-- the names' values at the entry -/
def start (N : List Str) (vs : List V) : St := vs.map some ++ List.replicate (N.length - vs.length) none
/-- the context of a def's body, at its entry; an exception leaves the frame, then lies as CX says -/
def cxOf (CX : CXT) (P : Program) (w : World) (K : PySem.W.Frag) (mg : Str → Option Value) (base : Heap) (N : List Str) (qual : Str) (scope : Scope) (f : Addr) (cd : Value) (A : Around) (outer : List Env) (s : Shared) (H : Hp) (E : XK) : Cx where
  prog := P
  w := w
  K := K
  mg := mg
  base := base
  A := A.deeper (envOfC qual scope s.heap.objs.size f cd)
  N := N
  s_0 := s
  H_0 := H
  env := envOfC qual scope s.heap.objs.size f cd
  outer := outer
  stack := envOfC qual scope s.heap.objs.size f cd :: outer
  ex := []
  calm := true
  fn := fun _ => true
  pn := []
  xe := fun e s' => wpAny (model P w) (A.deeper (envOfC qual scope s.heap.objs.size f cd)) (leaving (envOfC qual scope s.heap.objs.size f cd) e) (fun _ s'' => CX outer H s E e s'') (fun e' s'' => CX outer H s E e' s'') s'
theorem cell_has {sc : Scope} {n : Nat} {x : Str} (h : sc.names.lookup x = some .cell) : ∃ c, (cellsFrom n sc.names []).lookup x = some c := by
  have q := PySem.W.cellsFrom_some sc.names n [] (.inl h)
  exact Option.isSome_iff_exists.mp q
theorem inv_start {CX : CXT} {P : Program} {w : World} {K : PySem.W.Frag} {mg : Str → Option Value} {base : Heap} {N ps : List Str} {qual : Str} {scope : Scope} {f : Addr} {cd : Value} {A : Around} {outer : List Env} {s s1 : Shared} {H : Hp} {E : XK} {us : List Value} {vs : List V}
    (S : FnScope N ps scope) (hd : A.handled = none) (e0 : Env0 P w K mg base A outer s H) (hl : vs.length = ps.length) (r : Vals vs us)
    (x : InCallC s s.heap.objs.size (bindL (envOfC qual scope s.heap.objs.size f cd).kindOf (ps.zip us) fun _ => none) (cellsFrom (s.heap.objs.size + 1) scope.names []) (bindC (envOfC qual scope s.heap.objs.size f cd).kindOf (ps.zip us) fun _ => none) s1) :
    Inv (cxOf CX P w K mg base N qual scope f cd A outer s H E) [] (start N vs) H s1 := by
  have hpl : ps.length ≤ N.length := by have := congrArg List.length S.pre; rw [List.length_take] at this; omega
  obtain ⟨h1, tk, rfl, hk⟩ := x.done
  have noA : ∀ b : Addr, b ∉ (cxOf CX P w K mg base N qual scope f cd A outer s H E).ex := fun b z => absurd (show b ∈ ([] : List Addr) from z) (by simp)
  refine ⟨⟨e0.mod, S.kind, rfl, rfl, Nat.le_refl _, fun y z c h1 h2 => ?_, fun y hy => ?_, fun y c _ h => ?_, fun _ => hd, Around.frames_deeper e0.frames, .inr ⟨rfl, rfl⟩, fun b z => absurd z (noA b), e0.bs, e0.bsz, fun b _ _ => noA b, fun b z => absurd z (noA b), e0.funs, e0.frf⟩,
    rfl, e0.bare, Un.kept hk, ⟨_, x.toInCall.ns, fun i y v h1 h2 h3 => ?_⟩, fun y c h => ⟨_, x.cell y c h⟩, e0.hok.fresh (Nat.le_refl _), fun y c h => ?_, fun p hp => absurd (show p ∈ ([] : List (Addr × Obj)) from hp) (by simp), e0.hok.kept hk, ?_⟩
  · exact name_of_addr x.apart (PySem.mem_of_lookup h1) (PySem.mem_of_lookup h2)
  · have hy : scope.names.lookup y = some .cell ∨ scope.names.lookup y = some .free := hy
    rcases hy with hy | hy
    · exact cell_has hy
    · exact absurd rfl (S.nofree _ (PySem.mem_of_lookup hy))
  · exact Nat.le_of_lt (x.above y c (PySem.mem_of_lookup h))
  · have hi : i < vs.length := by
      unfold start at h2
      by_cases hi : i < vs.length
      · exact hi
      · rw [List.getElem?_append_right (by simpa using hi)] at h2
        rw [List.getElem?_replicate] at h2
        split at h2 <;> cases h2
    have ha : vs[i]? = some v := by
      unfold start at h2
      rw [List.getElem?_append_left (by simpa using hi), List.getElem?_map] at h2
      cases e : vs[i]? with
      | none => rw [e] at h2; cases h2
      | some a => rw [e] at h2; cases h2; rfl
    obtain ⟨u, hu, rv⟩ := r.get ha
    have hp : ps[i]? = some y := by
      rw [← S.pre, List.getElem?_take_of_lt (by omega)]; exact h1
    have ndP : ps.Nodup := by rw [← S.pre]; exact S.nd.sublist (List.take_sublist _ _)
    refine ⟨u, rv, ?_⟩
    rcases S.par y (List.mem_of_getElem? hp) with k | k
    · exact .inl ⟨k, bindL_get ndP hp hu k⟩
    · obtain ⟨c, e⟩ := cell_has (n := s.heap.objs.size + 1) k
      refine .inr ⟨.inl k, c, e, ?_⟩
      have q := x.cell y c e
      rw [bindC_get ndP hp hu (by show scope.names.lookup y ≠ _; rw [k]; decide)] at q
      exact q
  · exact e0.hok.fresh (Nat.le_of_lt (x.above y c (PySem.mem_of_lookup h)))
  · unfold start
    show _ = N.length
    rw [List.length_append, List.length_map, List.length_replicate]
    omega
/-- THE RULE: a def (or a method) of the text, by its body. The body's reading t is chosen for each entry; it is run at the parameters' values -/
theorem fn_of {CX : CXT} {P : Program} {w : World} {K : PySem.W.Frag} {mg : Str → Option Value} {base : Heap} {k : Nat} {f : Addr} {name qual : Str} {params : Arguments} {body : List Stmt} {scope : Scope} {dV kV doc pm cdv ct oc : Value} {an od : Option Addr}
    {osl : Array (Option Value)} {N ps : List Str} {sp : Sp} (lk : K.lookup f = some ⟨oc, od, .func (PySem.W.fnOf name qual params body scope dV kV doc pm an cdv ct), osl⟩) (hcd : PySem.W.codeIn K cdv qual = true) (S : FnScope N ps scope)
    (len : ∀ vs H Q E, sp vs H Q E → vs.length = ps.length)
    (hbody : ∀ (A : Around) (outer : List Env) (s : Shared) (H : Hp) (vs : List V) (Q : VK) (E : XK), Room k (A.deeper (envOfC qual scope s.heap.objs.size f cdv)) → sp vs H Q E →
      ∃ t, PSs (cxOf CX P w K mg base N qual scope f cdv A outer s H E) body t ∧ t { nx := fun _ H' => Q .non H', rt := Q } (start N vs) H) :
    FnOk P w K mg base CX (k + 1) f (PySem.W.fnOf name qual params body scope dV kV doc pm an cdv ct) ps sp := by
  refine ⟨len, fun A outer s H args us vs Q E hr e0 hb r hsp => ?_⟩
  have hl := len _ _ _ _ hsp
  have KX : K.In s.heap := e0.mod.kin.keeps fun b o e => (e0.bs b o e).1
  have lim : s.heap.NoLimit := e0.mod.nolimit.keeps fun b o e => (e0.bs b o e).1
  have hkind : ∀ y ∈ ps.zip us, scope.names.lookup y.1 = some .local ∨ (scope.names.lookup y.1 = some .cell ∧ ((cellsFrom (s.heap.objs.size + 1) scope.names []).lookup y.1).isSome = true) := fun ⟨n, v⟩ hy => by
    rcases S.par n (List.of_mem_zip hy).1 with q | q
    · exact .inl q
    · exact .inr ⟨q, PySem.W.cellsFrom_some _ _ _ (.inl q)⟩
  refine codeAny_call_function hr.depth (KX _ _ lk) rfl S.co S.gen rfl (PySem.W.codeRec_of KX hcd) (hb _ _ _ _ ?_)
  refine wpAny_newFunctionEnv_cells S.kind hkind fun env he s1 x => ?_
  subst he
  refine ⟨lim.keeps x.toInCall.keep, codeAny_func ?_⟩
  obtain ⟨t, ht, hq⟩ := hbody A outer s H vs Q E (hr.deeper _) hsp
  have I : Inv (cxOf CX P w K mg base N qual scope f cdv A outer s H E) [] (start N vs) H s1 := inv_start S hr.hd e0 hl r x
  refine wpAny_mono (ht [] s1 (start N vs) H _ I hq) (fun fl s' hs => ?_) fun e s' hs => hs
  have fin : ∀ {σ' : St} {H' : Hp} {v : V} {u : Value}, Inv (cxOf CX P w K mg base N qual scope f cdv A outer s H E) [] σ' H' s' → RelV v u → Q v H' → CE outer P w H s Q u s' :=
    fun {σ' H' v u} J rv q => ⟨v, H', J.os, J.bare, J.base, J.hok, rv, q⟩
  cases fl with
  | ret u =>
    obtain ⟨v, σ', H', J, rv, q⟩ := hs
    exact fin J rv q
  | next =>
    obtain ⟨σ', H', J, q⟩ := hs
    exact fin (v := V.non) (u := Value.none) J rfl q
  | brk =>
    obtain ⟨_, _, _, q⟩ := hs
    exact False.elim q
  | cont =>
    obtain ⟨_, _, _, q⟩ := hs
    exact False.elim q
end L2
namespace L2
open PySem PySem.Spec PyProof.Rows
section
variable {X : Cx} {x : Str} {p pos : Pos} {e : Expr} {es : List Expr} {t : TA} {id T : String} {r : List V → Hp → VK → Prop}
def tCB (r : List V → Hp → VK → Prop) (t : TA) : TE := fun σ H Q => t σ H fun vs H1 => r vs H1 Q
/-- f(e, ..), f a built-in function -/
theorem pe_callB (hc : CallR X (.builtin id) r) (hg : Gl X x) (hm : X.mg x = none) (hv : bootBuiltins x = some (.builtin id)) (ha : PA X (e :: es) t) (hn : x ≠ "__name__" := by decide) (hdb : (x == ("__debug__" : Str)) = false := by decide)
    (he : starEach (e :: es) X.env = (false, eval e X.env) :: starEach es X.env := by rfl) (hpl : (backTo pos (starEach es X.env)).any (·.1) = false := by rfl) : PE X (.Call (.Name x p) (e :: es) [] pos) (tCB r t) := by
  intro pins s σ H Q I h
  refine wpAny_Call_Name_kw (ld_blt I hg hm hv ?_ hn hdb)
  exact PyProof.Rows.callWith_builtin1 (thn (ha pos pins s σ H _ I h) fun us s1 ⟨vs, H1, I1, r1, q1⟩ => hc pins s1 σ H1 vs us Q I1 r1 q1) he hpl
end
end L2
namespace HT
open PySem PyProof.Rows
section
open PySem.SeqAt
open PySem.AutoSeq1 (wpAny_loadPart')
open PySem.MeetsSeq PySem.MeetsSeq2 PySem.MeetsSeq3
end
section
variable {prog : Program} {w : World} {A : Around} {E : Value → Shared → Prop} {s : Shared}
/-- a slice's bound as a place among n (d where it is left out) -/
def sIx (n d : Nat) : Option Int → Nat
  | none => d
  | some v => if v < 0 then (v + (n : Int)).toNat else min v.toNat n
theorem sIx_nat (n d k : Nat) : sIx n d (some (k : Int)) = min k n := by
  show (if (k : Int) < 0 then ((k : Int) + (n : Int)).toNat else min (k : Int).toNat n) = min k n
  rw [if_neg (by omega), Int.toNat_natCast]
end
end HT
namespace L2
open PySem PySem.Spec PyProof.Rows
abbrev TO := St → Hp → (Option Int → Hp → Prop) → Prop
/-- a slice's part (left out, or an int) -/
def PO (X : Cx) (e : Option Expr) (t : TO) : Prop :=
  ∀ (pins : List (Addr × Obj)) (s : Shared) (σ : St) (H : Hp) (Q : Option Int → Hp → Prop), Inv X pins σ H s → t σ H Q →
    wpAny (model X.prog X.w) X.A (evalPart e X.env) (fun u s' => ∃ o H', Inv X pins σ H' s' ∧ IsPart u o ∧ Q o H') X.xe s
def tPart (t : TE) : TO := fun σ H Q => t σ H fun x H1 => ∃ i, x = .int i ∧ Q (some i) H1
section
variable {X : Cx} {e : Expr} {te : TE} {lo hi : Option Expr} {tl th : TO} {pos p2 : Pos}
theorem po_some (h : PE X e te) : PO X (some e) (tPart te) := by
  intro pins s σ H Q I hw
  rw [evalPart_some]
  refine thn (h pins s σ H _ I hw) fun u s1 ⟨x, H1, I1, r1, q1⟩ => ?_
  obtain ⟨i, rfl, q⟩ := q1
  obtain ⟨t, rfl⟩ := r1
  exact ⟨some i, H1, I1, .int i t, q⟩
/-- what a slice of a value is, by values: the slice object stands at sl -/
def SlR (X : Cx) (r : V → Option Int → Option Int → Hp → VK → Prop) : Prop :=
  ∀ (pins : List (Addr × Obj)) (s : Shared) (σ : St) (H : Hp) (x : V) (v vl vu : Value) (lo hi : Option Int) (sl : Addr) (Q : VK), Inv X pins σ H s → RelV x v → s.heap.IsSliceOf sl vl vu .none → IsPart vl lo → IsPart vu hi → r x lo hi H Q →
    ∃ T id, typeLookup (.type T) "__getitem__" = pure (some (.builtin id)) ∧ s.TypeIs v T ∧ wpAny (model X.prog X.w) X.A (getItem v (.ref sl)) (EP X pins σ Q) X.xe s
def tSl (r : V → Option Int → Option Int → Hp → VK → Prop) (te : TE) (tl th : TO) : TE := fun σ H Q => te σ H fun x H1 => tl σ H1 fun l H2 => th σ H2 fun u H3 => r x l u H3 Q
/-- a[lo:hi], any a -/
theorem pe_slice {r : V → Option Int → Option Int → Hp → VK → Prop} (hr : SlR X r) (he : PE X e te) (hl : PO X lo tl) (hu : PO X hi th) : PE X (.Subscript e (.Slice lo hi none p2) pos) (tSl r te tl th) := by
  intro pins s σ H Q I h
  refine Subscript_ (thn (he pins s σ H _ I h) fun v s1 ⟨x, H1, I1, r1, q1⟩ => ?_)
  refine wpAny_Slice (thn (hl pins s1 σ H1 _ I1 q1) fun vl s2 ⟨l, H2, I2, pl, q2⟩ => thn (hu pins s2 σ H2 _ I2 q2) fun vu s3 ⟨u, H3, I3, pu, q3⟩ => ?_)
  rw [evalPart_none]
  refine wpAny_pure ?_
  have I4 : Inv X pins σ H3 { s3 with heap := s3.heap.push { cls := .type "slice", data := .fields #[vl, vu, .none] } } := I3.kept (t' := s3.toks) fun b ob q => Heap.get?_push_of_some _ q
  obtain ⟨T, id, hT, ht, hg⟩ := hr pins { s3 with heap := s3.heap.push { cls := .type "slice", data := .fields #[vl, vu, .none] } } σ H3 x v vl vu l u s3.heap.objs.size Q I4 r1 (Heap.IsSliceOf.new ..) pl pu q3
  show wpAny (model X.prog X.w) X.A (subscriptTail e (.Slice lo hi none p2) v (.ref s3.heap.objs.size)) (EP X pins σ Q) X.xe { s3 with heap := s3.heap.push { cls := .type "slice", data := .fields #[vl, vu, .none] } }
  exact tail_any (ops := [.ref s3.heap.objs.size, v]) ht hT hg (by with_unfolding_all rfl)
/-- the items of xs[lo:hi] -/
def cutV (xs : List V) (lo hi : Option Int) : List V := (xs.drop (HT.sIx xs.length 0 lo)).take (HT.sIx xs.length xs.length hi - HT.sIx xs.length 0 lo)
theorem cutV_length (xs : List V) (lo hi : Option Int) : (cutV xs lo hi).length ≤ xs.length := by
  unfold cutV
  rw [List.length_take, List.length_drop]
  omega
end
end L2
namespace L2
open PySem PySem.Spec PyProof.Rows
/-- the place that an index of any sign means -/
def ixN (n : Nat) (i : Int) : Option Nat := if 0 ≤ i then (if i < n then some i.toNat else none) else if -(n : Int) ≤ i then some (i + n).toNat else none
def atI {α : Type} (xs : List α) (i : Int) : Option α := (ixN xs.length i).bind fun j => xs[j]?
theorem ixN_seq {n : Nat} {i : Int} {j : Nat} (h : ixN n i = some j) : seqIndex? i n = some j ∧ j < n ∧ -(n : Int) ≤ i ∧ i < n := by
  unfold ixN at h
  by_cases h0 : 0 ≤ i
  · rw [if_pos h0] at h
    by_cases h1 : i < n
    · rw [if_pos h1] at h
      have e : i.toNat = j := Option.some.inj h
      exact ⟨by rw [seqIndex_of h0 h1, e], by omega, by omega, h1⟩
    · rw [if_neg h1] at h; cases h
  · rw [if_neg h0] at h
    by_cases h1 : -(n : Int) ≤ i
    · rw [if_pos h1] at h
      have e : (i + n).toNat = j := Option.some.inj h
      exact ⟨by rw [seqIndex_neg (by omega) h1, e], by omega, h1, by omega⟩
    · rw [if_neg h1] at h; cases h
theorem atI_get {α : Type} {xs : List α} {i : Int} {v : α} (h : atI xs i = some v) : ∃ j, seqIndex? i xs.length = some j ∧ xs[j]? = some v ∧ j < xs.length ∧ -(xs.length : Int) ≤ i ∧ i < xs.length := by
  unfold atI at h
  cases e : ixN xs.length i with
  | none => rw [e] at h; cases h
  | some j =>
    rw [e] at h
    obtain ⟨h1, h2, h3, h4⟩ := ixN_seq e
    exact ⟨j, h1, h, h2, h3, h4⟩
theorem atI_nat {α : Type} {xs : List α} {j : Nat} {v : α} (h : xs[j]? = some v) : atI xs (j : Int) = some v := by
  have hj : j < xs.length := (List.getElem?_eq_some_iff.mp h).1
  have e : ixN xs.length (j : Int) = some j := by
    unfold ixN
    rw [if_pos (by omega), if_pos (by omega)]; simp
  unfold atI; rw [e]; exact h
/-- what stands as an index of a plain subscript -/
def PlainIx (b : Expr) : Prop := ∀ o i, subscripted b false o i = operate [o, i] (getItem o i)
/-- a subscript by values -/
def IxR (X : Cx) (r : R2) : Prop :=
  ∀ (value slice : Expr) (pins : List (Addr × Obj)) (s : Shared) (σ : St) (H : Hp) (x y : V) (v u : Value) (Q : VK), Inv X pins σ H s → RelV x v → RelV y u → r x y H Q →
    subscripted slice false v u = operate [v, u] (getItem v u) → wpAny (model X.prog X.w) X.A (subscriptTail value slice v u) (EP X pins σ Q) X.xe s
/-- a call of a builtin's method by values: the receiver, the arguments -/
def MtR (X : Cx) (id : String) (r : V → List V → Hp → VK → Prop) : Prop :=
  ∀ (pins : List (Addr × Obj)) (s : Shared) (σ : St) (H : Hp) (x : V) (xs : List V) (v : Value) (us : List Value) (Q : VK), Inv X pins σ H s → RelV x v → Vals xs us → r x xs H Q →
    wpAny (model X.prog X.w) X.A (call (.builtin id) (v :: us)) (EP X pins σ Q) X.xe s
section
variable {X : Cx} {a b : Expr} {ta tb : TE} {pos : Pos}
/-- a[b] -/
theorem pe_ix {r : R2} (hr : IxR X r) (ha : PE X a ta) (hb : PE X b tb) (hs : PlainIx b) : PE X (.Subscript a b pos) (tOp r ta tb) := by
  intro pins s σ H Q I h
  exact Subscript_ (binT ha hb I h fun v u s2 x y H2 I2 rx ry q => hr a b pins s2 σ H2 x y v u Q I2 rx ry q (hs _ _))
def rIxL (K : PySem.W.Frag) : R2 := fun x y H Q => ∃ p xs i v, x = .ref p ∧ y = .int i ∧ SqL K H p xs ∧ atI xs i = some v ∧ Q v H
def rIxT (K : PySem.W.Frag) : R2 := fun x y H Q => ∃ p xs i v, x = .ref p ∧ y = .int i ∧ SqT K H p xs ∧ atI xs i = some v ∧ Q v H
theorem ix_list : IxR X (rIxL X.K) := by
  intro value slice pins s σ H x y v u Q I rx ry h hs
  obtain ⟨p, xs, i, z, rfl, rfl, hq, he, q⟩ := h
  cases rx
  obtain ⟨t, rfl⟩ := ry
  obtain ⟨its, r, pl, hz⟩ := I.list hq
  obtain ⟨j, h1, h2, h3, h4, h5⟩ := atI_get he
  obtain ⟨w, ew, rw'⟩ := r.get h2
  have hl := r.length
  have hn := line63
  have fin : EP X pins σ Q w s := ⟨z, H, I, rw', q⟩
  by_cases h0 : 0 ≤ i
  · have hj : i.toNat = j := by
      rw [seqIndex_of h0 h5] at h1
      exact Option.some.inj h1
    exact item_listR pl.isList h0 (by omega) (by rw [hj]; simpa using ew) fin hs
  · have hj : (i + (its.toArray.size : Int)).toNat = j := by
      rw [seqIndex_neg (by omega) h4] at h1
      rw [List.size_toArray, ← hl]
      exact Option.some.inj h1
    exact subscriptTail_builtinR (x := w) pl.isList.typeIs slot_list_getitem.lookup
      (wpAny_getItem_list_neg (Q := fun r s' => r = w ∧ EP X pins σ Q r s') pl.isList (by omega) (by rw [List.size_toArray] <;> omega) (by omega) (by rw [hj]; simpa using ew) ⟨rfl, fin⟩) hs
theorem ix_tup : IxR X (rIxT X.K) := by
  intro value slice pins s σ H x y v u Q I rx ry h hs
  obtain ⟨p, xs, i, z, rfl, rfl, hq, he, q⟩ := h
  cases rx
  obtain ⟨t, rfl⟩ := ry
  obtain ⟨its, r, pl, hz⟩ := I.tuple hq
  obtain ⟨j, h1, h2, h3, h4, h5⟩ := atI_get he
  obtain ⟨w, ew, rw'⟩ := r.get h2
  have hl := r.length
  have hn := line63
  have fin : EP X pins σ Q w s := ⟨z, H, I, rw', q⟩
  exact subscriptTail_builtinR (x := w) pl.typeIs slot_tuple_getitem.lookup
    (getItem_tuple (j := j) (Q := fun r s' => r = w ∧ EP X pins σ Q r s') pl (by omega) (by omega) (by rw [List.size_toArray, ← hl]; exact h1) (by simpa using ew) ⟨rfl, fin⟩) hs
theorem slice_bounds (lo hi : Option Int) (n : Nat) : (sliceBounds lo hi none n).1 = ((HT.sIx n 0 lo : Nat) : Int) ∧ (sliceBounds lo hi none n).2.1 = ((HT.sIx n n hi : Nat) : Int) ∧ (sliceBounds lo hi none n).2.2 = 1 := by
  refine ⟨?_, ?_, rfl⟩
  · cases lo with
    | none => simp [sliceBounds, HT.sIx]
    | some i =>
      simp only [sliceBounds, HT.sIx, Option.getD_none, show (1 : Int) > 0 by decide, if_true]
      by_cases h : i < 0
      · simp only [h, if_true] <;> omega
      · simp only [h, if_false] <;> omega
  · cases hi with
    | none => simp [sliceBounds, HT.sIx]
    | some i =>
      simp only [sliceBounds, HT.sIx, Option.getD_none, show (1 : Int) > 0 by decide, if_true]
      by_cases h : i < 0
      · simp only [h, if_true] <;> omega
      · simp only [h, if_false] <;> omega
theorem slicePick_cut (its : List Value) (lo hi : Option Int) : slicePick its.toArray lo hi none = ((its.drop (HT.sIx its.length 0 lo)).take (HT.sIx its.length its.length hi - HT.sIx its.length 0 lo)).toArray := by
  obtain ⟨h1, h2, h3⟩ := slice_bounds lo hi its.toArray.size
  unfold slicePick
  rw [h1, h2, h3]
  simp only [sliceRange_one, pick_run, List.size_toArray] <;> rfl
/-- xs[lo:hi] of a list: a new list -/
def rSlL (K : PySem.W.Frag) : V → Option Int → Option Int → Hp → VK → Prop := fun x lo hi H Q => ∃ a xs, x = .ref a ∧ SqL K H a xs ∧ ∀ p, H p = none → Q (.ref p) (upd H p (.lst (cutV xs lo hi)))
theorem sl_list : SlR X (rSlL X.K) := by
  intro pins s σ H x v vl vu lo hi sl Q I rx hs pl pu h
  obtain ⟨a, xs, rfl, hx, q⟩ := h
  cases rx
  obtain ⟨its, r, ht, hz⟩ := I.list hx
  have hlen := r.length
  refine ⟨"list", _, slot_list_getitem.lookup, ht.isList.typeIs, ?_⟩
  refine wpAny_getItem_list_slice ht.isList hs pl pu .none (by simp) ?_ (by rw [List.size_toArray] <;> omega)
  rw [slicePick_cut, ← hlen]
  refine ⟨.ref s.heap.objs.size, _, I.laid (t' := s.toks) (o := .lst (cutV xs lo hi)) (fun b ob q => Heap.get?_push_of_some _ q) (Nat.le_refl _) ?_, rfl, q _ (I.hok.fresh (Nat.le_refl _))⟩
  exact ⟨Nat.le_trans (cutV_length xs lo hi) hz, _, 0, (r.drop (HT.sIx xs.length 0 lo)).take (HT.sIx xs.length xs.length hi - HT.sIx xs.length 0 lo), Heap.get?_push_size _ rfl⟩
theorem call_len_seq : CallR X (.builtin "len") (fun xs H Q => ∃ p ys, xs = [.ref p] ∧ (SqL X.K H p ys ∨ SqT X.K H p ys) ∧ Q (.int ys.length) H) := by
  intro pins s σ H xs us Q I r h
  obtain ⟨p, ys, rfl, hq, q⟩ := h
  obtain ⟨u, rfl, rx⟩ := vals1 r
  cases rx
  have hn := line63
  rcases hq with hq | hq
  · obtain ⟨its, r', pl, hz⟩ := I.list hq
    have hlen := r'.length
    exact Calls.call_len_list pl.isList (by simp only [List.size_toArray] <;> omega) ⟨.int ys.length, H, I.tok _, ⟨s.toks + 1, by rw [List.size_toArray, hlen]⟩, q⟩
  · obtain ⟨its, r', pl, hz⟩ := I.tuple hq
    have hlen := r'.length
    exact len_tuple pl (by simp only [List.size_toArray] <;> omega) ⟨.int ys.length, H, I.tok _, ⟨s.toks + 1, by rw [List.size_toArray, hlen]⟩, q⟩
/-- the value is of that builtin type -/
def tyV (K : PySem.W.Frag) (T : String) (x : V) (H : Hp) : Prop := match x with
  | .str _ => T = "str"
  | .int _ => T = "int"
  | .ref p => (T = "list" ∧ ∃ xs, SqL K H p xs) ∨ (T = "tuple" ∧ ∃ o, K.lookup p = some o ∧ o.cls = .type "tuple" ∧ o.dict = none) ∨
      (T = "dict" ∧ ((∃ kvs, H p = some (.dK kvs)) ∨ ∃ kvs, H p = some (.dT kvs))) ∨ (T = "set" ∧ ∃ S n, H p = some (.set S n))
  | _ => False
theorem tyV_is {pins : List (Addr × Obj)} {σ : St} {H : Hp} {s : Shared} {T : String} {x : V} {v : Value} (I : Inv X pins σ H s) (r : RelV x v) (ty : tyV X.K T x H) :
    s.TypeIs v T ∧ ∀ a, v = .ref a → ∃ ob, s.heap.get? a = some ob ∧ ob.dict = none := by
  cases x with
  | str z =>
    obtain ⟨t, rfl⟩ := r
    cases (show T = "str" from ty)
    exact ⟨typeIs_str s z t, fun _ e => nomatch e⟩
  | int i =>
    obtain ⟨t, rfl⟩ := r
    cases (show T = "int" from ty)
    exact ⟨typeIs_int s i t, fun _ e => nomatch e⟩
  | ref p =>
    cases r
    rcases ty with ⟨rfl, xs, hq⟩ | ⟨rfl, o, hk, hc, hd⟩ | ⟨rfl, hk⟩ | ⟨rfl, S, n, hk⟩
    · obtain ⟨its, _, pl, _⟩ := I.list hq
      refine ⟨pl.isList.typeIs, fun a e => ?_⟩
      cases e
      obtain ⟨o, n, e, c, hd, _⟩ := pl
      exact ⟨o, e, hd⟩
    · refine ⟨⟨o, I.kIn p o hk, hc⟩, fun a e => ?_⟩
      cases e
      exact ⟨o, I.kIn _ o hk, hd⟩
    · have z : ∃ o, s.heap.get? p = some o ∧ o.ExactDict := by
        rcases hk with ⟨kvs, hk⟩ | ⟨kvs, hk⟩
        · obtain ⟨_, _, _, _, o, _, _, e, ex, _⟩ := I.hok p _ hk
          exact ⟨o, e, ex⟩
        · obtain ⟨_, _, _, _, o, _, _, e, ex, _⟩ := I.hok p _ hk
          exact ⟨o, e, ex⟩
      obtain ⟨o, e, ex⟩ := z
      refine ⟨⟨o, e, ex.1⟩, fun a e2 => ?_⟩
      cases e2
      exact ⟨o, e, ex.2.1⟩
    · obtain ⟨o, _, _, _, e, ex, _⟩ := I.hok p _ hk
      refine ⟨⟨o, e, ex.1⟩, fun a e2 => ?_⟩
      cases e2
      exact ⟨o, e, ex.2.1⟩
  | _ => exact False.elim ty
def tBM0 (K : PySem.W.Frag) (T : String) (r : V → List V → Hp → VK → Prop) (to : TE) : TE := fun σ H Q => to σ H fun x H1 => tyV K T x H1 ∧ r x [] H1 Q
def tBM (K : PySem.W.Frag) (T : String) (r : V → List V → Hp → VK → Prop) (to : TE) (t : TA) : TE := fun σ H Q => to σ H fun x H1 => tyV K T x H1 ∧ t σ H1 fun xs H2 => r x xs H2 Q
variable {o e : Expr} {es : List Expr} {to : TE} {t : TA} {name : Str} {apos cpos : Pos} {T id : String} {r : V → List V → Hp → VK → Prop}
theorem pe_bm0 (pa : PlainAttrs T) (slot : Slot T name id) (hty : typeOf (.builtin id) = pure (.type "method_descriptor")) (hm : MtR X id r) (ho : PE X o to)
    (hbase : attributeBase o name X.env (eval o X.env) = eval o X.env := by rfl) (hline : (apos.endLine == cpos.line) = true := by rfl) : PE X (.Call (.Attribute o name apos) [] [] cpos) (tBM0 X.K T r to) := by
  intro pins s σ H Q I h
  refine wpAny_Call_method0_late hbase hline (thn (ho pins s σ H _ I h) fun v s1 ⟨x, H1, I1, r1, ty, q1⟩ => ?_)
  obtain ⟨h1, h2⟩ := tyV_is I1 r1 ty
  exact ⟨T, id, pa, slot, hty, h1, h2, Calls.callWith_builtin rfl (PySem.evalArgs_none (hm pins s1 σ H1 x [] v [] Q I1 r1 .nil q1))⟩
theorem pe_bm (pa : PlainAttrs T) (slot : Slot T name id) (hty : typeOf (.builtin id) = pure (.type "method_descriptor")) (hm : MtR X id r) (ho : PE X o to) (ha : PA X (e :: es) t)
    (hbase : attributeBase o name X.env (eval o X.env) = eval o X.env := by rfl)
    (hfew : ((backTo cpos (starEach (e :: es) X.env)).all (fun x => !x.1) && (backToKw cpos (keywordEach [] X.env)).all (fun x => x.1.isSome)
      && decide ((e :: es).length + ([] : List Keyword).length + (if ([] : List Keyword).isEmpty then 0 else 1) < 30)) = true := by rfl)
    (hline : (apos.endLine == cpos.line) = true := by rfl) (hs : starEach (e :: es) X.env = (false, eval e X.env) :: starEach es X.env := by rfl) (hplain : (backTo cpos (starEach es X.env)).any (·.1) = false := by rfl) :
    PE X (.Call (.Attribute o name apos) (e :: es) [] cpos) (tBM X.K T r to t) := by
  intro pins s σ H Q I h
  refine wpAny_Call_method_late hbase hfew hline rfl (thn (ho pins s σ H _ I h) fun v s1 ⟨x, H1, I1, r1, ty, q1⟩ => ?_)
  obtain ⟨h1, h2⟩ := tyV_is I1 r1 ty
  refine ⟨T, id, pa, slot, hty, h1, h2, ?_⟩
  have hA := ha cpos pins s1 σ H1 _ I1 q1
  rw [hs] at hA ⊢
  refine Calls.callWith_builtin (by show (false || (backTo cpos (starEach es X.env)).any (·.1)) = false; rw [hplain] <;> rfl) (Calls.evalArgs_plain ?_)
  exact thn hA fun us s2 ⟨vs, H2, I2, r2, q2⟩ => hm pins s2 σ H2 x vs v us Q I2 r1 r2 q2
end
end L2
namespace L2
open PySem PySem.Spec PyProof.Rows
def MtM (X : Cx) (id : String) (r : V → List V → Hp → VK → Prop) : Prop :=
  ∀ (pins : List (Addr × Obj)) (s : Shared) (σ : St) (H : Hp) (x : V) (xs : List V) (v : Value) (us : List Value) (Q : VK), Inv X pins σ H s → RelV x v → Vals xs us → r x xs H Q →
    wpAny (model X.prog X.w) X.A (call (.builtin id) (v :: us)) (EP X pins σ Q) X.xe s
theorem Vals.one : ∀ {x : V} {us : List Value}, Vals [x] us → ∃ u, us = [u] ∧ RelV x u
  | _, _, .cons r .nil => ⟨_, rfl, r⟩
theorem Vals.zero : ∀ {us : List Value}, Vals [] us → us = []
  | _, .nil => rfl
theorem Vals.dropLast {xs : List V} {us : List Value} (h : Vals xs us) : Vals xs.dropLast us.dropLast := by
  induction h with
  | nil => exact .nil
  | cons r t ih =>
    cases t with
    | nil => exact .nil
    | cons q t' => exact .cons r ih
theorem Vals.eraseIdx : ∀ {xs : List V} {us : List Value} (i : Nat), Vals xs us → Vals (xs.eraseIdx i) (us.eraseIdx i)
  | _, _, _, .nil => .nil
  | _, _, 0, .cons _ t => t
  | _, _, i + 1, .cons r t => .cons r (Vals.eraseIdx i t)
theorem erase_last {α : Type} (l : List α) : l.eraseIdx (l.length - 1) = l.dropLast := by
  induction l with
  | nil => rfl
  | cons a r ih =>
    cases r with
    | nil => rfl
    | cons b r =>
      have e : (a :: b :: r).length - 1 = ((b :: r).length - 1) + 1 := by
        have h1 : (a :: b :: r).length = r.length + 2 := rfl
        have h2 : (b :: r).length = r.length + 1 := rfl
        omega
      rw [e, List.eraseIdx_cons_succ, ih]
      all_goals rfl
theorem len_erase {α : Type} : ∀ (l : List α) (i : Nat), (l.eraseIdx i).length ≤ l.length
  | [], _ => Nat.le_refl _
  | _ :: _, 0 => Nat.le_succ _
  | _ :: r, i + 1 => Nat.succ_le_succ (len_erase r i)
section
variable {X : Cx} {pins : List (Addr × Obj)} {σ : St} {H : Hp} {s : Shared} {l b : Addr} {xs ys zs : List V}
theorem Inv.lset {its its' : List Value} {n : Nat} {f : Array Value → Array Value} {t' : Nat} (I : Inv X pins σ H s) (hH : H l = some (.lst xs))
    (e : s.heap.get? l = some { cls := .type "list", data := .seq its.toArray n }) (hf : f its.toArray = its'.toArray) (hv : Vals ys its') (hz : ys.length ≤ sizeLine) :
    Inv X pins σ (upd H l (.lst ys)) { s with heap := s.heap.update l (Obj.mapSeq f), toks := t' } := by
  have q := PySem.IsL.update e f
  rw [hf] at q
  refine I.write (x := l) (e := l) (by rw [hH]; exact trivial) (.inl rfl) (fun b' u hb hu => (Heap.get?_update_other s.heap (Obj.mapSeq f) (Ne.symm hb)).trans hu) ⟨_, q⟩ ?_
  exact ⟨hz, its', _, hv, q⟩
theorem Inv.lnew {its : List Value} {t' : Nat} (I : Inv X pins σ H s) (hv : Vals ys its) (hz : ys.length ≤ sizeLine) :
    Inv X pins σ (upd H s.heap.objs.size (.lst ys)) { s with heap := s.heap.push { cls := .type "list", data := .seq its.toArray }, toks := t' } :=
  I.laid (fun _ _ q => Heap.get?_push_of_some _ q) (Nat.le_refl _) ⟨hz, its, 0, hv, Heap.get?_push_size _ rfl⟩
theorem Inv.fresh (I : Inv X pins σ H s) : H s.heap.objs.size = none := I.hok.fresh (Nat.le_refl _)
theorem Inv.lstM (I : Inv X pins σ H s) (hH : H l = some (.lst xs)) : xs.length ≤ sizeLine ∧ ∃ (its : List Value) (n : Nat), Vals xs its ∧ xs.length = its.length ∧ s.heap.get? l = some { cls := .type "list", data := .seq its.toArray n } := by
  obtain ⟨z, its, n, r, e⟩ := I.hok l _ hH
  exact ⟨z, its, n, r, r.length, e⟩
theorem notLongL {n : Nat} (h : n ≤ sizeLine) : Builtin.List.listTooLong n = false := by
  unfold Builtin.List.listTooLong
  exact decide_eq_false (by omega)
end
section
variable {X : Cx}
def rAppend : V → List V → Hp → VK → Prop := fun x vs H Q => ∃ l xs y, x = .ref l ∧ vs = [y] ∧ H l = some (.lst xs) ∧ xs.length < sizeLine ∧ Q .non (upd H l (.lst (xs ++ [y])))
theorem mt_append : MtM X "list.append" rAppend := by
  intro pins s σ H x vs v us Q I rx rv h
  obtain ⟨l, xs, y, rfl, rfl, hH, hz, q⟩ := h
  cases rx
  obtain ⟨u, rfl, ru⟩ := rv.one
  obtain ⟨z, its, n, r, hl, e⟩ := I.lstM hH
  refine call_meets F.slot_list_append ⟨_, e, rfl⟩ F.entry_list_append (F.args_list_append_2 _ _) (PySem.list_append l its.toArray n u (by rw [List.size_toArray]; omega)) ⟨e, ?_⟩
  refine ⟨.non, _, I.lset (its' := its ++ [u]) hH e (by simp) (r.append (.cons ru .nil)) ?_, rfl, q⟩
  rw [List.length_append, List.length_singleton]
  omega
def rExtend : V → List V → Hp → VK → Prop := fun x vs H Q => ∃ l b xs zs, x = .ref l ∧ vs = [.ref b] ∧ H l = some (.lst xs) ∧ H b = some (.lst zs) ∧ xs.length + zs.length ≤ sizeLine ∧ Q .non (upd H l (.lst (xs ++ zs)))
theorem mt_extend : MtM X "list.extend" rExtend := by
  intro pins s σ H x vs v us Q I rx rv h
  obtain ⟨l, b, xs, zs, rfl, rfl, hH, hB, hz, q⟩ := h
  cases rx
  obtain ⟨u, rfl, ru⟩ := rv.one
  cases ru
  obtain ⟨z, its, n, r, hl, e⟩ := I.lstM hH
  obtain ⟨z2, its2, n2, r2, hl2, e2⟩ := I.lstM hB
  have hsz : its.toArray.size + its2.toArray.size ≤ sizeLine := by rw [List.size_toArray, List.size_toArray]; omega
  have hlong : ¬ (!its.toArray.isEmpty && Builtin.List.listTooLong (its.toArray.size + its2.toArray.size)) = true := by
    rw [notLongL hsz, Bool.and_false]
    exact Bool.false_ne_true
  refine call_meets F.slot_list_extend ⟨_, e, rfl⟩ F.entry_list_extend (F.args_list_extend_2 _ _)
    (AutoSeq1.list_extend_list_list_0 l its.toArray n b its2.toArray n2 hlong (by rw [List.size_toArray]; omega) (by omega)) ⟨e, e2, ?_⟩
  refine ⟨.non, _, I.lset (its' := its ++ its2) hH e (by simp) (r.append r2) ?_, rfl, q⟩
  rw [List.length_append]
  omega
def rPop : V → List V → Hp → VK → Prop := fun x vs H Q => ∃ l xs y, x = .ref l ∧ vs = [] ∧ H l = some (.lst xs) ∧ xs[xs.length - 1]? = some y ∧ Q y (upd H l (.lst xs.dropLast))
theorem mt_pop : MtM X "list.pop" rPop := by
  intro pins s σ H x vs v us Q I rx rv h
  obtain ⟨l, xs, y, rfl, rfl, hH, hy, q⟩ := h
  cases rx
  have hus := rv.zero
  subst hus
  obtain ⟨z, its, n, r, hl, e⟩ := I.lstM hH
  obtain ⟨u, hu, ru⟩ := r.get hy
  have hy' : its.toArray[its.toArray.size - 1]? = some u := by
    show its.toArray[its.length - 1]? = some u
    rw [← Array.getElem?_toList, ← hl]
    exact hu
  refine call_meets F.slot_list_pop ⟨_, e, rfl⟩ F.entry_list_pop (F.args_list_pop_1 _) (MeetsSeq.list_pop_last l its.toArray n u hy' (by rw [List.size_toArray]; omega)) ⟨e, ?_⟩
  refine ⟨y, _, I.lset (its' := its.dropLast) hH e ?_ r.dropLast ?_, ru, q⟩
  · show its.toArray.eraseIdxIfInBounds (its.toArray.size - 1) = its.dropLast.toArray
    rw [List.size_toArray, List.eraseIdxIfInBounds_toArray, erase_last]
  · rw [List.length_dropLast]
    omega
def rPopAt : V → List V → Hp → VK → Prop := fun x vs H Q => ∃ l xs i k y, x = .ref l ∧ vs = [.int i] ∧ H l = some (.lst xs) ∧ -(2 ^ 63) ≤ i ∧ i < 2 ^ 63 ∧ seqIndex? i xs.length = some k ∧ xs[k]? = some y ∧ Q y (upd H l (.lst (xs.eraseIdx k)))
theorem mt_popAt : MtM X "list.pop" rPopAt := by
  intro pins s σ H x vs v us Q I rx rv h
  obtain ⟨l, xs, i, k, y, rfl, rfl, hH, h1, h2, hk, hy, q⟩ := h
  cases rx
  obtain ⟨u, rfl, ru⟩ := rv.one
  obtain ⟨t, rfl⟩ := ru
  obtain ⟨z, its, n, r, hl, e⟩ := I.lstM hH
  obtain ⟨w, hw, rw'⟩ := r.get hy
  refine call_meets F.slot_list_pop ⟨_, e, rfl⟩ F.entry_list_pop (F.args_list_pop_2 _ _)
    (MeetsSeq.list_pop_at l its.toArray n i t k w (fitsIndex_both h1 h2) (by rw [List.size_toArray, ← hl]; exact hk) (by rw [← Array.getElem?_toList]; exact hw) (by rw [List.size_toArray]; omega)) ⟨e, ?_⟩
  refine ⟨y, _, I.lset (its' := its.eraseIdx k) hH e ?_ (r.eraseIdx k) ?_, rw', q⟩
  · show its.toArray.eraseIdxIfInBounds k = (its.eraseIdx k).toArray
    rw [List.eraseIdxIfInBounds_toArray]
  · have := len_erase xs k
    omega
def rCat : R2 := fun x y H Q => ∃ l b xs zs, x = .ref l ∧ y = .ref b ∧ H l = some (.lst xs) ∧ H b = some (.lst zs) ∧ xs.length + zs.length ≤ sizeLine ∧ ∀ p, H p = none → Q (.ref p) (upd H p (.lst (xs ++ zs)))
theorem op_cat : OpR X (binaryOp .Add) rCat := by
  intro pins s σ H x y v u Q I rx ry h
  obtain ⟨l, b, xs, zs, rfl, rfl, hH, hB, hz, q⟩ := h
  cases rx
  cases ry
  obtain ⟨z, its, n, r, hl, e⟩ := I.lstM hH
  obtain ⟨z2, its2, n2, r2, hl2, e2⟩ := I.lstM hB
  refine PySem.P.add_list e e2 ?_ (by rw [List.size_toArray, List.size_toArray]; omega)
  have ea : its.toArray ++ its2.toArray = (its ++ its2).toArray := by simp
  rw [ea]
  exact ⟨.ref _, _, I.lnew (t' := s.toks) (r.append r2) (by rw [List.length_append]; omega), rfl, q _ I.fresh⟩
end
section
variable {prog : Program} {w : World} {A : Around} {E : Value → Shared → Prop} {s : Shared}
end
section
variable {X : Cx}
end
end L2
namespace L2
open PySem PySem.Spec PyProof.Rows
theorem Vals.ints : ∀ {ns : List Int} {us : List Value}, Vals (ns.map V.int) us → IntsAre us ns
  | [], us, h => by
    rw [List.map_nil] at h
    cases h
    exact IntsAre.nil
  | n :: ns, us, h => by
    rw [List.map_cons] at h
    cases h with
    | cons r t =>
      obtain ⟨k, rfl⟩ := r
      exact IntsAre.cons n k (Vals.ints t)
theorem Vals.bls : ∀ {bs : List Bool} {us : List Value}, Vals (bs.map V.bl) us → us = bs.map Value.bool
  | [], us, h => by
    rw [List.map_nil] at h
    cases h
    rfl
  | b :: bs, us, h => by
    rw [List.map_cons] at h
    cases h with
    | cons r t =>
      cases r
      rw [Vals.bls t, List.map_cons]
theorem Vals.ref1 {a : Addr} {us : List Value} (r : Vals [V.ref a] us) : us = [Value.ref a] := by
  cases r with
  | cons r t =>
    cases t
    cases r
    rfl
section
variable {prog : Program} {w : World} {A : Around} {E : Value → Shared → Prop} {s : Shared} {l : Addr} {its : List Value} {ns : List Int} {Q : Value → Shared → Prop}
theorem sum_raw (hh : A.handled = none) (hl : s.heap.IsList l its.toArray) (hi : IntsAre its ns)
    (h : ∀ h' tk t', (∀ b o, s.heap.get? b = some o → h'.get? b = some o) → Q (.int ns.sum t') { s with heap := h', toks := tk }) : wpAny (model prog w) A (call (.builtin "sum") [.ref l]) Q E s := by
  obtain ⟨xs, e⟩ := hi.allInts.items
  have hn : numsOf (intItems xs).toList = ns := by rw [← e]; exact hi.numsOf
  rw [nums_intItems] at hn
  rw [e] at hl
  refine PySem.sum_intListG hh hl fun h' tk t' hk => ?_
  have := h h' tk t' hk
  rw [preSum_eq, List.take_of_length_le (by simp), hn]; exact this
end
section
variable {X : Cx}
/-- sum(xs) of a list of ints -/
def rSum (K : PySem.W.Frag) : List V → Hp → VK → Prop := fun vs H Q => ∃ (a : Addr) (ns : List Int), vs = [V.ref a] ∧ SqL K H a (ns.map V.int) ∧ Q (.int ns.sum) H
theorem cr_sum (hc : X.calm = true) : CallR X (.builtin "sum") (rSum X.K) := by
  intro pins s σ H vs us Q I r h
  obtain ⟨a, ns, rfl, hs, q⟩ := h
  obtain ⟨its, rv, hl, _⟩ := I.list hs
  rw [Vals.ref1 r]
  exact sum_raw (I.ok.hd hc) hl.isList rv.ints fun h' tk t' hk => ⟨.int _, H, I.kept hk, ⟨_, rfl⟩, q⟩
end
section
variable {X : Cx}
end
section
variable {X : Cx}
end
theorem iter_any {prog : Program} {w : World} {A : Around} {E : Value → Shared → Prop} {s : Shared} {l : Addr} {items : Array Value} {Q : Value → Shared → Prop} (hl : s.heap.IsList l items)
    (h : ∀ s₂ : Shared, s₂ = { s with heap := s.heap.push { cls := .type "list_iterator", data := .fields #[.ref l, .int 0 0] } } →
      (s₂.heap.IsListIter s.heap.objs.size l 0 ∧ s₂.heap.IsList l items) → l ≠ s.heap.objs.size → Q (.ref s.heap.objs.size) s₂) : wpAny (model prog w) A (pyIter (.ref l)) Q E s := by
  have hlt : l < s.heap.objs.size := by obtain ⟨_, e, _⟩ := hl; exact Heap.lt_size e
  exact wpAny_pyIter_list hl (h _ rfl ⟨⟨_, Heap.get?_push_size _ rfl, rfl, rfl⟩, hl.push _⟩ (Nat.ne_of_lt hlt))
theorem truth_bools {prog : Program} {w : World} {A : Around} {bs : List Bool} {its : List Value} (e : its = bs.map Value.bool) :
    TruthOf prog w A (fun i v => its.toArray[i]? = some v) (fun i => bs.getD i false) := fun i v s Q E hv hq => by
  have hv' : its[i]? = some v := by simpa using hv
  rw [e, List.getElem?_map] at hv'
  obtain ⟨b, hb, rfl⟩ := Option.map_eq_some_iff.mp hv'
  have hg : bs.getD i false = b := by rw [List.getD_eq_getElem?_getD, hb] <;> rfl
  have hq' : Q (bs.getD i false) s := hq
  rw [hg] at hq'
  exact wpAny_truthy_bool hq'
theorem any_range : ∀ bs : List Bool, (List.range bs.length).any (fun i => bs.getD i false) = bs.any id
  | [] => rfl
  | b :: bs => by
    rw [List.length_cons, List.range_succ_eq_map, List.any_cons, List.any_map, List.any_cons, ← any_range bs]
    all_goals rfl
section
variable {X : Cx}
def rAny (K : PySem.W.Frag) : List V → Hp → VK → Prop := fun vs H Q => ∃ (a : Addr) (bs : List Bool), vs = [V.ref a] ∧ SqL K H a (bs.map V.bl) ∧ Q (.bl (bs.any id)) H
theorem cr_any (hc : X.calm = true) : CallR X (.builtin "any") (rAny X.K) := by
  intro pins s σ H vs us Q I r h
  obtain ⟨a, bs, rfl, hs, q⟩ := h
  obtain ⟨its, rv, hl, _⟩ := I.list hs
  rw [Vals.ref1 r]
  have hb := rv.bls
  refine call_any_walk (iter_any hl.isList fun s₂ e2 st hne => ?_)
  subst e2
  refine ⟨_, _, _, _, _, _, _, rfl, Walks.list (A := X.A.in1) (I.ok.hd hc) _ a hne its.toArray, st, truth_bools hb, fun h' tk hk => ?_⟩
  refine ⟨.bl _, H, I.kept fun b o eo => hk b o (fun hmem => ?_) (Heap.get?_push_of_some _ eo), ?_, q⟩
  · rcases List.mem_cons.mp hmem with e1 | hmem
    · exact absurd (e1 ▸ Heap.lt_size eo) (Nat.lt_irrefl _)
    · cases hmem
  · show Value.bool _ = Value.bool _
    rw [← any_range, hb, List.size_toArray, List.length_map]
end
section
variable {X : Cx} {pins : List (Addr × Obj)} {σ : St} {H : Hp} {s : Shared}
end
section
variable {X : Cx}
end
end L2
namespace L2
open PySem PySem.Spec PyProof.Rows
abbrev CellAt (h : Heap) (c : Addr) (v : Option Value) : Prop := h.IsCell c v
def relS (scope sc : Scope) : Scope :=
  { scope with names := scope.names.map fun (n, k) => if (k == .free && sc.kind == .function && sc.names.lookup n == some .cell) then (n, .cell) else (n, k) }
def cloFrom (cells : List (Str × Addr)) : List (Str × NameKind) → List (Str × Addr) → List (Str × Addr)
  | [], acc => acc
  | (n, k) :: r, acc => if k == .free then cloFrom cells r ((n, (cells.lookup n).getD 0) :: acc) else cloFrom cells r acc
theorem closure_loop (env : Env) (f : Str × NameKind → List (Str × Addr) → Sem (ForInStep (List (Str × Addr))))
    (hf : ∀ n k c, f (n, k) c = if k == .free then (do let a ← cellOf env n; pure (.yield ((n, a) :: c))) else pure (.yield c)) :
    ∀ (names : List (Str × NameKind)) (acc : List (Str × Addr)), (∀ y ∈ names, y.2 = .free → ∃ c, env.cells.lookup y.1 = some c) → forIn names acc f = pure (cloFrom env.cells names acc)
  | [], acc, _ => by rw [List.forIn_nil]; rfl
  | (n, k) :: r, acc, h => by
    rw [List.forIn_cons, hf]
    have ih := fun acc => closure_loop env f hf r acc fun y hy => h y (List.mem_cons_of_mem _ hy)
    unfold cloFrom
    by_cases hk : (k == NameKind.free) = true
    · rw [if_pos hk, if_pos hk]
      obtain ⟨c, hc⟩ := h (n, k) List.mem_cons_self (by simpa using hk)
      have e : cellOf env n = pure c := by unfold cellOf; rw [hc]
      rw [e]
      have e2 : (env.cells.lookup n).getD 0 = c := by rw [hc]; rfl
      rw [e2]
      exact ih _
    · rw [if_neg hk, if_neg hk]
      exact ih _
theorem closure_ok {scope : Scope} {env : Env} (h : ∀ y ∈ scope.names, y.2 = .free → ∃ c, env.cells.lookup y.1 = some c) : closureFor scope env = pure (cloFrom env.cells scope.names []) := by
  simp only [closureFor]
  rw [closure_loop env _ (fun n k c => rfl) scope.names [] h]
  rfl
theorem mem_lookup {α : Type} : ∀ {l : List (Str × α)} {n : Str} {c : α}, (n, c) ∈ l → ∃ c', l.lookup n = some c'
  | (k, v) :: r, n, c, h => by
    rw [List.lookup_cons]
    cases hb : n == k with
    | true => exact ⟨_, rfl⟩
    | false =>
      rcases List.mem_cons.mp h with e | h
      · cases e; simp at hb
      · exact mem_lookup h
theorem cloFrom_mem {cells : List (Str × Addr)} : ∀ {names : List (Str × NameKind)} {acc : List (Str × Addr)} {n : Str} {c : Addr}, (n, c) ∈ cloFrom cells names acc → (n, c) ∈ acc ∨ ((n, .free) ∈ names ∧ c = (cells.lookup n).getD 0)
  | [], _, _, _, h => .inl h
  | (m, k) :: r, acc, n, c, h => by
    unfold cloFrom at h
    split at h
    · rename_i hk
      have hk : k = .free := by simpa using hk
      rcases cloFrom_mem h with h | ⟨h1, h2⟩
      · rcases List.mem_cons.mp h with e | h
        · cases e; exact .inr ⟨hk ▸ List.mem_cons_self, rfl⟩
        · exact .inl h
      · exact .inr ⟨List.mem_cons_of_mem _ h1, h2⟩
    · rcases cloFrom_mem h with h | ⟨h1, h2⟩
      · exact .inl h
      · exact .inr ⟨List.mem_cons_of_mem _ h1, h2⟩
theorem cloFrom_acc {cells : List (Str × Addr)} : ∀ {names : List (Str × NameKind)} {acc : List (Str × Addr)} {p : Str × Addr}, p ∈ acc → p ∈ cloFrom cells names acc
  | [], _, _, h => h
  | (m, k) :: r, acc, p, h => by
    unfold cloFrom
    split
    · exact cloFrom_acc (List.mem_cons_of_mem _ h)
    · exact cloFrom_acc h
theorem cloFrom_has {cells : List (Str × Addr)} : ∀ {names : List (Str × NameKind)} {acc : List (Str × Addr)} {n : Str}, (n, .free) ∈ names → (n, (cells.lookup n).getD 0) ∈ cloFrom cells names acc
  | (m, k) :: r, acc, n, h => by
    unfold cloFrom
    rcases List.mem_cons.mp h with e | h
    · cases e
      exact cloFrom_acc List.mem_cons_self
    · split
      · exact cloFrom_has h
      · exact cloFrom_has h
theorem cells_mem : ∀ {names : List (Str × NameKind)} {h : Heap} {acc : List (Str × Addr)} {x : Str} {c : Addr}, (x, c) ∈ cellsFrom h.objs.size names acc →
    (x, c) ∈ acc ∨ ((x, .cell) ∈ names ∧ h.objs.size ≤ c ∧ CellAt (pushCells h names) c none)
  | [], _, _, _, _, h => .inl h
  | (n, k) :: r, h, acc, x, c, hm => by
    unfold cellsFrom at hm
    unfold pushCells
    split at hm
    · rename_i hk
      rw [if_pos hk]
      have hk : k = .cell := by simpa using hk
      rw [← Heap.size_push h { cls := .type "cell", data := .cell none }] at hm
      rcases cells_mem hm with hm | ⟨h1, h2, h3⟩
      · rcases List.mem_cons.mp hm with e | hm
        · cases e
          exact .inr ⟨hk ▸ List.mem_cons_self, Nat.le_refl _, _, pushCells_keeps r _ _ _ (Heap.get?_push_size _ rfl), rfl⟩
        · exact .inl hm
      · rw [Heap.size_push] at h2
        exact .inr ⟨List.mem_cons_of_mem _ h1, Nat.le_of_succ_le h2, h3⟩
    · rename_i hk
      rw [if_neg hk]
      rcases cells_mem hm with hm | ⟨h1, h2, h3⟩
      · exact .inl hm
      · exact .inr ⟨List.mem_cons_of_mem _ h1, h2, h3⟩
theorem cells_acc : ∀ {names : List (Str × NameKind)} {n : Nat} {acc : List (Str × Addr)} {p : Str × Addr}, p ∈ acc → p ∈ cellsFrom n names acc
  | [], _, _, _, h => h
  | (m, k) :: r, n, acc, p, h => by
    unfold cellsFrom
    split
    · exact cells_acc (List.mem_cons_of_mem _ h)
    · exact cells_acc h
theorem cells_has : ∀ {names : List (Str × NameKind)} {n : Nat} {acc : List (Str × Addr)} {x : Str}, (x, .cell) ∈ names → ∃ c, (x, c) ∈ cellsFrom n names acc
  | (m, k) :: r, n, acc, x, h => by
    unfold cellsFrom
    rcases List.mem_cons.mp h with e | h
    · cases e
      exact ⟨n, cells_acc List.mem_cons_self⟩
    · split
      · exact cells_has h
      · exact cells_has h
theorem cells_inj : ∀ {names : List (Str × NameKind)} {h : Heap} {acc : List (Str × Addr)} {x y : Str} {c : Addr}, (∀ p ∈ acc, p.2 < h.objs.size) → (∀ x y c, (x, c) ∈ acc → (y, c) ∈ acc → x = y) →
    (x, c) ∈ cellsFrom h.objs.size names acc → (y, c) ∈ cellsFrom h.objs.size names acc → x = y
  | [], _, _, _, _, _, _, hi, h1, h2 => hi _ _ _ h1 h2
  | (n, k) :: r, h, acc, x, y, c, hl, hi, h1, h2 => by
    unfold cellsFrom at h1 h2
    split at h1
    · rename_i hk
      rw [if_pos hk] at h2
      rw [← Heap.size_push h { cls := .type "cell", data := .cell none }] at h1 h2
      refine cells_inj (h := h.push _) (fun p hp => ?_) (fun x y c a b => ?_) h1 h2
      · rw [Heap.size_push]
        rcases List.mem_cons.mp hp with rfl | hp
        · exact Nat.lt_succ_self _
        · exact Nat.lt_succ_of_lt (hl p hp)
      · rcases List.mem_cons.mp a with e | a <;> rcases List.mem_cons.mp b with e' | b
        · cases e; cases e'; rfl
        · cases e; exact absurd (hl _ b) (Nat.lt_irrefl _)
        · cases e'; exact absurd (hl _ a) (Nat.lt_irrefl _)
        · exact hi _ _ _ a b
    · rename_i hk
      rw [if_neg hk] at h2
      exact cells_inj hl hi h1 h2
theorem newEnv_comp {M : Model} {A : Around} {E : Value → Shared → Prop} {s : Shared} {scope : Scope} {globals : Addr} {closure : List (Str × Addr)} {qual : Str} {func : Option Addr} {code : Value} {around : Env} {builtins : Addr} {Q : Env → Shared → Prop}
    (h : Q (newEnv scope s.heap.objs.size globals (cellsFrom (s.heap.objs.size + 1) scope.names closure) qual func code (some around) builtins)
      { s with heap := pushCells (s.heap.push { cls := .type "dict", data := .dict #[] }) scope.names }) :
    wpAny M A (newFunctionEnv scope globals closure [] qual func code (some around) builtins) Q E s := by
  simp only [newFunctionEnv, Option.isSome_some, if_true]
  refine wpAny_bind (wpAny_alloc ?_)
  refine wpAny_bind (wpAny_layCells _ (fun n k c => rfl) scope.names closure _ _ ?_)
  rw [show ({ s with heap := s.heap.push { cls := .type "dict", data := .dict #[] } } : Shared).heap.objs.size = s.heap.objs.size + 1 from Heap.size_push ..]
  rw [List.forIn_nil]
  exact wpAny_bind (wpAny_pure (wpAny_pure h))
/-- every name of the written scope, in the scope that runs -/
theorem lookup_relS {sc : Scope} : ∀ {names : List (Str × NameKind)} {x : Str} {k : NameKind},
    (names.map fun (n, k) => if (k == NameKind.free && sc.kind == .function && sc.names.lookup n == some .cell) then (n, NameKind.cell) else (n, k)).lookup x = some k →
    ∃ k', names.lookup x = some k' ∧ (k = k' ∨ (k' = .free ∧ k = .cell))
  | [], _, _, h => by simp at h
  | (n, k₀) :: r, x, k, h => by
    have ih := @lookup_relS sc r x k
    have h' : List.lookup x ((if (k₀ == NameKind.free && sc.kind == .function && sc.names.lookup n == some .cell) = true then (n, NameKind.cell) else (n, k₀)) :: (r.map _)) = some k := h
    cases hx : x == n with
    | true =>
      simp only [List.lookup_cons, hx]
      by_cases hc : (k₀ == NameKind.free && sc.kind == .function && sc.names.lookup n == some .cell) = true
      · rw [if_pos hc] at h'
        simp only [List.lookup_cons, hx] at h'
        cases h'
        simp only [Bool.and_eq_true, beq_iff_eq] at hc
        exact ⟨k₀, rfl, .inr ⟨hc.1.1, rfl⟩⟩
      · rw [if_neg hc] at h'
        simp only [List.lookup_cons, hx] at h'
        cases h'
        exact ⟨_, rfl, .inl rfl⟩
    | false =>
      simp only [List.lookup_cons, hx]
      by_cases hc : (k₀ == NameKind.free && sc.kind == .function && sc.names.lookup n == some .cell) = true
      · rw [if_pos hc] at h'
        simp only [List.lookup_cons, hx] at h'
        exact ih h'
      · rw [if_neg hc] at h'
        simp only [List.lookup_cons, hx] at h'
        exact ih h'
/-- the names of a comprehension's block: its own (with their places in N), or captured -/
structure BlkOk (N : List Str) (sc scope : Scope) (own : List (Str × Nat)) : Prop where
  kind : scope.kind = .function
  uniq : ∀ y ∈ scope.names, scope.names.lookup y.1 = some y.2
  ix : ∀ p ∈ own, N[p.2]? = some p.1
  free : ∀ y ∈ scope.names, y.2 = .free → sc.names.lookup y.1 = some .cell ∨ sc.names.lookup y.1 = some .free
  own : ∀ y ∈ scope.names, y.2 = .local ∨ y.2 = .cell → y.1 ∈ own.map (·.1) ∨ y.1 ∉ N
/-- the slots of the block's own names forgotten -/
def wipe (σ : St) : List Nat → St
  | [] => σ
  | v :: vs => (wipe σ vs).set v none
theorem wipe_length (σ : St) : ∀ vs : List Nat, (wipe σ vs).length = σ.length
  | [] => rfl
  | v :: vs => by unfold wipe; rw [List.length_set, wipe_length σ vs]
theorem wipe_some {σ : St} {i : Nat} {x : V} : ∀ {vs : List Nat}, (wipe σ vs)[i]? = some (some x) → σ[i]? = some (some x) ∧ i ∉ vs
  | [], h => ⟨h, by simp⟩
  | v :: vs, h => by
    unfold wipe at h
    by_cases hi : v = i
    · subst hi
      by_cases hv : v < (wipe σ vs).length
      · rw [List.getElem?_set_self hv] at h; cases h
      · rw [List.getElem?_eq_none (by simpa using hv)] at h; cases h
    · rw [List.getElem?_set_ne hi] at h
      obtain ⟨h1, h2⟩ := wipe_some h
      exact ⟨h1, by simp only [List.mem_cons, not_or]; exact ⟨fun e => hi e.symm, h2⟩⟩
/-- the context of a block that starts at s, its iterator's objects at fp -/
abbrev Cx.blk (X : Cx) (s : Shared) (H : Hp) (scope : Scope) (cenv : Env) (fp : List Addr) : Cx := { X with s_0 := s, H_0 := H, env := cenv, outer := X.stack, ex := fp, fn := fun x => scope.names.lookup x == some .cell, pn := [], xe := fun _ _ => False }
section
variable {X : Cx} {pins : List (Addr × Obj)} {σ : St} {H : Hp} {s : Shared}
theorem block_start {scope : Scope} {own : List (Str × Nat)} {fp : List Addr} (I : Inv X pins σ H s) (ok : BlkOk X.N X.env.scope scope own) (hN : X.N.Nodup) (hfp : ∀ b ∈ fp, FpOk X pins H b ∧ b < s.heap.objs.size) :
    Inv (X.blk s H scope (compEnvC scope (cellsFrom (s.heap.objs.size + 1) scope.names (cloFrom X.env.cells scope.names [])) s.heap.objs.size X.env) fp) [] (wipe σ (own.map (·.2))) H { s with heap := pushCells (s.heap.push { cls := .type "dict", data := .dict #[] }) scope.names } := by
  have hfree : ∀ y ∈ scope.names, y.2 = .free → ∃ c, X.env.cells.lookup y.1 = some c := fun y hy e => by
    rcases ok.free y hy e with k | k
    · exact I.ok.has _ (.inl k)
    · exact I.ok.has _ (.inr k)
  generalize hcenv : compEnvC scope (cellsFrom (s.heap.objs.size + 1) scope.names (cloFrom X.env.cells scope.names [])) s.heap.objs.size X.env = cenv
  have kp : ∀ b o, s.heap.get? b = some o → (pushCells (s.heap.push { cls := .type "dict", data := .dict #[] }) scope.names).get? b = some o := fun b o e => pushCells_keeps _ _ _ _ (Heap.get?_push_of_some _ e)
  have hL : cenv.locals = s.heap.objs.size := by rw [← hcenv]; rfl
  have hcl : cenv.cells = cellsFrom (s.heap.objs.size + 1) scope.names (cloFrom X.env.cells scope.names []) := by rw [← hcenv]; rfl
  have hsc : cenv.scope = relS scope X.env.scope := by rw [← hcenv]; rfl
  rw [← Heap.size_push s.heap { cls := .type "dict", data := .dict #[] }] at hcl
  have cm : ∀ {y c}, (y, c) ∈ cloFrom X.env.cells scope.names [] → X.env.cells.lookup y = some c ∧ c < s.heap.objs.size := fun {y c} hm => by
    rcases cloFrom_mem hm with hm | ⟨h1, rfl⟩
    · cases hm
    · obtain ⟨c, hc⟩ := hfree _ h1 rfl
      rw [hc]
      obtain ⟨w, z⟩ := I.cell _ _ hc
      exact ⟨rfl, z.lt⟩
  have mem : ∀ {y c}, cenv.cells.lookup y = some c → (X.env.cells.lookup y = some c ∧ c < s.heap.objs.size) ∨ (s.heap.objs.size + 1 ≤ c ∧ CellAt (pushCells (s.heap.push { cls := .type "dict", data := .dict #[] }) scope.names) c none) := fun {y c} e => by
    rw [hcl] at e
    rcases cells_mem (PySem.mem_of_lookup e) with hm | ⟨_, h2, h3⟩
    · exact .inl (cm hm)
    · rw [Heap.size_push] at h2; exact .inr ⟨h2, h3⟩
  have look : ∀ {y}, scope.names.lookup y = some .free → ∃ c, cenv.cells.lookup y = some c ∧ X.env.cells.lookup y = some c := fun {y} hl => by
    have hy : (y, NameKind.free) ∈ scope.names := PySem.mem_of_lookup hl
    obtain ⟨c', e'⟩ := mem_lookup (cells_acc (names := scope.names) (n := (s.heap.push { cls := .type "dict", data := .dict #[] }).objs.size) (cloFrom_has (cells := X.env.cells) (acc := []) hy))
    rw [← hcl] at e'
    refine ⟨c', e', ?_⟩
    rw [hcl] at e'
    rcases cells_mem (PySem.mem_of_lookup e') with hm | ⟨h1, _, _⟩
    · exact (cm hm).1
    · have := ok.uniq _ h1
      rw [hl] at this; cases this
  have okB : (X.blk s H scope cenv fp).Ok := by
    refine ⟨I.ok.mod, by show cenv.scope.kind = _; rw [hsc]; exact ok.kind, by show cenv.globals = _; rw [← hcenv]; exact I.ok.glob, by show cenv.builtins = _; rw [← hcenv]; exact I.ok.blt, by show s.heap.objs.size ≤ cenv.locals; rw [hL]; exact Nat.le_refl _,
      fun y z c e1 e2 => ?_, fun y hy => ?_, fun y c z e => ?_, I.ok.hd, I.ok.frames, .inl rfl, fun b hb => ⟨?_, fun y c e z => ?_⟩, I.bs, Nat.le_trans I.ok.bsz I.sz, fun b o e hb => ?_, fun b hb z => ?_, I.stack, I.stkFree⟩
    · have e1 : cenv.cells.lookup y = some c := e1
      have e2 : cenv.cells.lookup z = some c := e2
      rw [hcl] at e1 e2
      refine cells_inj (fun p hp => ?_) (fun y z c a b => I.ok.inj y z c (cm a).1 (cm b).1) (PySem.mem_of_lookup e1) (PySem.mem_of_lookup e2)
      rw [Heap.size_push]
      exact Nat.lt_succ_of_lt (cm (y := p.1) (c := p.2) hp).2
    · show ∃ c, cenv.cells.lookup y = some c
      have key : ∀ k, cenv.kindOf y = some k → (k = .cell ∨ k = .free) → ∃ c, cenv.cells.lookup y = some c := fun k hk hk' => by
        unfold Env.kindOf at hk
        rw [hsc] at hk
        obtain ⟨k', e, r⟩ := lookup_relS hk
        have : k' = .cell ∨ k' = .free := by
          rcases r with rfl | ⟨rfl, _⟩
          · exact hk'
          · exact .inr rfl
        rcases this with rfl | rfl
        · obtain ⟨c, hm⟩ := cells_has (n := (s.heap.push { cls := .type "dict", data := .dict #[] }).objs.size) (acc := cloFrom X.env.cells scope.names []) (PySem.mem_of_lookup e)
          obtain ⟨c', e'⟩ := mem_lookup hm
          exact ⟨c', by rw [hcl]; exact e'⟩
        · obtain ⟨c, h1, _⟩ := look e
          exact ⟨c, h1⟩
      rcases hy with hy | hy
      · exact key _ hy (.inl rfl)
      · exact key _ hy (.inr rfl)
    · have z : (scope.names.lookup y == some NameKind.cell) = true := z
      have z : scope.names.lookup y = some .cell := by simpa using z
      have e : cenv.cells.lookup y = some c := e
      rw [hcl] at e
      rcases cells_mem (PySem.mem_of_lookup e) with hm | ⟨_, h2, _⟩
      · rcases cloFrom_mem hm with hm | ⟨h1, _⟩
        · cases hm
        · have q := ok.uniq _ h1
          rw [z] at q; cases q
      · rw [Heap.size_push] at h2
        exact Nat.le_of_succ_le h2
    · show b ≠ cenv.locals
      rw [hL]; exact Nat.ne_of_lt (hfp b hb).2
    · have e : cenv.cells.lookup y = some c := e
      rcases mem e with ⟨h1, _⟩ | ⟨h1, _⟩
      · exact (hfp b hb).1.2.2.2.2.1 y c h1 z
      · have h2 : s.heap.objs.size + 1 ≤ b := by rw [← z]; exact h1
        exact absurd (Nat.lt_of_lt_of_le (hfp b hb).2 (Nat.le_of_succ_le h2)) (Nat.lt_irrefl _)
    · rcases (hfp b hb).1.2.2.2.1 with z | z
      · exact I.ok.noex b o e z
      · exact absurd (Nat.lt_of_lt_of_le (Heap.lt_size e) (Nat.le_trans I.ok.bsz z)) (Nat.lt_irrefl _)
    · rcases List.mem_cons.mp (I.stkSub b z) with z | z
      · exact (hfp b hb).1.2.1 z
      · exact (hfp b hb).1.2.2.1 z
  refine ⟨okB, rfl, I.bare, Un.kept kp, ⟨fun _ => none, ?_, fun i y av e1 e2 e3 => ?_⟩, fun y c e => ?_, ?_, fun y c e => ?_, fun p hp => ?_, I.hok.kept kp, by rw [wipe_length]; exact I.len⟩
  · show Heap.Ns _ cenv.locals _
    rw [hL]
    exact Heap.Ns.keeps (Heap.Ns.new ..) fun b o e => pushCells_keeps _ _ _ _ e
  · obtain ⟨e2, hne⟩ := wipe_some e2
    have hfr : scope.names.lookup y = some .free ∧ (cenv.kindOf y = some .cell ∨ cenv.kindOf y = some .free) := by
      have key : ∀ k, cenv.scope.names.lookup y = some k → k = .local ∨ k = .cell ∨ k = .free → scope.names.lookup y = some .free ∧ (cenv.kindOf y = some .cell ∨ cenv.kindOf y = some .free) := fun k hk hk' => by
        have hk0 := hk
        rw [hsc] at hk
        obtain ⟨k', e, r⟩ := lookup_relS hk
        have no : ¬ (k' = .local ∨ k' = .cell) := fun hh => by
          rcases ok.own _ (PySem.mem_of_lookup e) hh with e' | e'
          · obtain ⟨p, hp, hpy⟩ := List.mem_map.mp e'
            have e3 := ok.ix p hp
            have : p.1 = y := hpy
            rw [this] at e3
            exact hne (List.mem_map.mpr ⟨p, hp, nodup_ix hN e3 e1⟩)
          · exact e' (List.mem_of_getElem? e1)
        rcases r with rfl | ⟨rfl, rfl⟩
        · rcases hk' with rfl | rfl | rfl
          · exact absurd (.inl rfl) no
          · exact absurd (.inr rfl) no
          · exact ⟨e, .inr hk0⟩
        · exact ⟨e, .inl hk0⟩
      have e3 : Vis cenv.scope y := e3
      rcases e3 with e3 | e3 | e3
      · exact key _ e3 (.inl rfl)
      · exact key _ e3 (.inr (.inl rfl))
      · exact key _ e3 (.inr (.inr rfl))
    obtain ⟨m, hn, hl⟩ := I.loc
    have hvis : Vis X.env.scope y := (ok.free _ (PySem.mem_of_lookup hfr.1) rfl).elim (fun k => .inr (.inl k)) (fun k => .inr (.inr k))
    obtain ⟨w, r, q⟩ := hl i y av e1 e2 hvis
    refine ⟨w, r, .inr ⟨hfr.2, ?_⟩⟩
    obtain ⟨c, h1, h2⟩ := look hfr.1
    rcases q with ⟨k, _⟩ | ⟨_, c', e', z⟩
    · have k : X.env.scope.names.lookup y = some .local := k
      rcases ok.free _ (PySem.mem_of_lookup hfr.1) rfl with k' | k' <;> rw [show X.env.scope.names.lookup y = _ from k'] at k <;> cases k
    · rw [h2] at e'; cases e'
      exact ⟨c, h1, z.keeps kp⟩
  · have e : cenv.cells.lookup y = some c := e
    rcases mem e with ⟨h1, _⟩ | ⟨_, z⟩
    · obtain ⟨w, z⟩ := I.cell y c h1
      exact ⟨w, z.keeps kp⟩
    · exact ⟨_, z⟩
  · show H cenv.locals = none
    rw [hL]; exact I.hok.fresh (Nat.le_refl _)
  · have e : cenv.cells.lookup y = some c := e
    rcases mem e with ⟨h1, _⟩ | ⟨h1, _⟩
    · exact I.freeC y c h1
    · exact I.hok.fresh (Nat.le_of_succ_le h1)
  · exact absurd (show p ∈ ([] : List (Addr × Obj)) ++ [] from hp) (by simp)
/-- an item appended to a tracked list -/
theorem app_ok {E : Value → Shared → Prop} {D : Addr} {xs : List V} {y : V} {v : Value} {Q : Value → Shared → Prop} (I : Inv X pins σ H s) (hD : H D = some (.lst xs)) (hz : xs.length < sizeLine) (r : RelV y v)
    (h : ∀ s', Inv X pins σ (upd H D (.lst (xs ++ [y]))) s' → Q .none s') : wpAny (model X.prog X.w) X.A (call (.builtin "list.append") [.ref D, v]) Q E s := by
  obtain ⟨hz', its, n, ri, e⟩ := I.hok D _ hD
  have hl := ri.length
  refine append_at (hsz := by rw [List.size_toArray]; omega) e fun h' sb ho' => ?_
  refine h { s with heap := h' } (I.write (t' := s.toks) (by rw [hD]; trivial) (.inl rfl) (fun b u hb q => (sb.2 b hb).trans q) ⟨_, ho'⟩ ⟨by rw [List.length_append]; exact hz, its ++ [v], n + 1, ri.append (.cons r .nil), ?_⟩)
  rw [ho']
  simp
/-- a clause's tests -/
def PTs (X : Cx) (ifs : List Expr) (t : TT) : Prop :=
  ∀ (pins : List (Addr × Obj)) (s : Shared) (σ : St) (H : Hp) (Q : Bool → Hp → Prop), Inv X pins σ H s → t σ H Q →
    wpAny (model X.prog X.w) X.A (forIn ifs true fun c r => if r = true then do let ok ← isTrue c X.env (eval c X.env); pure (ForInStep.yield ok) else pure (ForInStep.yield r)) (TP X pins σ Q) X.xe s
def tYes : TT := fun _ H Q => Q true H
theorem pts_nil : PTs X [] tYes := fun _ _ _ H _ I h => wpAny_tests_nil ⟨H, I, h⟩
theorem pts_one {c : Expr} {t : TT} (h : PT X c t) : PTs X [c] t := fun pins s σ H Q I hw => wpAny_tests_one (h pins s σ H Q I hw)
end
theorem thnF {α : Type} {t : Sem α} {Q Q' : α → Shared → Prop} {M : Model} {A : Around} {E : Value → Shared → Prop} {s : Shared} (h : wpAny M A t Q (fun _ _ => False) s) (hQ : ∀ a s, Q a s → Q' a s) : wpAny M A t Q' E s := wpAny_mono h hQ fun _ _ z => False.elim z
/-- the loop of a list comprehension's block, the target of any form (codeAny_compLoop_tests asks a target that no tuple goes to; statement and proof follow it, PyProof/CompMap.lean:41-61, with the step letOwnedTupleGo kept) -/
theorem compLoop_any {prog : Program} {w : World} {A : Around} {R : Result → Shared → Prop} {s : Shared} {elt target iter : Expr} {ifs : List Expr} {scope : Scope} {pos : Pos} {it acc : Value} {env : Env} (I : Nat → Shared → Prop)
    (turn : ∀ n s, I n s → wpAny (model prog w) A (pyNext it) (fun r s₁ => match r with
      | none => R (.ok .next) s₁
      | some v => wpAny (model prog w) A (letOwnedTupleGo target it v) (fun _ s₁' => wpAny (model prog w) A (assign target env v) (fun _ s₂ =>
          wpAny (model prog w) A (forIn ifs true fun c r => if r = true then do let ok ← isTrue c env (eval c env); pure (ForInStep.yield ok) else pure (ForInStep.yield r)) (fun ok s₃ =>
            if ok = true then wpAny (model prog w) A (eval elt env) (fun x s₄ =>
              wpAny (model prog w) A (call (.builtin "list.append") [acc, x]) (fun _ s₅ => ∃ m, m < n ∧ I m s₅) (notedBy (model prog w) A env fun e s' => R (.error e) s') s₄) (notedBy (model prog w) A env fun e s' => R (.error e) s') s₃
            else ∃ m, m < n ∧ I m s₃) (notedBy (model prog w) A env fun e s' => R (.error e) s') s₂) (notedBy (model prog w) A env fun e s' => R (.error e) s') s₁') (notedBy (model prog w) A env fun e s' => R (.error e) s') s₁) (notedBy (model prog w) A env fun e s' => R (.error e) s') s)
    (n : Nat) (h : I n s) :
    codeAny (model prog w) A (.compLoop (.ListComp elt [⟨target, iter, ifs, 0⟩] scope pos) 0 it acc env) R s := by
  refine codeAny_loop rfl I (fun n s hI => ?_) n h
  show wpAny _ A ((compTurn (.ListComp elt [⟨target, iter, ifs, 0⟩] scope pos) 0 it acc env).onRaise (fun x => do noteFrame x env; theTreesLotGoes x)) _ _ s
  refine wpAny_noted ?_
  rw [compTurn_list]
  refine wpAny_bind (wpAny_standAt (wpAny_bind (wpAny_mono (turn n s hI) (fun r s₁ h₁ => ?_) fun _ _ h' => h')))
  cases r with
  | none => exact wpAny_pure h₁
  | some v =>
    refine wpAny_bind (wpAny_mono h₁ (fun _ s₁' h₁' => ?_) fun _ _ h' => h')
    refine wpAny_bind (wpAny_mono h₁' (fun _ s₂ h₂ => wpAny_bind (wpAny_mono h₂ (fun ok s₃ h₃ => ?_) fun _ _ h' => h')) fun _ _ h' => h')
    cases ok with
    | false => exact wpAny_pure ⟨rfl, h₃⟩
    | true =>
      exact wpAny_bind (wpAny_bind (wpAny_mono h₃ (fun x s₄ h₄ => wpAny_bind (wpAny_mono h₄ (fun _ s₅ h₅ => wpAny_pure (wpAny_pure ⟨rfl, h₅⟩)) fun _ _ h' => h')) fun _ _ h' => h'))
section
variable {X : Cx}
/-- [elt for target in iter if ..]: D the new list; W by the turn and a measure, Nx what a turn is to reach -/
def tLc (wi : TI) (g : TG) (tt : TT) (te : TE) (vs : List Nat) : TE := fun σ H Q => wi σ H fun J H1 => ∀ D, H1 D = none → ∃ W : Nat → Nat → Hp → Prop, (∃ m, W 0 m (upd H1 D (.lst []))) ∧ ∀ i m H, W i m H →
  (J.stop i H ∧ Q (.ref D) H) ∨ (J.go i H ∧ ∃ Nx : Hp → Prop, (∀ H', Nx H' → ∃ m', m' < m ∧ W (i + 1) m' H') ∧ ∀ x H', J.yld i H x H' → g x (wipe σ vs) H' fun σ2 H2 => wipe σ2 vs = wipe σ vs ∧ tt σ2 H2 fun b H3 =>
    if b = true then te σ2 H3 fun y H4 => ∃ acc, H4 D = some (.lst acc) ∧ acc.length < sizeLine ∧ Nx (upd H4 D (.lst (acc ++ [y]))) else Nx H3)
theorem lc_core {pins : List (Addr × Obj)} {s : Shared} {σ : St} {H : Hp} {Q : VK} {elt tg iter : Expr} {ifs : List Expr} {scope : Scope} {own : List (Str × Nat)} {pos pos' : Pos} {wi : TI} {g : TG} {tt : TT} {te : TE} {use : Option (Value → Sem Unit)} {Qf : Value → Shared → Prop}
    (hc : X.calm = true) (hN : X.N.Nodup) (I : Inv X pins σ H s) (hi : PI X tg iter wi) (ok : BlkOk X.N X.env.scope scope own)
    (hg : ∀ (s : Shared) (H : Hp) (C : Addr) (cl : List (Str × Addr)) (fp : List Addr), PG (X.blk s H scope (compEnvC scope cl C X.env) fp) tg g) (ht : ∀ (s : Shared) (H : Hp) (C : Addr) (cl : List (Str × Addr)) (fp : List Addr), PTs (X.blk s H scope (compEnvC scope cl C X.env) fp) ifs tt)
    (he : ∀ (s : Shared) (H : Hp) (C : Addr) (cl : List (Str × Addr)) (fp : List Addr), PE (X.blk s H scope (compEnvC scope cl C X.env) fp) elt te) (hs : ∀ x, foldedSetIterable iter X.env x = pure x)
    (h : tLc wi g tt te (own.map (·.2)) σ H Q)
    (hRR : ∀ D C s' m H', Inv X pins σ H' s' → Q (.ref D) H' → s'.heap.Ns C m → FpOk X pins H' C → compPost (model X.prog X.w) X.A X.xe use Qf (.ref D) C (.ok .next) s') :
    wpAny (model X.prog X.w) X.A (comprehension (.ListComp elt [⟨tg, iter, ifs, 0⟩] scope pos) scope X.env pos' (newList []) false (eval iter X.env) use) Qf X.xe s := by
  have hfree : ∀ y ∈ scope.names, y.2 = .free → ∃ c, X.env.cells.lookup y.1 = some c := fun y hy e => by
    rcases ok.free y hy e with k | k
    · exact I.ok.has _ (.inl k)
    · exact I.ok.has _ (.inr k)
  refine wpAny_comprehension_free (use := use) rfl hs (closure_ok hfree) ok.kind (fun y hy e => by rw [ok.uniq y hy, e])
    (thn (hi pins s σ H _ I h) fun xv s1 hx => thn hx fun itv s2 h2 => ?_)
  obtain ⟨it, fp, tn, J, H2, e, I2, T, st2, f2, q⟩ := h2
  subst e
  refine wpAny_newObj_type (newEnv_comp ?_) (by show 0 ≤ sizeLine; decide)
  generalize hD : s2.heap.objs.size = D
  have hDn : H2 D = none := I2.hok.fresh (Nat.le_of_eq hD)
  obtain ⟨W, ⟨m0, w0⟩, turn⟩ := q D hDn
  -- the new list
  generalize hs3 : ({ s2 with heap := s2.heap.push { cls := .type "list", data := .seq ([] : List Value).toArray } } : Shared) = s3
  have I3 : Inv X pins σ (upd H2 D (.lst [])) s3 := by
    rw [← hs3]
    refine I2.laid (t' := s2.toks) (fun b o e => Heap.get?_push_of_some _ e) (Nat.le_of_eq hD) ⟨Nat.zero_le _, [], 0, .nil, ?_⟩
    rw [← hD]
    exact Heap.get?_push_size _ rfl
  have h3 : s3.heap = s2.heap.push { cls := .type "list", data := .seq ([] : List Value).toArray } := by rw [← hs3]
  have sz : ∀ b ∈ fp, b < s2.heap.objs.size := fun b hb => by
    obtain ⟨o, e, _⟩ := T.obj _ _ st2 b hb
    exact Heap.lt_size e
  have f3 : ∀ b ∈ fp, FpOk X pins (upd H2 D (.lst [])) b ∧ b < s3.heap.objs.size := fun b hb => by
    have hlt := sz b hb
    refine ⟨⟨?_, (f2 b hb).2⟩, by rw [h3, Heap.size_push]; exact Nat.lt_succ_of_lt hlt⟩
    rw [upd_ne (by rw [← hD]; exact Nat.ne_of_lt hlt)]
    exact (f2 b hb).1
  have st3 : tn 0 s3.heap := T.keep _ _ _ st2 fun b _ o e => by rw [h3]; exact Heap.get?_push_of_some _ e
  have I4 := block_start I3 ok hN f3
  have pg := hg s3 (upd H2 D (.lst [])) s3.heap.objs.size (cellsFrom (s3.heap.objs.size + 1) scope.names (cloFrom X.env.cells scope.names [])) fp
  have pt := ht s3 (upd H2 D (.lst [])) s3.heap.objs.size (cellsFrom (s3.heap.objs.size + 1) scope.names (cloFrom X.env.cells scope.names [])) fp
  have pe := he s3 (upd H2 D (.lst [])) s3.heap.objs.size (cellsFrom (s3.heap.objs.size + 1) scope.names (cloFrom X.env.cells scope.names [])) fp
  show codeAny _ _ (.compStart (.ListComp elt [⟨tg, iter, ifs, 0⟩] scope pos) 0 (.ref it) (.ref D) (compEnvC scope (cellsFrom (s3.heap.objs.size + 1) scope.names (cloFrom X.env.cells scope.names [])) s3.heap.objs.size X.env)) (compPost (model X.prog X.w) X.A X.xe use Qf (.ref D) s3.heap.objs.size) { s3 with heap := pushCells (s3.heap.push { cls := .type "dict", data := .dict #[] }) scope.names }
  have nfp : ∀ b ∈ fp, (upd H2 D (.lst [])) b = none := fun b hb => (f3 b hb).1.1
  generalize hce : compEnvC scope (cellsFrom (s3.heap.objs.size + 1) scope.names (cloFrom X.env.cells scope.names [])) s3.heap.objs.size X.env = ce at I4 pg pt pe ⊢
  have cL : ce.locals = s3.heap.objs.size := by subst hce; rfl
  generalize hH3 : upd H2 D (.lst []) = H3 at I3 I4 pg pt pe w0 nfp f3
  generalize hs4 : ({ s3 with heap := pushCells (s3.heap.push { cls := .type "dict", data := .dict #[] }) scope.names } : Shared) = s4 at I4 ⊢
  have st4 : tn 0 s4.heap := T.keep _ _ _ st3 fun b _ o e => by rw [← hs4]; exact pushCells_keeps _ _ _ _ (Heap.get?_push_of_some _ e)
  have stat : ∀ {σ' : St} {H' : Hp} {s' : Shared}, Inv (X.blk s3 H3 scope ce fp) [] σ' H' s' → (∀ b ∈ fp, H' b = none) → ∀ b ∈ fp, FpOk (X.blk s3 H3 scope ce fp) [] H' b := fun {σ' H' s'} I' hn b hb =>
    ⟨hn b hb, (I'.ok.exf b hb).1, I'.ok.exfs b hb, .inl hb, fun x c e => (I'.ok.exf b hb).2 x c e, fun p hp => absurd (show p ∈ ([] : List (Addr × Obj)) ++ [] from hp) (by simp)⟩
  have loop : codeAny (model X.prog X.w) X.A (.compLoop (.ListComp elt [⟨tg, iter, ifs, 0⟩] scope pos) 0 (.ref it) (.ref D) ce) (compPost (model X.prog X.w) X.A X.xe use Qf (.ref D) s3.heap.objs.size) s4 := by
    refine compLoop_any (fun n s' => ∃ i H', Inv (X.blk s3 H3 scope ce fp) [] (wipe σ (own.map (·.2))) H' s' ∧ tn i s'.heap ∧ (∀ b ∈ fp, H' b = none) ∧ W i n H') ?_ m0 ⟨0, H3, I4, st4, nfp, w0⟩
    rintro n s5 ⟨i, H5, I5, st5, n5, w5⟩
    rcases turn i n H5 w5 with ⟨stop, qq⟩ | ⟨go, Nx, hNx, step⟩
    · have td := T.done (X.blk s3 H3 scope ce fp) rfl rfl rfl hc i [] s5 _ H5 (fun _ _ => False) I5 (stat I5 n5) st5 stop
      refine thnF td fun r s6 ⟨hr, I6⟩ => ?_
      subst hr
      -- back in the def's context
      have I7 : Inv X pins σ H5 s6 := I3.call' (ch := fp) I6.os I6.base I6.hok I6.bare fun b hb => ⟨(f3 b hb).1.2.2.2.1, (f3 b hb).1.2.1, (f3 b hb).1.2.2.2.2.1, (f3 b hb).1.2.2.2.2.2⟩
      have nC : H5 s3.heap.objs.size = none := by
        have z : H5 ce.locals = none := I6.free
        rw [cL] at z
        exact z
      obtain ⟨m, hn, _⟩ := I6.loc
      have hn : s6.heap.Ns ce.locals m := hn
      rw [cL] at hn
      exact hRR D s3.heap.objs.size s6 m H5 I7 qq hn (I3.fpOk (Nat.le_refl _) nC)
    · have ti := T.item (X.blk s3 H3 scope ce fp) rfl rfl rfl hc i [] s5 _ H5 (fun _ _ => False) I5 (stat I5 n5) st5 go
      refine thnF ti fun r s6 ⟨u, hr, h6⟩ => ?_
      subst hr
      refine thnF h6 fun _ s7 ⟨x, H7, I7, r7, y7, st7, n7⟩ => ?_
      have I7' := I7.pinned (stat I7 n7) (T.obj _ _ st7)
      refine thnF (pg _ s7 _ H7 x u _ I7' r7 (step x H7 y7)) fun _ s8 ⟨σ8, H8, I8, hw8, q8⟩ => ?_
      refine thnF (pt _ s8 σ8 H8 _ I8 q8) fun b s9 ⟨H9, I9, q9⟩ => ?_
      -- the turn's end
      have fin : ∀ {s' : Shared} {H' : Hp}, Inv (X.blk s3 H3 scope ce fp) ([] ++ pinsAt fp s7.heap) σ8 H' s' → Nx H' → ∃ m, m < n ∧ ∃ i H', Inv (X.blk s3 H3 scope ce fp) [] (wipe σ (own.map (·.2))) H' s' ∧ tn i s'.heap ∧ (∀ b ∈ fp, H' b = none) ∧ W i m H' := fun {s' H'} I' nx => by
        obtain ⟨m', hm, w'⟩ := hNx H' nx
        have pin' : ∀ b ∈ fp, ∀ o, s7.heap.get? b = some o → s'.heap.get? b = some o ∧ H' b = none := fun b hb o e =>
          let z := I'.pin (b, o) (List.mem_append_right _ (List.mem_append_right _ (mem_pinsAt hb e)))
          ⟨z.1, z.2.1⟩
        have hl : (wipe σ (own.map (·.2))).length = σ8.length := by rw [← hw8, wipe_length]
        refine ⟨m', hm, i + 1, H', (I'.unpinned (pins := [])).weak hl (fun j v e => ?_), T.keep _ _ _ st7 fun b hb o e => (pin' b hb o e).1, fun b hb => ?_, w'⟩
        · rw [← hw8] at e
          exact (wipe_some e).1
        · obtain ⟨o, e, _⟩ := T.obj _ _ st7 b hb
          exact (pin' b hb o e).2
      cases b with
      | false =>
        simp only [Bool.false_eq_true, if_false] at q9 ⊢
        exact fin I9 q9
      | true =>
        simp only [if_true] at q9 ⊢
        refine thnF (pe _ s9 σ8 H9 _ I9 q9) fun z s10 ⟨yv, H10, I10, r10, acc, hD10, hz10, nx⟩ => ?_
        exact app_ok (X := X.blk s3 H3 scope ce fp) I10 hD10 hz10 r10 fun s11 I11 => fin I11 nx
  exact codeAny_compStart_list loop (T.self X.A 0 _ _ _ st4 loop)
/-- as a value -/
theorem pe_lc {elt tg iter : Expr} {ifs : List Expr} {scope : Scope} {own : List (Str × Nat)} {pos : Pos} {wi : TI} {g : TG} {tt : TT} {te : TE} (hc : X.calm = true) (hN : X.N.Nodup) (hi : PI X tg iter wi) (ok : BlkOk X.N X.env.scope scope own)
    (hg : ∀ (s : Shared) (H : Hp) (C : Addr) (cl : List (Str × Addr)) (fp : List Addr), PG (X.blk s H scope (compEnvC scope cl C X.env) fp) tg g) (ht : ∀ (s : Shared) (H : Hp) (C : Addr) (cl : List (Str × Addr)) (fp : List Addr), PTs (X.blk s H scope (compEnvC scope cl C X.env) fp) ifs tt)
    (he : ∀ (s : Shared) (H : Hp) (C : Addr) (cl : List (Str × Addr)) (fp : List Addr), PE (X.blk s H scope (compEnvC scope cl C X.env) fp) elt te) (hs : ∀ x, foldedSetIterable iter X.env x = pure x := by intro _; rfl) :
    PE X (.ListComp elt [⟨tg, iter, ifs, 0⟩] scope pos) (tLc wi g tt te (own.map (·.2))) := by
  intro pins s σ H Q I h
  rw [eval_ListComp]
  refine lc_core hc hN I hi ok hg ht he hs h fun D C s' m H' I' q hn f => ⟨m, hn, fun h'' sb => ?_⟩
  obtain ⟨f0, f1, f2, f3, f4, f5⟩ := f
  exact ⟨.ref D, H', I'.turned (t' := s'.toks) (fun b o hb e => (sb.2 b hb).trans e) f0 f1 f3 f4 f5, rfl, q⟩
/-- name = [..] on one line, the name a local -/
theorem ps_setLc {i : Nat} {y : Str} {py : Pos} {elt tg iter : Expr} {ifs : List Expr} {scope : Scope} {own : List (Str × Nat)} {pos spos : Pos} {wi : TI} {g : TG} {tt : TT} {te : TE} (hc : X.calm = true) (hN : X.N.Nodup) (hy : X.N[i]? = some y) (hyl : X.env.scope.names.lookup y = some .local)
    (hsw : swapsWith (.ListComp elt [⟨tg, iter, ifs, 0⟩] scope pos) (some (.Name y py)) spos.line X.env = pure true) (hi : PI X tg iter wi) (ok : BlkOk X.N X.env.scope scope own)
    (hg : ∀ (s : Shared) (H : Hp) (C : Addr) (cl : List (Str × Addr)) (fp : List Addr), PG (X.blk s H scope (compEnvC scope cl C X.env) fp) tg g) (ht : ∀ (s : Shared) (H : Hp) (C : Addr) (cl : List (Str × Addr)) (fp : List Addr), PTs (X.blk s H scope (compEnvC scope cl C X.env) fp) ifs tt)
    (he : ∀ (s : Shared) (H : Hp) (C : Addr) (cl : List (Str × Addr)) (fp : List Addr), PE (X.blk s H scope (compEnvC scope cl C X.env) fp) elt te) (hs : ∀ x, foldedSetIterable iter X.env x = pure x := by intro _; rfl) :
    PS X (.Assign [.Name y py] (.ListComp elt [⟨tg, iter, ifs, 0⟩] scope pos) spos) (tAsg (tLc wi g tt te (own.map (·.2))) (gName i)) := by
  intro pins s σ H D I h
  rw [exec_Assign_Name_used _ _ _ _ hsw]
  refine wpAny_bind (wpAny_standAt (wpAny_bind ?_))
  show wpAny _ X.A (do let _ ← comprehension (.ListComp elt [⟨tg, iter, ifs, 0⟩] scope pos) scope X.env (firstIterPos [⟨tg, iter, ifs, 0⟩] pos) (newList []) false (eval iter X.env) (some (assign (.Name y py) X.env))) _ _ s
  have h : tLc wi g tt te (own.map (·.2)) σ H (fun x H1 => gName i x σ H1 D.nx) := h
  refine wpAny_bind (thn (lc_core (Qf := fun _ s' => SP X pins D .next s') hc hN I hi ok hg ht he hs h fun L C s' m H' I' q hn f => ?_) fun _ s' hq => wpAny_pure (wpAny_pure hq))
  show wpAny _ _ (assign (.Name y py) X.env (.ref L)) _ _ _
  refine wpAny_assign_Name (store_ok2 (v := V.ref L) I' hN hy (.inl hyl) rfl (fun s2 I2 ⟨a, sb, ha⟩ => ?_) (.inr hyl))
  obtain ⟨f0, f1, f2, f3, f4, f5⟩ := f
  have haC : C ≠ a := by
    rcases ha with z | z
    · rw [z]; exact f1
    · exact fun e => f4 y a z e.symm
  refine ⟨m, hn.sameBut sb haC, fun h3 sb3 => ?_⟩
  exact ⟨_, H', I2.turned (t' := s2.toks) (fun b o hb e => (sb3.2 b hb).trans e) f0 f1 f3 f4 f5, q⟩
theorem sw_true {elt : Expr} {gs : List Comprehension} {scope : Scope} {pos py : Pos} {y : Str} {l : Nat} {env : Env} (hk : env.scope.kind = .function) (hy : env.scope.names.lookup y = some .local) (hl : (py.line == pos.line) = true)
    (ha : (scope.names.any fun (n, k) => n == y && (k == .local || k == .cell)) = false) : swapsWith (.ListComp elt gs scope pos) (some (.Name y py)) l env = pure true := by
  have ky : env.kindOf y = some .local := hy
  have hb : env.blockKind = .function := by unfold Env.blockKind; rw [hk]; rfl
  unfold swapsWith
  simp only [hb, ky, ha, Expr.pos, hl]
  rfl
end
/-- over a list that the block leaves as it is -/
theorem lc_list {K : PySem.W.Frag} {a : Addr} {xs : List V} {g : TG} {tt : TT} {te : TE} {vs : List Nat} {σ : St} {H1 : Hp} {D : Addr} {Qd : Hp → Prop} (Pv : Nat → Hp → Prop) (h0 : Pv 0 (upd H1 D (.lst []))) (hl : ∀ i H, i ≤ xs.length → Pv i H → SqL K H a xs)
    (hs : ∀ i x H, xs[i]? = some x → Pv i H → g x (wipe σ vs) H fun σ2 H2 => wipe σ2 vs = wipe σ vs ∧ tt σ2 H2 fun b H3 =>
      if b = true then te σ2 H3 fun y H4 => ∃ acc, H4 D = some (.lst acc) ∧ acc.length < sizeLine ∧ Pv (i + 1) (upd H4 D (.lst (acc ++ [y]))) else Pv (i + 1) H3) (hd : ∀ H, Pv xs.length H → Qd H) :
    ∃ W : Nat → Nat → Hp → Prop, (∃ m, W 0 m (upd H1 D (.lst []))) ∧ ∀ i m H, W i m H →
      ((Itl K a).stop i H ∧ Qd H) ∨ ((Itl K a).go i H ∧ ∃ Nx : Hp → Prop, (∀ H', Nx H' → ∃ m', m' < m ∧ W (i + 1) m' H') ∧ ∀ x H', (Itl K a).yld i H x H' → g x (wipe σ vs) H' fun σ2 H2 => wipe σ2 vs = wipe σ vs ∧ tt σ2 H2 fun b H3 =>
        if b = true then te σ2 H3 fun y H4 => ∃ acc, H4 D = some (.lst acc) ∧ acc.length < sizeLine ∧ Nx (upd H4 D (.lst (acc ++ [y]))) else Nx H3) := by
  refine ⟨fun i m H => m = xs.length - i ∧ i ≤ xs.length ∧ Pv i H, ⟨xs.length, by simp, Nat.zero_le _, h0⟩, ?_⟩
  rintro i m H ⟨rfl, hi, p⟩
  have q := hl i H hi p
  by_cases hlt : i < xs.length
  · refine .inr ⟨⟨xs, xs[i], q, by simp [hlt]⟩, Pv (i + 1), fun H' p' => ⟨xs.length - (i + 1), by omega, rfl, hlt, p'⟩, fun x H' y => ?_⟩
    obtain ⟨e, y⟩ := y
    subst e
    exact hs i x _ (y xs q) p
  · have e : i = xs.length := by omega
    subst e
    exact .inl ⟨⟨xs, q, Nat.le_refl _⟩, hd H p⟩
def blkC (N : List Str) (sc scope : Scope) (own : List (Str × Nat)) : Bool :=
  (match scope.kind with | .function => true | _ => false) && (scope.names.all fun y => decide (scope.names.lookup y.1 = some y.2)) && (own.all fun p => decide (N[p.2]? = some p.1)) &&
    (scope.names.all fun y => match y.2 with
      | .free => (match sc.names.lookup y.1 with | some .cell => true | some .free => true | _ => false)
      | .local => decide (y.1 ∈ own.map (·.1)) || decide (y.1 ∉ N)
      | .cell => decide (y.1 ∈ own.map (·.1)) || decide (y.1 ∉ N)
      | _ => true)
theorem blkOk_by {N : List Str} {sc scope : Scope} {own : List (Str × Nat)} (h : blkC N sc scope own = true) : BlkOk N sc scope own := by
  unfold blkC at h
  simp only [Bool.and_eq_true, List.all_eq_true, decide_eq_true_eq] at h
  obtain ⟨⟨⟨h1, h2⟩, h3⟩, h4⟩ := h
  refine ⟨?_, h2, h3, fun y hy e => ?_, fun y hy e => ?_⟩
  · split at h1
    · assumption
    · cases h1
  · have q := h4 y hy
    simp only [e] at q
    split at q <;> first | exact .inl (by assumption) | exact .inr (by assumption) | cases q
  · have q := h4 y hy
    rcases e with e | e <;> (simp only [e, Bool.or_eq_true, decide_eq_true_eq] at q; exact q)
end L2
namespace L2
open PySem PySem.Spec PyProof.Rows
section
variable {prog : Program} {w : World} {A : Around} {R : Result → Shared → Prop} {s : Shared} {elt t0 i0 t1 i1 : Expr} {ifs0 ifs1 : List Expr} {scope : Scope} {pos : Pos} {it acc : Value} {env : Env}
end
section
variable {X : Cx}
end
end L2
namespace L2
open PySem PySem.Spec PyProof.Rows
section
variable {κ : Type} [DecidableEq κ]
end
section
variable {P : Program} {w : World} {H : Hp} {h : Heap} {a : Addr}
end
section
variable {X : Cx} {pins : List (Addr × Obj)} {σ : St} {H : Hp} {s : Shared} {a : Addr} {y v : V} {u r : Value} {o : Option V} {A : Around} {E : Value → Shared → Prop}
end
section
variable {X : Cx} {pins : List (Addr × Obj)} {σ : St} {H : Hp} {s : Shared} {a : Addr} {kvs : List (Key × V)} {k : Key} {u : Value} {A : Around} {E : Value → Shared → Prop}
end
section
variable {X : Cx} {o i e value : Expr} {pos pos' tpos : Pos} {td ty tv : TE}
end
section
variable {X : Cx} {pos : Pos}
end
section
variable {X : Cx} {pins : List (Addr × Obj)} {σ : St} {H : Hp} {s : Shared} {a : Addr} {y d : V} {u r : Value} {o : Option V} {A : Around} {E : Value → Shared → Prop}
end
section
variable {X : Cx} {o e f : Expr} {apos cpos : Pos} {td ty tx : TE}
end
section
variable {X : Cx} {pins : List (Addr × Obj)} {σ : St} {H : Hp} {s : Shared} {a : Addr} {kvs : List (Key × V)} {A : Around} {E : Value → Shared → Prop}
end
section
variable {X : Cx} {pins : List (Addr × Obj)} {σ : St} {H : Hp} {s : Shared} {a : Addr} {y : V} {u : Value} {A : Around} {E : Value → Shared → Prop}
end
end L2
namespace L2
open PySem PySem.Spec PyProof.Rows
section
variable {prog : Program} {w : World} {A : Around} {E : Value → Shared → Prop}
end
section
variable {X : Cx}
end
end L2
namespace L2
open PySem PySem.Spec PyProof.Rows
section
variable {X : Cx} {pins : List (Addr × Obj)} {σ : St} {H : Hp} {s : Shared} {h' : Heap}
/-- .. and one new object is laid -/
theorem Inv.turnedNew {t' : Nat} {ch : List Addr} {T : Addr} {ob : HO} (I : Inv X pins σ H s) (k : ∀ b o, b ∉ ch → s.heap.get? b = some o → h'.get? b = some o) (hf : ∀ b ∈ ch, FpOk X pins H b) (hT : s.heap.objs.size ≤ T)
    (new : ObjOk X.prog X.w (upd H T ob) h' T ob) : Inv X pins σ (upd H T ob) { s with heap := h', toks := t' } := by
  have hn : H T = none := I.hok.fresh hT
  have nit : ∀ b u, H b = some u → b ∉ ch := fun b u e z => by
    have q := (hf b z).1
    rw [q] at e; cases e
  refine I.step (g' := s.gens) (d' := s.drawn) (ch := ch) (fun b hb => ⟨(hf b hb).2.2.2.1, (hf b hb).2.1, (hf b hb).2.2.2.2.1, (hf b hb).2.2.2.2.2⟩) (fun b o _ _ hc e _ => k b o hc e) (fun b o _ _ hc e _ => ⟨o.slots, k b o hc e⟩)
    (fun b o _ e n => ?_) (fun b o hc e => ⟨o, k b o hc e⟩) (fun b xs e => ?_) (fun b o u e => ?_) (fun b ps e => ⟨#[], ?_⟩) (fun m hm => ?_) (fun b u e => ?_) I.bare
  · rw [upd_ne (Nat.ne_of_lt (Nat.lt_of_lt_of_le (Heap.lt_size e) hT))]; exact n
  · rw [upd_ne (ne_of_none e hn)]; exact e
  · rw [upd_ne (ne_of_none e hn)]; exact e
  · rw [upd_ne (ne_of_none e hn), e]; simp
  · obtain ⟨o, es, ep, ho, r⟩ := hm
    exact ⟨o, es, ep, k _ o (fun z => (hf _ z).2.1 rfl) ho, r⟩
  · by_cases hb : b = T
    · subst hb
      rw [upd_same] at e
      cases e
      exact new
    · rw [upd_ne hb] at e
      refine (I.hok b u e).stay (fun c v hc q => k c v ?_ q) (fun c q => by rw [upd_ne (ne_of_none q hn)]; exact q) fun c xs q => by rw [upd_ne (ne_of_none q hn)]; exact q
      rcases hc with z | z
      · rw [z]; exact nit b u e
      · exact nit c _ z
end
section
variable {X : Cx}
end
section
variable {X : Cx} {tg : Expr}
end
section
variable {X : Cx} {tg : Expr}
end
section
variable {prog : Program} {w : World} {A : Around} {E : Value → Shared → Prop} {s : Shared}
end
section
variable {X : Cx} {pins : List (Addr × Obj)} {σ : St} {H : Hp} {s : Shared} {d : Addr} {o : Obj}
end
section
variable {P : Program} {w : World} {K : PySem.W.Frag} {tg : Expr} {d : Addr} {o : Obj} {es : Array DictEntry} {ep : Nat}
end
section
variable {X : Cx} {tg e : Expr} {td : TE} {apos cpos : Pos}
end
/-- the list at a as it stands at each turn, each item in a new pair -/
def Ite (K : PySem.W.Frag) (a : Addr) : It :=
  ⟨fun i H => ∃ (xs : List V) (x : V), SqL K H a xs ∧ xs[i]? = some x, fun i H v H' => ∃ T x, v = .ref T ∧ H T = none ∧ H' = upd H T (.tup [.int (i : Nat), x]) ∧ ∀ xs, SqL K H a xs → xs[i]? = some x, fun i H => ∃ xs : List V, SqL K H a xs ∧ xs.length ≤ i⟩
theorem turn_enum {P : Program} {w : World} {K : PySem.W.Frag} {elts : List Expr} {kk : Nat} {tpos : Pos} (a e it : Addr) :
    Turn P w K (.Tuple elts kk tpos) (Ite K a) [e, it] e (fun i h => (∃ old, IsEnum h e it ((i : Nat) : Int) old) ∧ h.IsListIter it a i ∧ e ≠ it) where
  mem := by simp
  obj := fun i h st b hb => by
    obtain ⟨⟨old, he⟩, ⟨o, ho, hc, hd⟩, _⟩ := st
    have e' : b = e ∨ b = it := by simpa using hb
    rcases e' with z | z
    · rw [z]; exact ⟨_, he, fun v q => nomatch q⟩
    · rw [z]; exact ⟨o, ho, fun v q => by rw [hd] at q; cases q⟩
  keep := fun i h h' st k => let ⟨⟨old, he⟩, hi, hne⟩ := st; ⟨⟨old, k e (by simp) _ he⟩, hi.at fun o q => k it (by simp) o q, hne⟩
  item := by
    intro X hP hw hK hc i pins s σ H E I hf st hg
    subst hP hw hK
    obtain ⟨⟨old, he⟩, hit, hne⟩ := st
    obtain ⟨xs, x, hq, hx⟩ := hg
    obtain ⟨its, rv, p, hz⟩ := I.list hq
    obtain ⟨u, hu, ru⟩ := rv.get hx
    have hel : e < s.heap.objs.size := Heap.lt_size he
    have hil : it < s.heap.objs.size := by obtain ⟨_, q, _⟩ := hit; exact Heap.lt_size q
    refine wpAny_pyNext_enum_item he hit p.isList (x := u) (by simpa using hu) hne fun h' ho hit' hT hsz hk => ?_
    refine ⟨_, rfl, wpAny_letOwnedTupleGo_enum (s := { s with heap := h', toks := s.toks + 1 }) ho fun h'' he' sb => ?_⟩
    have hT2 : h''.get? s.heap.objs.size = some { cls := .type "tuple", data := .seq #[.int i s.toks, u] } := (sb.2 _ (Nat.ne_of_gt hel)).trans hT
    have new : ObjOk X.prog X.w (upd H s.heap.objs.size (.tup [.int (i : Nat), x])) h'' s.heap.objs.size (.tup [.int (i : Nat), x]) :=
      ⟨by show 2 ≤ sizeLine; decide, [.int i s.toks, u], .cons ⟨_, rfl⟩ (.cons ru .nil), ⟨_, hT2, rfl, _, rfl⟩⟩
    have I1 : Inv X pins σ (upd H s.heap.objs.size (.tup [.int (i : Nat), x])) { s with heap := h'', toks := s.toks + 1 } :=
      I.turnedNew (ch := [e, it]) (fun b ob hb q => (sb.2 b (fun z => hb (by simp [z]))).trans (hk b ob (fun z => hb (by simp [z])) (fun z => hb (by simp [z])) q)) hf (Nat.le_refl _) new
    refine ⟨.ref s.heap.objs.size, _, I1, rfl, ⟨_, x, rfl, I.hok.fresh (Nat.le_refl _), rfl, fun ys hy => by rw [I.list_inj hy hq]; exact hx⟩, ⟨⟨u, ?_⟩, hit'.at fun o q => (sb.2 it (Ne.symm hne)).trans q, hne⟩, fun b hb => ?_⟩
    · have e1 : ((i + 1 : Nat) : Int) = (i : Int) + 1 := by omega
      rw [e1]; exact he'
    · have hb' : b < s.heap.objs.size := by
        have e' : b = e ∨ b = it := by simpa using hb
        rcases e' with z | z
        · rw [z]; exact hel
        · rw [z]; exact hil
      rw [upd_ne (Nat.ne_of_lt hb')]
      exact (hf b hb).1
  done := by
    intro X hP hw hK hc i pins s σ H E I hf st hg
    subst hP hw hK
    obtain ⟨⟨old, he⟩, hit, hne⟩ := st
    obtain ⟨xs, hq, hx⟩ := hg
    obtain ⟨its, rv, p, hz⟩ := I.list hq
    obtain ⟨f0, f1, f2, f3, f4, f5⟩ := hf it (by simp)
    have hl := rv.length
    exact wpAny_pyNext_enum_end (I.ok.hd hc) he hit p.isList (by simp; omega) fun h' eb => ⟨rfl, I.turned (t' := s.toks) (fun b o hb q => eb b o hb q) f0 f1 f3 f4 f5⟩
  self := fun A i s Q E st h => let ⟨⟨_, he⟩, _⟩ := st; wpAny_pyIter_enum he h
def iEnum (K : PySem.W.Frag) (ta : TA) : TI := fun σ H R => ta σ H fun vs H1 => ∃ a xs, vs = [.ref a] ∧ SqL K H1 a xs ∧ R (Ite K a) H1
theorem pi_enum {X : Cx} {e : Expr} {ta : TA} {p pos tpos : Pos} {elts : List Expr} {kk : Nat} (hg : Gl X "enumerate") (hm : X.mg "enumerate" = none) (ha : PA X [e] ta) (hs : starEach [e] X.env = [(false, eval e X.env)] := by rfl) :
    PI X (.Tuple elts kk tpos) (.Call (.Name "enumerate" p) [e] [] pos) (iEnum X.K ta) := by
  intro pins s σ H R I h
  refine Call_ (ld_blt I hg hm boot_enumerate (PyProof.Rows.callWith_type1 (thn (ha pos pins s σ H _ I h) fun us s1 ⟨vs, H1, I1, r1, q1⟩ => ?_) hs rfl))
  obtain ⟨a, xs, ex, hq, q⟩ := q1
  subst ex
  cases r1 with
  | cons r rr =>
    cases rr
    cases r
    obtain ⟨its, rv, p', hz⟩ := I1.list hq
    refine call_enumerate_list p'.isList fun h' he hit hsz hk => wpAny_pyIter_enum he ?_
    have I2 : Inv X pins σ H1 { s1 with heap := h' } := I1.kept (t' := s1.toks) hk
    refine ⟨s1.heap.objs.size + 1, [s1.heap.objs.size + 1, s1.heap.objs.size], _, _, H1, rfl, I2, turn_enum a (s1.heap.objs.size + 1) s1.heap.objs.size, ⟨⟨.none, he⟩, hit, Nat.succ_ne_self _⟩, fun b hb => ?_, q⟩
    have e' : b = s1.heap.objs.size + 1 ∨ b = s1.heap.objs.size := by simpa using hb
    have hle : s1.heap.objs.size ≤ b := by
      rcases e' with z | z
      · rw [z]; exact Nat.le_add_right _ _
      · rw [z]; exact Nat.le_refl _
    exact I1.fpOk hle (I1.hok.fresh hle)
end L2
section 
namespace Bits
open PySem PyProof.Rows
end Bits
end 
section 
namespace TL
open PySem PySem.Builtin PySem.Builtin.Str PySem.StrLaws
end TL
end 
namespace L2
open PySem PySem.Spec PyProof.Rows
section
variable {X : Cx} {pins : List (Addr × Obj)} {σ : St} {H : Hp} {s : Shared} {Q : VK}
end
section
variable {X : Cx}
end
section
variable {X : Cx} {o e : Expr} {to te : TE}
end
end L2
namespace L2
open PySem PySem.Spec PyProof.Rows
section
variable {X : Cx}
end
end L2
section
set_option Elab.async false
set_option linter.all false
set_option maxRecDepth 100000
set_option maxHeartbeats 2000000
namespace L2
open PySem PySem.Spec PyProof.Rows
open PySem.W (WData Codec OpenSpec Well WellAll ReadsW ReadsAllW)
mutual
/-- x stands for the datum d, lists and tuples all the way -/
inductive Dw (K : PySem.W.Frag) (H : Hp) : V → WData → Prop
  | non : Dw K H .non .none
  | bl (b : Bool) : Dw K H (.bl b) (.bool b)
  | int (i : Int) : Dw K H (.int i) (.int i)
  | str (x : Str) : Dw K H (.str x) (.str x)
  | byt (b : Array UInt8) : Dw K H (.byt b) (.bytes b.toList)
  | lst {a : Addr} {xs : List V} {ds : List WData} : SqL K H a xs → DwAll K H xs ds → Dw K H (.ref a) (.list ds)
  | tup {a : Addr} {xs : List V} {ds : List WData} : SqT K H a xs → DwAll K H xs ds → Dw K H (.ref a) (.tuple ds)
inductive DwAll (K : PySem.W.Frag) (H : Hp) : List V → List WData → Prop
  | nil : DwAll K H [] []
  | cons {v : V} {vs : List V} {d : WData} {ds : List WData} : Dw K H v d → DwAll K H vs ds → DwAll K H (v :: vs) (d :: ds)
end
theorem dw_ints {K : PySem.W.Frag} {H : Hp} : ∀ ns : List Int, DwAll K H (ns.map V.int) (ns.map WData.int)
  | [] => .nil
  | n :: r => .cons (.int n) (dw_ints r)
theorem ints_dw {K : PySem.W.Frag} {H : Hp} : ∀ (ns : List Int) (xs : List V), DwAll K H xs (ns.map WData.int) → xs = ns.map V.int
  | [], xs, h => by
    cases h
    rfl
  | n :: r, xs, h => by
    cases h with
    | cons h1 h2 =>
      cases h1
      rw [ints_dw r _ h2] <;> rfl
section
variable {P : Program} {w : World} {K : PySem.W.Frag} {H : Hp} {h : Heap} {R : PySem.W.WRecords} {cl : Str → Option Addr}
theorem sqL_at {a : Addr} {xs : List V} (hok : HOk P w H h) (KX : K.In h) (q : SqL K H a xs) : ∃ (its : List Value) (o : Obj) (n : Nat), Vals xs its ∧ h.get? a = some o ∧ o.cls = .type "list" ∧ o.data = .seq its.toArray n := by
  rcases q with q | ⟨o, its, n, e, hc, _, hd, _, hv⟩
  · obtain ⟨_, its, n, hv, e⟩ := (show ObjOk P w H h a (.lst xs) from q.ok hok)
    exact ⟨its, _, n, hv, e, rfl, rfl⟩
  · exact ⟨its.toList, o, n, hv, KX _ _ e, hc, by simp [hd]⟩
theorem sqT_at {a : Addr} {xs : List V} (hok : HOk P w H h) (KX : K.In h) (q : SqT K H a xs) : ∃ (its : List Value) (o : Obj) (n : Nat), Vals xs its ∧ h.get? a = some o ∧ o.cls = .type "tuple" ∧ o.data = .seq its.toArray n := by
  rcases q with q | ⟨o, its, n, e, hc, hd, _, hv⟩
  · obtain ⟨_, its, hv, o, e, hc, n, hd⟩ := (show ObjOk P w H h a (.tup xs) from q.ok hok)
    exact ⟨its, o, n, hv, e, hc, hd⟩
  · exact ⟨its.toList, o, n, hv, KX _ _ e, hc, by simp [hd]⟩
mutual
theorem Dw.reads (hok : HOk P w H h) (KX : K.In h) : ∀ (d : WData) (v : V) (u : Value), Dw K H v d → RelV v u → ∃ as, ReadsW R cl h u d as
  | .none, _, _, x, r => by
    cases x
    cases r
    exact ⟨_, ReadsW.none⟩
  | .bool b, _, _, x, r => by
    cases x
    cases r
    exact ⟨_, ReadsW.bool b⟩
  | .int i, _, _, x, r => by
    cases x
    obtain ⟨t, rfl⟩ := r
    exact ⟨_, ReadsW.int i t⟩
  | .str s, _, _, x, r => by
    cases x
    obtain ⟨t, rfl⟩ := r
    exact ⟨_, ReadsW.str s t⟩
  | .bytes b, _, _, x, r => by
    cases x
    obtain ⟨t, rfl⟩ := r
    exact ⟨_, ReadsW.bytes _ t⟩
  | .list ds, _, _, x, r => by
    cases x with
    | lst hs ha =>
      cases r
      obtain ⟨its, o, n, rv, ho, hc, hd⟩ := sqL_at hok KX hs
      obtain ⟨as, hr⟩ := Dw.readsAll hok KX ds _ its ha rv
      exact ⟨_, ReadsW.list ho hc hd hr⟩
  | .tuple ds, _, _, x, r => by
    cases x with
    | tup hs ha =>
      cases r
      obtain ⟨its, o, n, rv, ho, hc, hd⟩ := sqT_at hok KX hs
      obtain ⟨as, hr⟩ := Dw.readsAll hok KX ds _ its ha rv
      exact ⟨_, ReadsW.tuple ho hc hd hr⟩
  | .float _, _, _, x, _ => by cases x
  | .dict _, _, _, x, _ => by cases x
  | .bytearray _, _, _, x, _ => by cases x
  | .set _, _, _, x, _ => by cases x
  | .frozenset _, _, _, x, _ => by cases x
  | .obj _ _, _, _, x, _ => by cases x
theorem Dw.readsAll (hok : HOk P w H h) (KX : K.In h) : ∀ (ds : List WData) (vs : List V) (us : List Value), DwAll K H vs ds → Vals vs us → ∃ as, ReadsAllW R cl h us ds as
  | [], _, _, x, r => by
    cases x
    cases r
    exact ⟨_, ReadsAllW.nil⟩
  | d :: ds, _, _, x, r => by
    cases x with
    | cons h1 h2 =>
      cases r with
      | cons r1 r2 =>
        obtain ⟨as, q1⟩ := Dw.reads hok KX d _ _ h1 r1
        obtain ⟨bs, q2⟩ := Dw.readsAll hok KX ds _ _ h2 r2
        exact ⟨_, ReadsAllW.cons q1 q2⟩
end
end
mutual
/-- data that a codec tells -/
def plW : WData → Bool
  | .none => true
  | .bool _ => true
  | .int _ => true
  | .str _ => true
  | .bytes _ => true
  | .list xs => plWs xs
  | .tuple xs => plWs xs
  | _ => false
def plWs : List WData → Bool
  | [] => true
  | x :: r => plW x && plWs r
end
theorem plWs_map {α : Type} {f : α → WData} (h : ∀ a, plW (f a) = true) : ∀ l : List α, plWs (l.map f) = true
  | [] => rfl
  | x :: r => by
    show (plW (f x) && plWs (r.map f)) = true
    rw [h x, plWs_map h r] <;> rfl
theorem pl_enc : ∀ (c : Codec) (a : c.denote), plW (c.enc a) = true
  | .unit, _ => rfl
  | .bool, _ => rfl
  | .int _ _, _ => rfl
  | .nat _ _, _ => rfl
  | .u8, _ => rfl
  | .bytes _ _, _ => rfl
  | .text _ _ _ _, _ => rfl
  | .list _ _ c, a => plWs_map (fun x => pl_enc c x) a
  | .pair c d, a => by
    show (plW (c.enc a.1) && (plW (d.enc a.2) && true)) = true
    rw [pl_enc c a.1, pl_enc d a.2] <;> rfl
  | .triple c d e, a => by
    show (plW (c.enc a.1) && (plW (d.enc a.2.1) && (plW (e.enc a.2.2) && true))) = true
    rw [pl_enc c a.1, pl_enc d a.2.1, pl_enc e a.2.2] <;> rfl
  | .option c, none => rfl
  | .option c, some x => pl_enc c x
theorem pl_encAll : ∀ (cs : List Codec) (a : Codec.denoteAll cs), plWs (Codec.encAll cs a) = true
  | [], _ => rfl
  | c :: cs, a => by
    show (plW (c.enc a.1) && plWs (Codec.encAll cs a.2)) = true
    rw [pl_enc c a.1, pl_encAll cs a.2] <;> rfl
theorem weight_mem : ∀ {xs : List WData} {d : WData}, d ∈ xs → d.weight ≤ WData.weightAll xs
  | [], d, h => absurd h (by simp)
  | x :: r, d, h => by
    show d.weight ≤ x.weight + 1 + WData.weightAll r
    rcases List.mem_cons.mp h with e | m
    · rw [e]
      omega
    · have z := weight_mem m
      omega
def toV : Value → V
  | .none => .non
  | .bool b => .bl b
  | .int i _ => .int i
  | .str x _ => .str x
  | .bytes b _ => .byt b
  | .ref a => .ref a
  | _ => .non
/-- a value of the arguments, its objects among A -/
def OkU (A : List Addr) : Value → Prop
  | .none => True
  | .bool _ => True
  | .int _ _ => True
  | .str _ _ => True
  | .bytes _ _ => True
  | .ref a => a ∈ A
  | _ => False
theorem OkU.mono {A B : List Addr} (h : ∀ a ∈ A, a ∈ B) : ∀ {u : Value}, OkU A u → OkU B u := fun {u} x => by
  cases u with
  | ref a => exact h a x
  | none => trivial
  | bool b => trivial
  | int i t => trivial
  | str s t => trivial
  | bytes b t => trivial
  | _ => exact False.elim x
theorem relV_toV {A : List Addr} {u : Value} (x : OkU A u) : RelV (toV u) u := by
  cases u with
  | ref a => rfl
  | none => rfl
  | bool b => rfl
  | int i t => exact ⟨t, rfl⟩
  | str s t => exact ⟨t, rfl⟩
  | bytes b t => exact ⟨t, rfl⟩
  | _ => exact False.elim x
theorem vals_toV {A : List Addr} : ∀ {vs : List Value}, (∀ u ∈ vs, OkU A u) → Vals (vs.map toV) vs
  | [], _ => .nil
  | u :: r, h => .cons (relV_toV (h u (List.mem_cons_self ..))) (vals_toV fun x hx => h x (List.mem_cons_of_mem _ hx))
/-- an object of the arguments -/
def ArgOb (h : Heap) (A : List Addr) (a : Addr) : Prop := ∃ vs : List Value, vs.length ≤ sizeLine ∧ (∀ u ∈ vs, OkU A u) ∧
  (h.get? a = some { cls := .type "list", data := .seq vs.toArray } ∨ h.get? a = some { cls := .type "tuple", data := .seq vs.toArray })
theorem ArgOb.mono {h : Heap} {A B : List Addr} {a : Addr} (k : ∀ a ∈ A, a ∈ B) (x : ArgOb h A a) : ArgOb h B a := by
  obtain ⟨vs, h1, h2, h3⟩ := x
  exact ⟨vs, h1, fun u hu => (h2 u hu).mono k, h3⟩
theorem wellAll_len {P : Params} {h : Heap} : ∀ {vs : List Value} {ds : List WData}, WellAll P h vs ds → vs.length = ds.length
  | _, _, .nil => rfl
  | _, _, .cons _ b => by
    show _ + 1 = _ + 1
    rw [wellAll_len b]
theorem well_list {P : Params} {h : Heap} {v : Value} {ds : List WData} (x : Well P h v (.list ds)) : ∃ (a : Addr) (vs : List Value), v = .ref a ∧ h.get? a = some { cls := .type "list", data := .seq vs.toArray } ∧ WellAll P h vs ds := by
  cases x with
  | list ho hall => exact ⟨_, _, rfl, ho, hall⟩
theorem well_tuple {P : Params} {h : Heap} {v : Value} {ds : List WData} (x : Well P h v (.tuple ds)) : ∃ (a : Addr) (vs : List Value), v = .ref a ∧ h.get? a = some { cls := .type "tuple", data := .seq vs.toArray } ∧ WellAll P h vs ds := by
  cases x with
  | tuple ho hall => exact ⟨_, _, rfl, ho, hall⟩
theorem well_cons {P : Params} {h : Heap} {us : List Value} {d : WData} {ds : List WData} (x : WellAll P h us (d :: ds)) : ∃ (v : Value) (vs : List Value), us = v :: vs ∧ Well P h v d ∧ WellAll P h vs ds := by
  cases x with
  | cons a b => exact ⟨_, _, rfl, a, b⟩
theorem line_of {n : Nat} (h : n ≤ 1048576) : n ≤ sizeLine := Nat.le_trans h (by decide)
section
variable {P : Params} {h : Heap}
mutual
theorem area_one : ∀ (d : WData) (v : Value), Well P h v d → plW d = true → d.weight ≤ 1048576 → ∃ A : List Addr, OkU A v ∧ ∀ a ∈ A, ArgOb h A a
  | .none, _, x, _, _ => by
    cases x
    exact ⟨[], trivial, fun a m => absurd m (by simp)⟩
  | .bool b, _, x, _, _ => by
    cases x
    exact ⟨[], trivial, fun a m => absurd m (by simp)⟩
  | .int i, _, x, _, _ => by
    cases x
    exact ⟨[], trivial, fun a m => absurd m (by simp)⟩
  | .str s, _, x, _, _ => by
    cases x
    exact ⟨[], trivial, fun a m => absurd m (by simp)⟩
  | .bytes b, _, x, _, _ => by
    cases x
    exact ⟨[], trivial, fun a m => absurd m (by simp)⟩
  | .list ds, _, x, p, z => by
    obtain ⟨a, vs, rfl, ho, hall⟩ := well_list x
    have z2 : WData.weightAll ds ≤ 1048576 := z
    obtain ⟨A, h1, h2⟩ := area_all ds _ hall p fun d hd => Nat.le_trans (weight_mem hd) z2
    have k : ∀ b ∈ A, b ∈ a :: A := fun b hb => List.mem_cons_of_mem _ hb
    refine ⟨a :: A, List.mem_cons_self .., fun b hb => ?_⟩
    rcases List.mem_cons.mp hb with e | m
    · rw [e]
      exact ⟨vs, line_of (by rw [wellAll_len hall]; exact Nat.le_trans (PySem.W.length_le_weightAllW ds) z2), fun u hu => (h1 u hu).mono k, .inl ho⟩
    · exact (h2 b m).mono k
  | .tuple ds, _, x, p, z => by
    obtain ⟨a, vs, rfl, ho, hall⟩ := well_tuple x
    have z2 : WData.weightAll ds ≤ 1048576 := z
    obtain ⟨A, h1, h2⟩ := area_all ds _ hall p fun d hd => Nat.le_trans (weight_mem hd) z2
    have k : ∀ b ∈ A, b ∈ a :: A := fun b hb => List.mem_cons_of_mem _ hb
    refine ⟨a :: A, List.mem_cons_self .., fun b hb => ?_⟩
    rcases List.mem_cons.mp hb with e | m
    · rw [e]
      exact ⟨vs, line_of (by rw [wellAll_len hall]; exact Nat.le_trans (PySem.W.length_le_weightAllW ds) z2), fun u hu => (h1 u hu).mono k, .inr ho⟩
    · exact (h2 b m).mono k
  | .float _, _, _, p, _ => Bool.noConfusion (show false = true from p)
  | .dict _, _, _, p, _ => Bool.noConfusion (show false = true from p)
  | .bytearray _, _, _, p, _ => Bool.noConfusion (show false = true from p)
  | .set _, _, _, p, _ => Bool.noConfusion (show false = true from p)
  | .frozenset _, _, _, p, _ => Bool.noConfusion (show false = true from p)
  | .obj _ _, _, _, p, _ => Bool.noConfusion (show false = true from p)
theorem area_all : ∀ (ds : List WData) (vs : List Value), WellAll P h vs ds → plWs ds = true → (∀ d ∈ ds, d.weight ≤ 1048576) → ∃ A : List Addr, (∀ u ∈ vs, OkU A u) ∧ ∀ a ∈ A, ArgOb h A a
  | [], _, x, _, _ => by
    cases x
    exact ⟨[], fun u m => absurd m (by simp), fun a m => absurd m (by simp)⟩
  | d :: ds, _, x, p, z => by
    obtain ⟨v, vs, rfl, x1, x2⟩ := well_cons x
    have q : plW d = true ∧ plWs ds = true := Bool.and_eq_true_iff.mp p
    obtain ⟨A, a1, a2⟩ := area_one d v x1 q.1 (z d (List.mem_cons_self ..))
    obtain ⟨B, b1, b2⟩ := area_all ds vs x2 q.2 fun e he => z e (List.mem_cons_of_mem _ he)
    have kA : ∀ b ∈ A, b ∈ A ++ B := fun b hb => List.mem_append.mpr (.inl hb)
    have kB : ∀ b ∈ B, b ∈ A ++ B := fun b hb => List.mem_append.mpr (.inr hb)
    refine ⟨A ++ B, fun u hu => ?_, fun b hb => ?_⟩
    · rcases List.mem_cons.mp hu with e | m
      · rw [e]
        exact a1.mono kA
      · exact (b1 u m).mono kB
    · rcases List.mem_append.mp hb with m | m
      · exact (a2 b m).mono kA
      · exact (b2 b m).mono kB
end
end
/-- what is tracked of an argument's object -/
def hoOf (o : Obj) : Option HO := match o.data with
  | .seq vs _ => if (o.cls == Value.type "list") = true then some (.frz o (.lst (vs.toList.map toV))) else some (.frz o (.tup (vs.toList.map toV)))
  | _ => none
def argH (K : PySem.W.Frag) (h : Heap) (A : List Addr) : Hp := fun b => if b ∈ A then (if (K.lookup b).isNone = true then (h.get? b).bind hoOf else none) else none
/-- nothing is tracked but what is known to the object -/
def OnlyF (H : Hp) : Prop := ∀ b, H b = none ∨ ∃ o u, H b = some (.frz o u)
theorem hoOf_lst (vs : List Value) : hoOf { cls := .type "list", data := .seq vs.toArray } = some (.frz { cls := .type "list", data := .seq vs.toArray } (.lst (vs.map toV))) := by
  show (if (Value.type "list" == Value.type "list") = true then some (HO.frz { cls := .type "list", data := .seq vs.toArray } (.lst (vs.toArray.toList.map toV))) else some (HO.frz { cls := .type "list", data := .seq vs.toArray } (.tup (vs.toArray.toList.map toV)))) = _
  rw [if_pos (beq_self_eq_true _)]
theorem hoOf_tup (vs : List Value) : hoOf { cls := .type "tuple", data := .seq vs.toArray } = some (.frz { cls := .type "tuple", data := .seq vs.toArray } (.tup (vs.map toV))) := by
  show (if (Value.type "tuple" == Value.type "list") = true then some (HO.frz { cls := .type "tuple", data := .seq vs.toArray } (.lst (vs.toArray.toList.map toV))) else some (HO.frz { cls := .type "tuple", data := .seq vs.toArray } (.tup (vs.toArray.toList.map toV)))) = _
  rw [if_neg (by decide)]
section
variable {P : Program} {w : World} {K : PySem.W.Frag} {h : Heap} {A : List Addr}
theorem argH_at {b : Addr} {o : Obj} (hb : b ∈ A) (hk : K.lookup b = none) (e : h.get? b = some o) : argH K h A b = hoOf o := by
  unfold argH
  rw [if_pos hb, hk, if_pos (show (none : Option Obj).isNone = true from rfl), e] <;> rfl
theorem of_argH {b : Addr} {u : HO} (q : argH K h A b = some u) : b ∈ A ∧ K.lookup b = none := by
  unfold argH at q
  by_cases hb : b ∈ A
  · rw [if_pos hb] at q
    cases hk : K.lookup b with
    | none => exact ⟨hb, rfl⟩
    | some o =>
      rw [hk, if_neg (by simp)] at q
      cases q
  · rw [if_neg hb] at q
    cases q
/-- what stands tracked -/
theorem argH_is (ar : ∀ a ∈ A, ArgOb h A a) {b : Addr} {u : HO} (q : argH K h A b = some u) : K.lookup b = none ∧ ∃ vs : List Value, vs.length ≤ sizeLine ∧ (∀ u ∈ vs, OkU A u) ∧
    ((h.get? b = some { cls := .type "list", data := .seq vs.toArray } ∧ u = .frz { cls := .type "list", data := .seq vs.toArray } (.lst (vs.map toV))) ∨
     (h.get? b = some { cls := .type "tuple", data := .seq vs.toArray } ∧ u = .frz { cls := .type "tuple", data := .seq vs.toArray } (.tup (vs.map toV)))) := by
  obtain ⟨hb, hk⟩ := of_argH q
  obtain ⟨vs, h1, h2, h3⟩ := ar b hb
  refine ⟨hk, vs, h1, h2, ?_⟩
  rcases h3 with e | e
  · rw [argH_at hb hk e, hoOf_lst] at q
    exact .inl ⟨e, (Option.some.inj q).symm⟩
  · rw [argH_at hb hk e, hoOf_tup] at q
    exact .inr ⟨e, (Option.some.inj q).symm⟩
theorem argH_only (ar : ∀ a ∈ A, ArgOb h A a) : OnlyF (argH K h A) := fun b => by
  cases q : argH K h A b with
  | none => exact .inl rfl
  | some u =>
    obtain ⟨_, vs, _, _, ⟨_, e⟩ | ⟨_, e⟩⟩ := argH_is ar q
    · exact .inr ⟨_, _, by rw [e]⟩
    · exact .inr ⟨_, _, by rw [e]⟩
theorem argH_ok (ar : ∀ a ∈ A, ArgOb h A a) : HOk P w (argH K h A) h := fun b u q => by
  obtain ⟨_, vs, h1, h2, ⟨e, rfl⟩ | ⟨e, rfl⟩⟩ := argH_is ar q
  · exact ⟨e, by rw [List.length_map]; exact h1, vs, _, vals_toV h2, e⟩
  · exact ⟨e, by rw [List.length_map]; exact h1, vs, vals_toV h2, _, e, rfl, _, rfl⟩
theorem seq_inj {c c' : Value} {vs us : List Value} (e : (some { cls := c, data := .seq vs.toArray } : Option Obj) = some { cls := c', data := .seq us.toArray }) : c = c' ∧ vs = us := by
  have e1 := Option.some.inj e
  have e2 : c = c' := congrArg Obj.cls e1
  have e3 : Data.seq vs.toArray = Data.seq us.toArray := congrArg Obj.data e1
  injection e3 with e4
  refine ⟨e2, ?_⟩
  have e5 := congrArg Array.toList e4
  simpa using e5
/-- a list argument -/
theorem argL (KX : K.In h) (ar : ∀ a ∈ A, ArgOb h A a) {a : Addr} {vs : List Value} (ha : a ∈ A) (e : h.get? a = some { cls := .type "list", data := .seq vs.toArray }) : (∀ u ∈ vs, OkU A u) ∧ SqL K (argH K h A) a (vs.map toV) := by
  obtain ⟨us, h1, h2, h3⟩ := ar a ha
  have hu : us = vs := by
    rcases h3 with q | q
    · rw [e] at q
      exact (seq_inj q).2.symm
    · rw [e] at q
      exact absurd (Value.type.inj (seq_inj q).1) (by decide)
  subst hu
  refine ⟨h2, ?_⟩
  cases hk : K.lookup a with
  | none => exact .inl (.inr ⟨_, by rw [argH_at ha hk e, hoOf_lst]⟩)
  | some o =>
    have e2 := KX a o hk
    rw [e] at e2
    obtain rfl := Option.some.inj e2
    exact .inr ⟨_, us.toArray, _, hk, rfl, rfl, rfl, by rw [List.size_toArray]; exact h1, by simpa using vals_toV h2⟩
theorem argT (KX : K.In h) (ar : ∀ a ∈ A, ArgOb h A a) {a : Addr} {vs : List Value} (ha : a ∈ A) (e : h.get? a = some { cls := .type "tuple", data := .seq vs.toArray }) : (∀ u ∈ vs, OkU A u) ∧ SqT K (argH K h A) a (vs.map toV) := by
  obtain ⟨us, h1, h2, h3⟩ := ar a ha
  have hu : us = vs := by
    rcases h3 with q | q
    · rw [e] at q
      exact absurd (Value.type.inj (seq_inj q).1) (by decide)
    · rw [e] at q
      exact (seq_inj q).2.symm
  subst hu
  refine ⟨h2, ?_⟩
  cases hk : K.lookup a with
  | none => exact .inl (.inr ⟨_, by rw [argH_at ha hk e, hoOf_tup]⟩)
  | some o =>
    have e2 := KX a o hk
    rw [e] at e2
    obtain rfl := Option.some.inj e2
    exact .inr ⟨_, us.toArray, _, hk, rfl, rfl, by rw [List.size_toArray]; exact h1, by simpa using vals_toV h2⟩
mutual
theorem dw_one {Pm : Params} (KX : K.In h) (ar : ∀ a ∈ A, ArgOb h A a) : ∀ (d : WData) (v : Value), Well Pm h v d → plW d = true → OkU A v → Dw K (argH K h A) (toV v) d
  | .none, _, x, _, _ => by
    cases x
    exact .non
  | .bool b, _, x, _, _ => by
    cases x
    exact .bl b
  | .int i, _, x, _, _ => by
    cases x
    exact .int i
  | .str s, _, x, _, _ => by
    cases x
    exact .str s
  | .bytes b, _, x, _, _ => by
    cases x
    have z := Dw.byt (K := K) (H := argH K h A) b.toArray
    exact z
  | .list ds, _, x, p, hu => by
    obtain ⟨a, vs, rfl, ho, hall⟩ := well_list x
    obtain ⟨h2, hs⟩ := argL KX ar hu ho
    exact .lst hs (dw_all KX ar ds _ hall p h2)
  | .tuple ds, _, x, p, hu => by
    obtain ⟨a, vs, rfl, ho, hall⟩ := well_tuple x
    obtain ⟨h2, hs⟩ := argT KX ar hu ho
    exact .tup hs (dw_all KX ar ds _ hall p h2)
  | .float _, _, _, p, _ => Bool.noConfusion (show false = true from p)
  | .dict _, _, _, p, _ => Bool.noConfusion (show false = true from p)
  | .bytearray _, _, _, p, _ => Bool.noConfusion (show false = true from p)
  | .set _, _, _, p, _ => Bool.noConfusion (show false = true from p)
  | .frozenset _, _, _, p, _ => Bool.noConfusion (show false = true from p)
  | .obj _ _, _, _, p, _ => Bool.noConfusion (show false = true from p)
theorem dw_all {Pm : Params} (KX : K.In h) (ar : ∀ a ∈ A, ArgOb h A a) : ∀ (ds : List WData) (vs : List Value), WellAll Pm h vs ds → plWs ds = true → (∀ u ∈ vs, OkU A u) → DwAll K (argH K h A) (vs.map toV) ds
  | [], _, x, _, _ => by
    cases x
    exact .nil
  | d :: ds, _, x, p, hu => by
    obtain ⟨v, vs, rfl, x1, x2⟩ := well_cons x
    have q : plW d = true ∧ plWs ds = true := Bool.and_eq_true_iff.mp p
    exact .cons (dw_one KX ar d v x1 q.1 (hu _ (List.mem_cons_self ..))) (dw_all KX ar ds vs x2 q.2 fun u m => hu u (List.mem_cons_of_mem _ m))
end
end
theorem spec_call {P : Program} {w : World} {K : PySem.W.Frag} {mg mb : Str → Option Value} {CX : CXT} {k : Nat} {fa : Addr} {fd : FuncData} {ps : List Str} {sp : Sp} {s₁ : Shared} {vals : List Value} {ds : List WData} {R : PySem.W.WRecords} {cl : Str → Option Addr} {d0 : WData}
    (KX : K.In s₁.heap) (hns : s₁.heap.Ns mainGlobals mg) (hb : s₁.heap.Ns builtinsNs mb) (hbb : ∀ x : Str, x ≠ "__name__" → mb x = bootBuiltins x) (hlim : s₁.heap.NoLimit) (hg : s₁.gens = #[])
    (hwl : WellAll w.params s₁.heap vals ds) (hpl : plWs ds = true) (hwt : ∀ d ∈ ds, d.weight ≤ 1048576) (hr : Room k callerA)
    (F : ∀ base : Heap, K.In base → base.Ns mainGlobals mg → FnOk P w K mg base CX k fa fd ps sp) (hbind : ∀ (s : Shared) (us : List Value), us.length = ps.length → BindsTo s fd ⟨us, []⟩ (ps.zip us)) (hlen : ds.length = ps.length)
    (hsp : ∀ (H : Hp) (xs : List V), OnlyF H → DwAll K H xs ds → sp xs H (fun v H' => Dw K H' v d0) fun _ _ _ => False)
    (hCX : ∀ H e s', CX [] H s₁ (fun _ _ _ => False) e s' → False) :
    codeAny (model P w) callerA (.call (.ref fa) ⟨vals, []⟩) (fun r s' => ∃ u as, r = .ok (.ret u) ∧ ReadsW R cl s'.heap u d0 as ∧ OldK s₁.heap s'.heap ∧ s'.os = s₁.os ∧ AllBare s'.gens) s₁ := by
  obtain ⟨A, ho, ar⟩ := area_all ds vals hwl hpl hwt
  have hO : OnlyF (argH K s₁.heap A) := argH_only ar
  have hok : HOk P w (argH K s₁.heap A) s₁.heap := argH_ok ar
  have hS := dw_all KX ar ds vals hwl hpl ho
  have hV := vals_toV ho
  have hK : ∀ b u, argH K s₁.heap A b = some u → K.lookup b = none := fun b u q => (argH_is ar q).1
  have noA : ∀ {b : Addr} {o : Obj} {es : Array DictEntry} {ep : Nat}, s₁.heap.get? b = some o → o.data = .dict es ep → argH K s₁.heap A b = none := fun {b o es ep} e d => by
    cases q : argH K s₁.heap A b with
    | none => rfl
    | some u =>
      obtain ⟨_, vs, _, _, ⟨e2, _⟩ | ⟨e2, _⟩⟩ := argH_is ar q
      · rw [e2] at e
        cases e
        have d' : Data.seq vs.toArray _ = Data.dict es ep := d
        cases d'
      · rw [e2] at e
        cases e
        have d' : Data.seq vs.toArray _ = Data.dict es ep := d
        cases d'
  generalize argH K s₁.heap A = H at hO hok hS hK noA
  have base_of : ∀ {b : Addr} {o : Obj}, s₁.heap.get? b = some o → H b = none → (hidT s₁.heap H).get? b = some o := fun e n => hidT_get e n
  have nsK : ∀ {b : Addr} {m : Str → Option Value}, s₁.heap.Ns b m → (hidT s₁.heap H).Ns b m := fun {b m} ⟨o, es, ep, e, d, r⟩ => ⟨o, es, ep, base_of e (noA e d), d, r⟩
  have nK : ∀ b o, K.lookup b = some o → H b = none := fun b o e => by
    cases q : H b with
    | none => rfl
    | some u =>
      rw [hK b u q] at e
      cases e
  have hKb : K.In (hidT s₁.heap H) := fun b o e => base_of (KX b o e) (nK b o e)
  have hM : Mod K mg (hidT s₁.heap H) := ⟨hKb, nsK hns, ⟨mb, nsK hb, hbb⟩, let ⟨mc, h1, h2⟩ := hlim; ⟨mc, nsK h1, h2⟩⟩
  have e0 : Env0 P w K mg (hidT s₁.heap H) callerA [] s₁ H := ⟨rfl, hM, fun b o e => of_hidT e, Nat.le_of_eq (hidT_size _ _), trivial, fun b hb => absurd (show b ∈ ([] : List Addr) from hb) (by simp), hok, .of_eq hg⟩
  have hl : vals.length = ps.length := by rw [wellAll_len hwl]; exact hlen
  refine codeAny_mono ((F _ hKb (nsK hns)).run callerA [] s₁ H ⟨vals, []⟩ vals (vals.map toV) _ _ hr e0 (hbind s₁ vals hl) hV (hsp H _ hO hS)) fun r s' x => ?_
  cases r with
  | error e => exact (hCX H e s' x).elim
  | ok fl =>
    cases fl with
    | next => exact False.elim x
    | brk => exact False.elim x
    | cont => exact False.elim x
    | ret u =>
      obtain ⟨v, H', os, bare, un, hok', r', q⟩ := x
      have kept : ∀ b o, s₁.heap.get? b = some o → s'.heap.get? b = some o := fun b o e => by
        cases q2 : H b with
        | none => exact un.keep b o e q2 (by intro z; exact absurd (show b ∈ ([] : List Addr) from z) (by simp)) (by simp)
        | some u2 =>
          rcases hO b with z | ⟨ob, u3, z⟩
          · rw [q2] at z
            cases z
          · have z2 := un.frzs b ob _ z
            obtain ⟨e1, _⟩ := hok b _ z
            obtain ⟨e2, _⟩ := hok' b _ z2
            rw [e] at e1
            cases e1
            exact e2
      have KX' : K.In s'.heap := fun b o e => kept b o (KX b o e)
      obtain ⟨as, hrd⟩ := Dw.reads (R := R) (cl := cl) hok' KX' d0 v u q r'
      exact ⟨u, as, rfl, hrd, OldK.of_keep kept, os, bare⟩
theorem layable_weight {ds : List WData} (h : WData.layableAll ds = true) : ∀ d ∈ ds, d.weight ≤ 1048576 := fun d hd =>
  (PySem.W.layableW_iff.mp (List.all_eq_true.mp h d hd)).2.2
theorem encAll_len : ∀ (cs : List Codec) (a : Codec.denoteAll cs), (Codec.encAll cs a).length = cs.length
  | [], _ => rfl
  | c :: cs, a => by
    show (Codec.encAll cs a.2).length + 1 = cs.length + 1
    rw [encAll_len cs a.2]
/-- the goal that k_headS leaves (case hc), from the promise of the row's def: whatever the arguments that the codecs let and the row asks for, the def gives what stands for enc (f ..) -/
theorem walk_spec {r : OpenSpec} {k : Nat} {q : Program} {loose : List Str} {XP : (Str → Option Value) → Heap → Prop} {YP : World → Heap → Prop} {d : DefRec} {K : Params → PySem.W.Frag} {CX : World → CXT} {ps : List Str} {sp : World → Sp}
    (hwell : r.wellSaid = true) (hdf : d.params.defaults = []) (hlen : r.args.length = ps.length) (hr : Room k callerA)
    (hY : ∀ (w : World) (h : Heap), YP w h → (K w.params).In h)
    (F : ∀ (w : World) (mg : Str → Option Value) (fa : Addr) (h : Heap), YP w h → (K w.params).In h → h.Ns mainGlobals mg → mg d.name = some (.ref fa) →
      ∃ fd : FuncData, (∀ (s : Shared) (us : List Value), us.length = ps.length → BindsTo s fd ⟨us, []⟩ (ps.zip us)) ∧
        ∀ base : Heap, (K w.params).In base → base.Ns mainGlobals mg → FnOk r.prog w (K w.params) mg base (CX w) k fa fd ps (sp w))
    (hsp : ∀ (w : World) (H : Hp) (xs : List V) (a : Codec.denoteAll r.args), OnlyF H → Codec.withinAll r.args a = true → Codec.app r.args r.asked a = true → DwAll (K w.params) H xs (Codec.encAll r.args a) →
      sp w xs H (fun v H' => Dw (K w.params) H' v (r.ret.enc (Codec.app r.args r.f a))) fun _ _ _ => False)
    (hCX : ∀ (w : World) (H : Hp) (s : Shared) (e : Value) (s' : Shared), CX w [] H s (fun _ _ _ => False) e s' → False) :
    PySem.W.WalkOS q loose XP YP r d [] (fun f vs => PySem.call f vs) := by
  intro w s_0 s₁ mg mb G Y fa o pm cd doc dV kV ho hd hcd hD hmg hg args vals as hpre hlay hrd hwl hlo
  obtain ⟨a, e1, e2⟩ := PySem.W.os_pre_some hpre
  obtain ⟨e3, hwi⟩ := Codec.encAll_of_decAll r.args args a e1
  subst e3
  have KX := hY w _ Y
  obtain ⟨fd, hb, hF⟩ := F w mg fa _ Y KX G.T.g hmg
  refine PySem.W.enter_call (codeAny_mono (spec_call (R := []) (cl := classAt s_0.heap) (d0 := r.ret.enc (Codec.app r.args r.f a)) KX G.T.g G.T.b G.T.builtins G.T.nolimit hg hwl (pl_encAll _ _) (layable_weight hlay) hr hF hb (by rw [encAll_len]; exact hlen)
    (fun H xs hO hS => hsp w H xs a hO hwi e2 hS) fun H e s' => hCX w H s₁ e s') fun r' s' hq => ?_)
  obtain ⟨u, as', rfl, h1, h2, h3, h4⟩ := hq
  exact ⟨.inl ⟨u, _, as', rfl, fun _ => rfl, h1, (OpenSpec.post_iff hwell hwi _ _).mpr rfl, fun z => Bool.noConfusion (show false = true from z)⟩, h2, h3, h4⟩
/-- the same where the promise hangs on the written part alone -/
theorem walk_specK {r : OpenSpec} {k : Nat} {q : Program} {loose : List Str} {XP : (Str → Option Value) → Heap → Prop} {YP : World → Heap → Prop} {d : DefRec} {K : Params → PySem.W.Frag} {CX : CXT} {ps : List Str} {sp : PySem.W.Frag → Sp}
    (hwell : r.wellSaid = true) (hdf : d.params.defaults = []) (hlen : r.args.length = ps.length) (hr : Room k callerA)
    (hY : ∀ (w : World) (h : Heap), YP w h → (K w.params).In h)
    (F : ∀ (w : World) (mg : Str → Option Value) (fa : Addr) (h : Heap), YP w h → (K w.params).In h → h.Ns mainGlobals mg → mg d.name = some (.ref fa) →
      ∃ fd : FuncData, (∀ (s : Shared) (us : List Value), us.length = ps.length → BindsTo s fd ⟨us, []⟩ (ps.zip us)) ∧
        ∀ base : Heap, (K w.params).In base → base.Ns mainGlobals mg → FnOk r.prog w (K w.params) mg base CX k fa fd ps (sp (K w.params)))
    (hsp : ∀ (K : PySem.W.Frag) (H : Hp) (xs : List V) (a : Codec.denoteAll r.args), OnlyF H → Codec.withinAll r.args a = true → Codec.app r.args r.asked a = true → DwAll K H xs (Codec.encAll r.args a) →
      sp K xs H (fun v H' => Dw K H' v (r.ret.enc (Codec.app r.args r.f a))) fun _ _ _ => False)
    (hCX : ∀ (H : Hp) (s : Shared) (e : Value) (s' : Shared), CX [] H s (fun _ _ _ => False) e s' → False) :
    PySem.W.WalkOS q loose XP YP r d [] (fun f vs => PySem.call f vs) :=
  walk_spec (K := K) (CX := fun _ => CX) (sp := fun w => sp (K w.params)) hwell hdf hlen hr hY F (fun w H xs a h1 h2 h3 h4 => hsp (K w.params) H xs a h1 h2 h3 h4) fun _ H s e s' => hCX H s e s'
end L2
-- rests on (row put in by the clerk, for the bench that shows a file only what it spells): KE.SpHead KE.OsShapes
end
namespace L2
open PySem PySem.Spec PyProof.Rows
/-- the j-th statement of a class's body -/
def inClass (s : Stmt) (j : Nat) : Stmt := match s with
  | .ClassDef _ _ _ body _ _ _ _ _ _ _ => body.getD j (.Pass ⟨0, 0, 0, 0⟩)
  | _ => .Pass ⟨0, 0, 0, 0⟩
def defArgs (s : Stmt) : Arguments := match s with
  | .FunctionDef _ a _ _ _ _ _ _ _ _ => a
  | _ => { posonlyargs := [], args := [], vararg := none, kwonlyargs := [], kw_defaults := [], kwarg := none, defaults := [] }
def defBody (s : Stmt) : List Stmt := match s with
  | .FunctionDef _ _ b _ _ _ _ _ _ _ => b
  | _ => []
def defScope (s : Stmt) : Scope := match s with
  | .FunctionDef _ _ _ _ _ _ sc _ _ _ => sc
  | _ => { kind := .function, names := [], isGenerator := false, isCoroutine := false }
abbrev CX0 : CXT := fun _ _ _ _ _ _ => False
abbrev E0 : XK := fun _ _ _ => False
theorem pass0 {X : Cx} : Passes CX0 X E0 := fun _ _ _ _ _ _ _ h => h.elim
structure Fun (K : PySem.W.Frag) (x qual : Str) (st : Stmt) (f : Addr) (fd : FuncData) : Prop where
  ex : ∃ (oc : Value) (od : Option Addr) (kV doc pm : Value) (an : Option Addr) (cdv ct : Value) (osl : Array (Option Value)),
    fd = PySem.W.fnOf x qual (defArgs st) (defBody st) (defScope st) .none kV doc pm an cdv ct ∧ K.lookup f = some ⟨oc, od, .func fd, osl⟩ ∧ PySem.W.codeIn K cdv qual = true
  kp : PySem.W.keepIn K (.ref f) = true
section
variable {P : Program} {w : World} {K : PySem.W.Frag} {mg : Str → Option Value} {base : Heap}
/-- THE RULE for a def: its body as a term of rules, and the reading of that term -/
theorem Fun.ok {x qual : Str} {st : Stmt} {f : Addr} {fd : FuncData} {N ps : List Str} {k : Nat} {sp : Sp} (F : Fun K x qual st f fd) (S : FnScope N ps (defScope st)) (len : ∀ vs H Q E, sp vs H Q E → vs.length = ps.length)
    (hbody : ∀ (cdv : Value) (A : Around) (outer : List Env) (s : Shared) (H : Hp) (vs : List V) (Q : VK) (E : XK), Room k (A.deeper (envOfC qual (defScope st) s.heap.objs.size f cdv)) → sp vs H Q E →
      ∃ t, PSs (cxOf CX0 P w K mg base N qual (defScope st) f cdv A outer s H E).nox (defBody st) t ∧ t { nx := fun _ H' => Q .non H', rt := Q } (start N vs) H) : FnOk P w K mg base CX0 (k + 1) f fd ps sp := by
  obtain ⟨oc, od, kV, doc, pm, an, cdv, ct, osl, rfl, lk, hcd⟩ := F.ex
  refine fn_of lk hcd S len fun A outer s H vs Q E hr hsp => ?_
  obtain ⟨t, h, q⟩ := hbody cdv A outer s H vs Q E hr hsp
  exact ⟨t, h.nox, q⟩
/-- how its arguments bind (no defaults): h is «fun _ _ _ _ _ _ us hl => match us, hl with | [_, _], _ => rfl», one _ a parameter -/
theorem Fun.binds {x qual : Str} {st : Stmt} {f : Addr} {fd : FuncData} {ps : List Str} (F : Fun K x qual st f fd)
    (h : ∀ (kV doc pm : Value) (an : Option Addr) (cdv ct : Value) (us : List Value), us.length = ps.length → bindArgs (PySem.W.fnOf x qual (defArgs st) (defBody st) (defScope st) .none kV doc pm an cdv ct) ⟨us, []⟩ = pure (ps.zip us)) : Binds K fd ps [] := by
  obtain ⟨oc, od, kV, doc, pm, an, cdv, ct, osl, rfl, lk, hcd⟩ := F.ex
  exact .all (h kV doc pm an cdv ct)
theorem fun_mk {x qual : Str} {st : Stmt} {f : Addr} {oc : Value} {od an : Option Addr} {osl : Array (Option Value)} {kV doc pm cdv ct : Value} (l : K.lookup f = some ⟨oc, od, .func (PySem.W.fnOf x qual (defArgs st) (defBody st) (defScope st) .none kV doc pm an cdv ct), osl⟩)
    (c : PySem.W.codeIn K cdv qual = true) (k : PySem.W.keepIn K (.ref f) = true) : Fun K x qual st f (PySem.W.fnOf x qual (defArgs st) (defBody st) (defScope st) .none kV doc pm an cdv ct) := ⟨⟨oc, od, kV, doc, pm, an, cdv, ct, osl, rfl, l, c⟩, k⟩
end
section
variable {X : Cx}
theorem pv (i : Nat) {x : Str} {pos : Pos} (hN : X.N[i]? = some x := by rfl) (hv : Vis X.env.scope x := by first | exact Or.inl rfl | exact Or.inr (Or.inl rfl) | exact Or.inr (Or.inr rfl)) (hd : (x == ("__debug__" : Str)) = false := by decide)
    (hcd : (x == ("__classdict__" : Str)) = false := by decide) : PE X (.Name x pos) (tVar i) := pe_var hN hv hd hcd
end
/-- all that was tracked is as it was -/
def Same (H H' : Hp) : Prop := ∀ b o, H b = some o → H' b = some o
theorem Same.refl (H : Hp) : Same H H := fun _ _ h => h
theorem Same.trans {H H1 H2 : Hp} (a : Same H H1) (b : Same H1 H2) : Same H H2 := fun c o h => b c o (a c o h)
theorem Same.free {H H' : Hp} (e : Same H H') {l : Addr} (h : H' l = Option.none) : H l = Option.none := by
  cases q : H l with
  | none => rfl
  | some o =>
    rw [e l o q] at h
    cases h
theorem Same.seq {K : PySem.W.Frag} {H H' : Hp} {a : Addr} {xs : List V} (e : Same H H') (h : SqL K H a xs) : SqL K H' a xs := by
  rcases h with (h | ⟨o, h⟩) | h
  · exact .inl (.inl (e _ _ h))
  · exact .inl (.inr ⟨o, e _ _ h⟩)
  · exact .inr h
section
variable {κ : Type} [DecidableEq κ]
end
theorem at_of {xs : List V} {z : Int} {j : Nat} {v : V} (e : z = (j : Int)) (h : xs[j]? = some v) : atI xs z = some v := by
  rw [e]
  exact atI_nat h
theorem nd_ix {α : Type} {l : List α} (hN : l.Nodup) {i j : Nat} {x : α} (a : l[i]? = some x) (b : l[j]? = some x) : i = j := by
  obtain ⟨h1, e1⟩ := List.getElem?_eq_some_iff.mp a
  obtain ⟨h2, e2⟩ := List.getElem?_eq_some_iff.mp b
  exact (List.getElem_inj hN).mp (e1.trans e2.symm)
end L2

set_option Elab.async false
set_option maxRecDepth 100000
set_option maxHeartbeats 2000000
namespace Ir
open PySem PySem.Spec PyProof.Rows L2
open PySem.W (Codec)
def top (i : Nat) : Stmt := PySem.Challenge.pw_icerink_s01_answers.main.body.getD i (.Pass ⟨0, 0, 0, 0⟩)
/-! ### a def of the text, a def that may be called -/
def Df (K : PySem.W.Frag) (mg : Str → Option Value) (x : Str) (st : Stmt) (ps : List Str) : Prop :=
  ∃ f fd, Fun K x x st f fd ∧ mg x = some (.ref f) ∧ Binds K fd ps []
def Cal (P : Program) (w : World) (K : PySem.W.Frag) (mg : Str → Option Value) (base : Heap) (k : Nat) (x : Str) (ps : List Str) (sp : Sp) : Prop :=
  ∃ f fd, FnOk P w K mg base CX0 k f fd ps sp ∧ mg x = some (.ref f) ∧ PySem.W.keepIn K (.ref f) = true ∧ Binds K fd ps []
/-- a class of the text that is called with an own __init__ -/
def Kls (P : Program) (w : World) (K : PySem.W.Frag) (mg : Str → Option Value) (base : Heap) (k : Nat) (x : Str) (C : Addr) (ps : List Str) (sp : Sp) : Prop :=
  ∃ f fd, FnOk P w K mg base CX0 k f fd ps sp ∧ mg x = some (.ref C) ∧ Mk K C f ∧ Binds K fd ps []
section
variable {P : Program} {w : World} {K : PySem.W.Frag} {mg : Str → Option Value} {base : Heap}
theorem Df.ok {x : Str} {st : Stmt} {N ps : List Str} {k : Nat} {sp : Sp} (F : Df K mg x st ps) (S : FnScope N ps (defScope st)) (len : ∀ vs H Q E, sp vs H Q E → vs.length = ps.length)
    (hbody : ∀ (f : Addr) (cdv : Value) (A : Around) (outer : List Env) (s : Shared) (H : Hp) (vs : List V) (Q : VK) (E : XK), Room k (A.deeper (envOfC x (defScope st) s.heap.objs.size f cdv)) → sp vs H Q E →
      ∃ t, PSs (cxOf CX0 P w K mg base N x (defScope st) f cdv A outer s H E).nox (defBody st) t ∧ t { nx := fun _ H' => Q .non H', rt := Q } (start N vs) H) : Cal P w K mg base (k + 1) x ps sp := by
  obtain ⟨f, fd, F, hm, hb⟩ := F
  exact ⟨f, fd, F.ok S len fun cdv A outer s H vs Q E hr h => hbody f cdv A outer s H vs Q E hr h, hm, F.kp, hb⟩
/-- a class's __init__, as it stands behind the top -/
def Dm (K : PySem.W.Frag) (mg : Str → Option Value) (x : Str) (C : Addr) (qual : Str) (st : Stmt) (ps : List Str) : Prop :=
  ∃ f fd, Fun K "__init__" qual st f fd ∧ mg x = some (.ref C) ∧ Mk K C f ∧ Binds K fd ps []
theorem Dm.ok {x : Str} {C : Addr} {qual : Str} {st : Stmt} {N ps : List Str} {k : Nat} {sp : Sp} (F : Dm K mg x C qual st ps) (S : FnScope N ps (defScope st)) (len : ∀ vs H Q E, sp vs H Q E → vs.length = ps.length)
    (hbody : ∀ (f : Addr) (cdv : Value) (A : Around) (outer : List Env) (s : Shared) (H : Hp) (vs : List V) (Q : VK) (E : XK), Room k (A.deeper (envOfC qual (defScope st) s.heap.objs.size f cdv)) → sp vs H Q E →
      ∃ t, PSs (cxOf CX0 P w K mg base N qual (defScope st) f cdv A outer s H E).nox (defBody st) t ∧ t { nx := fun _ H' => Q .non H', rt := Q } (start N vs) H) : Kls P w K mg base (k + 1) x C ps sp := by
  obtain ⟨f, fd, F, hm, M, hb⟩ := F
  exact ⟨f, fd, F.ok S len fun cdv A outer s H vs Q E hr h => hbody f cdv A outer s H vs Q E hr h, hm, M, hb⟩
theorem Kls.mono {x : Str} {C : Addr} {ps : List Str} {j k : Nat} {sp : Sp} (c : Kls P w K mg base j x C ps sp) (h : j ≤ k) : Kls P w K mg base k x C ps sp := by
  obtain ⟨f, fd, F, r⟩ := c
  exact ⟨f, fd, F.mono h, r⟩
theorem Cal.mono {x : Str} {ps : List Str} {j k : Nat} {sp : Sp} (c : Cal P w K mg base j x ps sp) (h : j ≤ k) : Cal P w K mg base k x ps sp := by
  obtain ⟨f, fd, F, r⟩ := c
  exact ⟨f, fd, F.mono h, r⟩
end
section
variable {X : Cx}
theorem pe_num {x : Str} {i : Int} {pos : Pos} (hg : Gl X x) (h : ∃ t, X.mg x = some (.int i t)) (hd : (x == ("__debug__" : Str)) = false := by decide) : PE X (.Name x pos) (tC (.int i)) := by
  obtain ⟨t, h⟩ := h
  exact pe_glob hg h ⟨t, rfl⟩ hd
theorem pe_fldK (K : PySem.W.Frag) (hK : X.K = K) {e : Expr} {ta : TE} {f : Str} {pos : Pos} (he : PE X e ta) (hb : attributeBase e f X.env (eval e X.env) = eval e X.env) : PE X (.Attribute e f pos) (tFld K ta f) := by
  subst hK
  exact pe_fld he hb
theorem ix_listK (K : PySem.W.Frag) (hK : X.K = K) : IxR X (rIxL K) := by
  subst hK
  exact ix_list
theorem ix_tupK (K : PySem.W.Frag) (hK : X.K = K) : IxR X (rIxT K) := by
  subst hK
  exact ix_tup
theorem pe_fn {x : Str} {ps : List Str} {k : Nat} {sp : Sp} {e : Expr} {es : List Expr} {t : TA} {p pos : Pos} (c : Cal X.prog X.w X.K X.mg X.base k x ps sp) (hr : Room k X.A) (hg : Gl X x) (ha : PA X (e :: es) t) (hdb : (x == ("__debug__" : Str)) = false := by decide)
    (he : starEach (e :: es) X.env = (false, eval e X.env) :: starEach es X.env := by rfl) (hpl : (backTo pos (starEach es X.env)).any (·.1) = false := by rfl) : PE X (.Call (.Name x p) (e :: es) [] pos) (tCall sp [] E0 t) := by
  obtain ⟨f, fd, F, hm, hk, hb⟩ := c
  exact pe_call F hr hg hm hk hb .nil pass0 ha hdb he hpl
theorem pe_mk {x : Str} {C : Addr} {ps : List Str} {k : Nat} {sp : Sp} {e : Expr} {es : List Expr} {t : TA} {p pos : Pos} (c : Kls X.prog X.w X.K X.mg X.base k x C ps sp) (hr : Room (k + 1) X.A) (hg : Gl X x) (ha : PA X (e :: es) t) (hdb : (x == ("__debug__" : Str)) = false := by decide)
    (he : starEach (e :: es) X.env = (false, eval e X.env) :: starEach es X.env := by rfl) (hpl : (backTo pos (starEach es X.env)).any (·.1) = false := by rfl) : PE X (.Call (.Name x p) (e :: es) [] pos) (tMake C sp [] E0 t) := by
  obtain ⟨f, fd, F, hm, M, hb⟩ := c
  exact pe_make M F hr hg hm hb .nil pass0 ha hdb he hpl
theorem pe_mk0 {x : Str} {C : Addr} {ps : List Str} {k : Nat} {sp : Sp} {p pos : Pos} (c : Kls X.prog X.w X.K X.mg X.base k x C ps sp) (hr : Room (k + 1) X.A) (hg : Gl X x) (hdb : (x == ("__debug__" : Str)) = false := by decide) : PE X (.Call (.Name x p) [] [] pos) (tMake C sp [] E0 tNil) := by
  obtain ⟨f, fd, F, hm, M, hb⟩ := c
  exact pe_make0 M F hr hg hm hb .nil pass0 hdb
end
/-! ### readings, from the left -/
section
variable {D : Ends} {σ : L2.St} {H : Hp} {Q : VK} {K : PySem.W.Frag}
theorem q_seq {t u : TS} (h : t { D with nx := u D } σ H) : tSeq t u D σ H := h
theorem q_next (h : D.nx σ H) : tNext D σ H := h
theorem q_if {c : TT} {t u : TS} (h : c σ H fun b H1 => if b = true then t D σ H1 else u D σ H1) : tIfS c t u D σ H := h
theorem q_test {t : TE} {Q : Bool → Hp → Prop} (h : t σ H fun x H' => ∃ k, x = .bl k ∧ Q k H') : tTest t σ H Q := h
theorem q_op {r : R2} {ta tb : TE} (h : ta σ H fun x H1 => tb σ H1 fun y H2 => r x y H2 Q) : tOp r ta tb σ H Q := h
theorem q_var {i : Nat} {v : V} (e : σ[i]? = some (some v)) (h : Q v H) : tVar i σ H Q := ⟨v, e, h⟩
theorem q_c {v : V} (h : Q v H) : tC v σ H Q := h
theorem q_i0 {g : Int → Int → V} {i j : Int} (h : Q (g i j) H) : rI0 g (.int i) (.int j) H Q := ⟨i, j, rfl, rfl, h⟩
theorem q_i {C : Int → Int → Prop} {g : Int → Int → V} {i j : Int} (c : C i j) (h : Q (g i j) H) : rI C g (.int i) (.int j) H Q := ⟨i, j, rfl, rfl, c, h⟩
theorem q_eq {i j : Int} (h : Q (.bl (decide (i = j))) H) : rEq (.int i) (.int j) H Q := by
  refine ⟨rfl, ?_⟩
  have e : decide (V.int i = V.int j) = decide (i = j) := by rw [dec_int, Bool.beq_eq_decide_eq]
  rw [e]
  exact h
theorem q_ne {i j : Int} (h : Q (.bl (!decide (i = j))) H) : rNe (.int i) (.int j) H Q := by
  refine ⟨rfl, ?_⟩
  have e : decide (V.int i = V.int j) = decide (i = j) := by rw [dec_int, Bool.beq_eq_decide_eq]
  rw [e]
  exact h
theorem q_bl {b : Bool} {R : Bool → Prop} (h : R b) : ∃ k, V.bl b = .bl k ∧ R k := ⟨b, rfl, h⟩
theorem q_ite {p : Prop} [Decidable p] {A B : Prop} (h1 : p → A) (h2 : ¬ p → B) : if decide p = true then A else B := by
  by_cases h : p
  · rw [if_pos (decide_eq_true h)]; exact h1 h
  · rw [if_neg (by simp [h])]; exact h2 h
theorem q_iteB {b : Bool} {A B : Prop} (h1 : b = true → A) (h2 : b = false → B) : if b = true then A else B := by
  cases b
  · exact h2 rfl
  · exact h1 rfl
theorem q_ret {te : TE} (h : te σ H D.rt) : tRet te D σ H := h
theorem q_lst {t : TA} (h : t σ H fun xs H1 => xs.length ≤ sizeLine ∧ ∀ p, H1 p = none → Q (.ref p) (upd H1 p (.lst xs))) : tLst t σ H Q := h
theorem q_tup {t : TA} (h : t σ H fun xs H1 => xs.length ≤ sizeLine ∧ ∀ p, H1 p = none → Q (.ref p) (upd H1 p (.tup xs))) : tTup t σ H Q := h
theorem q_cons {ta : TE} {tr : TA} {Q : List V → Hp → Prop} (h : ta σ H fun x H1 => tr σ H1 fun xs H2 => Q (x :: xs) H2) : tCons ta tr σ H Q := h
theorem q_nil {Q : List V → Hp → Prop} (h : Q [] H) : tNil σ H Q := h
theorem q_and {t u : TT} {Q : Bool → Hp → Prop} (h : t σ H fun c H1 => if c = true then u σ H1 Q else Q false H1) : tAnd t u σ H Q := h
theorem q_or {t u : TT} {Q : Bool → Hp → Prop} (h : t σ H fun c H1 => if c = true then Q true H1 else u σ H1 Q) : tOr t u σ H Q := h
theorem q_not {t : TT} {Q : Bool → Hp → Prop} (h : t σ H fun c H1 => Q (!c) H1) : tNot t σ H Q := h
theorem q_andV {ta tb : TE} (h : ta σ H fun x H1 => ∃ c, x = .bl c ∧ if c = true then tb σ H1 Q else Q (.bl false) H1) : tAndV ta tb σ H Q := h
theorem q_orV {ta tb : TE} (h : ta σ H fun x H1 => ∃ c, x = .bl c ∧ if c = true then Q (.bl true) H1 else tb σ H1 Q) : tOrV ta tb σ H Q := h
theorem q_testB {t : TE} {Q : Bool → Hp → Prop} (h : t σ H fun x H1 => ∃ c, x = .bl c ∧ Q c H1) : tB t σ H Q := h
theorem q_cb {r : List V → Hp → VK → Prop} {t : TA} (h : t σ H fun vs H1 => r vs H1 Q) : tCB r t σ H Q := h
theorem q_bm {T : String} {r : V → List V → Hp → VK → Prop} {to : TE} {t : TA} (h : to σ H fun x H1 => tyV K T x H1 ∧ t σ H1 fun xs H2 => r x xs H2 Q) : tBM K T r to t σ H Q := h
theorem q_set {te : TE} {i : Nat} (h : te σ H fun x H1 => D.nx (σ.set i (some x)) H1) : tAsg te (gName i) D σ H := h
theorem q_gname {i : Nat} {v : V} {Q : L2.St → Hp → Prop} (h : Q (σ.set i (some v)) H) : gName i v σ H Q := h
theorem q_drop {te : TE} (h : te σ H fun _ H1 => D.nx σ H1) : tDrop te D σ H := h
theorem q_call {sp : Sp} {E : XK} {t : TA} (h : t σ H fun vs H1 => sp (vs ++ []) H1 Q E) : tCall sp [] E t σ H Q := h
theorem q_make {C : Addr} {sp : Sp} {E : XK} {t : TA} (h : t σ H fun vs H1 => ∀ x dx, H1 x = none → H1 dx = none → dx ≠ x → sp (.ref x :: (vs ++ [])) (upd (upd H1 dx (.own x)) x (.ins C dx [])) (fun v H2 => v = .non ∧ Q (.ref x) H2) E) : tMake C sp [] E t σ H Q := h
/-- a value of a new object's is written -/
theorem q_I {B : Hp → Prop} {p C dx : Addr} {fs : List (Str × V)} {f : Str} {y : V} (hp : H p = some (.ins C dx fs)) (cl : Cls K C) (n : NoAttr K C f) (hz : fs.length < 1000) (q : ∀ H1, H1 p = some (.ins C dx (putF f y fs)) → (∀ b, b ≠ p → H1 b = H b) → B H1) :
    ∃ a' C dx fs, V.ref p = .ref a' ∧ H a' = some (.ins C dx fs) ∧ Cls K C ∧ NoAttr K C f ∧ fs.length < 1000 ∧ B (upd H a' (.ins C dx (putF f y fs))) :=
  ⟨p, C, dx, fs, rfl, hp, cl, n, hz, q _ upd_same fun b hb => upd_ne hb⟩
/-- what a for over J wants -/
def ForAt (J : It) (g : TG) (tb : TS) (D : Ends) (σ : L2.St) (H1 : Hp) : Prop := ∃ W : Nat → Nat → L2.St → Hp → Prop, (∃ m, W 0 m σ H1) ∧ ∀ i m σ H, W i m σ H →
  (J.stop i H ∧ D.nx σ H) ∨ (J.go i H ∧ ∃ N : L2.St → Hp → Prop, (∀ σ' H', N σ' H' → ∃ m', m' < m ∧ W (i + 1) m' σ' H') ∧ ∀ x H', J.yld i H x H' → g x σ H' fun σ2 H2 => tb { D with nx := N, ct := N, bk := D.nx } σ2 H2)
theorem q_forR {ta : TA} {g : TG} {tb : TS} (h : ta σ H fun vs H1 => ∃ j : Int, vs = [.int j] ∧ -(2 ^ 62) ≤ j ∧ j < 2 ^ 62 ∧ ForAt (Itr 0 j.toNat) g tb D σ H1) : tFor (iRng1 ta) g tb D σ H := h
theorem q_forL {tl : TE} {g : TG} {tb : TS} (h : tl σ H fun x H1 => ∃ a, x = .ref a ∧ (∃ xs, SqL K H1 a xs) ∧ ForAt (Itl K a) g tb D σ H1) : tFor (iList K tl) g tb D σ H := h
theorem q_forE {ta : TA} {g : TG} {tb : TS} (h : ta σ H fun vs H1 => ∃ a xs, vs = [.ref a] ∧ SqL K H1 a xs ∧ ForAt (Ite K a) g tb D σ H1) : tFor (iEnum K ta) g tb D σ H := h
/-- a for over range(n), n a natural number -/
theorem forR {n : Nat} {g : TG} {tb : TS} (hn : n < 2 ^ 62) (Pv : Nat → L2.St → Hp → Prop) (h0 : Pv 0 σ H)
    (hs : ∀ i σ H, i < n → Pv i σ H → g (.int ((i : Nat) : Int)) σ H fun σ2 H2 => tb { D with nx := Pv (i + 1), ct := Pv (i + 1), bk := D.nx } σ2 H2) (hd : ∀ σ H, Pv n σ H → D.nx σ H) :
    ∃ j : Int, [V.int (n : Int)] = [.int j] ∧ -(2 ^ 62) ≤ j ∧ j < 2 ^ 62 ∧ ForAt (Itr 0 j.toNat) g tb D σ H :=
  ⟨(n : Int), rfl, by omega, by omega, for_range (lo := 0) (n := n) Pv h0 (fun i σ H hi p => by rw [Int.zero_add]; exact hs i σ H hi p) hd⟩
/-- len of a list -/
theorem q_len {B : List V → Prop} {p : Addr} {ys : List V} (h : SqL K H p ys) (q : B ys) : ∃ p' ys, [V.ref p] = [.ref p'] ∧ (SqL K H p' ys ∨ SqT K H p' ys) ∧ B ys := ⟨p, ys, rfl, .inl h, q⟩
/-- an item of a list -/
theorem q_ix {p : Addr} {ys : List V} {j : Nat} {z : Int} {v : V} (h : SqL K H p ys) (ez : z = (j : Int)) (hj : ys[j]? = some v) (q : Q v H) : rIxL K (.ref p) (.int z) H Q := ⟨p, ys, z, v, rfl, rfl, h, at_of ez hj, q⟩
theorem q_ixT {p : Addr} {ys : List V} {j : Nat} {z : Int} {v : V} (h : SqT K H p ys) (ez : z = (j : Int)) (hj : ys[j]? = some v) (q : Q v H) : rIxT K (.ref p) (.int z) H Q := ⟨p, ys, z, v, rfl, rfl, h, at_of ez hj, q⟩
theorem q_add {i j : Int} (h : Q (.int (i + j)) H) : rAdd (.int i) (.int j) H Q := ⟨i, j, rfl, rfl, h⟩
theorem q_sub {i j : Int} (h : Q (.int (i - j)) H) : rSub (.int i) (.int j) H Q := ⟨i, j, rfl, rfl, h⟩
theorem q_fld {ta : TE} {f : Str} (h : ta σ H fun x H1 => ∃ a C dx fs v, x = .ref a ∧ H1 a = some (.ins C dx fs) ∧ Cls K C ∧ NoAttr K C f ∧ fs.lookup f = some v ∧ Q v H1) : tFld K ta f σ H Q := h
theorem q_sfld {ta tv : TE} {f : Str} (h : tv σ H fun y H1 => ta σ H1 fun x H2 => ∃ a C dx fs, x = .ref a ∧ H2 a = some (.ins C dx fs) ∧ Cls K C ∧ NoAttr K C f ∧ fs.length < 1000 ∧ D.nx σ (upd H2 a (.ins C dx (putF f y fs)))) : sFld K ta tv f D σ H := h
theorem q_saug {ta tv : TE} {rd : V → V → Hp → VK → Prop} {f : Str} (h : ta σ H fun x H1 => ∃ a C dx fs v, x = .ref a ∧ H1 a = some (.ins C dx fs) ∧ Cls K C ∧ NoAttr K C f ∧ fs.lookup f = some v ∧
  tv σ H1 fun y H2 => rd v y H2 fun z H3 => ∃ dx' fs', H3 a = some (.ins C dx' fs') ∧ fs'.length < 1000 ∧ D.nx σ (upd H3 a (.ins C dx' (putF f z fs')))) : sFldAug K ta tv rd f D σ H := h
end
section
variable {D : Ends} {σ : L2.St} {H : Hp} {Q : VK} {K : PySem.W.Frag}
theorem q_ifE {t : TT} {ta tb : TE} (h : t σ H fun c H1 => if c = true then ta σ H1 Q else tb σ H1 Q) : tIf t ta tb σ H Q := h
theorem q_notV {ta : TE} (h : ta σ H fun x H1 => ∃ c, x = .bl c ∧ Q (.bl (!c)) H1) : tNotV ta σ H Q := h
theorem q_sl {r : V → Option Int → Option Int → Hp → VK → Prop} {te : TE} {tl th : TO} (h : te σ H fun x H1 => tl σ H1 fun l H2 => th σ H2 fun u H3 => r x l u H3 Q) : tSl r te tl th σ H Q := h
theorem q_part {t : TE} {Q : Option Int → Hp → Prop} (h : t σ H fun x H1 => ∃ i, x = .int i ∧ Q (some i) H1) : tPart t σ H Q := h
theorem q_int {i : Int} {R : Int → Prop} (h : R i) : ∃ k, V.int i = .int k ∧ R k := ⟨i, rfl, h⟩
theorem q_bm0 {T : String} {r : V → List V → Hp → VK → Prop} {to : TE} (h : to σ H fun x H1 => tyV K T x H1 ∧ r x [] H1 Q) : tBM0 K T r to σ H Q := h
theorem q_yes {Q : Bool → Hp → Prop} (h : Q true H) : tYes σ H Q := h
end
theorem pg_tupK {X : Cx} (K : PySem.W.Frag) (hK : X.K = K) {es : List Expr} {k : Nat} {pos : Pos} {t : TGs} {n : Nat} (hc : X.calm = true) (h : PGs X es t)
    (hn : (assignEach es X.env).length = n := by rfl) (hst : (assignEach es X.env).findIdx? (·.1) = none := by rfl) : PG X (.Tuple es k pos) (gTup K n t) := by
  subst hK
  exact pg_tup hc h hn hst
/-- a tuple that the module holds -/
theorem pe_tupc {X : Cx} {x : Str} {a : Addr} {pos : Pos} (hg : Gl X x) (h : X.mg x = some (.ref a)) (hd : (x == ("__debug__" : Str)) = false := by decide) : PE X (.Name x pos) (tC (.ref a)) := pe_glob hg h rfl hd
/-! ### any(xs) of a list of whole numbers -/
theorem truth_ints {prog : Program} {w : World} {A : Around} {ns : List Int} {its : List Value} (e : Vals (ns.map V.int) its) :
    TruthOf prog w A (fun i v => its.toArray[i]? = some v) (fun i => ns.getD i 0 != 0) := fun i v s Q E hv hq => by
  have hv' : its[i]? = some v := by simpa using hv
  have hi : i < ns.length := by
    have := e.length
    rw [List.length_map] at this
    rw [this]
    exact (List.getElem?_eq_some_iff.mp hv').1
  obtain ⟨u, hu, t, rfl⟩ := e.get (i := i) (x := .int ns[i]) (by rw [List.getElem?_map, List.getElem?_eq_getElem hi]; rfl)
  rw [hv'] at hu
  cases hu
  have hg : ns.getD i 0 = ns[i] := by simp [List.getD_eq_getElem?_getD, hi]
  have hq' : Q (ns.getD i 0 != 0) s := hq
  rw [hg] at hq'
  exact PySem.P.truthy_int hq'
theorem any_rangeI : ∀ ns : List Int, (List.range ns.length).any (fun i => ns.getD i 0 != 0) = ns.any fun z => z != 0
  | [] => rfl
  | b :: bs => by
    rw [List.length_cons, List.range_succ_eq_map, List.any_cons, List.any_map, List.any_cons, ← any_rangeI bs]
    all_goals rfl
def rAnyI (K : PySem.W.Frag) : List V → Hp → VK → Prop := fun vs H Q => ∃ (a : Addr) (ns : List Int), vs = [V.ref a] ∧ SqL K H a (ns.map V.int) ∧ Q (.bl (ns.any fun z => z != 0)) H
theorem cr_anyI {X : Cx} (hc : X.calm = true) : CallR X (.builtin "any") (rAnyI X.K) := by
  intro pins s σ H vs us Q I r h
  obtain ⟨a, ns, rfl, hs, q⟩ := h
  obtain ⟨its, rv, hl, _⟩ := I.list hs
  rw [Vals.ref1 r]
  refine call_any_walk (iter_any hl.isList fun s₂ e2 st hne => ?_)
  subst e2
  refine ⟨_, _, _, _, _, _, _, rfl, Walks.list (A := X.A.in1) (I.ok.hd hc) _ a hne its.toArray, st, truth_ints rv, fun h' tk hk => ?_⟩
  refine ⟨.bl _, H, I.kept fun b o eo => hk b o (fun hmem => ?_) (Heap.get?_push_of_some _ eo), ?_, q⟩
  · rcases List.mem_cons.mp hmem with e1 | hmem
    · exact absurd (e1 ▸ Heap.lt_size eo) (Nat.lt_irrefl _)
    · cases hmem
  · have hl' := rv.length
    rw [List.length_map] at hl'
    show Value.bool _ = Value.bool _
    rw [← any_rangeI, List.size_toArray, hl']
end Ir
set_option Elab.async false
set_option maxRecDepth 100000
set_option maxHeartbeats 2000000
namespace Ir
/-! ### what is handed in, call by call -/
/-- a call by its number and its numbers -/
def mkCall : Nat → List Nat → Option Km424.Call
  | 0, [a, b, d, e] => some (.start a b d e)
  | 1, [a, b] => some (.machine a b)
  | 2, [a, b] => some (.run_ a b)
  | 3, [a] => some (.flood a)
  | 4, [a] => some (.shave a)
  | 5, [a] => some (.drain a)
  | 6, [a] => some (.minutes a)
  | 7, [a] => some (.go a)
  | 8, [a] => some (.off a)
  | 9, [a, b] => some (.pairs a b)
  | 10, [a] => some (.hire a)
  | 11, [a, b] => some (.bring a b)
  | 12, [a, b] => some (.sharpen a b)
  | 13, [a] => some (.gap a)
  | 14, [a, b, d] => some (.ask a b d)
  | 15, [] => some .book
  | 16, [a] => some (.drop a)
  | 17, [] => some .hard
  | 18, [] => some .hardIn
  | 19, [] => some .bears
  | 20, [a] => some (.cheapest a)
  | 21, [a] => some (.would a)
  | 22, [] => some .best
  | 23, [a] => some (.who a)
  | 24, [a] => some (.look a)
  | 25, [a] => some (.size a)
  | 26, [a] => some (.nearest a)
  | 27, [] => some .ice
  | 28, [] => some .power
  | 29, [] => some .water
  | 30, [] => some .money
  | 31, [] => some .back
  | 32, [] => some .again
  | 33, [] => some .state
  | _, _ => none
inductive Is : Nat → List Nat → Km424.Call → Prop where
  | c0 (a b d e : Nat) : Is 0 [a, b, d, e] (.start a b d e)
  | c1 (a b : Nat) : Is 1 [a, b] (.machine a b)
  | c2 (a b : Nat) : Is 2 [a, b] (.run_ a b)
  | c3 (a : Nat) : Is 3 [a] (.flood a)
  | c4 (a : Nat) : Is 4 [a] (.shave a)
  | c5 (a : Nat) : Is 5 [a] (.drain a)
  | c6 (a : Nat) : Is 6 [a] (.minutes a)
  | c7 (a : Nat) : Is 7 [a] (.go a)
  | c8 (a : Nat) : Is 8 [a] (.off a)
  | c9 (a b : Nat) : Is 9 [a, b] (.pairs a b)
  | c10 (a : Nat) : Is 10 [a] (.hire a)
  | c11 (a b : Nat) : Is 11 [a, b] (.bring a b)
  | c12 (a b : Nat) : Is 12 [a, b] (.sharpen a b)
  | c13 (a : Nat) : Is 13 [a] (.gap a)
  | c14 (a b d : Nat) : Is 14 [a, b, d] (.ask a b d)
  | c15 : Is 15 [] (.book)
  | c16 (a : Nat) : Is 16 [a] (.drop a)
  | c17 : Is 17 [] (.hard)
  | c18 : Is 18 [] (.hardIn)
  | c19 : Is 19 [] (.bears)
  | c20 (a : Nat) : Is 20 [a] (.cheapest a)
  | c21 (a : Nat) : Is 21 [a] (.would a)
  | c22 : Is 22 [] (.best)
  | c23 (a : Nat) : Is 23 [a] (.who a)
  | c24 (a : Nat) : Is 24 [a] (.look a)
  | c25 (a : Nat) : Is 25 [a] (.size a)
  | c26 (a : Nat) : Is 26 [a] (.nearest a)
  | c27 : Is 27 [] (.ice)
  | c28 : Is 28 [] (.power)
  | c29 : Is 29 [] (.water)
  | c30 : Is 30 [] (.money)
  | c31 : Is 31 [] (.back)
  | c32 : Is 32 [] (.again)
  | c33 : Is 33 [] (.state)
def argN : List Nat := [4, 2, 2, 1, 1, 1, 1, 1, 1, 2, 1, 2, 2, 1, 3, 0, 1, 0, 0, 0, 1, 1, 0, 1, 1, 1, 1, 0, 0, 0, 0, 0, 0, 0]
/-- a call of the list: its number, its numbers, what it is -/
structure Cll where
  num : Nat
  args : List Nat
  call : Km424.Call
structure Cll.Ok (c : Cll) : Prop where
  num : c.num < 34
  is : mkCall c.num c.args = some c.call
  it : Is c.num c.args c.call
  len : argN[c.num]? = some c.args.length
  le : ∀ x, x ∈ c.args → x ≤ 4294967295
def Cll.flat (c : Cll) : List Int := (c.num : Int) :: c.args.map fun x : Nat => (x : Int)
/-- the numbers that a call answers -/
def ansOf (a : Km424.Ans) : List Int := a.value :: a.out.map fun x : Nat => (x : Int)
/-- what is given back, from a desk on -/
def outs : Km424.Desk → List Cll → List Int
  | _, [] => []
  | d, c :: l => (((ansOf (Km424.act d c.call).2).length : Int) :: ansOf (Km424.act d c.call).2) ++ outs (Km424.act d c.call).1 l
abbrev M32 : Int := 4294967295
def Cc (p : Int) (a : List Int) : Prop := ∃ c : Cll, c.Ok ∧ c.flat = p :: a ∧ PyKm424.whole [p :: a] = [p :: a] ∧ Km424Neutral.callOf [p :: a] = some c.call
theorem within_nat {z : Int} (h : PyInside.within 0 4294967295 z = true) : ∃ x : Nat, z = (x : Int) ∧ x ≤ 4294967295 := by
  unfold PyInside.within at h
  simp only [Bool.and_eq_true, decide_eq_true_eq] at h
  exact ⟨z.toNat, by omega, by omega⟩
theorem cc_0 (a : List Int) (hl : a.length = 4) (hb : PyInside.call PyKm424.bound [(0 : Int) :: a] = true) : Cc 0 a := by
  match a, hl with
  | [x, y, z, u], _ =>
    have hb : ((PyInside.within 0 4294967295 x && (PyInside.within 0 4294967295 y && (PyInside.within 0 4294967295 z && (PyInside.within 0 4294967295 u && true)))) && true) = true := hb
    simp only [Bool.and_eq_true, and_true] at hb
    obtain ⟨x, rfl, hx⟩ := within_nat hb.1
    obtain ⟨y, rfl, hy⟩ := within_nat hb.2.1
    obtain ⟨z, rfl, hz⟩ := within_nat hb.2.2.1
    obtain ⟨u, rfl, hu⟩ := within_nat hb.2.2.2
    exact ⟨⟨0, [x, y, z, u], _⟩, ⟨(show 0 < 34 by decide), rfl, .c0 _ _ _ _, rfl, by simp; omega⟩, rfl, rfl, rfl⟩
theorem cc_1 (a : List Int) (hl : a.length = 2) (hb : PyInside.call PyKm424.bound [(1 : Int) :: a] = true) : Cc 1 a := by
  match a, hl with
  | [x, y], _ =>
    have hb : ((PyInside.within 0 4294967295 x && (PyInside.within 0 4294967295 y && true)) && true) = true := hb
    simp only [Bool.and_eq_true, and_true] at hb
    obtain ⟨x, rfl, hx⟩ := within_nat hb.1
    obtain ⟨y, rfl, hy⟩ := within_nat hb.2
    exact ⟨⟨1, [x, y], _⟩, ⟨(show 1 < 34 by decide), rfl, .c1 _ _, rfl, by simp; omega⟩, rfl, rfl, rfl⟩
theorem cc_2 (a : List Int) (hl : a.length = 2) (hb : PyInside.call PyKm424.bound [(2 : Int) :: a] = true) : Cc 2 a := by
  match a, hl with
  | [x, y], _ =>
    have hb : ((PyInside.within 0 4294967295 x && (PyInside.within 0 4294967295 y && true)) && true) = true := hb
    simp only [Bool.and_eq_true, and_true] at hb
    obtain ⟨x, rfl, hx⟩ := within_nat hb.1
    obtain ⟨y, rfl, hy⟩ := within_nat hb.2
    exact ⟨⟨2, [x, y], _⟩, ⟨(show 2 < 34 by decide), rfl, .c2 _ _, rfl, by simp; omega⟩, rfl, rfl, rfl⟩
theorem cc_3 (a : List Int) (hl : a.length = 1) (hb : PyInside.call PyKm424.bound [(3 : Int) :: a] = true) : Cc 3 a := by
  match a, hl with
  | [x], _ =>
    have hb : ((PyInside.within 0 4294967295 x && true) && true) = true := hb
    simp only [Bool.and_eq_true, and_true] at hb
    obtain ⟨x, rfl, hx⟩ := within_nat hb
    exact ⟨⟨3, [x], _⟩, ⟨(show 3 < 34 by decide), rfl, .c3 _, rfl, by simp; omega⟩, rfl, rfl, rfl⟩
theorem cc_4 (a : List Int) (hl : a.length = 1) (hb : PyInside.call PyKm424.bound [(4 : Int) :: a] = true) : Cc 4 a := by
  match a, hl with
  | [x], _ =>
    have hb : ((PyInside.within 0 4294967295 x && true) && true) = true := hb
    simp only [Bool.and_eq_true, and_true] at hb
    obtain ⟨x, rfl, hx⟩ := within_nat hb
    exact ⟨⟨4, [x], _⟩, ⟨(show 4 < 34 by decide), rfl, .c4 _, rfl, by simp; omega⟩, rfl, rfl, rfl⟩
theorem cc_5 (a : List Int) (hl : a.length = 1) (hb : PyInside.call PyKm424.bound [(5 : Int) :: a] = true) : Cc 5 a := by
  match a, hl with
  | [x], _ =>
    have hb : ((PyInside.within 0 4294967295 x && true) && true) = true := hb
    simp only [Bool.and_eq_true, and_true] at hb
    obtain ⟨x, rfl, hx⟩ := within_nat hb
    exact ⟨⟨5, [x], _⟩, ⟨(show 5 < 34 by decide), rfl, .c5 _, rfl, by simp; omega⟩, rfl, rfl, rfl⟩
theorem cc_6 (a : List Int) (hl : a.length = 1) (hb : PyInside.call PyKm424.bound [(6 : Int) :: a] = true) : Cc 6 a := by
  match a, hl with
  | [x], _ =>
    have hb : ((PyInside.within 0 4294967295 x && true) && true) = true := hb
    simp only [Bool.and_eq_true, and_true] at hb
    obtain ⟨x, rfl, hx⟩ := within_nat hb
    exact ⟨⟨6, [x], _⟩, ⟨(show 6 < 34 by decide), rfl, .c6 _, rfl, by simp; omega⟩, rfl, rfl, rfl⟩
theorem cc_7 (a : List Int) (hl : a.length = 1) (hb : PyInside.call PyKm424.bound [(7 : Int) :: a] = true) : Cc 7 a := by
  match a, hl with
  | [x], _ =>
    have hb : ((PyInside.within 0 4294967295 x && true) && true) = true := hb
    simp only [Bool.and_eq_true, and_true] at hb
    obtain ⟨x, rfl, hx⟩ := within_nat hb
    exact ⟨⟨7, [x], _⟩, ⟨(show 7 < 34 by decide), rfl, .c7 _, rfl, by simp; omega⟩, rfl, rfl, rfl⟩
theorem cc_8 (a : List Int) (hl : a.length = 1) (hb : PyInside.call PyKm424.bound [(8 : Int) :: a] = true) : Cc 8 a := by
  match a, hl with
  | [x], _ =>
    have hb : ((PyInside.within 0 4294967295 x && true) && true) = true := hb
    simp only [Bool.and_eq_true, and_true] at hb
    obtain ⟨x, rfl, hx⟩ := within_nat hb
    exact ⟨⟨8, [x], _⟩, ⟨(show 8 < 34 by decide), rfl, .c8 _, rfl, by simp; omega⟩, rfl, rfl, rfl⟩
theorem cc_9 (a : List Int) (hl : a.length = 2) (hb : PyInside.call PyKm424.bound [(9 : Int) :: a] = true) : Cc 9 a := by
  match a, hl with
  | [x, y], _ =>
    have hb : ((PyInside.within 0 4294967295 x && (PyInside.within 0 4294967295 y && true)) && true) = true := hb
    simp only [Bool.and_eq_true, and_true] at hb
    obtain ⟨x, rfl, hx⟩ := within_nat hb.1
    obtain ⟨y, rfl, hy⟩ := within_nat hb.2
    exact ⟨⟨9, [x, y], _⟩, ⟨(show 9 < 34 by decide), rfl, .c9 _ _, rfl, by simp; omega⟩, rfl, rfl, rfl⟩
theorem cc_10 (a : List Int) (hl : a.length = 1) (hb : PyInside.call PyKm424.bound [(10 : Int) :: a] = true) : Cc 10 a := by
  match a, hl with
  | [x], _ =>
    have hb : ((PyInside.within 0 4294967295 x && true) && true) = true := hb
    simp only [Bool.and_eq_true, and_true] at hb
    obtain ⟨x, rfl, hx⟩ := within_nat hb
    exact ⟨⟨10, [x], _⟩, ⟨(show 10 < 34 by decide), rfl, .c10 _, rfl, by simp; omega⟩, rfl, rfl, rfl⟩
theorem cc_11 (a : List Int) (hl : a.length = 2) (hb : PyInside.call PyKm424.bound [(11 : Int) :: a] = true) : Cc 11 a := by
  match a, hl with
  | [x, y], _ =>
    have hb : ((PyInside.within 0 4294967295 x && (PyInside.within 0 4294967295 y && true)) && true) = true := hb
    simp only [Bool.and_eq_true, and_true] at hb
    obtain ⟨x, rfl, hx⟩ := within_nat hb.1
    obtain ⟨y, rfl, hy⟩ := within_nat hb.2
    exact ⟨⟨11, [x, y], _⟩, ⟨(show 11 < 34 by decide), rfl, .c11 _ _, rfl, by simp; omega⟩, rfl, rfl, rfl⟩
theorem cc_12 (a : List Int) (hl : a.length = 2) (hb : PyInside.call PyKm424.bound [(12 : Int) :: a] = true) : Cc 12 a := by
  match a, hl with
  | [x, y], _ =>
    have hb : ((PyInside.within 0 4294967295 x && (PyInside.within 0 4294967295 y && true)) && true) = true := hb
    simp only [Bool.and_eq_true, and_true] at hb
    obtain ⟨x, rfl, hx⟩ := within_nat hb.1
    obtain ⟨y, rfl, hy⟩ := within_nat hb.2
    exact ⟨⟨12, [x, y], _⟩, ⟨(show 12 < 34 by decide), rfl, .c12 _ _, rfl, by simp; omega⟩, rfl, rfl, rfl⟩
theorem cc_13 (a : List Int) (hl : a.length = 1) (hb : PyInside.call PyKm424.bound [(13 : Int) :: a] = true) : Cc 13 a := by
  match a, hl with
  | [x], _ =>
    have hb : ((PyInside.within 0 4294967295 x && true) && true) = true := hb
    simp only [Bool.and_eq_true, and_true] at hb
    obtain ⟨x, rfl, hx⟩ := within_nat hb
    exact ⟨⟨13, [x], _⟩, ⟨(show 13 < 34 by decide), rfl, .c13 _, rfl, by simp; omega⟩, rfl, rfl, rfl⟩
theorem cc_14 (a : List Int) (hl : a.length = 3) (hb : PyInside.call PyKm424.bound [(14 : Int) :: a] = true) : Cc 14 a := by
  match a, hl with
  | [x, y, z], _ =>
    have hb : ((PyInside.within 0 4294967295 x && (PyInside.within 0 4294967295 y && (PyInside.within 0 4294967295 z && true))) && true) = true := hb
    simp only [Bool.and_eq_true, and_true] at hb
    obtain ⟨x, rfl, hx⟩ := within_nat hb.1
    obtain ⟨y, rfl, hy⟩ := within_nat hb.2.1
    obtain ⟨z, rfl, hz⟩ := within_nat hb.2.2
    exact ⟨⟨14, [x, y, z], _⟩, ⟨(show 14 < 34 by decide), rfl, .c14 _ _ _, rfl, by simp; omega⟩, rfl, rfl, rfl⟩
theorem cc_15 (a : List Int) (hl : a.length = 0) (hb : PyInside.call PyKm424.bound [(15 : Int) :: a] = true) : Cc 15 a := by
  obtain rfl := List.eq_nil_of_length_eq_zero hl
  exact ⟨⟨15, [], _⟩, ⟨by decide, rfl, .c15, rfl, by simp⟩, rfl, rfl, rfl⟩
theorem cc_16 (a : List Int) (hl : a.length = 1) (hb : PyInside.call PyKm424.bound [(16 : Int) :: a] = true) : Cc 16 a := by
  match a, hl with
  | [x], _ =>
    have hb : ((PyInside.within 0 4294967295 x && true) && true) = true := hb
    simp only [Bool.and_eq_true, and_true] at hb
    obtain ⟨x, rfl, hx⟩ := within_nat hb
    exact ⟨⟨16, [x], _⟩, ⟨(show 16 < 34 by decide), rfl, .c16 _, rfl, by simp; omega⟩, rfl, rfl, rfl⟩
theorem cc_17 (a : List Int) (hl : a.length = 0) (hb : PyInside.call PyKm424.bound [(17 : Int) :: a] = true) : Cc 17 a := by
  obtain rfl := List.eq_nil_of_length_eq_zero hl
  exact ⟨⟨17, [], _⟩, ⟨by decide, rfl, .c17, rfl, by simp⟩, rfl, rfl, rfl⟩
theorem cc_18 (a : List Int) (hl : a.length = 0) (hb : PyInside.call PyKm424.bound [(18 : Int) :: a] = true) : Cc 18 a := by
  obtain rfl := List.eq_nil_of_length_eq_zero hl
  exact ⟨⟨18, [], _⟩, ⟨by decide, rfl, .c18, rfl, by simp⟩, rfl, rfl, rfl⟩
theorem cc_19 (a : List Int) (hl : a.length = 0) (hb : PyInside.call PyKm424.bound [(19 : Int) :: a] = true) : Cc 19 a := by
  obtain rfl := List.eq_nil_of_length_eq_zero hl
  exact ⟨⟨19, [], _⟩, ⟨by decide, rfl, .c19, rfl, by simp⟩, rfl, rfl, rfl⟩
theorem cc_20 (a : List Int) (hl : a.length = 1) (hb : PyInside.call PyKm424.bound [(20 : Int) :: a] = true) : Cc 20 a := by
  match a, hl with
  | [x], _ =>
    have hb : ((PyInside.within 0 4294967295 x && true) && true) = true := hb
    simp only [Bool.and_eq_true, and_true] at hb
    obtain ⟨x, rfl, hx⟩ := within_nat hb
    exact ⟨⟨20, [x], _⟩, ⟨(show 20 < 34 by decide), rfl, .c20 _, rfl, by simp; omega⟩, rfl, rfl, rfl⟩
theorem cc_21 (a : List Int) (hl : a.length = 1) (hb : PyInside.call PyKm424.bound [(21 : Int) :: a] = true) : Cc 21 a := by
  match a, hl with
  | [x], _ =>
    have hb : ((PyInside.within 0 4294967295 x && true) && true) = true := hb
    simp only [Bool.and_eq_true, and_true] at hb
    obtain ⟨x, rfl, hx⟩ := within_nat hb
    exact ⟨⟨21, [x], _⟩, ⟨(show 21 < 34 by decide), rfl, .c21 _, rfl, by simp; omega⟩, rfl, rfl, rfl⟩
theorem cc_22 (a : List Int) (hl : a.length = 0) (hb : PyInside.call PyKm424.bound [(22 : Int) :: a] = true) : Cc 22 a := by
  obtain rfl := List.eq_nil_of_length_eq_zero hl
  exact ⟨⟨22, [], _⟩, ⟨by decide, rfl, .c22, rfl, by simp⟩, rfl, rfl, rfl⟩
theorem cc_23 (a : List Int) (hl : a.length = 1) (hb : PyInside.call PyKm424.bound [(23 : Int) :: a] = true) : Cc 23 a := by
  match a, hl with
  | [x], _ =>
    have hb : ((PyInside.within 0 4294967295 x && true) && true) = true := hb
    simp only [Bool.and_eq_true, and_true] at hb
    obtain ⟨x, rfl, hx⟩ := within_nat hb
    exact ⟨⟨23, [x], _⟩, ⟨(show 23 < 34 by decide), rfl, .c23 _, rfl, by simp; omega⟩, rfl, rfl, rfl⟩
theorem cc_24 (a : List Int) (hl : a.length = 1) (hb : PyInside.call PyKm424.bound [(24 : Int) :: a] = true) : Cc 24 a := by
  match a, hl with
  | [x], _ =>
    have hb : ((PyInside.within 0 4294967295 x && true) && true) = true := hb
    simp only [Bool.and_eq_true, and_true] at hb
    obtain ⟨x, rfl, hx⟩ := within_nat hb
    exact ⟨⟨24, [x], _⟩, ⟨(show 24 < 34 by decide), rfl, .c24 _, rfl, by simp; omega⟩, rfl, rfl, rfl⟩
theorem cc_25 (a : List Int) (hl : a.length = 1) (hb : PyInside.call PyKm424.bound [(25 : Int) :: a] = true) : Cc 25 a := by
  match a, hl with
  | [x], _ =>
    have hb : ((PyInside.within 0 4294967295 x && true) && true) = true := hb
    simp only [Bool.and_eq_true, and_true] at hb
    obtain ⟨x, rfl, hx⟩ := within_nat hb
    exact ⟨⟨25, [x], _⟩, ⟨(show 25 < 34 by decide), rfl, .c25 _, rfl, by simp; omega⟩, rfl, rfl, rfl⟩
theorem cc_26 (a : List Int) (hl : a.length = 1) (hb : PyInside.call PyKm424.bound [(26 : Int) :: a] = true) : Cc 26 a := by
  match a, hl with
  | [x], _ =>
    have hb : ((PyInside.within 0 4294967295 x && true) && true) = true := hb
    simp only [Bool.and_eq_true, and_true] at hb
    obtain ⟨x, rfl, hx⟩ := within_nat hb
    exact ⟨⟨26, [x], _⟩, ⟨(show 26 < 34 by decide), rfl, .c26 _, rfl, by simp; omega⟩, rfl, rfl, rfl⟩
theorem cc_27 (a : List Int) (hl : a.length = 0) (hb : PyInside.call PyKm424.bound [(27 : Int) :: a] = true) : Cc 27 a := by
  obtain rfl := List.eq_nil_of_length_eq_zero hl
  exact ⟨⟨27, [], _⟩, ⟨by decide, rfl, .c27, rfl, by simp⟩, rfl, rfl, rfl⟩
theorem cc_28 (a : List Int) (hl : a.length = 0) (hb : PyInside.call PyKm424.bound [(28 : Int) :: a] = true) : Cc 28 a := by
  obtain rfl := List.eq_nil_of_length_eq_zero hl
  exact ⟨⟨28, [], _⟩, ⟨by decide, rfl, .c28, rfl, by simp⟩, rfl, rfl, rfl⟩
theorem cc_29 (a : List Int) (hl : a.length = 0) (hb : PyInside.call PyKm424.bound [(29 : Int) :: a] = true) : Cc 29 a := by
  obtain rfl := List.eq_nil_of_length_eq_zero hl
  exact ⟨⟨29, [], _⟩, ⟨by decide, rfl, .c29, rfl, by simp⟩, rfl, rfl, rfl⟩
theorem cc_30 (a : List Int) (hl : a.length = 0) (hb : PyInside.call PyKm424.bound [(30 : Int) :: a] = true) : Cc 30 a := by
  obtain rfl := List.eq_nil_of_length_eq_zero hl
  exact ⟨⟨30, [], _⟩, ⟨by decide, rfl, .c30, rfl, by simp⟩, rfl, rfl, rfl⟩
theorem cc_31 (a : List Int) (hl : a.length = 0) (hb : PyInside.call PyKm424.bound [(31 : Int) :: a] = true) : Cc 31 a := by
  obtain rfl := List.eq_nil_of_length_eq_zero hl
  exact ⟨⟨31, [], _⟩, ⟨by decide, rfl, .c31, rfl, by simp⟩, rfl, rfl, rfl⟩
theorem cc_32 (a : List Int) (hl : a.length = 0) (hb : PyInside.call PyKm424.bound [(32 : Int) :: a] = true) : Cc 32 a := by
  obtain rfl := List.eq_nil_of_length_eq_zero hl
  exact ⟨⟨32, [], _⟩, ⟨by decide, rfl, .c32, rfl, by simp⟩, rfl, rfl, rfl⟩
theorem cc_33 (a : List Int) (hl : a.length = 0) (hb : PyInside.call PyKm424.bound [(33 : Int) :: a] = true) : Cc 33 a := by
  obtain rfl := List.eq_nil_of_length_eq_zero hl
  exact ⟨⟨33, [], _⟩, ⟨by decide, rfl, .c33, rfl, by simp⟩, rfl, rfl, rfl⟩
theorem shape_none {p : Int} (h0 : ¬ p = 0) (h1 : ¬ p = 1) (h2 : ¬ p = 2) (h3 : ¬ p = 3) (h4 : ¬ p = 4) (h5 : ¬ p = 5) (h6 : ¬ p = 6) (h7 : ¬ p = 7) (h8 : ¬ p = 8) (h9 : ¬ p = 9) (h10 : ¬ p = 10) (h11 : ¬ p = 11) (h12 : ¬ p = 12) (h13 : ¬ p = 13) (h14 : ¬ p = 14) (h15 : ¬ p = 15) (h16 : ¬ p = 16) (h17 : ¬ p = 17) (h18 : ¬ p = 18) (h19 : ¬ p = 19) (h20 : ¬ p = 20) (h21 : ¬ p = 21) (h22 : ¬ p = 22) (h23 : ¬ p = 23) (h24 : ¬ p = 24) (h25 : ¬ p = 25) (h26 : ¬ p = 26) (h27 : ¬ p = 27) (h28 : ¬ p = 28) (h29 : ¬ p = 29) (h30 : ¬ p = 30) (h31 : ¬ p = 31) (h32 : ¬ p = 32) (h33 : ¬ p = 33) : PyKm424.shape p = none := by
  unfold PyKm424.shape
  rw [if_neg h0, if_neg h1, if_neg h2, if_neg h3, if_neg h4, if_neg h5, if_neg h6, if_neg h7, if_neg h8, if_neg h9, if_neg h10, if_neg h11, if_neg h12, if_neg h13, if_neg h14, if_neg h15, if_neg h16, if_neg h17, if_neg h18, if_neg h19, if_neg h20, if_neg h21, if_neg h22, if_neg h23, if_neg h24, if_neg h25, if_neg h26, if_neg h27, if_neg h28, if_neg h29, if_neg h30, if_neg h31, if_neg h32, if_neg h33]
theorem cc_all {p : Int} {a : List Int} {k : Nat} (h : PyKm424.shape p = some (a.length, k)) (hb : PyInside.call PyKm424.bound [p :: a] = true) : Cc p a := by
  by_cases h0 : p = 0
  · subst h0
    have e : (4, 0) = (a.length, k) := Option.some.inj ((show PyKm424.shape 0 = some (4, 0) from rfl).symm.trans h)
    exact cc_0 a (congrArg Prod.fst e).symm hb
  by_cases h1 : p = 1
  · subst h1
    have e : (2, 0) = (a.length, k) := Option.some.inj ((show PyKm424.shape 1 = some (2, 0) from rfl).symm.trans h)
    exact cc_1 a (congrArg Prod.fst e).symm hb
  by_cases h2 : p = 2
  · subst h2
    have e : (2, 0) = (a.length, k) := Option.some.inj ((show PyKm424.shape 2 = some (2, 0) from rfl).symm.trans h)
    exact cc_2 a (congrArg Prod.fst e).symm hb
  by_cases h3 : p = 3
  · subst h3
    have e : (1, 0) = (a.length, k) := Option.some.inj ((show PyKm424.shape 3 = some (1, 0) from rfl).symm.trans h)
    exact cc_3 a (congrArg Prod.fst e).symm hb
  by_cases h4 : p = 4
  · subst h4
    have e : (1, 0) = (a.length, k) := Option.some.inj ((show PyKm424.shape 4 = some (1, 0) from rfl).symm.trans h)
    exact cc_4 a (congrArg Prod.fst e).symm hb
  by_cases h5 : p = 5
  · subst h5
    have e : (1, 0) = (a.length, k) := Option.some.inj ((show PyKm424.shape 5 = some (1, 0) from rfl).symm.trans h)
    exact cc_5 a (congrArg Prod.fst e).symm hb
  by_cases h6 : p = 6
  · subst h6
    have e : (1, 0) = (a.length, k) := Option.some.inj ((show PyKm424.shape 6 = some (1, 0) from rfl).symm.trans h)
    exact cc_6 a (congrArg Prod.fst e).symm hb
  by_cases h7 : p = 7
  · subst h7
    have e : (1, 0) = (a.length, k) := Option.some.inj ((show PyKm424.shape 7 = some (1, 0) from rfl).symm.trans h)
    exact cc_7 a (congrArg Prod.fst e).symm hb
  by_cases h8 : p = 8
  · subst h8
    have e : (1, 0) = (a.length, k) := Option.some.inj ((show PyKm424.shape 8 = some (1, 0) from rfl).symm.trans h)
    exact cc_8 a (congrArg Prod.fst e).symm hb
  by_cases h9 : p = 9
  · subst h9
    have e : (2, 0) = (a.length, k) := Option.some.inj ((show PyKm424.shape 9 = some (2, 0) from rfl).symm.trans h)
    exact cc_9 a (congrArg Prod.fst e).symm hb
  by_cases h10 : p = 10
  · subst h10
    have e : (1, 0) = (a.length, k) := Option.some.inj ((show PyKm424.shape 10 = some (1, 0) from rfl).symm.trans h)
    exact cc_10 a (congrArg Prod.fst e).symm hb
  by_cases h11 : p = 11
  · subst h11
    have e : (2, 0) = (a.length, k) := Option.some.inj ((show PyKm424.shape 11 = some (2, 0) from rfl).symm.trans h)
    exact cc_11 a (congrArg Prod.fst e).symm hb
  by_cases h12 : p = 12
  · subst h12
    have e : (2, 0) = (a.length, k) := Option.some.inj ((show PyKm424.shape 12 = some (2, 0) from rfl).symm.trans h)
    exact cc_12 a (congrArg Prod.fst e).symm hb
  by_cases h13 : p = 13
  · subst h13
    have e : (1, 0) = (a.length, k) := Option.some.inj ((show PyKm424.shape 13 = some (1, 0) from rfl).symm.trans h)
    exact cc_13 a (congrArg Prod.fst e).symm hb
  by_cases h14 : p = 14
  · subst h14
    have e : (3, 0) = (a.length, k) := Option.some.inj ((show PyKm424.shape 14 = some (3, 0) from rfl).symm.trans h)
    exact cc_14 a (congrArg Prod.fst e).symm hb
  by_cases h15 : p = 15
  · subst h15
    have e : (0, 0) = (a.length, k) := Option.some.inj ((show PyKm424.shape 15 = some (0, 0) from rfl).symm.trans h)
    exact cc_15 a (congrArg Prod.fst e).symm hb
  by_cases h16 : p = 16
  · subst h16
    have e : (1, 0) = (a.length, k) := Option.some.inj ((show PyKm424.shape 16 = some (1, 0) from rfl).symm.trans h)
    exact cc_16 a (congrArg Prod.fst e).symm hb
  by_cases h17 : p = 17
  · subst h17
    have e : (0, 0) = (a.length, k) := Option.some.inj ((show PyKm424.shape 17 = some (0, 0) from rfl).symm.trans h)
    exact cc_17 a (congrArg Prod.fst e).symm hb
  by_cases h18 : p = 18
  · subst h18
    have e : (0, 0) = (a.length, k) := Option.some.inj ((show PyKm424.shape 18 = some (0, 0) from rfl).symm.trans h)
    exact cc_18 a (congrArg Prod.fst e).symm hb
  by_cases h19 : p = 19
  · subst h19
    have e : (0, 0) = (a.length, k) := Option.some.inj ((show PyKm424.shape 19 = some (0, 0) from rfl).symm.trans h)
    exact cc_19 a (congrArg Prod.fst e).symm hb
  by_cases h20 : p = 20
  · subst h20
    have e : (1, 0) = (a.length, k) := Option.some.inj ((show PyKm424.shape 20 = some (1, 0) from rfl).symm.trans h)
    exact cc_20 a (congrArg Prod.fst e).symm hb
  by_cases h21 : p = 21
  · subst h21
    have e : (1, 0) = (a.length, k) := Option.some.inj ((show PyKm424.shape 21 = some (1, 0) from rfl).symm.trans h)
    exact cc_21 a (congrArg Prod.fst e).symm hb
  by_cases h22 : p = 22
  · subst h22
    have e : (0, 0) = (a.length, k) := Option.some.inj ((show PyKm424.shape 22 = some (0, 0) from rfl).symm.trans h)
    exact cc_22 a (congrArg Prod.fst e).symm hb
  by_cases h23 : p = 23
  · subst h23
    have e : (1, 0) = (a.length, k) := Option.some.inj ((show PyKm424.shape 23 = some (1, 0) from rfl).symm.trans h)
    exact cc_23 a (congrArg Prod.fst e).symm hb
  by_cases h24 : p = 24
  · subst h24
    have e : (1, 0) = (a.length, k) := Option.some.inj ((show PyKm424.shape 24 = some (1, 0) from rfl).symm.trans h)
    exact cc_24 a (congrArg Prod.fst e).symm hb
  by_cases h25 : p = 25
  · subst h25
    have e : (1, 0) = (a.length, k) := Option.some.inj ((show PyKm424.shape 25 = some (1, 0) from rfl).symm.trans h)
    exact cc_25 a (congrArg Prod.fst e).symm hb
  by_cases h26 : p = 26
  · subst h26
    have e : (1, 0) = (a.length, k) := Option.some.inj ((show PyKm424.shape 26 = some (1, 0) from rfl).symm.trans h)
    exact cc_26 a (congrArg Prod.fst e).symm hb
  by_cases h27 : p = 27
  · subst h27
    have e : (0, 0) = (a.length, k) := Option.some.inj ((show PyKm424.shape 27 = some (0, 0) from rfl).symm.trans h)
    exact cc_27 a (congrArg Prod.fst e).symm hb
  by_cases h28 : p = 28
  · subst h28
    have e : (0, 0) = (a.length, k) := Option.some.inj ((show PyKm424.shape 28 = some (0, 0) from rfl).symm.trans h)
    exact cc_28 a (congrArg Prod.fst e).symm hb
  by_cases h29 : p = 29
  · subst h29
    have e : (0, 0) = (a.length, k) := Option.some.inj ((show PyKm424.shape 29 = some (0, 0) from rfl).symm.trans h)
    exact cc_29 a (congrArg Prod.fst e).symm hb
  by_cases h30 : p = 30
  · subst h30
    have e : (0, 0) = (a.length, k) := Option.some.inj ((show PyKm424.shape 30 = some (0, 0) from rfl).symm.trans h)
    exact cc_30 a (congrArg Prod.fst e).symm hb
  by_cases h31 : p = 31
  · subst h31
    have e : (0, 0) = (a.length, k) := Option.some.inj ((show PyKm424.shape 31 = some (0, 0) from rfl).symm.trans h)
    exact cc_31 a (congrArg Prod.fst e).symm hb
  by_cases h32 : p = 32
  · subst h32
    have e : (0, 0) = (a.length, k) := Option.some.inj ((show PyKm424.shape 32 = some (0, 0) from rfl).symm.trans h)
    exact cc_32 a (congrArg Prod.fst e).symm hb
  by_cases h33 : p = 33
  · subst h33
    have e : (0, 0) = (a.length, k) := Option.some.inj ((show PyKm424.shape 33 = some (0, 0) from rfl).symm.trans h)
    exact cc_33 a (congrArg Prod.fst e).symm hb
  rw [shape_none h0 h1 h2 h3 h4 h5 h6 h7 h8 h9 h10 h11 h12 h13 h14 h15 h16 h17 h18 h19 h20 h21 h22 h23 h24 h25 h26 h27 h28 h29 h30 h31 h32 h33] at h
  cases h
theorem shape_rows {p : Int} {n k : Nat} (h : PyKm424.shape p = some (n, k)) : k = 0 := by
  unfold PyKm424.shape at h
  by_cases h0 : p = 0
  · rw [if_pos h0] at h
    exact (congrArg Prod.snd (Option.some.inj h)).symm
  rw [if_neg h0] at h
  by_cases h1 : p = 1
  · rw [if_pos h1] at h
    exact (congrArg Prod.snd (Option.some.inj h)).symm
  rw [if_neg h1] at h
  by_cases h2 : p = 2
  · rw [if_pos h2] at h
    exact (congrArg Prod.snd (Option.some.inj h)).symm
  rw [if_neg h2] at h
  by_cases h3 : p = 3
  · rw [if_pos h3] at h
    exact (congrArg Prod.snd (Option.some.inj h)).symm
  rw [if_neg h3] at h
  by_cases h4 : p = 4
  · rw [if_pos h4] at h
    exact (congrArg Prod.snd (Option.some.inj h)).symm
  rw [if_neg h4] at h
  by_cases h5 : p = 5
  · rw [if_pos h5] at h
    exact (congrArg Prod.snd (Option.some.inj h)).symm
  rw [if_neg h5] at h
  by_cases h6 : p = 6
  · rw [if_pos h6] at h
    exact (congrArg Prod.snd (Option.some.inj h)).symm
  rw [if_neg h6] at h
  by_cases h7 : p = 7
  · rw [if_pos h7] at h
    exact (congrArg Prod.snd (Option.some.inj h)).symm
  rw [if_neg h7] at h
  by_cases h8 : p = 8
  · rw [if_pos h8] at h
    exact (congrArg Prod.snd (Option.some.inj h)).symm
  rw [if_neg h8] at h
  by_cases h9 : p = 9
  · rw [if_pos h9] at h
    exact (congrArg Prod.snd (Option.some.inj h)).symm
  rw [if_neg h9] at h
  by_cases h10 : p = 10
  · rw [if_pos h10] at h
    exact (congrArg Prod.snd (Option.some.inj h)).symm
  rw [if_neg h10] at h
  by_cases h11 : p = 11
  · rw [if_pos h11] at h
    exact (congrArg Prod.snd (Option.some.inj h)).symm
  rw [if_neg h11] at h
  by_cases h12 : p = 12
  · rw [if_pos h12] at h
    exact (congrArg Prod.snd (Option.some.inj h)).symm
  rw [if_neg h12] at h
  by_cases h13 : p = 13
  · rw [if_pos h13] at h
    exact (congrArg Prod.snd (Option.some.inj h)).symm
  rw [if_neg h13] at h
  by_cases h14 : p = 14
  · rw [if_pos h14] at h
    exact (congrArg Prod.snd (Option.some.inj h)).symm
  rw [if_neg h14] at h
  by_cases h15 : p = 15
  · rw [if_pos h15] at h
    exact (congrArg Prod.snd (Option.some.inj h)).symm
  rw [if_neg h15] at h
  by_cases h16 : p = 16
  · rw [if_pos h16] at h
    exact (congrArg Prod.snd (Option.some.inj h)).symm
  rw [if_neg h16] at h
  by_cases h17 : p = 17
  · rw [if_pos h17] at h
    exact (congrArg Prod.snd (Option.some.inj h)).symm
  rw [if_neg h17] at h
  by_cases h18 : p = 18
  · rw [if_pos h18] at h
    exact (congrArg Prod.snd (Option.some.inj h)).symm
  rw [if_neg h18] at h
  by_cases h19 : p = 19
  · rw [if_pos h19] at h
    exact (congrArg Prod.snd (Option.some.inj h)).symm
  rw [if_neg h19] at h
  by_cases h20 : p = 20
  · rw [if_pos h20] at h
    exact (congrArg Prod.snd (Option.some.inj h)).symm
  rw [if_neg h20] at h
  by_cases h21 : p = 21
  · rw [if_pos h21] at h
    exact (congrArg Prod.snd (Option.some.inj h)).symm
  rw [if_neg h21] at h
  by_cases h22 : p = 22
  · rw [if_pos h22] at h
    exact (congrArg Prod.snd (Option.some.inj h)).symm
  rw [if_neg h22] at h
  by_cases h23 : p = 23
  · rw [if_pos h23] at h
    exact (congrArg Prod.snd (Option.some.inj h)).symm
  rw [if_neg h23] at h
  by_cases h24 : p = 24
  · rw [if_pos h24] at h
    exact (congrArg Prod.snd (Option.some.inj h)).symm
  rw [if_neg h24] at h
  by_cases h25 : p = 25
  · rw [if_pos h25] at h
    exact (congrArg Prod.snd (Option.some.inj h)).symm
  rw [if_neg h25] at h
  by_cases h26 : p = 26
  · rw [if_pos h26] at h
    exact (congrArg Prod.snd (Option.some.inj h)).symm
  rw [if_neg h26] at h
  by_cases h27 : p = 27
  · rw [if_pos h27] at h
    exact (congrArg Prod.snd (Option.some.inj h)).symm
  rw [if_neg h27] at h
  by_cases h28 : p = 28
  · rw [if_pos h28] at h
    exact (congrArg Prod.snd (Option.some.inj h)).symm
  rw [if_neg h28] at h
  by_cases h29 : p = 29
  · rw [if_pos h29] at h
    exact (congrArg Prod.snd (Option.some.inj h)).symm
  rw [if_neg h29] at h
  by_cases h30 : p = 30
  · rw [if_pos h30] at h
    exact (congrArg Prod.snd (Option.some.inj h)).symm
  rw [if_neg h30] at h
  by_cases h31 : p = 31
  · rw [if_pos h31] at h
    exact (congrArg Prod.snd (Option.some.inj h)).symm
  rw [if_neg h31] at h
  by_cases h32 : p = 32
  · rw [if_pos h32] at h
    exact (congrArg Prod.snd (Option.some.inj h)).symm
  rw [if_neg h32] at h
  by_cases h33 : p = 33
  · rw [if_pos h33] at h
    exact (congrArg Prod.snd (Option.some.inj h)).symm
  rw [if_neg h33] at h
  cases h
/-! ### the whole list -/
/-- where a desk is, before the first start that is not refused too -/
def deskOf (s : Km424Neutral.S) : Km424.Desk := s.getD (Km424.fresh 0 0 1 1)
theorem step_is {s : Km424Neutral.S} {c : Km424Neutral.Call} {x : Km424.Call} (h : Km424Neutral.callOf c = some x) (hn : ((Km424Neutral.step s c).2.isEmpty) = false) :
    (Km424Neutral.step s c).2 = ansOf (Km424.act (deskOf s) x).2 ∧ deskOf (Km424Neutral.step s c).1 = (Km424.act (deskOf s) x).1 := by
  unfold Km424Neutral.step at hn ⊢
  rw [h] at hn ⊢
  cases s with
  | some d => exact ⟨rfl, rfl⟩
  | none =>
    dsimp only at hn ⊢
    cases hs : Km424Neutral.isStart x with
    | false =>
      rw [hs, if_neg (by decide)] at hn
      exact absurd hn (by decide)
    | true =>
      rw [if_pos rfl]
      refine ⟨rfl, ?_⟩
      cases x with
      | start a b d e =>
        show deskOf (if (Km424Neutral.told (Km424.act (Km424.fresh 0 0 1 1) (.start a b d e)).2).headD 0 < 0 then none else some (Km424.act (Km424.fresh 0 0 1 1) (.start a b d e)).1) = (Km424.act (Km424.fresh 0 0 1 1) (.start a b d e)).1
        unfold Km424.act
        by_cases ok : Km424.okStart a b d e = false
        · simp only [if_pos ok]
          rfl
        · simp only [if_neg ok]
          rfl
      | _ => cases hs
theorem played_is : ∀ (raw : List (List (List Int))) (s : Km424Neutral.S) (cs : List Cll), cs.length = raw.length → (∀ (i : Nat) c k, raw[i]? = some c → cs[i]? = some k → Km424Neutral.callOf c = some k.call) → Km424Neutral.may s raw = true →
    PyFlat.told (PyFlat.played Km424Neutral.step s raw) = outs (deskOf s) cs
  | [], s, cs, hl, _, _ => by
    obtain rfl := List.eq_nil_of_length_eq_zero hl
    rfl
  | c :: raw, s, cs, hl, hc, hm => by
    match cs, hl with
    | k :: cs, hl =>
      unfold Km424Neutral.may at hm
      simp only [Bool.and_eq_true, Bool.not_eq_true'] at hm
      obtain ⟨e1, e2⟩ := step_is (hc 0 c k rfl rfl) hm.1
      have ih := played_is raw (Km424Neutral.step s c).1 cs (Nat.succ.inj hl) (fun i c' k' h1 h2 => hc (i + 1) c' k' h1 h2) hm.2
      rw [e2] at ih
      show PyFlat.told ((Km424Neutral.step s c).2 :: PyFlat.played Km424Neutral.step (Km424Neutral.step s c).1 raw) = _
      unfold PyFlat.told at ih ⊢
      rw [List.flatMap_cons, ih, e1]
      rfl
/-- what is handed in is a row of calls, and what is due is what they answer one behind another -/
theorem asked_is {l : List Int} (h : PyKm424.answers_asked l = true) : ∃ cs : List Cll, l = cs.flatMap Cll.flat ∧ cs.length ≤ 1000 ∧ (∀ c, c ∈ cs → c.Ok) ∧ PyKm424.answers l = outs (Km424.fresh 0 0 1 1) cs := by
  unfold PyKm424.answers_asked at h
  cases e : PyFlat.calls PyKm424.shape l.length l with
  | none => rw [e] at h; cases h
  | some raw =>
    rw [e] at h
    simp only [Bool.and_eq_true] at h
    obtain ⟨⟨⟨⟨h1, h2⟩, h3⟩, h4⟩, h5⟩ := h
    obtain ⟨p1, p2⟩ := PyFlat.put_calls _ _ _ e
    have all : ∀ c, c ∈ raw → ∃ k : Cll, k.Ok ∧ k.flat = PyFlat.put1 c ∧ PyKm424.whole c = c ∧ Km424Neutral.callOf c = some k.call := fun c hc => by
      obtain ⟨p, a, xs, rfl, hs⟩ := p2 c hc
      have hx : xs = [] := List.eq_nil_of_length_eq_zero (shape_rows hs)
      subst hx
      have hb := List.all_eq_true.mp h3 _ hc
      obtain ⟨k, k1, k2, k3, k4⟩ := cc_all hs hb
      exact ⟨k, k1, by rw [k2]; show p :: a = (p :: a) ++ []; rw [List.append_nil], k3, k4⟩
    have pick : ∀ (raw : List (List (List Int))), (∀ c, c ∈ raw → ∃ k : Cll, k.Ok ∧ k.flat = PyFlat.put1 c ∧ PyKm424.whole c = c ∧ Km424Neutral.callOf c = some k.call) →
        ∃ cs : List Cll, cs.length = raw.length ∧ PyFlat.put raw = cs.flatMap Cll.flat ∧ (∀ c, c ∈ cs → c.Ok) ∧ raw.map PyKm424.whole = raw ∧ ∀ (i : Nat) c k, raw[i]? = some c → cs[i]? = some k → Km424Neutral.callOf c = some k.call := by
      intro raw
      induction raw with
      | nil => exact fun _ => ⟨[], rfl, rfl, fun c hc => (by cases hc), rfl, fun i c k h1 _ => (by simp at h1)⟩
      | cons c raw ih =>
        intro hall
        obtain ⟨cs, q1, q2, q3, q4, q5⟩ := ih fun c hc => hall c (List.mem_cons_of_mem _ hc)
        obtain ⟨k, k1, k2, k3, k4⟩ := hall c List.mem_cons_self
        refine ⟨k :: cs, by simp [q1], ?_, ?_, ?_, ?_⟩
        · show PyFlat.put1 c ++ PyFlat.put raw = _
          rw [q2, List.flatMap_cons, k2]
        · intro d hd
          rcases List.mem_cons.mp hd with rfl | hd
          · exact k1
          · exact q3 d hd
        · rw [List.map_cons, k3, q4]
        · intro i d m h1 h2
          match i, h1, h2 with
          | 0, h1, h2 =>
            cases h1
            cases h2
            exact k4
          | i + 1, h1, h2 => exact q5 i d m h1 h2
    obtain ⟨cs, q1, q2, q3, q4, q5⟩ := pick raw all
    rw [q4] at h4
    unfold Km424Neutral.asked at h4
    simp only [Bool.and_eq_true, decide_eq_true_eq] at h4
    refine ⟨cs, p1.trans q2, by rw [q1]; exact h4.2.1, q3, ?_⟩
    unfold PyKm424.answers PyKm424.calls
    rw [e]
    dsimp only
    rw [q4]
    exact played_is raw Km424Neutral.start cs q1 q5 h4.2.2.2
end Ir
set_option Elab.async false
set_option maxRecDepth 100000
set_option maxHeartbeats 2000000
namespace Ir
/-! ### what each call makes of a rink, and answers -/
def gFlood (r : Km424.Rink) : List Nat → Km424.Rink × List Int
  | [n] => if n = 0 then (r, [-22]) else if r.on_ ≠ 0 then (r, [-16]) else if 1000000 < r.laid + n then (r, [-28]) else ({ r with wet := r.wet + n, laid := r.laid + n }, [((r.wet + n : Nat) : Int)])
  | _ => (r, [])
def gShave (r : Km424.Rink) : List Nat → Km424.Rink × List Int
  | [n] => if n = 0 then (r, [-22]) else if r.on_ ≠ 0 then (r, [-16]) else if r.ice < n then (r, [-12]) else ({ r with ice := r.ice - n, shaved := r.shaved + n }, [((r.ice - n : Nat) : Int)])
  | _ => (r, [])
def gDrain (r : Km424.Rink) : List Nat → Km424.Rink × List Int
  | [n] => if n = 0 then (r, [-22]) else if r.wet < n then (r, [-12]) else ({ r with wet := r.wet - n, drained := r.drained + n }, [((r.wet - n : Nat) : Int)])
  | _ => (r, [])
def gOff (r : Km424.Rink) : List Nat → Km424.Rink × List Int
  | [n] => if n = 0 then (r, [-22]) else if r.on_ < n then (r, [-12]) else ({ r with on_ := r.on_ - n }, [((r.on_ - n : Nat) : Int)])
  | _ => (r, [])
def gMachine (r : Km424.Rink) : List Nat → Km424.Rink × List Int
  | [x, y] => if x = 0 ∨ 5000 < x ∨ 1000 < y then (r, [-22]) else if 6 ≤ r.machines.length then (r, [-28]) else ({ r with machines := r.machines ++ [⟨x, y, false⟩] }, [((r.machines.length : Nat) : Int)])
  | _ => (r, [])
def gRun (r : Km424.Rink) : List Nat → Km424.Rink × List Int
  | [k, o] => match r.machines[k]? with
    | none => (r, [-2])
    | some m => if 1 < o then (r, [-22]) else if m.on_ = (o == 1) then (r, [-17]) else
      ({ r with machines := r.machines.set k { m with on_ := o == 1 } }, [((({ r with machines := r.machines.set k { m with on_ := o == 1 } } : Km424.Rink).cold : Nat) : Int)])
  | _ => (r, [])
def frz (r : Km424.Rink) : List Nat → Km424.Rink
  | [cold] => { r with ice := r.ice + min r.wet (cold - r.heat r.on_) - min r.ice (r.heat r.on_ - cold), wet := r.wet - min r.wet (cold - r.heat r.on_) + min r.ice (r.heat r.on_ - cold) }
  | _ => r
def passM (r : Km424.Rink) : List Nat → Km424.Rink
  | [cold, cost] => let a : Km424.Rink := { frz r [cold] with spent := r.spent + cost, time := r.time + 1 }
    if a.hard = false then { a with on_ := 0, sent := a.sent + a.on_ } else a
  | _ => r
def gMinutes (r : Km424.Rink) : List Nat → Km424.Rink × List Int
  | [n] => if n = 0 ∨ 1440 < n then (r, [-22]) else if 50000 < r.time + n then (r, [-75]) else (Km424.Rink.minutes n r, [(((Km424.Rink.minutes n r).time : Nat) : Int), (((Km424.Rink.minutes n r).ice : Nat) : Int), (((Km424.Rink.minutes n r).wet : Nat) : Int), (((Km424.Rink.minutes n r).on_ : Nat) : Int)])
  | _ => (r, [])
def gGo (r : Km424.Rink) : List Nat → Km424.Rink × List Int
  | [n] => if n = 0 then (r, [-22]) else if r.hard = false then (r, [-13]) else if r.room < r.on_ + n then (r, [-28]) else ({ r with on_ := r.on_ + n }, [((r.on_ + n : Nat) : Int)])
  | _ => (r, [])
def gPairs (r : Km424.Rink) : List Nat → Km424.Rink × List Int
  | [k, n] => if 10 ≤ k then (r, [-2]) else if n = 0 then (r, [-22]) else if 100 < (r.size k).all + n then (r, [-28]) else (r.setSkates k ⟨(r.size k).all + n, (r.size k).sharp + n, (r.size k).blunt⟩, [(((r.size k).all + n : Nat) : Int)])
  | _ => (r, [])
def gHire (r : Km424.Rink) : List Nat → Km424.Rink × List Int
  | [k] => if 10 ≤ k then (r, [-2]) else if (r.size k).sharp = 0 then (r, [-12]) else (r.setSkates k ⟨(r.size k).all, (r.size k).sharp - 1, (r.size k).blunt⟩, [(((r.size k).sharp - 1 : Nat) : Int)])
  | _ => (r, [])
def gBring (r : Km424.Rink) : List Nat → Km424.Rink × List Int
  | [k, b] => if 10 ≤ k then (r, [-2]) else if 1 < b then (r, [-22]) else if (r.size k).all ≤ (r.size k).sharp + (r.size k).blunt then (r, [-6]) else
    (r.setSkates k (if b = 1 then ⟨(r.size k).all, (r.size k).sharp, (r.size k).blunt + 1⟩ else ⟨(r.size k).all, (r.size k).sharp + 1, (r.size k).blunt⟩), [(((r.size k).all - ((r.size k).sharp + (r.size k).blunt + 1) : Nat) : Int)])
  | _ => (r, [])
def gSharpen (r : Km424.Rink) : List Nat → Km424.Rink × List Int
  | [k, n] => if 10 ≤ k then (r, [-2]) else if n = 0 then (r, [-22]) else if (r.size k).blunt < n then (r, [-12]) else (r.setSkates k ⟨(r.size k).all, (r.size k).sharp + n, (r.size k).blunt - n⟩, [(((r.size k).sharp + n : Nat) : Int)])
  | _ => (r, [])
def gGap (r : Km424.Rink) : List Nat → Km424.Rink × List Int
  | [n] => if 120 < n then (r, [-22]) else if r.booked ≠ 0 then (r, [-16]) else ({ r with gap := n }, [((r.gap : Nat) : Int)])
  | _ => (r, [])
def gAsk (r : Km424.Rink) : List Nat → Km424.Rink × List Int
  | [x, y, z] => if y ≤ x ∨ 1440 < y ∨ 100000 < z then (r, [-22]) else if 8 ≤ r.asks.length then (r, [-28]) else ({ r with asks := r.asks ++ [⟨x, y, z, false⟩] }, [((r.asks.length : Nat) : Int)])
  | _ => (r, [])
def gDrop (r : Km424.Rink) : List Nat → Km424.Rink × List Int
  | [k] => match r.asks[k]? with
    | none => (r, [-2])
    | some a => if a.booked = false then (r, [-6]) else ({ r with asks := r.asks.set k { a with booked := false } }, [((a.fee : Nat) : Int)])
  | _ => (r, [])
def gBook (r : Km424.Rink) : List Nat → Km424.Rink × List Int
  | [] => if r.asks = [] then (r, [-6]) else ({ r with asks := (List.range r.asks.length).map fun k => { r.ask k with booked := r.best.testBit k } }, [((r.brings r.best : Nat) : Int), ((r.best : Nat) : Int)])
  | _ => (r, [])
def gHard (r : Km424.Rink) : List Nat → Km424.Rink × List Int := fun _ => (r, [((Km424.bit r.hard : Nat) : Int), ((Km424.bit (r.wet == 0) : Nat) : Int), ((Km424.bit (decide (r.least ≤ r.ice)) : Nat) : Int)])
/-- in how many minutes, as the program tells it -/
def soonN (r : Km424.Rink) : Option Nat :=
  if r.hard = true then some 0 else if r.cold ≤ r.heat r.on_ ∨ r.ice + r.wet < r.least then none else some ((r.wet + (r.cold - r.heat r.on_) - 1) / (r.cold - r.heat r.on_))
def gSoon (r : Km424.Rink) : List Nat → Km424.Rink × List Int := fun _ => (r, match soonN r with
  | none => [-33]
  | some m => if 1440 < m then [-33] else [((m : Nat) : Int)])
def gBears (r : Km424.Rink) : List Nat → Km424.Rink × List Int := fun _ => (r, if r.cold < r.base then [-33] else [((r.bears : Nat) : Int)])
def gCheapest (r : Km424.Rink) : List Nat → Km424.Rink × List Int
  | [n] => (r, if 500 < n then [-22] else match r.cheapest n with
    | none => [-33]
    | some (v, w) => [((v : Nat) : Int), ((w : Nat) : Int), (((r.running w).cold : Nat) : Int)])
  | _ => (r, [])
def gWould (r : Km424.Rink) : List Nat → Km424.Rink × List Int
  | [w] => (r, if 2 ^ r.asks.length ≤ w then [-22] else [((Km424.bit (r.fits w) : Nat) : Int), ((r.brings w : Nat) : Int)])
  | _ => (r, [])
def gBest (r : Km424.Rink) : List Nat → Km424.Rink × List Int := fun _ => (r, if r.asks = [] then [-6] else [((r.brings r.best : Nat) : Int), ((r.best : Nat) : Int)])
def hasIt (r : Km424.Rink) (x k : Nat) : Bool := (r.ask k).booked && (decide ((r.ask k).from_ ≤ x) && decide (x < (r.ask k).to_))
def gWho (r : Km424.Rink) : List Nat → Km424.Rink × List Int
  | [x] => (r, if 1440 ≤ x then [-22] else match (List.range r.asks.length).find? (hasIt r x) with
    | none => [-6]
    | some k => [((k : Nat) : Int), (((r.ask k).to_ - x : Nat) : Int)])
  | _ => (r, [])
def gLook (r : Km424.Rink) : List Nat → Km424.Rink × List Int
  | [k] => (r, match r.asks[k]? with
    | none => [-2]
    | some a => [((a.fee : Nat) : Int), ((a.from_ : Nat) : Int), ((a.to_ : Nat) : Int), ((Km424.bit a.booked : Nat) : Int)])
  | _ => (r, [])
def gSize (r : Km424.Rink) : List Nat → Km424.Rink × List Int
  | [k] => (r, if 10 ≤ k then [-2] else [(((r.size k).all : Nat) : Int), (((r.size k).sharp : Nat) : Int), (((r.size k).blunt : Nat) : Int), (((r.size k).all - ((r.size k).sharp + (r.size k).blunt) : Nat) : Int)])
  | _ => (r, [])
def gNearest (r : Km424.Rink) : List Nat → Km424.Rink × List Int
  | [k] => (r, if 10 ≤ k then [-2] else match r.nearest k with
    | none => [-33]
    | some i => [((i : Nat) : Int)])
  | _ => (r, [])
def gIce (r : Km424.Rink) : List Nat → Km424.Rink × List Int := fun _ => (r, [((r.ice : Nat) : Int), ((r.wet : Nat) : Int), ((r.on_ : Nat) : Int), ((r.time : Nat) : Int)])
def gPower (r : Km424.Rink) : List Nat → Km424.Rink × List Int := fun _ => (r, [((r.cold : Nat) : Int), ((r.heat r.on_ : Nat) : Int), ((r.costs : Nat) : Int)])
def gWater (r : Km424.Rink) : List Nat → Km424.Rink × List Int := fun _ => (r, [((r.laid : Nat) : Int), ((r.ice : Nat) : Int), ((r.wet : Nat) : Int), ((r.shaved : Nat) : Int), ((r.drained : Nat) : Int)])
def gMoney (r : Km424.Rink) : List Nat → Km424.Rink × List Int := fun _ => (r, [((r.spent : Nat) : Int), ((r.brings r.booked : Nat) : Int), ((Km424.ones 8 r.booked : Nat) : Int), ((r.sent : Nat) : Int)])
/-- by the call's number -/
def gAll (n : Nat) (r : Km424.Rink) (l : List Nat) : Km424.Rink × List Int := match n with
  | 1 => gMachine r l
  | 2 => gRun r l
  | 3 => gFlood r l
  | 4 => gShave r l
  | 5 => gDrain r l
  | 6 => gMinutes r l
  | 7 => gGo r l
  | 8 => gOff r l
  | 9 => gPairs r l
  | 10 => gHire r l
  | 11 => gBring r l
  | 12 => gSharpen r l
  | 13 => gGap r l
  | 14 => gAsk r l
  | 15 => gBook r l
  | 16 => gDrop r l
  | 17 => gHard r l
  | 18 => gSoon r l
  | 19 => gBears r l
  | 20 => gCheapest r l
  | 21 => gWould r l
  | 22 => gBest r l
  | 23 => gWho r l
  | 24 => gLook r l
  | 25 => gSize r l
  | 26 => gNearest r l
  | 27 => gIce r l
  | 28 => gPower r l
  | 29 => gWater r l
  | 30 => gMoney r l
  | _ => (r, [])
/-- the bounds of a rink -/
structure Wf (r : Km424.Rink) : Prop where
  each : r.each ≤ 100
  nM : r.machines.length ≤ 6
  nQ : r.asks.length ≤ 8
  nS : r.skates.length = 10
  sk : ∀ s, s ∈ r.skates → s.sharp + s.blunt ≤ s.all ∧ s.all ≤ 100
/-- .. between calls -/
structure Wx (r : Km424.Rink) : Prop where
  wf : Wf r
  mc : ∀ m, m ∈ r.machines → m.cold ≤ 5000
  least : 1 ≤ r.least
  soft : r.on_ = 0 ∨ r.hard = true
/-! ### a refusal leaves a rink, a change is a change -/
def Chg (d : Km424.Desk) (call : Km424.Call) (res : Km424.Rink × List Int) : Prop :=
  ansOf (Km424.act d call).2 = res.2 ∧ ∃ z l, res.2 = z :: l ∧ (0 ≤ z → (Km424.act d call).1 = d.become res.1) ∧ (z < 0 → res.1 = d.now ∧ (Km424.act d call).1 = d)
theorem Chg.no {d : Km424.Desk} {call : Km424.Call} {z : Int} (e : Km424.act d call = (d, Km424.only z)) (h : z < 0) : Chg d call (d.now, [z]) := by
  unfold Chg
  rw [e]
  exact ⟨rfl, z, [], rfl, fun q => absurd h (by omega), fun _ => ⟨rfl, rfl⟩⟩
theorem Chg.yes {d : Km424.Desk} {call : Km424.Call} {r : Km424.Rink} {n : Nat} {l : List Nat} (e : Km424.act d call = (d.become r, ⟨((n : Nat) : Int), l⟩)) : Chg d call (r, ((n : Nat) : Int) :: l.map fun x : Nat => (x : Int)) := by
  unfold Chg
  rw [e]
  exact ⟨rfl, _, _, rfl, fun _ => rfl, fun h => absurd h (by omega)⟩
theorem chg_machine (d : Km424.Desk) (a b : Nat) : Chg d (.machine a b) (gMachine d.now [a, b]) := by
  rw [gMachine]
  by_cases h1 : a = 0 ∨ 5000 < a ∨ 1000 < b
  · rw [if_pos h1]; exact .no (by rw [Km424.act, if_pos h1]) (by decide)
  rw [if_neg h1]
  by_cases h2 : 6 ≤ d.now.machines.length
  · rw [if_pos h2]; exact .no (by rw [Km424.act, if_neg h1]; exact if_pos h2) (by decide)
  rw [if_neg h2]
  exact .yes (l := []) (by rw [Km424.act, if_neg h1]; exact if_neg h2)
theorem chg_run (d : Km424.Desk) (k o : Nat) : Chg d (.run_ k o) (gRun d.now [k, o]) := by
  rw [gRun]
  cases e : d.now.machines[k]? with
  | none => exact .no (by rw [Km424.act, e]) (by decide)
  | some m =>
    dsimp only
    by_cases h1 : 1 < o
    · rw [if_pos h1]; exact .no (by rw [Km424.act, e]; exact if_pos h1) (by decide)
    rw [if_neg h1]
    by_cases h2 : m.on_ = (o == 1)
    · rw [if_pos h2]; exact .no (by rw [Km424.act, e]; dsimp only; rw [if_neg h1, if_pos h2]) (by decide)
    rw [if_neg h2]
    exact .yes (l := []) (by rw [Km424.act, e]; dsimp only; rw [if_neg h1, if_neg h2]; rfl)
theorem chg_flood (d : Km424.Desk) (n : Nat) : Chg d (.flood n) (gFlood d.now [n]) := by
  rw [gFlood]
  by_cases h1 : n = 0
  · rw [if_pos h1]; exact .no (by rw [Km424.act, if_pos h1]) (by decide)
  rw [if_neg h1]
  by_cases h2 : d.now.on_ ≠ 0
  · rw [if_pos h2]; exact .no (by rw [Km424.act, if_neg h1, if_pos h2]) (by decide)
  rw [if_neg h2]
  by_cases h3 : 1000000 < d.now.laid + n
  · rw [if_pos h3]; exact .no (by rw [Km424.act, if_neg h1, if_neg h2]; exact if_pos h3) (by decide)
  rw [if_neg h3]
  exact .yes (l := []) (by rw [Km424.act, if_neg h1, if_neg h2]; exact if_neg h3)
theorem chg_shave (d : Km424.Desk) (n : Nat) : Chg d (.shave n) (gShave d.now [n]) := by
  rw [gShave]
  by_cases h1 : n = 0
  · rw [if_pos h1]; exact .no (by rw [Km424.act, if_pos h1]) (by decide)
  rw [if_neg h1]
  by_cases h2 : d.now.on_ ≠ 0
  · rw [if_pos h2]; exact .no (by rw [Km424.act, if_neg h1, if_pos h2]) (by decide)
  rw [if_neg h2]
  by_cases h3 : d.now.ice < n
  · rw [if_pos h3]; exact .no (by rw [Km424.act, if_neg h1, if_neg h2, if_pos h3]) (by decide)
  rw [if_neg h3]
  exact .yes (l := []) (by rw [Km424.act, if_neg h1, if_neg h2, if_neg h3]; rfl)
theorem chg_drain (d : Km424.Desk) (n : Nat) : Chg d (.drain n) (gDrain d.now [n]) := by
  rw [gDrain]
  by_cases h1 : n = 0
  · rw [if_pos h1]; exact .no (by rw [Km424.act, if_pos h1]) (by decide)
  rw [if_neg h1]
  by_cases h3 : d.now.wet < n
  · rw [if_pos h3]; exact .no (by rw [Km424.act, if_neg h1, if_pos h3]) (by decide)
  rw [if_neg h3]
  exact .yes (l := []) (by rw [Km424.act, if_neg h1, if_neg h3]; rfl)
theorem chg_minutes (d : Km424.Desk) (n : Nat) : Chg d (.minutes n) (gMinutes d.now [n]) := by
  rw [gMinutes]
  by_cases h1 : n = 0 ∨ 1440 < n
  · rw [if_pos h1]; exact .no (by rw [Km424.act]; exact if_pos h1) (by decide)
  rw [if_neg h1]
  by_cases h3 : 50000 < d.now.time + n
  · rw [if_pos h3]; exact .no (by rw [Km424.act]; exact (if_neg h1).trans (if_pos h3)) (by decide)
  rw [if_neg h3]
  exact .yes (l := [_, _, _]) (by rw [Km424.act]; exact (if_neg h1).trans (if_neg h3))
theorem chg_go (d : Km424.Desk) (n : Nat) : Chg d (.go n) (gGo d.now [n]) := by
  rw [gGo]
  by_cases h1 : n = 0
  · rw [if_pos h1]; exact .no (by rw [Km424.act, if_pos h1]) (by decide)
  rw [if_neg h1]
  by_cases h2 : d.now.hard = false
  · rw [if_pos h2]; exact .no (by rw [Km424.act, if_neg h1, if_pos h2]) (by decide)
  rw [if_neg h2]
  by_cases h3 : d.now.room < d.now.on_ + n
  · rw [if_pos h3]; exact .no (by rw [Km424.act, if_neg h1, if_neg h2, if_pos h3]) (by decide)
  rw [if_neg h3]
  exact .yes (l := []) (by rw [Km424.act, if_neg h1, if_neg h2, if_neg h3]; rfl)
theorem chg_off (d : Km424.Desk) (n : Nat) : Chg d (.off n) (gOff d.now [n]) := by
  rw [gOff]
  by_cases h1 : n = 0
  · rw [if_pos h1]; exact .no (by rw [Km424.act, if_pos h1]) (by decide)
  rw [if_neg h1]
  by_cases h3 : d.now.on_ < n
  · rw [if_pos h3]; exact .no (by rw [Km424.act, if_neg h1, if_pos h3]) (by decide)
  rw [if_neg h3]
  exact .yes (l := []) (by rw [Km424.act, if_neg h1, if_neg h3]; rfl)
theorem chg_pairs (d : Km424.Desk) (k n : Nat) : Chg d (.pairs k n) (gPairs d.now [k, n]) := by
  rw [gPairs]
  by_cases h0 : 10 ≤ k
  · rw [if_pos h0]; exact .no (by rw [Km424.act]; exact if_pos h0) (by decide)
  rw [if_neg h0]
  by_cases h1 : n = 0
  · rw [if_pos h1]; exact .no (by rw [Km424.act]; exact (if_neg h0).trans (if_pos h1)) (by decide)
  rw [if_neg h1]
  by_cases h3 : 100 < (d.now.size k).all + n
  · rw [if_pos h3]; exact .no (by rw [Km424.act]; exact (if_neg h0).trans ((if_neg h1).trans (if_pos h3))) (by decide)
  rw [if_neg h3]
  exact .yes (l := []) (by rw [Km424.act]; exact (if_neg h0).trans ((if_neg h1).trans (if_neg h3)))
theorem chg_hire (d : Km424.Desk) (k : Nat) : Chg d (.hire k) (gHire d.now [k]) := by
  rw [gHire]
  by_cases h0 : 10 ≤ k
  · rw [if_pos h0]; exact .no (by rw [Km424.act]; exact if_pos h0) (by decide)
  rw [if_neg h0]
  by_cases h3 : (d.now.size k).sharp = 0
  · rw [if_pos h3]; exact .no (by rw [Km424.act]; exact (if_neg h0).trans (if_pos h3)) (by decide)
  rw [if_neg h3]
  exact .yes (l := []) (by rw [Km424.act]; exact (if_neg h0).trans (if_neg h3))
theorem chg_bring (d : Km424.Desk) (k b : Nat) : Chg d (.bring k b) (gBring d.now [k, b]) := by
  rw [gBring]
  by_cases h0 : 10 ≤ k
  · rw [if_pos h0]; exact .no (by rw [Km424.act]; exact if_pos h0) (by decide)
  rw [if_neg h0]
  by_cases h1 : 1 < b
  · rw [if_pos h1]; exact .no (by rw [Km424.act]; exact (if_neg h0).trans (if_pos h1)) (by decide)
  rw [if_neg h1]
  by_cases h3 : (d.now.size k).all ≤ (d.now.size k).sharp + (d.now.size k).blunt
  · rw [if_pos h3]; exact .no (by rw [Km424.act]; exact (if_neg h0).trans ((if_neg h1).trans (if_pos h3))) (by decide)
  rw [if_neg h3]
  refine .yes (l := []) ?_
  rw [Km424.act]
  refine (if_neg h0).trans ((if_neg h1).trans ((if_neg h3).trans ?_))
  by_cases hb : b = 1
  · simp only [if_pos hb, Km424.only]
    rw [show (d.now.size k).sharp + ((d.now.size k).blunt + 1) = (d.now.size k).sharp + (d.now.size k).blunt + 1 by omega]
  · simp only [if_neg hb, Km424.only]
    rw [show (d.now.size k).sharp + 1 + (d.now.size k).blunt = (d.now.size k).sharp + (d.now.size k).blunt + 1 by omega]
theorem chg_sharpen (d : Km424.Desk) (k n : Nat) : Chg d (.sharpen k n) (gSharpen d.now [k, n]) := by
  rw [gSharpen]
  by_cases h0 : 10 ≤ k
  · rw [if_pos h0]; exact .no (by rw [Km424.act]; exact if_pos h0) (by decide)
  rw [if_neg h0]
  by_cases h1 : n = 0
  · rw [if_pos h1]; exact .no (by rw [Km424.act]; exact (if_neg h0).trans (if_pos h1)) (by decide)
  rw [if_neg h1]
  by_cases h3 : (d.now.size k).blunt < n
  · rw [if_pos h3]; exact .no (by rw [Km424.act]; exact (if_neg h0).trans ((if_neg h1).trans (if_pos h3))) (by decide)
  rw [if_neg h3]
  exact .yes (l := []) (by rw [Km424.act]; exact (if_neg h0).trans ((if_neg h1).trans (if_neg h3)))
theorem chg_gap (d : Km424.Desk) (n : Nat) : Chg d (.gap n) (gGap d.now [n]) := by
  rw [gGap]
  by_cases h1 : 120 < n
  · rw [if_pos h1]; exact .no (by rw [Km424.act, if_pos h1]) (by decide)
  rw [if_neg h1]
  by_cases h2 : d.now.booked ≠ 0
  · rw [if_pos h2]; exact .no (by rw [Km424.act, if_neg h1, if_pos h2]) (by decide)
  rw [if_neg h2]
  exact .yes (l := []) (by rw [Km424.act, if_neg h1, if_neg h2]; rfl)
theorem chg_ask (d : Km424.Desk) (a b f : Nat) : Chg d (.ask a b f) (gAsk d.now [a, b, f]) := by
  rw [gAsk]
  by_cases h1 : b ≤ a ∨ 1440 < b ∨ 100000 < f
  · rw [if_pos h1]; exact .no (by rw [Km424.act]; exact if_pos h1) (by decide)
  rw [if_neg h1]
  by_cases h2 : 8 ≤ d.now.asks.length
  · rw [if_pos h2]; exact .no (by rw [Km424.act]; exact (if_neg h1).trans (if_pos h2)) (by decide)
  rw [if_neg h2]
  exact .yes (l := []) (by rw [Km424.act]; exact (if_neg h1).trans (if_neg h2))
theorem chg_book (d : Km424.Desk) : Chg d .book (gBook d.now []) := by
  rw [gBook]
  by_cases h1 : d.now.asks = []
  · rw [if_pos h1]; exact .no (by rw [Km424.act, if_pos h1]) (by decide)
  rw [if_neg h1]
  exact .yes (l := [_]) (by rw [Km424.act, if_neg h1])
theorem chg_drop (d : Km424.Desk) (k : Nat) : Chg d (.drop k) (gDrop d.now [k]) := by
  rw [gDrop]
  cases e : d.now.asks[k]? with
  | none => exact .no (by rw [Km424.act, e]) (by decide)
  | some a =>
    dsimp only
    by_cases h1 : a.booked = false
    · rw [if_pos h1]; exact .no (by rw [Km424.act, e]; exact if_pos h1) (by decide)
    rw [if_neg h1]
    exact .yes (l := []) (by rw [Km424.act, e]; exact if_neg h1)
end Ir
set_option Elab.async false
set_option maxRecDepth 100000
set_option maxHeartbeats 2000000
namespace Ir
/-! ### sums -/
theorem foldl_add : ∀ (l : List Nat) (k : Nat), l.foldl (· + ·) k = k + l.foldl (· + ·) 0
  | [], k => by simp
  | a :: l, k => by rw [List.foldl_cons, List.foldl_cons, foldl_add l (k + a), foldl_add l (0 + a)]; omega
theorem sum_cons (a : Nat) (l : List Nat) : Km424.sum (a :: l) = a + Km424.sum l := by
  unfold Km424.sum
  rw [List.foldl_cons, foldl_add]
  omega
theorem sum_if {α : Type} (p : α → Bool) (g : α → Nat) : ∀ l : List α, (((l.filter p).map fun m => ((g m : Nat) : Int))).sum = ((Km424.sum (l.map fun m => if p m = true then g m else 0) : Nat) : Int)
  | [] => rfl
  | a :: l => by
    rw [List.map_cons, sum_cons, List.filter_cons]
    have ih := sum_if p g l
    cases h : p a with
    | true =>
      simp only [if_true, List.map_cons, List.sum_cons, ih]
      omega
    | false =>
      simp only [Bool.false_eq_true, if_false, ih]
      omega
/-! ### the bounds are kept -/
theorem Wf.lenS {r : Km424.Rink} (h : Wf r) {k : Nat} (hk : ¬ 10 ≤ k) : (r.size k).sharp + (r.size k).blunt ≤ (r.size k).all ∧ (r.size k).all ≤ 100 := by
  have hl : k < r.skates.length := by rw [h.nS]; omega
  have e : r.size k = r.skates[k] := by unfold Km424.Rink.size; simp [List.getD_eq_getElem?_getD, hl]
  rw [e]
  exact h.sk _ (List.getElem_mem hl)
theorem Wx.skates {r : Km424.Rink} (h : Wx r) {k : Nat} {s : Km424.Skates} (h1 : s.sharp + s.blunt ≤ s.all) (h2 : s.all ≤ 100) : Wx (r.setSkates k s) := by
  refine ⟨⟨h.wf.each, h.wf.nM, h.wf.nQ, ?_, ?_⟩, h.mc, h.least, h.soft⟩
  · show (r.skates.set k s).length = 10
    rw [List.length_set]; exact h.wf.nS
  · intro t ht
    rcases List.mem_or_eq_of_mem_set ht with ht | rfl
    · exact h.wf.sk t ht
    · exact ⟨h1, h2⟩
theorem hard_is {r : Km424.Rink} : r.hard = true ↔ r.wet = 0 ∧ r.least ≤ r.ice := by
  unfold Km424.Rink.hard
  simp
theorem wx_machine {r : Km424.Rink} (h : Wx r) (a b : Nat) : Wx (gMachine r [a, b]).1 := by
  rw [gMachine]
  split
  · exact h
  split
  · exact h
  · rename_i h1 h2
    refine ⟨⟨h.wf.each, by simp; omega, h.wf.nQ, h.wf.nS, h.wf.sk⟩, fun m hm => ?_, h.least, h.soft⟩
    rcases List.mem_append.mp hm with hm | hm
    · exact h.mc m hm
    · obtain rfl := List.mem_singleton.mp hm
      simp only
      omega
theorem wx_run {r : Km424.Rink} (h : Wx r) (a b : Nat) : Wx (gRun r [a, b]).1 := by
  rw [gRun]
  split
  · exact h
  split
  · exact h
  split
  · exact h
  · rename_i m0 h0 _ _
    refine ⟨⟨h.wf.each, by simpa using h.wf.nM, h.wf.nQ, h.wf.nS, h.wf.sk⟩, fun m hm => ?_, h.least, h.soft⟩
    rcases List.mem_or_eq_of_mem_set hm with hm | rfl
    · exact h.mc m hm
    · exact h.mc m0 (List.mem_of_getElem? h0)
theorem sum_le {b : Nat} : ∀ l : List Nat, (∀ x, x ∈ l → x ≤ b) → Km424.sum l ≤ l.length * b
  | [], _ => Nat.zero_le _
  | a :: l, h => by
    rw [sum_cons, List.length_cons, Nat.succ_mul]
    have := sum_le l fun x hx => h x (List.mem_cons_of_mem _ hx)
    have := h a List.mem_cons_self
    omega
theorem cold_le {r : Km424.Rink} (h : Wx r) : r.cold ≤ 30000 := by
  unfold Km424.Rink.cold
  have h1 := sum_le (b := 5000) (r.machines.map fun m => if m.on_ = true then m.cold else 0) fun x hx => by
    obtain ⟨m, hm, rfl⟩ := List.mem_map.mp hx
    have := h.mc m hm
    split <;> omega
  rw [List.length_map] at h1
  have := h.wf.nM
  have : r.machines.length * 5000 ≤ 6 * 5000 := Nat.mul_le_mul_right _ this
  omega
theorem wx_flood {r : Km424.Rink} (h : Wx r) (n : Nat) : Wx (gFlood r [n]).1 := by
  rw [gFlood]
  split
  · exact h
  split
  · exact h
  · split
    · exact h
    · exact ⟨⟨h.wf.each, h.wf.nM, h.wf.nQ, h.wf.nS, h.wf.sk⟩, h.mc, h.least, .inl (by simp only; omega)⟩
theorem wx_shave {r : Km424.Rink} (h : Wx r) (n : Nat) : Wx (gShave r [n]).1 := by
  rw [gShave]
  split
  · exact h
  split
  · exact h
  · split
    · exact h
    · exact ⟨⟨h.wf.each, h.wf.nM, h.wf.nQ, h.wf.nS, h.wf.sk⟩, h.mc, h.least, .inl (by simp only; omega)⟩
theorem wx_drain {r : Km424.Rink} (h : Wx r) (n : Nat) : Wx (gDrain r [n]).1 := by
  rw [gDrain]
  split
  · exact h
  split
  · exact h
  · rename_i h1 h2
    refine ⟨⟨h.wf.each, h.wf.nM, h.wf.nQ, h.wf.nS, h.wf.sk⟩, h.mc, h.least, .inl ?_⟩
    rcases h.soft with q | q
    · exact q
    · have := (hard_is.mp q).1
      omega
theorem minute_wx {r : Km424.Rink} (h : Wx r) : Wx r.minute := by
  unfold Km424.Rink.minute
  dsimp only
  split
  · exact ⟨⟨h.wf.each, h.wf.nM, h.wf.nQ, h.wf.nS, h.wf.sk⟩, h.mc, h.least, .inl rfl⟩
  · rename_i q
    exact ⟨⟨h.wf.each, h.wf.nM, h.wf.nQ, h.wf.nS, h.wf.sk⟩, h.mc, h.least, .inr (by simpa using q)⟩
theorem minutes_wx : ∀ (n : Nat) {r : Km424.Rink}, Wx r → Wx (Km424.Rink.minutes n r)
  | 0, _, h => h
  | n + 1, _, h => minutes_wx n (minute_wx h)
theorem wx_minutes {r : Km424.Rink} (h : Wx r) (n : Nat) : Wx (gMinutes r [n]).1 := by
  rw [gMinutes]
  split
  · exact h
  split
  · exact h
  · exact minutes_wx n h
theorem wx_go {r : Km424.Rink} (h : Wx r) (n : Nat) : Wx (gGo r [n]).1 := by
  rw [gGo]
  split
  · exact h
  split
  · exact h
  split
  · exact h
  · rename_i q _
    exact ⟨⟨h.wf.each, h.wf.nM, h.wf.nQ, h.wf.nS, h.wf.sk⟩, h.mc, h.least, .inr (show r.hard = true by simpa using q)⟩
theorem wx_off {r : Km424.Rink} (h : Wx r) (n : Nat) : Wx (gOff r [n]).1 := by
  rw [gOff]
  split
  · exact h
  split
  · exact h
  · refine ⟨⟨h.wf.each, h.wf.nM, h.wf.nQ, h.wf.nS, h.wf.sk⟩, h.mc, h.least, ?_⟩
    rcases h.soft with q | q
    · exact .inl (by simp only; omega)
    · exact .inr q
theorem wx_pairs {r : Km424.Rink} (h : Wx r) (k n : Nat) : Wx (gPairs r [k, n]).1 := by
  rw [gPairs]
  split
  · exact h
  rename_i hk
  obtain ⟨b1, b2⟩ := h.wf.lenS hk
  split
  · exact h
  split
  · exact h
  · exact h.skates (by simp only; omega) (by simp only; omega)
theorem wx_hire {r : Km424.Rink} (h : Wx r) (k : Nat) : Wx (gHire r [k]).1 := by
  rw [gHire]
  split
  · exact h
  rename_i hk
  obtain ⟨b1, b2⟩ := h.wf.lenS hk
  split
  · exact h
  · exact h.skates (by simp only; omega) (by simp only; omega)
theorem wx_bring {r : Km424.Rink} (h : Wx r) (k b : Nat) : Wx (gBring r [k, b]).1 := by
  rw [gBring]
  split
  · exact h
  rename_i hk
  obtain ⟨b1, b2⟩ := h.wf.lenS hk
  split
  · exact h
  split
  · exact h
  · by_cases hb : b = 1
    · simp only [if_pos hb]
      exact h.skates (by simp only; omega) (by simp only; omega)
    · simp only [if_neg hb]
      exact h.skates (by simp only; omega) (by simp only; omega)
theorem wx_sharpen {r : Km424.Rink} (h : Wx r) (k n : Nat) : Wx (gSharpen r [k, n]).1 := by
  rw [gSharpen]
  split
  · exact h
  rename_i hk
  obtain ⟨b1, b2⟩ := h.wf.lenS hk
  split
  · exact h
  split
  · exact h
  · exact h.skates (by simp only; omega) (by simp only; omega)
theorem wx_gap {r : Km424.Rink} (h : Wx r) (n : Nat) : Wx (gGap r [n]).1 := by
  rw [gGap]
  split
  · exact h
  split
  · exact h
  · exact ⟨⟨h.wf.each, h.wf.nM, h.wf.nQ, h.wf.nS, h.wf.sk⟩, h.mc, h.least, h.soft⟩
theorem wx_ask {r : Km424.Rink} (h : Wx r) (a b f : Nat) : Wx (gAsk r [a, b, f]).1 := by
  rw [gAsk]
  split
  · exact h
  split
  · exact h
  · exact ⟨⟨h.wf.each, h.wf.nM, by simp; omega, h.wf.nS, h.wf.sk⟩, h.mc, h.least, h.soft⟩
theorem wx_book {r : Km424.Rink} (h : Wx r) : Wx (gBook r []).1 := by
  rw [gBook]
  split
  · exact h
  · exact ⟨⟨h.wf.each, h.wf.nM, by simpa using h.wf.nQ, h.wf.nS, h.wf.sk⟩, h.mc, h.least, h.soft⟩
theorem wx_drop {r : Km424.Rink} (h : Wx r) (k : Nat) : Wx (gDrop r [k]).1 := by
  rw [gDrop]
  split
  · exact h
  split
  · exact h
  · exact ⟨⟨h.wf.each, h.wf.nM, by simpa using h.wf.nQ, h.wf.nS, h.wf.sk⟩, h.mc, h.least, h.soft⟩
/-! ### in how many minutes it's hard -/
theorem minute_f (r : Km424.Rink) : r.minute.ice = r.ice + min r.wet (r.cold - r.heat r.on_) - min r.ice (r.heat r.on_ - r.cold) ∧ r.minute.wet = r.wet - min r.wet (r.cold - r.heat r.on_) + min r.ice (r.heat r.on_ - r.cold) ∧
    r.minute.least = r.least ∧ r.minute.base = r.base ∧ r.minute.machines = r.machines ∧ (r.on_ = 0 → r.minute.on_ = 0) := by
  unfold Km424.Rink.minute
  dsimp only
  split
  · exact ⟨rfl, rfl, rfl, rfl, rfl, fun _ => rfl⟩
  · exact ⟨rfl, rfl, rfl, rfl, rfl, fun h => h⟩
theorem heat0 {r : Km424.Rink} (h : r.on_ = 0) : r.heat r.on_ = r.base := by
  unfold Km424.Rink.heat
  rw [h]
  omega
theorem hard_not {r : Km424.Rink} (h : r.hard = false) : ¬ (r.wet = 0 ∧ r.least ≤ r.ice) := fun q => by
  rw [hard_is.mpr q] at h
  cases h
theorem not_hard {r : Km424.Rink} (h : ¬ (r.wet = 0 ∧ r.least ≤ r.ice)) : r.hard = false := by
  cases e : r.hard with
  | false => rfl
  | true => exact absurd (hard_is.mp e) h
theorem go_never : ∀ (f n : Nat) (r : Km424.Rink), r.on_ = 0 → r.hard = false → (r.cold ≤ r.base ∨ r.ice + r.wet < r.least) → Km424.hardGo f n r = none
  | 0, _, _, _, _, _ => rfl
  | f + 1, n, r, h0, hs, hc => by
    rw [Km424.hardGo, if_neg (by rw [hs]; decide)]
    obtain ⟨e1, e2, e3, e4, e5, e6⟩ := minute_f r
    rw [heat0 h0] at e1 e2
    have nh := hard_not hs
    have ec : r.minute.cold = r.cold := by unfold Km424.Rink.cold; rw [e5]
    refine go_never f (n + 1) r.minute (e6 h0) (not_hard ?_) ?_
    · rw [e1, e2, e3]
      omega
    · rw [ec, e4, e1, e2, e3]
      omega
theorem ceil_one {a f : Nat} (h1 : 0 < a) (h2 : a ≤ f) : (a + f - 1) / f = 1 := by
  have : a + f - 1 = (a - 1) + f := by omega
  rw [this, Nat.add_div_right _ (by omega), Nat.div_eq_of_lt (by omega)]
theorem ceil_step {a f : Nat} (hf : 0 < f) (h2 : f < a) : (a + f - 1) / f = (a - f + f - 1) / f + 1 := by
  have : a + f - 1 = (a - f + f - 1) + f := by omega
  rw [this, Nat.add_div_right _ hf]
theorem go_soon : ∀ (f n : Nat) (r : Km424.Rink), r.on_ = 0 → r.hard = false → r.base < r.cold → r.least ≤ r.ice + r.wet → Km424.hardGo f n r = if (r.wet + (r.cold - r.base) - 1) / (r.cold - r.base) < f then some (n + (r.wet + (r.cold - r.base) - 1) / (r.cold - r.base)) else none
  | 0, _, _, _, _, _, _ => by simp [Km424.hardGo]
  | f + 1, n, r, h0, hs, hc, ht => by
    rw [Km424.hardGo, if_neg (by rw [hs]; decide)]
    obtain ⟨e1, e2, e3, e4, e5, e6⟩ := minute_f r
    rw [heat0 h0] at e1 e2
    have nh := hard_not hs
    have ec : r.minute.cold = r.cold := by unfold Km424.Rink.cold; rw [e5]
    have hw : 0 < r.wet := by omega
    by_cases hl : r.wet ≤ r.cold - r.base
    · have e := ceil_one hw hl
      rw [e]
      have hh : r.minute.hard = true := hard_is.mpr (by rw [e1, e2, e3]; omega)
      cases f with
      | zero => simp [Km424.hardGo]
      | succ f =>
        rw [Km424.hardGo, if_pos hh, if_pos (by omega)]
    · have hs' : r.minute.hard = false := not_hard (by rw [e1, e2, e3]; omega)
      have ih := go_soon f (n + 1) r.minute (e6 h0) hs' (by rw [ec, e4]; exact hc) (by rw [e1, e2, e3]; omega)
      have ew : r.minute.wet = r.wet - (r.cold - r.base) := by rw [e2]; omega
      rw [ih, ec, e4, ew, ceil_step (a := r.wet) (by omega) (by omega)]
      generalize (r.wet - (r.cold - r.base) + (r.cold - r.base) - 1) / (r.cold - r.base) = q
      by_cases hq : q < f
      · rw [if_pos hq, if_pos (by omega)]
        congr 1
        omega
      · rw [if_neg hq, if_neg (by omega)]
theorem soon_is {r : Km424.Rink} (h : Wx r) : (match r.hardIn with
    | none => [(-33 : Int)]
    | some n => [((n : Nat) : Int)]) = match soonN r with
    | none => [(-33 : Int)]
    | some m => if 1440 < m then [-33] else [((m : Nat) : Int)] := by
  unfold soonN Km424.Rink.hardIn
  cases hh : r.hard with
  | true =>
    have e : Km424.hardGo 1441 0 r = some 0 := by rw [Km424.hardGo, if_pos hh]
    rw [e]
    rfl
  | false =>
    have h0 : r.on_ = 0 := by
      rcases h.soft with q | q
      · exact q
      · rw [hh] at q; cases q
    rw [if_neg (by decide), heat0 h0]
    by_cases hc : r.cold ≤ r.base ∨ r.ice + r.wet < r.least
    · rw [if_pos hc, go_never 1441 0 r h0 hh hc]
    · rw [if_neg hc, go_soon 1441 0 r h0 hh (by omega) (by omega)]
      generalize (r.wet + (r.cold - r.base) - 1) / (r.cold - r.base) = q
      by_cases hq : q < 1441
      · rw [if_pos hq]
        dsimp only
        rw [if_neg (by omega), Nat.zero_add]
      · rw [if_neg hq]
        dsimp only
        rw [if_pos (by omega)]
/-! ### how many it bears -/
theorem count_le (q : Nat) : ∀ m : Nat, ((List.range (m + 1)).filter fun n => n != 0 && decide (n ≤ q)).length = min m q
  | 0 => by simp
  | m + 1 => by
    rw [List.range_succ, List.filter_append, List.length_append, count_le q m]
    by_cases h : m + 1 ≤ q
    · simp [h]; omega
    · simp [h]; omega
theorem bears_is {r : Km424.Rink} (h : ¬ r.cold < r.base) : r.bears = if r.each = 0 then r.room else min r.room ((r.cold - r.base) / r.each) := by
  unfold Km424.Rink.bears Km424.Rink.heat
  by_cases he : r.each = 0
  · rw [if_pos he]
    have : ((List.range (r.room + 1)).filter fun n => n != 0 && decide (r.base + n * r.each ≤ r.cold)) = ((List.range (r.room + 1)).filter fun n => n != 0 && decide (n ≤ r.room)) := by
      refine List.filter_congr fun n hn => ?_
      have := List.mem_range.mp hn
      have e1 : decide (r.base + n * r.each ≤ r.cold) = true := decide_eq_true (by rw [he]; omega)
      have e2 : decide (n ≤ r.room) = true := decide_eq_true (by omega)
      rw [e1, e2]
    rw [this, count_le]
    omega
  · rw [if_neg he]
    have : ((List.range (r.room + 1)).filter fun n => n != 0 && decide (r.base + n * r.each ≤ r.cold)) = ((List.range (r.room + 1)).filter fun n => n != 0 && decide (n ≤ (r.cold - r.base) / r.each)) := by
      refine List.filter_congr fun n hn => ?_
      have e : (r.base + n * r.each ≤ r.cold) ↔ (n ≤ (r.cold - r.base) / r.each) := by
        rw [Nat.le_div_iff_mul_le (by omega)]
        omega
      simp only [e]
    rw [this, count_le]
/-! ### booked sessions as bits -/
def bitsOf (p : Nat → Bool) (n : Nat) : Nat := (List.range n).foldl (fun w k => if p k = true then w + 2 ^ k else w) 0
theorem bitsOf_succ (p : Nat → Bool) (n : Nat) : bitsOf p (n + 1) = if p n = true then bitsOf p n + 2 ^ n else bitsOf p n := by
  unfold bitsOf
  rw [List.range_succ, List.foldl_append]
  rfl
theorem bitsOf_lt (p : Nat → Bool) : ∀ n, bitsOf p n < 2 ^ n
  | 0 => by simp [bitsOf]
  | n + 1 => by
    have := bitsOf_lt p n
    rw [bitsOf_succ, Nat.pow_succ]
    split <;> omega
theorem or_pow {k v : Nat} (hv : v < 2 ^ k) : v ||| 2 ^ k = v + 2 ^ k := by
  have h := Nat.two_pow_add_eq_or_of_lt hv 1
  rw [Nat.mul_one] at h
  rw [Nat.or_comm, ← h, Nat.add_comm]
theorem bitsOf_bit (p : Nat → Bool) : ∀ n k, (bitsOf p n).testBit k = (decide (k < n) && p k)
  | 0, k => by simp [bitsOf]
  | n + 1, k => by
    rw [bitsOf_succ]
    have ih := bitsOf_bit p n k
    by_cases hk : k = n
    · subst hk
      cases hp : p k with
      | true => rw [if_pos rfl, ← or_pow (bitsOf_lt p k), Nat.testBit_or, Nat.testBit_two_pow_self]; simp
      | false => rw [if_neg (by decide), ih, hp]; simp
    · have e : decide (k < n + 1) = decide (k < n) := by
        have : (k < n + 1) ↔ (k < n) := by omega
        simp only [this]
      rw [e, ← ih]
      split
      · rw [← or_pow (bitsOf_lt p n), Nat.testBit_or, Nat.testBit_two_pow_of_ne (fun q => hk q.symm), Bool.or_false]
      · rfl
theorem map_range {α β : Type} (d : α) (f : α → β) (l : List α) : (List.range l.length).map (fun k => f (l.getD k d)) = l.map f := by
  refine List.ext_getElem? fun i => ?_
  rw [List.getElem?_map, List.getElem?_map]
  by_cases h : i < l.length
  · simp [h, List.getD_eq_getElem?_getD]
  · simp [h]
theorem filter_range {α : Type} (d : α) (p : α → Bool) : ∀ l : List α, ((List.range l.length).filter (fun k => p (l.getD k d))).length = (l.filter p).length := fun l => by
  have h := map_range d p l
  have e1 : ((List.range l.length).filter (fun k => p (l.getD k d))).length = (((List.range l.length).map (fun k => p (l.getD k d))).filter id).length := by rw [List.filter_map, List.length_map]; rfl
  have e2 : (l.filter p).length = ((l.map p).filter id).length := by rw [List.filter_map, List.length_map]; rfl
  rw [e1, e2, h]
theorem booked_bit (r : Km424.Rink) (k : Nat) : r.booked.testBit k = (decide (k < r.asks.length) && (r.ask k).booked) := bitsOf_bit (fun k => (r.ask k).booked) r.asks.length k
theorem money_fees (r : Km424.Rink) : r.brings r.booked = Km424.sum (r.asks.map fun a => if a.booked = true then a.fee else 0) := by
  unfold Km424.Rink.brings
  rw [← map_range (⟨0, 0, 0, false⟩ : Km424.Ask) (fun a => if a.booked = true then a.fee else 0) r.asks]
  congr 1
  refine List.map_congr_left fun k hk => ?_
  rw [booked_bit, decide_eq_true (List.mem_range.mp hk), Bool.true_and]
  rfl
theorem money_many {r : Km424.Rink} (h : r.asks.length ≤ 8) : Km424.ones 8 r.booked = (r.asks.filter fun a => a.booked).length := by
  unfold Km424.ones
  rw [← filter_range (⟨0, 0, 0, false⟩ : Km424.Ask) (fun a => a.booked) r.asks]
  have e : (8 : Nat) = r.asks.length + (8 - r.asks.length) := by omega
  rw [e, List.range_add, List.filter_append, List.length_append]
  have z : (List.filter (fun i => r.booked.testBit i) (List.map (fun x => r.asks.length + x) (List.range (8 - r.asks.length)))) = [] := by
    rw [List.filter_eq_nil_iff]
    intro x hx
    obtain ⟨y, _, rfl⟩ := List.mem_map.mp hx
    rw [booked_bit, decide_eq_false (by omega)]
    simp
  rw [z, List.length_nil, Nat.add_zero]
  congr 1
  refine List.filter_congr fun k hk => ?_
  rw [booked_bit, decide_eq_true (List.mem_range.mp hk), Bool.true_and]
  rfl
/-! ### machines of a set -/
abbrev noMach : Km424.Machine := ⟨0, 0, false⟩
theorem running_is (r : Km424.Rink) (w : Nat) : (r.running w).machines = (List.range r.machines.length).map fun k => { r.machines.getD k noMach with on_ := w.testBit k } := by
  unfold Km424.Rink.running
  dsimp only
  have : ∀ l : List Nat, (∀ k, k ∈ l → k < r.machines.length) → (l.filterMap fun i => r.machines[i]?.map fun m => ({ m with on_ := w.testBit i } : Km424.Machine)) = l.map fun k => { r.machines.getD k noMach with on_ := w.testBit k } := by
    intro l
    induction l with
    | nil => intro _; rfl
    | cons k l ih =>
      intro hl
      have hk : k < r.machines.length := hl k List.mem_cons_self
      rw [List.map_cons, ← ih fun j hj => hl j (List.mem_cons_of_mem _ hj), List.filterMap_cons]
      simp [List.getElem?_eq_getElem hk, List.getD_eq_getElem?_getD]
  exact this _ fun k hk => List.mem_range.mp hk
theorem cold_set (r : Km424.Rink) (w : Nat) : (r.running w).cold = Km424.sum ((List.range r.machines.length).map fun k => if w.testBit k = true then (r.machines.getD k noMach).cold else 0) := by
  unfold Km424.Rink.cold
  rw [running_is, List.map_map]
  rfl
theorem cost_set (r : Km424.Rink) (w : Nat) : (r.running w).costs = Km424.sum ((List.range r.machines.length).map fun k => if w.testBit k = true then (r.machines.getD k noMach).cost else 0) := by
  unfold Km424.Rink.costs
  rw [running_is, List.map_map]
  rfl
/-! ### calls that only ask -/
def Askd (d : Km424.Desk) (call : Km424.Call) (res : Km424.Rink × List Int) : Prop := Km424.act d call = (d, (Km424.act d call).2) ∧ res = (d.now, ansOf (Km424.act d call).2)
theorem ask_hard (d : Km424.Desk) : Askd d .hard (gHard d.now []) := ⟨rfl, rfl⟩
theorem ask_soon (d : Km424.Desk) (h : Wx d.now) : Askd d .hardIn (gSoon d.now []) := by
  refine ⟨rfl, Prod.ext rfl ((soon_is h).symm.trans ?_)⟩
  show _ = ansOf (match d.now.hardIn with
      | none => Km424.only (-33)
      | some n => Km424.only ((n : Nat) : Int))
  cases d.now.hardIn <;> rfl
theorem ask_bears (d : Km424.Desk) : Askd d .bears (gBears d.now []) := by
  refine ⟨rfl, ?_⟩
  unfold gBears
  show (d.now, _) = (d.now, ansOf (if d.now.cold < d.now.base then Km424.only (-33) else Km424.only ((d.now.bears : Nat) : Int)))
  split <;> rfl
theorem ask_cheapest (d : Km424.Desk) (n : Nat) : Askd d (.cheapest n) (gCheapest d.now [n]) := by
  refine ⟨rfl, ?_⟩
  rw [gCheapest]
  show (d.now, _) = (d.now, ansOf (if 500 < n then Km424.only (-22) else match d.now.cheapest n with
      | none => Km424.only (-33)
      | some (v, w) => ⟨((v : Nat) : Int), [w, (d.now.running w).cold]⟩))
  split
  · rfl
  · cases d.now.cheapest n with
    | none => rfl
    | some p => rfl
theorem ask_would (d : Km424.Desk) (w : Nat) : Askd d (.would w) (gWould d.now [w]) := by
  refine ⟨rfl, ?_⟩
  rw [gWould]
  show (d.now, _) = (d.now, ansOf (if 2 ^ d.now.asks.length ≤ w then Km424.only (-22) else ⟨((Km424.bit (d.now.fits w) : Nat) : Int), [d.now.brings w]⟩))
  split <;> rfl
theorem ask_best (d : Km424.Desk) : Askd d .best (gBest d.now []) := by
  refine ⟨rfl, ?_⟩
  unfold gBest
  show (d.now, _) = (d.now, ansOf (if d.now.asks = [] then Km424.only (-6) else ⟨((d.now.brings d.now.best : Nat) : Int), [d.now.best]⟩))
  split <;> rfl
theorem ask_who (d : Km424.Desk) (x : Nat) : Askd d (.who x) (gWho d.now [x]) := by
  refine ⟨rfl, ?_⟩
  rw [gWho]
  show (d.now, _) = (d.now, ansOf (if 1440 ≤ x then Km424.only (-22) else match (List.range d.now.asks.length).find? (hasIt d.now x) with
      | none => Km424.only (-6)
      | some k => ⟨((k : Nat) : Int), [(d.now.ask k).to_ - x]⟩))
  split
  · rfl
  · cases (List.range d.now.asks.length).find? (hasIt d.now x) <;> rfl
theorem ask_look (d : Km424.Desk) (k : Nat) : Askd d (.look k) (gLook d.now [k]) := by
  refine ⟨rfl, ?_⟩
  rw [gLook]
  show (d.now, _) = (d.now, ansOf (match d.now.asks[k]? with
      | none => Km424.only (-2)
      | some a => ⟨((a.fee : Nat) : Int), [a.from_, a.to_, Km424.bit a.booked]⟩))
  cases d.now.asks[k]? <;> rfl
theorem ask_size (d : Km424.Desk) (k : Nat) : Askd d (.size k) (gSize d.now [k]) := by
  refine ⟨rfl, ?_⟩
  rw [gSize]
  show (d.now, _) = (d.now, ansOf (if 10 ≤ k then Km424.only (-2) else ⟨(((d.now.size k).all : Nat) : Int), [(d.now.size k).sharp, (d.now.size k).blunt, (d.now.size k).all - ((d.now.size k).sharp + (d.now.size k).blunt)]⟩))
  split <;> rfl
theorem ask_nearest (d : Km424.Desk) (k : Nat) : Askd d (.nearest k) (gNearest d.now [k]) := by
  refine ⟨rfl, ?_⟩
  rw [gNearest]
  show (d.now, _) = (d.now, ansOf (if 10 ≤ k then Km424.only (-2) else match d.now.nearest k with
      | none => Km424.only (-33)
      | some i => Km424.only ((i : Nat) : Int)))
  split
  · rfl
  · cases d.now.nearest k <;> rfl
theorem ask_ice (d : Km424.Desk) : Askd d .ice (gIce d.now []) := ⟨rfl, rfl⟩
theorem ask_power (d : Km424.Desk) : Askd d .power (gPower d.now []) := ⟨rfl, rfl⟩
theorem ask_water (d : Km424.Desk) : Askd d .water (gWater d.now []) := ⟨rfl, rfl⟩
theorem ask_money (d : Km424.Desk) : Askd d .money (gMoney d.now []) := ⟨rfl, rfl⟩
end Ir
set_option Elab.async false
set_option maxRecDepth 100000
set_option maxHeartbeats 2000000
namespace Ir
/-! ### the best day: all sets that fit, as the program lists them -/
abbrev noAsk : Km424.Ask := ⟨0, 0, 0, false⟩
def fitsN (g : Nat) (l : List Km424.Ask) (k w : Nat) : Bool := (List.range k).all fun i => (List.range i).all fun j => !(w.testBit i && w.testBit j) || Km424.apart g (l.getD i noAsk) (l.getD j noAsk)
def bringsN (l : List Km424.Ask) (k w : Nat) : Nat := Km424.sum ((List.range k).map fun i => if w.testBit i = true then (l.getD i noAsk).fee else 0)
theorem fits_is (r : Km424.Rink) (w : Nat) : r.fits w = fitsN r.gap r.asks r.asks.length w := rfl
theorem brings_is (r : Km424.Rink) (w : Nat) : r.brings w = bringsN r.asks r.asks.length w := rfl
def clashN (g : Nat) (l : List Km424.Ask) (k m : Nat) : Nat := (List.range m).foldl (fun b o => if Km424.apart g (l.getD k noAsk) (l.getD o noAsk) = true then b else b ||| 2 ^ o) 0
theorem clash_succ (g : Nat) (l : List Km424.Ask) (k m : Nat) : clashN g l k (m + 1) = if Km424.apart g (l.getD k noAsk) (l.getD m noAsk) = true then clashN g l k m else clashN g l k m ||| 2 ^ m := by
  unfold clashN
  rw [List.range_succ, List.foldl_append]
  rfl
theorem clash_bit (g : Nat) (l : List Km424.Ask) (k : Nat) : ∀ m j, (clashN g l k m).testBit j = (decide (j < m) && !Km424.apart g (l.getD k noAsk) (l.getD j noAsk))
  | 0, j => by simp [clashN]
  | m + 1, j => by
    rw [clash_succ]
    have ih := clash_bit g l k m j
    by_cases hj : j = m
    · subst hj
      cases h : Km424.apart g (l.getD k noAsk) (l.getD j noAsk) with
      | true => simp [h, ih]
      | false => simp [h, ih, Nat.testBit_or, Nat.testBit_two_pow_self]
    · have e : decide (j < m + 1) = decide (j < m) := by
        have : (j < m + 1) ↔ (j < m) := by omega
        simp [this]
      rw [e, ← ih]
      split
      · rfl
      · rw [Nat.testBit_or, Nat.testBit_two_pow_of_ne (fun q => hj q.symm), Bool.or_false]
def daysN (g : Nat) (l : List Km424.Ask) : Nat → List (Nat × Nat)
  | 0 => [(0, 0)]
  | k + 1 => daysN g l k ++ ((daysN g l k).filter fun d => d.1 &&& clashN g l k k == 0).map fun d => (d.1 ||| 2 ^ k, d.2 + (l.getD k noAsk).fee)
theorem sum_snoc' (l : List Nat) (a : Nat) : Km424.sum (l ++ [a]) = Km424.sum l + a := by
  unfold Km424.sum
  rw [List.foldl_append]
  rfl
theorem brings_succ (l : List Km424.Ask) (k w : Nat) : bringsN l (k + 1) w = bringsN l k w + if w.testBit k = true then (l.getD k noAsk).fee else 0 := by
  unfold bringsN
  rw [List.range_succ, List.map_append, List.map_singleton, sum_snoc']
theorem fits_succ (g : Nat) (l : List Km424.Ask) (k w : Nat) : fitsN g l (k + 1) w = (fitsN g l k w && (List.range k).all fun j => !(w.testBit k && w.testBit j) || Km424.apart g (l.getD k noAsk) (l.getD j noAsk)) := by
  unfold fitsN
  rw [List.range_succ, List.all_append, List.all_cons, List.all_nil, Bool.and_true]
theorem brings_congr (l : List Km424.Ask) {k u v : Nat} (h : ∀ i, i < k → u.testBit i = v.testBit i) : bringsN l k u = bringsN l k v := by
  unfold bringsN
  congr 1
  refine List.map_congr_left fun i hi => ?_
  rw [h i (List.mem_range.mp hi)]
theorem fits_congr (g : Nat) (l : List Km424.Ask) {k u v : Nat} (h : ∀ i, i < k → u.testBit i = v.testBit i) : fitsN g l k u = fitsN g l k v := by
  unfold fitsN
  rw [Bool.eq_iff_iff]
  simp only [List.all_eq_true, List.mem_range]
  constructor
  · intro q i hi j hj
    have := q i hi j hj
    rw [h i hi, h j (by omega)] at this
    exact this
  · intro q i hi j hj
    have := q i hi j hj
    rw [← h i hi, ← h j (by omega)] at this
    exact this
theorem bit_up {k v : Nat} (hv : v < 2 ^ k) : (v + 2 ^ k).testBit k = true ∧ ∀ i, i < k → (v + 2 ^ k).testBit i = v.testBit i := by
  rw [← or_pow hv]
  refine ⟨?_, fun i hi => ?_⟩
  · rw [Nat.testBit_or, Nat.testBit_two_pow_self, Bool.or_true]
  · rw [Nat.testBit_or, Nat.testBit_two_pow_of_ne (by omega), Bool.or_false]
theorem and_clash (g : Nat) (l : List Km424.Ask) (k : Nat) (v : Nat) : (v &&& clashN g l k k == 0) = (List.range k).all fun j => !v.testBit j || Km424.apart g (l.getD k noAsk) (l.getD j noAsk) := by
  rw [Bool.eq_iff_iff]
  simp only [List.all_eq_true, List.mem_range, beq_iff_eq]
  constructor
  · intro e j hj
    have b : (v &&& clashN g l k k).testBit j = false := by rw [e]; exact Nat.zero_testBit j
    rw [Nat.testBit_and, clash_bit] at b
    have : decide (j < k) = true := decide_eq_true hj
    rw [this, Bool.true_and] at b
    cases h1 : v.testBit j <;> cases h2 : Km424.apart g (l.getD k noAsk) (l.getD j noAsk) <;> simp_all
  · intro q
    refine Nat.eq_of_testBit_eq fun j => ?_
    rw [Nat.testBit_and, clash_bit, Nat.zero_testBit]
    by_cases hj : j < k
    · have := q j hj
      cases h1 : v.testBit j <;> cases h2 : Km424.apart g (l.getD k noAsk) (l.getD j noAsk) <;> simp_all
    · simp [hj]
theorem range_two (k : Nat) : List.range (2 ^ (k + 1)) = List.range (2 ^ k) ++ (List.range (2 ^ k)).map (· + 2 ^ k) := by
  rw [Nat.pow_succ, Nat.mul_two, List.range_add]
  congr 1
  refine List.map_congr_left fun i _ => Nat.add_comm _ _
theorem days_all (g : Nat) (l : List Km424.Ask) : ∀ k, daysN g l k = ((List.range (2 ^ k)).filter (fitsN g l k)).map fun w => (w, bringsN l k w)
  | 0 => by
    have e : List.range (2 ^ 0) = [0] := rfl
    rw [e]
    rfl
  | k + 1 => by
    rw [daysN, days_all g l k, range_two, List.filter_append, List.map_append]
    have low : ∀ w, w < 2 ^ k → w.testBit k = false := fun w hw => Nat.testBit_lt_two_pow hw
    congr 1
    · have e : (List.range (2 ^ k)).filter (fitsN g l (k + 1)) = (List.range (2 ^ k)).filter (fitsN g l k) := by
        refine List.filter_congr fun w hw => ?_
        rw [fits_succ, low w (List.mem_range.mp hw)]
        simp
      rw [e]
      refine List.map_congr_left fun w hw => ?_
      rw [brings_succ, low w (List.mem_range.mp (List.mem_filter.mp hw).1)]
      simp
    · rw [List.filter_map, List.filter_map, List.filter_filter, List.map_map, List.map_map]
      have e : (List.range (2 ^ k)).filter (fun a => ((fun d : Nat × Nat => d.1 &&& clashN g l k k == 0) ∘ fun w => (w, bringsN l k w)) a && fitsN g l k a) = (List.range (2 ^ k)).filter ((fitsN g l (k + 1)) ∘ (· + 2 ^ k)) := by
        refine List.filter_congr fun w hw => ?_
        obtain ⟨b1, b2⟩ := bit_up (List.mem_range.mp hw)
        show (w &&& clashN g l k k == 0 && fitsN g l k w) = fitsN g l (k + 1) (w + 2 ^ k)
        rw [fits_succ, b1, fits_congr g l b2, and_clash, Bool.and_comm]
        congr 1
        rw [Bool.eq_iff_iff]
        simp only [List.all_eq_true, List.mem_range, Bool.true_and]
        constructor
        · intro q j hj
          rw [b2 j hj]
          exact q j hj
        · intro q j hj
          have := q j hj
          rw [b2 j hj] at this
          exact this
      rw [e]
      refine List.map_congr_left fun w hw => ?_
      have hw := List.mem_range.mp (List.mem_filter.mp hw).1
      obtain ⟨b1, b2⟩ := bit_up hw
      show (w ||| 2 ^ k, bringsN l k w + (l.getD k noAsk).fee) = (w + 2 ^ k, bringsN l (k + 1) (w + 2 ^ k))
      rw [brings_succ, b1, brings_congr l b2, or_pow hw]
      simp
/-- the pick of the program, over its list -/
def pick (l : List (Nat × Nat)) : Nat × Nat := l.foldl (fun b d => if b.2 < d.2 then d else b) (0, 0)
theorem pick_fold (p : Nat → Bool) (br : Nat → Nat) : ∀ (l : List Nat) (b : Nat), ((l.filter p).map fun w => (w, br w)).foldl (fun b d => if b.2 < d.2 then d else b) (b, br b) = (l.foldl (fun b w => if p w = true ∧ br b < br w then w else b) b, br (l.foldl (fun b w => if p w = true ∧ br b < br w then w else b) b))
  | [], b => rfl
  | w :: l, b => by
    rw [List.filter_cons, List.foldl_cons]
    cases h : p w with
    | true =>
      simp only [if_true, List.map_cons, List.foldl_cons, true_and]
      by_cases c : br b < br w
      · simp only [c, if_true]
        exact pick_fold p br l w
      · simp only [c, if_false]
        exact pick_fold p br l b
    | false =>
      simp only [Bool.false_eq_true, if_false, false_and]
      exact pick_fold p br l b
theorem best_is (r : Km424.Rink) : pick (daysN r.gap r.asks r.asks.length) = (r.best, r.brings r.best) := by
  have z : bringsN r.asks r.asks.length 0 = 0 := by
    unfold bringsN
    have : ∀ l : List Nat, Km424.sum (l.map fun i => if (0 : Nat).testBit i = true then (r.asks.getD i noAsk).fee else 0) = 0 := by
      intro l
      induction l with
      | nil => rfl
      | cons a l ih =>
        rw [List.map_cons, Nat.zero_testBit]
        unfold Km424.sum at ih ⊢
        rw [List.foldl_cons]
        exact ih
    exact this _
  unfold pick
  rw [days_all]
  have h := pick_fold (fitsN r.gap r.asks r.asks.length) (bringsN r.asks r.asks.length) (List.range (2 ^ r.asks.length)) 0
  rw [z] at h
  rw [h]
  rfl
end Ir
set_option Elab.async false
set_option maxRecDepth 100000
set_option maxHeartbeats 2000000
namespace Ir
theorem chg_all {n : Nat} {ns : List Nat} {call : Km424.Call} (h : Is n ns call) (h1 : 1 ≤ n) (h2 : n ≤ 16) (d : Km424.Desk) (hw : Wx d.now) : Chg d call (gAll n d.now ns) ∧ Wx (gAll n d.now ns).1 := by
  cases h with
  | c0 => exact absurd h1 (by decide)
  | c1 => exact ⟨chg_machine _ _ _, wx_machine hw _ _⟩
  | c2 => exact ⟨chg_run _ _ _, wx_run hw _ _⟩
  | c3 => exact ⟨chg_flood _ _, wx_flood hw _⟩
  | c4 => exact ⟨chg_shave _ _, wx_shave hw _⟩
  | c5 => exact ⟨chg_drain _ _, wx_drain hw _⟩
  | c6 => exact ⟨chg_minutes _ _, wx_minutes hw _⟩
  | c7 => exact ⟨chg_go _ _, wx_go hw _⟩
  | c8 => exact ⟨chg_off _ _, wx_off hw _⟩
  | c9 => exact ⟨chg_pairs _ _ _, wx_pairs hw _ _⟩
  | c10 => exact ⟨chg_hire _ _, wx_hire hw _⟩
  | c11 => exact ⟨chg_bring _ _ _, wx_bring hw _ _⟩
  | c12 => exact ⟨chg_sharpen _ _ _, wx_sharpen hw _ _⟩
  | c13 => exact ⟨chg_gap _ _, wx_gap hw _⟩
  | c14 => exact ⟨chg_ask _ _ _ _, wx_ask hw _ _ _⟩
  | c15 => exact ⟨chg_book _, wx_book hw⟩
  | c16 => exact ⟨chg_drop _ _, wx_drop hw _⟩
  | c17 => exact absurd h2 (by decide)
  | c18 => exact absurd h2 (by decide)
  | c19 => exact absurd h2 (by decide)
  | c20 => exact absurd h2 (by decide)
  | c21 => exact absurd h2 (by decide)
  | c22 => exact absurd h2 (by decide)
  | c23 => exact absurd h2 (by decide)
  | c24 => exact absurd h2 (by decide)
  | c25 => exact absurd h2 (by decide)
  | c26 => exact absurd h2 (by decide)
  | c27 => exact absurd h2 (by decide)
  | c28 => exact absurd h2 (by decide)
  | c29 => exact absurd h2 (by decide)
  | c30 => exact absurd h2 (by decide)
  | c31 => exact absurd h2 (by decide)
  | c32 => exact absurd h2 (by decide)
  | c33 => exact absurd h2 (by decide)
theorem ask_all {n : Nat} {ns : List Nat} {call : Km424.Call} (h : Is n ns call) (h1 : 17 ≤ n) (h2 : n ≤ 30) (d : Km424.Desk) (hw : Wx d.now) : Askd d call (gAll n d.now ns) := by
  cases h with
  | c0 => exact absurd h1 (by decide)
  | c1 => exact absurd h1 (by decide)
  | c2 => exact absurd h1 (by decide)
  | c3 => exact absurd h1 (by decide)
  | c4 => exact absurd h1 (by decide)
  | c5 => exact absurd h1 (by decide)
  | c6 => exact absurd h1 (by decide)
  | c7 => exact absurd h1 (by decide)
  | c8 => exact absurd h1 (by decide)
  | c9 => exact absurd h1 (by decide)
  | c10 => exact absurd h1 (by decide)
  | c11 => exact absurd h1 (by decide)
  | c12 => exact absurd h1 (by decide)
  | c13 => exact absurd h1 (by decide)
  | c14 => exact absurd h1 (by decide)
  | c15 => exact absurd h1 (by decide)
  | c16 => exact absurd h1 (by decide)
  | c17 => exact ask_hard _
  | c18 => exact ask_soon _ hw
  | c19 => exact ask_bears _
  | c20 => exact ask_cheapest _ _
  | c21 => exact ask_would _ _
  | c22 => exact ask_best _
  | c23 => exact ask_who _ _
  | c24 => exact ask_look _ _
  | c25 => exact ask_size _ _
  | c26 => exact ask_nearest _ _
  | c27 => exact ask_ice _
  | c28 => exact ask_power _
  | c29 => exact ask_water _
  | c30 => exact ask_money _
  | c31 => exact absurd h2 (by decide)
  | c32 => exact absurd h2 (by decide)
  | c33 => exact absurd h2 (by decide)
/-- the bounds of a desk -/
structure Wd (d : Km424.Desk) : Prop where
  now : Wx d.now
  past : ∀ r, r ∈ d.past → Wx r
  fut : ∀ r, r ∈ d.future → Wx r
  len : d.past.length + d.future.length ≤ 30
theorem wx_opened {a b c e : Nat} (h1 : b ≤ 100) (h2 : 1 ≤ c) : Wx (Km424.opened a b c e) := by
  refine ⟨⟨h1, Nat.zero_le _, Nat.zero_le _, rfl, fun s hs => ?_⟩, fun m hm => (by cases hm), h2, .inl rfl⟩
  have := List.eq_of_mem_replicate (show s ∈ List.replicate 10 _ from hs)
  subst this
  exact ⟨Nat.le_refl _, Nat.zero_le _⟩
theorem okStart_is (a b c e : Nat) : Km424.okStart a b c e = true ↔ a ≤ 1000 ∧ b ≤ 100 ∧ 1 ≤ c ∧ c ≤ 100000 ∧ 1 ≤ e ∧ e ≤ 500 := by
  unfold Km424.okStart
  simp only [Bool.and_eq_true, decide_eq_true_eq]
theorem wd_fresh : Wd (Km424.fresh 0 0 1 1) := ⟨wx_opened (by decide) (by decide), fun r h => (by cases h), fun r h => (by cases h), Nat.zero_le _⟩
theorem wd_become {d : Km424.Desk} (h : Wd d) {r : Km424.Rink} (hr : Wx r) : Wd (d.become r) := by
  refine ⟨hr, fun q hq => ?_, fun q hq => (by cases hq), ?_⟩
  · rcases List.mem_cons.mp (List.mem_of_mem_take hq) with rfl | hq
    · exact h.now
    · exact h.past q hq
  · show ((d.now :: d.past).take 30).length + 0 ≤ 30
    rw [List.length_take]
    omega
theorem wd_back {d : Km424.Desk} (h : Wd d) : Wd (Km424.act d .back).1 := by
  obtain ⟨now, past, fut⟩ := d
  cases past with
  | nil => exact h
  | cons k r =>
    refine ⟨h.past k List.mem_cons_self, fun q hq => h.past q (List.mem_cons_of_mem _ hq), fun q hq => ?_, ?_⟩
    · rcases List.mem_cons.mp hq with rfl | hq
      · exact h.now
      · exact h.fut q hq
    · have := h.len
      simp [Km424.act] at this ⊢
      omega
theorem wd_again {d : Km424.Desk} (h : Wd d) : Wd (Km424.act d .again).1 := by
  obtain ⟨now, past, fut⟩ := d
  cases fut with
  | nil => exact h
  | cons k r =>
    refine ⟨h.fut k List.mem_cons_self, fun q hq => ?_, fun q hq => h.fut q (List.mem_cons_of_mem _ hq), ?_⟩
    · rcases List.mem_cons.mp (List.mem_of_mem_take hq) with rfl | hq
      · exact h.now
      · exact h.past q hq
    · have := h.len
      simp [Km424.act, List.length_take] at this ⊢
      omega
theorem wd_chg {n : Nat} {ns : List Nat} {call : Km424.Call} (hm : Is n ns call) {d : Km424.Desk} (h : Wd d) (h1 : 1 ≤ n) (h2 : n ≤ 16) : Wd (Km424.act d call).1 := by
  obtain ⟨⟨_, z, l, _, q1, q2⟩, w⟩ := chg_all hm h1 h2 d h.now
  by_cases hz : 0 ≤ z
  · rw [q1 hz]; exact wd_become h w
  · rw [(q2 (by omega)).2]; exact h
theorem wd_start (d : Km424.Desk) (h : Wd d) (a b c e : Nat) : Wd (Km424.act d (.start a b c e)).1 := by
  rw [Km424.act]
  split
  · exact h
  · rename_i q
    have q := (okStart_is _ _ _ _).mp (by simpa using q)
    exact ⟨wx_opened q.2.1 q.2.2.1, fun r h => (by cases h), fun r h => (by cases h), Nat.zero_le _⟩
theorem wd_act {n : Nat} {ns : List Nat} {call : Km424.Call} (hm : Is n ns call) {d : Km424.Desk} (h : Wd d) : Wd (Km424.act d call).1 := by
  by_cases h0 : 1 ≤ n ∧ n ≤ 16
  · exact wd_chg hm h h0.1 h0.2
  cases hm with
  | c0 => exact wd_start d h _ _ _ _
  | c1 => exact absurd ⟨by decide, by decide⟩ h0
  | c2 => exact absurd ⟨by decide, by decide⟩ h0
  | c3 => exact absurd ⟨by decide, by decide⟩ h0
  | c4 => exact absurd ⟨by decide, by decide⟩ h0
  | c5 => exact absurd ⟨by decide, by decide⟩ h0
  | c6 => exact absurd ⟨by decide, by decide⟩ h0
  | c7 => exact absurd ⟨by decide, by decide⟩ h0
  | c8 => exact absurd ⟨by decide, by decide⟩ h0
  | c9 => exact absurd ⟨by decide, by decide⟩ h0
  | c10 => exact absurd ⟨by decide, by decide⟩ h0
  | c11 => exact absurd ⟨by decide, by decide⟩ h0
  | c12 => exact absurd ⟨by decide, by decide⟩ h0
  | c13 => exact absurd ⟨by decide, by decide⟩ h0
  | c14 => exact absurd ⟨by decide, by decide⟩ h0
  | c15 => exact absurd ⟨by decide, by decide⟩ h0
  | c16 => exact absurd ⟨by decide, by decide⟩ h0
  | c17 => exact h
  | c18 => exact h
  | c19 => exact h
  | c20 => exact h
  | c21 => exact h
  | c22 => exact h
  | c23 => exact h
  | c24 => exact h
  | c25 => exact h
  | c26 => exact h
  | c27 => exact h
  | c28 => exact h
  | c29 => exact h
  | c30 => exact h
  | c31 => exact wd_back h
  | c32 => exact wd_again h
  | c33 => exact h
theorem ans_len (d : Km424.Desk) (call : Km424.Call) : (ansOf (Km424.act d call).2).length ≤ 6 := by
  unfold Km424.act
  cases call <;> dsimp only <;> (repeat' split) <;> simp [ansOf, Km424.only]
end Ir
set_option Elab.async false
set_option maxRecDepth 100000
set_option maxHeartbeats 2000000
namespace Ir
open PySem PySem.Spec PyProof.Rows L2
/-! ### what stands in the heap for a rink -/
/-- the addresses of the classes -/
structure Cl where
  cR : Addr
  cM : Addr
  cP : Addr
  cS : Addr
  cD : Addr
  gv : Addr
def rf (r : Km424.Rink) (lm ls lq : Addr) : List (Str × V) := [("base", .int r.base), ("each", .int r.each), ("least", .int r.least), ("room", .int r.room), ("machines", .ref lm), ("ice", .int r.ice), ("water", .int r.wet), ("laid", .int r.laid), ("shaved", .int r.shaved), ("drained", .int r.drained),
  ("skaters", .int r.on_), ("sent_off", .int r.sent), ("minute", .int r.time), ("spent", .int r.spent), ("sizes", .ref ls), ("gap", .int r.gap), ("sessions", .ref lq)]
def b01 (b : Bool) : Int := if b = true then 1 else 0
def mf (m : Km424.Machine) : List (Str × V) := [("cold", .int m.cold), ("cost", .int m.cost), ("runs", .int (b01 m.on_))]
def pf (s : Km424.Skates) : List (Str × V) := [("sharp", .int s.sharp), ("blunt", .int s.blunt), ("hired", .int (s.all - (s.sharp + s.blunt) : Nat))]
def sf (a : Km424.Ask) : List (Str × V) := [("begin", .int a.from_), ("end", .int a.to_), ("fee", .int a.fee), ("booked", .int (b01 a.booked))]
def InsAt (C : Addr) (H : Hp) (a : Addr) (fs : List (Str × V)) : Prop := ∃ dx, H a = some (.ins C dx fs)
/-- a list of objects: their addresses, what they hold -/
structure Objs {α : Type} (C : Addr) (fd : α → List (Str × V)) (H : Hp) (l : Addr) (xs : List Addr) (ys : List α) : Prop where
  lst : H l = some (.lst (xs.map V.ref))
  len : xs.length = ys.length
  obj : ∀ (j : Nat) x y, xs[j]? = some x → ys[j]? = some y → InsAt C H x (fd y)
section
variable {α : Type} {C : Addr} {fd : α → List (Str × V)} {H H' : Hp} {l : Addr} {xs : List Addr} {ys : List α}
theorem Objs.keep (O : Objs C fd H l xs ys) (k : ∀ b o, b ∈ l :: xs → H b = some o → H' b = some o) : Objs C fd H' l xs ys :=
  ⟨k _ _ (by simp) O.lst, O.len, fun j x y h1 h2 => let ⟨dx, h⟩ := O.obj j x y h1 h2; ⟨dx, k _ _ (List.mem_cons.mpr (.inr (List.mem_of_getElem? h1))) h⟩⟩
theorem Objs.same (O : Objs C fd H l xs ys) (s : Same H H') : Objs C fd H' l xs ys := O.keep fun b o _ e => s b o e
theorem Objs.some_of (O : Objs C fd H l xs ys) {b : Addr} (hb : b ∈ l :: xs) : ∃ o, H b = some o := by
  rcases List.mem_cons.mp hb with rfl | hb
  · exact ⟨_, O.lst⟩
  · obtain ⟨j, hj, e⟩ := List.getElem_of_mem hb
    obtain ⟨dx, h⟩ := O.obj j b (ys[j]'(by rw [← O.len]; exact hj)) (by rw [List.getElem?_eq_getElem hj, e]) (List.getElem?_eq_getElem _)
    exact ⟨_, h⟩
theorem Objs.at_ (O : Objs C fd H l xs ys) {j : Nat} (hj : j < ys.length) : ∃ x, xs[j]? = some x ∧ InsAt C H x (fd ys[j]) := by
  have hx : j < xs.length := by rw [O.len]; exact hj
  exact ⟨_, List.getElem?_eq_getElem hx, O.obj j _ _ (List.getElem?_eq_getElem hx) (List.getElem?_eq_getElem hj)⟩
/-- the j-th is written -/
theorem Objs.set (O : Objs C fd H l xs ys) (nd : (l :: xs).Nodup) {j : Nat} {x dx : Addr} {y : α} {fs : List (Str × V)} (hx : xs[j]? = some x) (ef : fs = fd y) : Objs C fd (upd H x (.ins C dx fs)) l xs (ys.set j y) := by
  subst ef
  have nl : l ≠ x := fun e => (List.nodup_cons.mp nd).1 (e ▸ List.mem_of_getElem? hx)
  have hj : j < ys.length := by rw [← O.len]; exact (List.getElem?_eq_some_iff.mp hx).1
  refine ⟨by rw [upd_ne nl]; exact O.lst, by rw [List.length_set]; exact O.len, fun i z m h1 h2 => ?_⟩
  by_cases e : i = j
  · subst e
    rw [List.getElem?_set_self hj] at h2
    cases h2
    rw [hx] at h1
    cases h1
    exact ⟨dx, upd_same⟩
  · rw [List.getElem?_set_ne (fun q => e q.symm)] at h2
    obtain ⟨dz, h⟩ := O.obj i z m h1 h2
    exact ⟨dz, by rw [upd_ne (show z ≠ x from fun q => e (nd_ix (List.nodup_cons.mp nd).2 h1 (by rw [q]; exact hx)))]; exact h⟩
/-- one more -/
theorem Objs.add (O : Objs C fd H l xs ys) {x : Addr} {y : α} (nl : l ∉ x :: xs) (hx : InsAt C H x (fd y)) : Objs C fd (upd H l (.lst (xs.map V.ref ++ [.ref x]))) l (xs ++ [x]) (ys ++ [y]) := by
  have ne : ∀ z, z ∈ x :: xs → z ≠ l := fun z hz e => nl (e ▸ hz)
  refine ⟨by rw [upd_same, List.map_append]; rfl, by simp [O.len], fun j z m h1 h2 => ?_⟩
  by_cases e : j < xs.length
  · rw [List.getElem?_append_left e] at h1
    rw [List.getElem?_append_left (by rw [← O.len]; exact e)] at h2
    obtain ⟨dz, h⟩ := O.obj j z m h1 h2
    exact ⟨dz, by rw [upd_ne (ne z (List.mem_cons.mpr (.inr (List.mem_of_getElem? h1))))]; exact h⟩
  · have hj : j < (xs ++ [x]).length := (List.getElem?_eq_some_iff.mp h1).1
    rw [List.length_append, List.length_singleton] at hj
    obtain rfl : j = xs.length := by omega
    rw [List.getElem?_append_right (Nat.le_refl _), Nat.sub_self] at h1
    rw [O.len, List.getElem?_append_right (Nat.le_refl _), Nat.sub_self] at h2
    cases h1
    cases h2
    obtain ⟨dz, h⟩ := hx
    exact ⟨dz, by rw [upd_ne (ne x List.mem_cons_self)]; exact h⟩
end
structure Rk (c : Cl) (H : Hp) (a : Addr) (r : Km424.Rink) (lm ls lq : Addr) (ms ss qs : List Addr) : Prop where
  ins : InsAt c.cR H a (rf r lm ls lq)
  M : Objs c.cM mf H lm ms r.machines
  S : Objs c.cP pf H ls ss r.skates
  Q : Objs c.cS sf H lq qs r.asks
  nd : (a :: ((lm :: ms) ++ ((ls :: ss) ++ (lq :: qs)))).Nodup
abbrev fpR (a lm ls lq : Addr) (ms ss qs : List Addr) : List Addr := a :: ((lm :: ms) ++ ((ls :: ss) ++ (lq :: qs)))
def Own (c : Cl) (H : Hp) (a : Addr) (r : Km424.Rink) (fp : List Addr) : Prop := ∃ lm ls lq ms ss qs, Rk c H a r lm ls lq ms ss qs ∧ fp = fpR a lm ls lq ms ss qs
/-- all but what is named stays -/
def Frm (H H' : Hp) (fp : List Addr) : Prop := ∀ b o, H b = some o → b ∉ fp → H' b = some o
theorem Frm.refl {H : Hp} {fp : List Addr} : Frm H H fp := fun _ _ h _ => h
theorem Frm.trans {H H1 H2 : Hp} {fp : List Addr} (a : Frm H H1 fp) (b : Frm H1 H2 fp) : Frm H H2 fp := fun x o h n => b x o (a x o h n) n
theorem Frm.new {H : Hp} {fp : List Addr} {p : Addr} {o : HO} (h : H p = none) : Frm H (upd H p o) fp := fun b _ e _ => by rw [upd_ne (ne_of_none e h)]; exact e
theorem Frm.upd {H : Hp} {fp : List Addr} {p : Addr} {o : HO} (h : p ∈ fp) : Frm H (upd H p o) fp := fun b _ e n => by rw [upd_ne (show b ≠ p from fun z => n (z ▸ h))]; exact e
theorem Frm.same {H H' : Hp} {fp : List Addr} (s : Same H H') : Frm H H' fp := fun b o e _ => s b o e
theorem Frm.none {H H' : Hp} {fp : List Addr} {p : Addr} (F : Frm H H' fp) (h : H' p = Option.none) (n : p ∉ fp) : H p = Option.none := by
  cases e : H p with
  | none => rfl
  | some o =>
    rw [F p o e n] at h
    cases h
theorem nd_parts {a lm ls lq : Addr} {ms ss qs : List Addr} (nd : (fpR a lm ls lq ms ss qs).Nodup) :
    (lm :: ms).Nodup ∧ (ls :: ss).Nodup ∧ (lq :: qs).Nodup ∧ (∀ b, b ∈ (lm :: ms) ++ ((ls :: ss) ++ (lq :: qs)) → b ≠ a) ∧ (∀ b d, b ∈ lm :: ms → d ∈ (ls :: ss) ++ (lq :: qs) → b ≠ d) ∧ ∀ b d, b ∈ ls :: ss → d ∈ lq :: qs → b ≠ d := by
  obtain ⟨h1, h2⟩ := List.nodup_cons.mp nd
  obtain ⟨h3, h4, h5⟩ := List.nodup_append.mp h2
  obtain ⟨h6, h7, h8⟩ := List.nodup_append.mp h4
  exact ⟨h3, h6, h7, fun b m e => h1 (e ▸ m), fun b d m n => h5 b m d n, fun b d m n => h8 b m d n⟩
section
variable {c : Cl} {H H' : Hp} {a : Addr} {r r' : Km424.Rink} {lm ls lq : Addr} {ms ss qs : List Addr}
/-- what is told of a rink hangs on its own addresses alone -/
theorem Rk.keep (R : Rk c H a r lm ls lq ms ss qs) (k : ∀ b o, b ∈ fpR a lm ls lq ms ss qs → H b = some o → H' b = some o) : Rk c H' a r lm ls lq ms ss qs :=
  ⟨let ⟨dx, h⟩ := R.ins; ⟨dx, k _ _ (by simp) h⟩, R.M.keep fun b o m => k b o (by simp only [List.mem_cons, List.mem_append] at m ⊢; exact .inr (.inl m)), R.S.keep fun b o m => k b o (by simp only [List.mem_cons, List.mem_append] at m ⊢; exact .inr (.inr (.inl m))),
    R.Q.keep fun b o m => k b o (by simp only [List.mem_cons, List.mem_append] at m ⊢; exact .inr (.inr (.inr m))), R.nd⟩
theorem Rk.same (R : Rk c H a r lm ls lq ms ss qs) (s : Same H H') : Rk c H' a r lm ls lq ms ss qs := R.keep fun b o _ e => s b o e
theorem Rk.new (R : Rk c H a r lm ls lq ms ss qs) {p : Addr} {o : HO} (h : H p = none) : Rk c (upd H p o) a r lm ls lq ms ss qs :=
  R.keep fun b u _ e => by rw [upd_ne (ne_of_none e h)]; exact e
theorem Rk.some_of (R : Rk c H a r lm ls lq ms ss qs) {b : Addr} (hb : b ∈ fpR a lm ls lq ms ss qs) : ∃ o, H b = some o := by
  rcases List.mem_cons.mp hb with rfl | hb
  · obtain ⟨dx, h⟩ := R.ins
    exact ⟨_, h⟩
  · rcases List.mem_append.mp hb with hb | hb
    · exact R.M.some_of hb
    · rcases List.mem_append.mp hb with hb | hb
      · exact R.S.some_of hb
      · exact R.Q.some_of hb
theorem Rk.notin (R : Rk c H a r lm ls lq ms ss qs) {p : Addr} (h : H p = none) : p ∉ fpR a lm ls lq ms ss qs := fun m => by
  obtain ⟨o, e⟩ := R.some_of m
  rw [h] at e; cases e
/-- a number of the rink's is written -/
theorem Rk.set (R : Rk c H a r lm ls lq ms ss qs) (em : r'.machines = r.machines) (es : r'.skates = r.skates) (eq : r'.asks = r.asks) {dx : Addr} {fs : List (Str × V)} (ef : fs = rf r' lm ls lq) : Rk c (upd H a (.ins c.cR dx fs)) a r' lm ls lq ms ss qs := by
  subst ef
  obtain ⟨_, _, _, na, _, _⟩ := nd_parts R.nd
  have k : ∀ b o, b ∈ (lm :: ms) ++ ((ls :: ss) ++ (lq :: qs)) → H b = some o → upd H a (.ins c.cR dx (rf r' lm ls lq)) b = some o := fun b o m e => by rw [upd_ne (na b m)]; exact e
  refine ⟨⟨dx, upd_same⟩, ?_, ?_, ?_, R.nd⟩
  · rw [em]; exact R.M.keep fun b o m => k b o (List.mem_append_left _ m)
  · rw [es]; exact R.S.keep fun b o m => k b o (List.mem_append_right _ (List.mem_append_left _ m))
  · rw [eq]; exact R.Q.keep fun b o m => k b o (List.mem_append_right _ (List.mem_append_right _ m))
theorem Rk.setM (R : Rk c H a r lm ls lq ms ss qs) {j : Nat} {x dx : Addr} {y : Km424.Machine} {fs : List (Str × V)} (hx : ms[j]? = some x) (ef : fs = mf y) : Rk c (upd H x (.ins c.cM dx fs)) a { r with machines := r.machines.set j y } lm ls lq ms ss qs := by
  obtain ⟨n1, n2, n3, na, nm, ns⟩ := nd_parts R.nd
  have mx : x ∈ lm :: ms := List.mem_cons.mpr (.inr (List.mem_of_getElem? hx))
  obtain ⟨d0, h0⟩ := R.ins
  exact ⟨⟨d0, by rw [upd_ne (Ne.symm (na x (List.mem_append_left _ mx)))]; exact h0⟩, R.M.set n1 hx ef, R.S.keep fun b o m e => by rw [upd_ne (Ne.symm (nm x b mx (List.mem_append_left _ m)))]; exact e,
    R.Q.keep fun b o m e => by rw [upd_ne (Ne.symm (nm x b mx (List.mem_append_right _ m)))]; exact e, R.nd⟩
theorem Rk.setS (R : Rk c H a r lm ls lq ms ss qs) {j : Nat} {x dx : Addr} {y : Km424.Skates} {fs : List (Str × V)} (hx : ss[j]? = some x) (ef : fs = pf y) : Rk c (upd H x (.ins c.cP dx fs)) a { r with skates := r.skates.set j y } lm ls lq ms ss qs := by
  obtain ⟨n1, n2, n3, na, nm, ns⟩ := nd_parts R.nd
  have mx : x ∈ ls :: ss := List.mem_cons.mpr (.inr (List.mem_of_getElem? hx))
  obtain ⟨d0, h0⟩ := R.ins
  exact ⟨⟨d0, by rw [upd_ne (Ne.symm (na x (List.mem_append_right _ (List.mem_append_left _ mx))))]; exact h0⟩, R.M.keep fun b o m e => by rw [upd_ne (nm b x m (List.mem_append_left _ mx))]; exact e, R.S.set n2 hx ef,
    R.Q.keep fun b o m e => by rw [upd_ne (Ne.symm (ns x b mx m))]; exact e, R.nd⟩
theorem Rk.setQ (R : Rk c H a r lm ls lq ms ss qs) {j : Nat} {x dx : Addr} {y : Km424.Ask} {fs : List (Str × V)} (hx : qs[j]? = some x) (ef : fs = sf y) : Rk c (upd H x (.ins c.cS dx fs)) a { r with asks := r.asks.set j y } lm ls lq ms ss qs := by
  obtain ⟨n1, n2, n3, na, nm, ns⟩ := nd_parts R.nd
  have mx : x ∈ lq :: qs := List.mem_cons.mpr (.inr (List.mem_of_getElem? hx))
  obtain ⟨d0, h0⟩ := R.ins
  exact ⟨⟨d0, by rw [upd_ne (Ne.symm (na x (List.mem_append_right _ (List.mem_append_right _ mx))))]; exact h0⟩, R.M.keep fun b o m e => by rw [upd_ne (nm b x m (List.mem_append_right _ mx))]; exact e,
    R.S.keep fun b o m e => by rw [upd_ne (ns b x m mx)]; exact e, R.Q.set n3 hx ef, R.nd⟩
theorem Rk.addM (R : Rk c H a r lm ls lq ms ss qs) {x : Addr} {y : Km424.Machine} (nx : x ∉ fpR a lm ls lq ms ss qs) (hx : InsAt c.cM H x (mf y)) :
    Rk c (upd H lm (.lst (ms.map V.ref ++ [.ref x]))) a { r with machines := r.machines ++ [y] } lm ls lq (ms ++ [x]) ss qs := by
  obtain ⟨n1, n2, n3, na, nm, ns⟩ := nd_parts R.nd
  obtain ⟨d0, h0⟩ := R.ins
  have mx : lm ∈ lm :: ms := List.mem_cons_self
  have nl : lm ∉ x :: ms := fun m => by
    rcases List.mem_cons.mp m with e | m
    · exact nx (e ▸ List.mem_cons.mpr (.inr (List.mem_append_left _ mx)))
    · exact (List.nodup_cons.mp n1).1 m
  refine ⟨⟨d0, by rw [upd_ne (Ne.symm (na lm (List.mem_append_left _ mx)))]; exact h0⟩, R.M.add nl hx, R.S.keep fun b o m e => by rw [upd_ne (Ne.symm (nm lm b mx (List.mem_append_left _ m)))]; exact e,
    R.Q.keep fun b o m e => by rw [upd_ne (Ne.symm (nm lm b mx (List.mem_append_right _ m)))]; exact e, ?_⟩
  have nd := R.nd
  simp only [List.nodup_cons, List.nodup_append, List.mem_cons, List.mem_append, List.not_mem_nil, not_or, or_false] at nd nx ⊢
  grind
theorem Rk.addQ (R : Rk c H a r lm ls lq ms ss qs) {x : Addr} {y : Km424.Ask} (nx : x ∉ fpR a lm ls lq ms ss qs) (hx : InsAt c.cS H x (sf y)) :
    Rk c (upd H lq (.lst (qs.map V.ref ++ [.ref x]))) a { r with asks := r.asks ++ [y] } lm ls lq ms ss (qs ++ [x]) := by
  obtain ⟨n1, n2, n3, na, nm, ns⟩ := nd_parts R.nd
  obtain ⟨d0, h0⟩ := R.ins
  have mx : lq ∈ lq :: qs := List.mem_cons_self
  have nl : lq ∉ x :: qs := fun m => by
    rcases List.mem_cons.mp m with e | m
    · exact nx (e ▸ List.mem_cons.mpr (.inr (List.mem_append_right _ (List.mem_append_right _ mx))))
    · exact (List.nodup_cons.mp n3).1 m
  refine ⟨⟨d0, by rw [upd_ne (Ne.symm (na lq (List.mem_append_right _ (List.mem_append_right _ mx))))]; exact h0⟩, R.M.keep fun b o m e => by rw [upd_ne (nm b lq m (List.mem_append_right _ mx))]; exact e,
    R.S.keep fun b o m e => by rw [upd_ne (ns b lq m mx)]; exact e, R.Q.add nl hx, ?_⟩
  have nd := R.nd
  simp only [List.nodup_cons, List.nodup_append, List.mem_cons, List.mem_append, List.not_mem_nil, not_or, or_false] at nd nx ⊢
  grind
end
/-! ### what the top has written -/
def rN : List Str := ["base", "each", "least", "room", "machines", "ice", "water", "laid", "shaved", "drained", "skaters", "sent_off", "minute", "spent", "sizes", "gap", "sessions"]
def mN : List Str := ["cold", "cost", "runs"]
def pN : List Str := ["sharp", "blunt", "hired"]
def sN : List Str := ["begin", "end", "fee", "booked"]
def dN : List Str := ["rink", "earlier", "later"]
structure Txt (K : PySem.W.Frag) (mg : Str → Option Value) (c : Cl) : Prop where
  clR : Cls K c.cR
  clM : Cls K c.cM
  clP : Cls K c.cP
  clS : Cls K c.cS
  clD : Cls K c.cD
  fR : ∀ x ∈ rN, NoAttr K c.cR x
  fM : ∀ x ∈ mN, NoAttr K c.cM x
  fP : ∀ x ∈ pN, NoAttr K c.cP x
  fS : ∀ x ∈ sN, NoAttr K c.cS x
  fD : ∀ x ∈ dN, NoAttr K c.cD x
  c_NOT_THERE : ∃ t, mg "NOT_THERE" = some (.int (-2) t)
  c_NONE_SUCH : ∃ t, mg "NONE_SUCH" = some (.int (-6) t)
  c_TOO_FEW : ∃ t, mg "TOO_FEW" = some (.int (-12) t)
  c_NOT_HARD : ∃ t, mg "NOT_HARD" = some (.int (-13) t)
  c_IN_USE : ∃ t, mg "IN_USE" = some (.int (-16) t)
  c_ALREADY_SO : ∃ t, mg "ALREADY_SO" = some (.int (-17) t)
  c_NOT_AS_TOLD : ∃ t, mg "NOT_AS_TOLD" = some (.int (-22) t)
  c_NO_ROOM : ∃ t, mg "NO_ROOM" = some (.int (-28) t)
  c_OUT_OF_REACH : ∃ t, mg "OUT_OF_REACH" = some (.int (-33) t)
  c_TOO_LATE : ∃ t, mg "TOO_LATE" = some (.int (-75) t)
  c_MOST_PAIRS : ∃ t, mg "MOST_PAIRS" = some (.int 100 t)
  c_SIZES : ∃ t, mg "SIZES" = some (.int 10 t)
  c_MOST_BASE : ∃ t, mg "MOST_BASE" = some (.int 1000 t)
  c_MOST_EACH : ∃ t, mg "MOST_EACH" = some (.int 100 t)
  c_MOST_LEAST : ∃ t, mg "MOST_LEAST" = some (.int 100000 t)
  c_MOST_ROOM : ∃ t, mg "MOST_ROOM" = some (.int 500 t)
  c_MOST_BACK : ∃ t, mg "MOST_BACK" = some (.int 30 t)
  c_MOST_MACHINES : ∃ t, mg "MOST_MACHINES" = some (.int 6 t)
  c_MOST_COLD : ∃ t, mg "MOST_COLD" = some (.int 5000 t)
  c_MOST_COST : ∃ t, mg "MOST_COST" = some (.int 1000 t)
  c_MOST_LAID : ∃ t, mg "MOST_LAID" = some (.int 1000000 t)
  c_MOST_MINUTES : ∃ t, mg "MOST_MINUTES" = some (.int 1440 t)
  c_LAST_MINUTE : ∃ t, mg "LAST_MINUTE" = some (.int 50000 t)
  c_MOST_MINUTES_AHEAD : ∃ t, mg "MOST_MINUTES_AHEAD" = some (.int 1440 t)
  c_MOST_SKATERS : ∃ t, mg "MOST_SKATERS" = some (.int 500 t)
  c_MOST_SESSIONS : ∃ t, mg "MOST_SESSIONS" = some (.int 8 t)
  c_MOST_GAP : ∃ t, mg "MOST_GAP" = some (.int 120 t)
  c_MOST_FEE : ∃ t, mg "MOST_FEE" = some (.int 100000 t)
  c_DAY_END : ∃ t, mg "DAY_END" = some (.int 1440 t)
  c_GIVEN : mg "GIVEN" = some (.ref c.gv)
  t_GIVEN : ∀ H : Hp, SqT K H c.gv (argN.map fun n : Nat => V.int (n : Int))
  b_abs : mg "abs" = none
  b_any : mg "any" = none
  b_enumerate : mg "enumerate" = none
  b_len : mg "len" = none
  b_min : mg "min" = none
  b_range : mg "range" = none
  b_sum : mg "sum" = none
/-! ### the forms one uses -/
theorem mem_lookup {f : Str} {v : V} : ∀ {fs : List (Str × V)}, fs.lookup f = some v → f ∈ fs.map (·.1)
  | [], h => by cases h
  | (g, x) :: r, h => by
    rw [List.lookup_cons] at h
    cases e : f == g with
    | true => exact List.mem_cons.mpr (.inl (eq_of_beq e))
    | false =>
      rw [e] at h
      exact List.mem_cons.mpr (.inr (mem_lookup h))
section
variable {K : PySem.W.Frag} {mg : Str → Option Value} {c : Cl} {H : Hp} {a dx : Addr} {r : Km424.Rink} {lm ls lq : Addr} {ms ss qs : List Addr} {f : Str} {v : V}
theorem q_R {B : Addr → Addr → V → Prop} (T : Txt K mg c) (hi : H a = some (.ins c.cR dx (rf r lm ls lq))) (l : (rf r lm ls lq).lookup f = some v) (q : B a c.cR v) : ∃ a' C dx fs v, V.ref a = .ref a' ∧ H a' = some (.ins C dx fs) ∧ Cls K C ∧ NoAttr K C f ∧ fs.lookup f = some v ∧ B a' C v :=
  ⟨a, c.cR, dx, _, v, rfl, hi, T.clR, T.fR _ (show f ∈ rN from mem_lookup l), l, q⟩
theorem q_M {B : Addr → Addr → V → Prop} {m : Km424.Machine} (T : Txt K mg c) (hi : InsAt c.cM H a (mf m)) (l : (mf m).lookup f = some v) (q : B a c.cM v) : ∃ a' C dx fs v, V.ref a = .ref a' ∧ H a' = some (.ins C dx fs) ∧ Cls K C ∧ NoAttr K C f ∧ fs.lookup f = some v ∧ B a' C v :=
  let ⟨dx, hi⟩ := hi
  ⟨a, c.cM, dx, _, v, rfl, hi, T.clM, T.fM _ (show f ∈ mN from mem_lookup l), l, q⟩
theorem q_P {B : Addr → Addr → V → Prop} {m : Km424.Skates} (T : Txt K mg c) (hi : InsAt c.cP H a (pf m)) (l : (pf m).lookup f = some v) (q : B a c.cP v) : ∃ a' C dx fs v, V.ref a = .ref a' ∧ H a' = some (.ins C dx fs) ∧ Cls K C ∧ NoAttr K C f ∧ fs.lookup f = some v ∧ B a' C v :=
  let ⟨dx, hi⟩ := hi
  ⟨a, c.cP, dx, _, v, rfl, hi, T.clP, T.fP _ (show f ∈ pN from mem_lookup l), l, q⟩
theorem q_S {B : Addr → Addr → V → Prop} {m : Km424.Ask} (T : Txt K mg c) (hi : InsAt c.cS H a (sf m)) (l : (sf m).lookup f = some v) (q : B a c.cS v) : ∃ a' C dx fs v, V.ref a = .ref a' ∧ H a' = some (.ins C dx fs) ∧ Cls K C ∧ NoAttr K C f ∧ fs.lookup f = some v ∧ B a' C v :=
  let ⟨dx, hi⟩ := hi
  ⟨a, c.cS, dx, _, v, rfl, hi, T.clS, T.fS _ (show f ∈ sN from mem_lookup l), l, q⟩
/-- a number of the rink's is written: what stands behind -/
theorem q_W {B : Hp → Prop} {z : Int} {r' : Km424.Rink} (R : Rk c H a r lm ls lq ms ss qs) (hi : H a = some (.ins c.cR dx (rf r lm ls lq))) (m : Nat) (ez : z = (m : Int)) (ef : putF f (.int (m : Int)) (rf r lm ls lq) = rf r' lm ls lq) (em : r'.machines = r.machines) (es : r'.skates = r.skates) (eq : r'.asks = r.asks)
    (q : ∀ H1, Rk c H1 a r' lm ls lq ms ss qs → Frm H H1 (fpR a lm ls lq ms ss qs) → H1 a = some (.ins c.cR dx (rf r' lm ls lq)) → B H1) :
    ∃ dx' fs', H a = some (.ins c.cR dx' fs') ∧ fs'.length < 1000 ∧ B (upd H a (.ins c.cR dx' (putF f (.int z) fs'))) := by
  subst ez
  refine ⟨dx, _, hi, (by show 17 < 1000; decide), ?_⟩
  rw [ef]
  exact q _ (R.set em es eq rfl) (Frm.upd List.mem_cons_self) upd_same
/-- .. by a plain assignment -/
theorem q_V {B : Hp → Prop} {z : Int} {r' : Km424.Rink} (T : Txt K mg c) (R : Rk c H a r lm ls lq ms ss qs) (hi : H a = some (.ins c.cR dx (rf r lm ls lq))) (m : Nat) (ez : z = (m : Int)) (ef : putF f (.int (m : Int)) (rf r lm ls lq) = rf r' lm ls lq) (l : (rf r lm ls lq).lookup f = some v) (em : r'.machines = r.machines) (es : r'.skates = r.skates) (eq : r'.asks = r.asks)
    (q : ∀ H1, Rk c H1 a r' lm ls lq ms ss qs → Frm H H1 (fpR a lm ls lq ms ss qs) → H1 a = some (.ins c.cR dx (rf r' lm ls lq)) → B H1) :
    ∃ a' C dx fs, V.ref a = .ref a' ∧ H a' = some (.ins C dx fs) ∧ Cls K C ∧ NoAttr K C f ∧ fs.length < 1000 ∧ B (upd H a' (.ins C dx (putF f (.int z) fs))) := by
  subst ez
  refine ⟨a, c.cR, dx, _, rfl, hi, T.clR, T.fR _ (show f ∈ rN from mem_lookup l), (by show 17 < 1000; decide), ?_⟩
  rw [ef]
  exact q _ (R.set em es eq rfl) (Frm.upd List.mem_cons_self) upd_same
/-- a value of one of the machines is written -/
theorem q_setM {B : Hp → Prop} {j : Nat} {x : Addr} {m : Km424.Machine} {y : V} (m' : Km424.Machine) (T : Txt K mg c) (R : Rk c H a r lm ls lq ms ss qs) (hx : ms[j]? = some x) (hm : H x = some (.ins c.cM dx (mf m))) (l : (mf m).lookup f = some v) (ef : putF f y (mf m) = mf m')
    (q : ∀ H1, Rk c H1 a { r with machines := r.machines.set j m' } lm ls lq ms ss qs → Frm H H1 (fpR a lm ls lq ms ss qs) → H1 x = some (.ins c.cM dx (mf m')) → B H1) :
    ∃ a' C dx fs, V.ref x = .ref a' ∧ H a' = some (.ins C dx fs) ∧ Cls K C ∧ NoAttr K C f ∧ fs.length < 1000 ∧ B (upd H a' (.ins C dx (putF f y fs))) := by
  refine ⟨x, c.cM, dx, _, rfl, hm, T.clM, T.fM _ (show f ∈ mN from mem_lookup l), (by show 3 < 1000; decide), ?_⟩
  rw [ef]
  exact q _ (R.setM hx rfl) (Frm.upd (by have := List.mem_of_getElem? hx; simp [this])) upd_same
theorem q_augM {B : Hp → Prop} {j : Nat} {x : Addr} {m : Km424.Machine} {y : V} (m' : Km424.Machine) (R : Rk c H a r lm ls lq ms ss qs) (hx : ms[j]? = some x) (hm : H x = some (.ins c.cM dx (mf m))) (ef : putF f y (mf m) = mf m')
    (q : ∀ H1, Rk c H1 a { r with machines := r.machines.set j m' } lm ls lq ms ss qs → Frm H H1 (fpR a lm ls lq ms ss qs) → H1 x = some (.ins c.cM dx (mf m')) → B H1) :
    ∃ dx' fs', H x = some (.ins c.cM dx' fs') ∧ fs'.length < 1000 ∧ B (upd H x (.ins c.cM dx' (putF f y fs'))) := by
  refine ⟨dx, _, hm, (by show 3 < 1000; decide), ?_⟩
  rw [ef]
  exact q _ (R.setM hx rfl) (Frm.upd (by have := List.mem_of_getElem? hx; simp [this])) upd_same
/-- a value of one of the sizes is written -/
theorem q_setS {B : Hp → Prop} {j : Nat} {x : Addr} {m : Km424.Skates} {y : V} (m' : Km424.Skates) (T : Txt K mg c) (R : Rk c H a r lm ls lq ms ss qs) (hx : ss[j]? = some x) (hm : H x = some (.ins c.cP dx (pf m))) (l : (pf m).lookup f = some v) (ef : putF f y (pf m) = pf m')
    (q : ∀ H1, Rk c H1 a { r with skates := r.skates.set j m' } lm ls lq ms ss qs → Frm H H1 (fpR a lm ls lq ms ss qs) → H1 x = some (.ins c.cP dx (pf m')) → B H1) :
    ∃ a' C dx fs, V.ref x = .ref a' ∧ H a' = some (.ins C dx fs) ∧ Cls K C ∧ NoAttr K C f ∧ fs.length < 1000 ∧ B (upd H a' (.ins C dx (putF f y fs))) := by
  refine ⟨x, c.cP, dx, _, rfl, hm, T.clP, T.fP _ (show f ∈ pN from mem_lookup l), (by show 3 < 1000; decide), ?_⟩
  rw [ef]
  exact q _ (R.setS hx rfl) (Frm.upd (by have := List.mem_of_getElem? hx; simp [this])) upd_same
theorem q_augS {B : Hp → Prop} {j : Nat} {x : Addr} {m : Km424.Skates} {y : V} (m' : Km424.Skates) (R : Rk c H a r lm ls lq ms ss qs) (hx : ss[j]? = some x) (hm : H x = some (.ins c.cP dx (pf m))) (ef : putF f y (pf m) = pf m')
    (q : ∀ H1, Rk c H1 a { r with skates := r.skates.set j m' } lm ls lq ms ss qs → Frm H H1 (fpR a lm ls lq ms ss qs) → H1 x = some (.ins c.cP dx (pf m')) → B H1) :
    ∃ dx' fs', H x = some (.ins c.cP dx' fs') ∧ fs'.length < 1000 ∧ B (upd H x (.ins c.cP dx' (putF f y fs'))) := by
  refine ⟨dx, _, hm, (by show 3 < 1000; decide), ?_⟩
  rw [ef]
  exact q _ (R.setS hx rfl) (Frm.upd (by have := List.mem_of_getElem? hx; simp [this])) upd_same
/-- a value of one of the sessions is written -/
theorem q_setQ {B : Hp → Prop} {j : Nat} {x : Addr} {m : Km424.Ask} {y : V} (m' : Km424.Ask) (T : Txt K mg c) (R : Rk c H a r lm ls lq ms ss qs) (hx : qs[j]? = some x) (hm : H x = some (.ins c.cS dx (sf m))) (l : (sf m).lookup f = some v) (ef : putF f y (sf m) = sf m')
    (q : ∀ H1, Rk c H1 a { r with asks := r.asks.set j m' } lm ls lq ms ss qs → Frm H H1 (fpR a lm ls lq ms ss qs) → H1 x = some (.ins c.cS dx (sf m')) → B H1) :
    ∃ a' C dx fs, V.ref x = .ref a' ∧ H a' = some (.ins C dx fs) ∧ Cls K C ∧ NoAttr K C f ∧ fs.length < 1000 ∧ B (upd H a' (.ins C dx (putF f y fs))) := by
  refine ⟨x, c.cS, dx, _, rfl, hm, T.clS, T.fS _ (show f ∈ sN from mem_lookup l), (by show 4 < 1000; decide), ?_⟩
  rw [ef]
  exact q _ (R.setQ hx rfl) (Frm.upd (by have := List.mem_of_getElem? hx; simp [this])) upd_same
theorem q_augQ {B : Hp → Prop} {j : Nat} {x : Addr} {m : Km424.Ask} {y : V} (m' : Km424.Ask) (R : Rk c H a r lm ls lq ms ss qs) (hx : qs[j]? = some x) (hm : H x = some (.ins c.cS dx (sf m))) (ef : putF f y (sf m) = sf m')
    (q : ∀ H1, Rk c H1 a { r with asks := r.asks.set j m' } lm ls lq ms ss qs → Frm H H1 (fpR a lm ls lq ms ss qs) → H1 x = some (.ins c.cS dx (sf m')) → B H1) :
    ∃ dx' fs', H x = some (.ins c.cS dx' fs') ∧ fs'.length < 1000 ∧ B (upd H x (.ins c.cS dx' (putF f y fs'))) := by
  refine ⟨dx, _, hm, (by show 4 < 1000; decide), ?_⟩
  rw [ef]
  exact q _ (R.setQ hx rfl) (Frm.upd (by have := List.mem_of_getElem? hx; simp [this])) upd_same
/-- what is wanted behind a call on a rink -/
def Fin (c : Cl) (H : Hp) (a : Addr) (res : Km424.Rink × List Int) (fp : List Addr) (Q : VK) : Prop :=
  ∀ (H' : Hp) (p : Addr) (fp' : List Addr), Own c H' a res.1 fp' → Frm H H' fp → (∀ b, b ∈ fp' → b ∈ fp ∨ H b = none) → H p = none → p ∉ fp' → H' p = some (.lst (res.2.map V.int)) → Q (.ref p) H'
theorem Fin.done {H0 : Hp} {res : Km424.Rink × List Int} {l : List Int} {xs : List V} {Q : VK} (k : Fin c H0 a res (fpR a lm ls lq ms ss qs) Q) (R : Rk c H a r lm ls lq ms ss qs) (F : Frm H0 H (fpR a lm ls lq ms ss qs)) (e : res = (r, l)) (ex : xs = l.map V.int) (hx : xs.length ≤ sizeLine) :
    xs.length ≤ sizeLine ∧ ∀ p, H p = none → Q (.ref p) (upd H p (.lst xs)) := by
  subst e ex
  exact ⟨hx, fun p hp => k _ p _ ⟨_, _, _, _, _, _, R.new hp, rfl⟩ (F.trans (Frm.new hp)) (fun b hb => .inl hb) (F.none hp (R.notin hp)) (R.notin hp) upd_same⟩
end
theorem Wf.lM {r : Km424.Rink} (h : Wf r) : r.machines.length < sizeLine := Nat.lt_of_le_of_lt h.nM (by decide)
theorem Wf.lQ {r : Km424.Rink} (h : Wf r) : r.asks.length < sizeLine := Nat.lt_of_le_of_lt h.nQ (by decide)
/-- a def that only reads a rink -/
def spR (c : Cl) (g : Km424.Rink → V) : Sp := fun vs H Q _ => ∃ (a : Addr) (r : Km424.Rink) (fp : List Addr), vs = [.ref a] ∧ Own c H a r fp ∧ Wf r ∧ ∀ H', Same H H' → Q (g r) H'
/-- .. with a number -/
def spR1 (c : Cl) (g : Km424.Rink → Nat → V) : Sp := fun vs H Q _ => ∃ (a : Addr) (r : Km424.Rink) (fp : List Addr) (n : Nat), vs = [.ref a, .int n] ∧ Own c H a r fp ∧ Wf r ∧ ∀ H', Same H H' → Q (g r n) H'
/-- a def that changes a rink and answers nothing -/
def spU (c : Cl) (g : Km424.Rink → List Nat → Km424.Rink) (k : Nat) : Sp := fun vs H Q _ => ∃ (a : Addr) (r : Km424.Rink) (fp : List Addr) (ns : List Nat), vs = .ref a :: ns.map (fun n : Nat => V.int n) ∧ ns.length = k ∧ Own c H a r fp ∧ Wf r ∧ ∀ H', Own c H' a (g r ns) fp → Frm H H' fp → Q .non H'
/-- a call that answers a list and may change the rink -/
def spM (c : Cl) (g : Km424.Rink → List Nat → Km424.Rink × List Int) (k : Nat) : Sp := fun vs H Q _ => ∃ (a : Addr) (r : Km424.Rink) (fp : List Addr) (ns : List Nat), vs = .ref a :: ns.map (fun n : Nat => V.int n) ∧ ns.length = k ∧ Own c H a r fp ∧ Wf r ∧ Fin c H a (g r ns) fp Q
/-- an __init__ that only stores -/
def spI (C : Addr) (fs : List Nat → List (Str × V)) (k : Nat) : Sp := fun vs H Q _ => ∃ (p dx : Addr) (ns : List Nat), vs = .ref p :: ns.map (fun n : Nat => V.int n) ∧ ns.length = k ∧ H p = some (.ins C dx []) ∧ ∀ H', H' p = some (.ins C dx (fs ns)) → (∀ b, b ≠ p → H' b = H b) → Q .non H'
theorem le1 : 1 ≤ sizeLine := by decide
theorem le2 : 2 ≤ sizeLine := by decide
theorem le3 : 3 ≤ sizeLine := by decide
theorem le4 : 4 ≤ sizeLine := by decide
theorem le5 : 5 ≤ sizeLine := by decide
theorem le6 : 6 ≤ sizeLine := by decide
theorem len1 {α : Type} {l : List α} (h : l.length = 1) : ∃ a, l = [a] := match l, h with | [a], _ => ⟨a, rfl⟩
theorem len2 {α : Type} {l : List α} (h : l.length = 2) : ∃ a b, l = [a, b] := match l, h with | [a, b], _ => ⟨a, b, rfl⟩
theorem len3 {α : Type} {l : List α} (h : l.length = 3) : ∃ a b c, l = [a, b, c] := match l, h with | [a, b, c], _ => ⟨a, b, c, rfl⟩
end Ir
set_option Elab.async false
set_option maxRecDepth 100000
set_option maxHeartbeats 2000000
namespace Ir
open PySem PySem.Spec PyProof.Rows L2
theorem take_snoc {α : Type} {l : List α} {i : Nat} {x : α} (h : l[i]? = some x) : l.take (i + 1) = l.take i ++ [x] := by
  rw [List.take_add_one, h]
  rfl
theorem map_at {α β : Type} {f : α → β} {l : List α} {j : Nat} {x : β} (h : (l.map f)[j]? = some x) : ∃ y, l[j]? = some y ∧ f y = x := by
  rw [List.getElem?_map] at h
  exact Option.map_eq_some_iff.mp h
theorem Same.new {H : Hp} {p : Addr} {o : HO} (h : H p = none) : Same H (upd H p o) := fun b u e => by rw [upd_ne (ne_of_none e h)]; exact e
/-- what a comprehension over the list at a wants -/
def LcAt (K : PySem.W.Frag) (a : Addr) (g : TG) (tt : TT) (te : TE) (vs : List Nat) (σ : L2.St) (H : Hp) (Q : VK) : Prop :=
  ∀ D, H D = none → ∃ W : Nat → Nat → Hp → Prop, (∃ m, W 0 m (upd H D (.lst []))) ∧ ∀ j m H, W j m H →
      ((Itl K a).stop j H ∧ Q (.ref D) H) ∨ ((Itl K a).go j H ∧ ∃ Nx : Hp → Prop, (∀ H', Nx H' → ∃ m', m' < m ∧ W (j + 1) m' H') ∧ ∀ x H', (Itl K a).yld j H x H' → g x (wipe σ vs) H' fun σ2 H2 => wipe σ2 vs = wipe σ vs ∧ tt σ2 H2 fun b H3 =>
        if b = true then te σ2 H3 fun y H4 => ∃ acc, H4 D = some (.lst acc) ∧ acc.length < sizeLine ∧ Nx (upd H4 D (.lst (acc ++ [y]))) else Nx H3)
theorem q_lc {K : PySem.W.Frag} {tl : TE} {g : TG} {tt : TT} {te : TE} {vs : List Nat} {σ : L2.St} {H : Hp} {Q : VK} (h : tl σ H fun x H1 => ∃ a, x = .ref a ∧ (∃ xs, SqL K H1 a xs) ∧ LcAt K a g tt te vs σ H1 Q) : tLc (iList K tl) g tt te vs σ H Q := h
/-- a comprehension that only reads; ys: what the items stand for -/
theorem lc_pure {α : Type} {K : PySem.W.Frag} {a : Addr} {xs : List V} {ys : List α} {i : Nat} {tt : TT} {te : TE} {σ : L2.St} {H : Hp} {Q : VK} (p : α → Bool) (e : α → V) (hS : SqL K H a xs) (hy : ys.length = xs.length) (hlen : xs.length < sizeLine)
    (htt : ∀ (j : Nat) (x : V) (y : α) (H' : Hp) (R : Bool → Hp → Prop), xs[j]? = some x → ys[j]? = some y → Same H H' → R (p y) H' → tt ((wipe σ [i]).set i (some x)) H' R)
    (hte : ∀ (j : Nat) (x : V) (y : α) (H' : Hp) (R : VK), xs[j]? = some x → ys[j]? = some y → p y = true → Same H H' → R (e y) H' → te ((wipe σ [i]).set i (some x)) H' R)
    (q : ∀ (D : Addr) (H' : Hp), H D = none → Same H H' → H' D = some (.lst ((ys.filter p).map e)) → Q (.ref D) H') : LcAt K a (gName i) tt te [i] σ H Q := by
  intro D hD
  refine lc_list (vs := [i]) (xs := xs) (Qd := fun H => Q (.ref D) H) (fun j H' => Same H H' ∧ H' D = some (.lst (((ys.take j).filter p).map e))) ⟨Same.new hD, by rw [upd_same]; rfl⟩ (fun j H' _ h => h.1.seq hS) ?_ ?_
  · rintro j x H' hx ⟨s, hd⟩
    have hj : j < ys.length := by rw [hy]; exact (List.getElem?_eq_some_iff.mp hx).1
    have hY : ys[j]? = some ys[j] := List.getElem?_eq_getElem hj
    show wipe (((wipe σ [i])).set i (some x)) [i] = wipe σ [i] ∧ _
    refine ⟨?_, htt j x _ H' _ hx hY s ?_⟩
    · show ((σ.set i none).set i (some x)).set i none = σ.set i none
      rw [List.set_set, List.set_set]
    · cases hp : p ys[j] with
      | true =>
        rw [if_pos rfl]
        refine hte j x _ H' _ hx hY hp s ?_
        refine ⟨_, hd, ?_, ?_, ?_⟩
        · rw [List.length_map]
          exact Nat.lt_of_le_of_lt (Nat.le_trans (List.length_filter_le _ _) (List.length_take_le _ _)) (Nat.lt_of_le_of_lt (Nat.le_of_lt (List.getElem?_eq_some_iff.mp hx).1) hlen)
        · intro b o he
          rw [upd_ne (ne_of_none he hD)]
          exact s b o he
        · rw [upd_same, take_snoc hY, List.filter_append, List.filter_cons, hp, List.map_append]
          rfl
      | false =>
        rw [if_neg (by simp)]
        refine ⟨s, ?_⟩
        rw [hd, take_snoc hY, List.filter_append, List.filter_cons, hp]
        simp
  · rintro H' ⟨s, hd⟩
    rw [← hy, List.take_length] at hd
    exact q D H' hD s hd
/-- what a comprehension over J wants -/
def LcJ (J : It) (g : TG) (tt : TT) (te : TE) (vs : List Nat) (σ : L2.St) (H : Hp) (Q : VK) : Prop :=
  ∀ D, H D = none → ∃ W : Nat → Nat → Hp → Prop, (∃ m, W 0 m (upd H D (.lst []))) ∧ ∀ j m H, W j m H →
      (J.stop j H ∧ Q (.ref D) H) ∨ (J.go j H ∧ ∃ Nx : Hp → Prop, (∀ H', Nx H' → ∃ m', m' < m ∧ W (j + 1) m' H') ∧ ∀ x H', J.yld j H x H' → g x (wipe σ vs) H' fun σ2 H2 => wipe σ2 vs = wipe σ vs ∧ tt σ2 H2 fun b H3 =>
        if b = true then te σ2 H3 fun y H4 => ∃ acc, H4 D = some (.lst acc) ∧ acc.length < sizeLine ∧ Nx (upd H4 D (.lst (acc ++ [y]))) else Nx H3)
theorem q_lcL {K : PySem.W.Frag} {tl : TE} {g : TG} {tt : TT} {te : TE} {vs : List Nat} {σ : L2.St} {H : Hp} {Q : VK} (h : tl σ H fun x H1 => ∃ a, x = .ref a ∧ (∃ xs, SqL K H1 a xs) ∧ LcJ (Itl K a) g tt te vs σ H1 Q) : tLc (iList K tl) g tt te vs σ H Q := h
theorem q_lcE {K : PySem.W.Frag} {ta : TA} {g : TG} {tt : TT} {te : TE} {vs : List Nat} {σ : L2.St} {H : Hp} {Q : VK} (h : ta σ H fun ws H1 => ∃ a xs, ws = [.ref a] ∧ SqL K H1 a xs ∧ LcJ (Ite K a) g tt te vs σ H1 Q) : tLc (iEnum K ta) g tt te vs σ H Q := h
theorem q_lcR {ta : TA} {g : TG} {tt : TT} {te : TE} {vs : List Nat} {σ : L2.St} {H : Hp} {Q : VK} (h : ta σ H fun ws H1 => ∃ j : Int, ws = [.int j] ∧ -(2 ^ 62) ≤ j ∧ j < 2 ^ 62 ∧ LcJ (Itr 0 j.toNat) g tt te vs σ H1 Q) : tLc (iRng1 ta) g tt te vs σ H Q := h
/-- how an iterator goes while what stood there stands: n turns, f tells the item -/
structure Goes (J : It) (H : Hp) (n : Nat) (f : Nat → V → Hp → Prop) : Prop where
  go : ∀ j H', Same H H' → j < n → J.go j H'
  item : ∀ j H' x H2, Same H H' → j < n → J.yld j H' x H2 → Same H' H2 ∧ f j x H2
  stop : ∀ H', Same H H' → J.stop n H'
theorem goes_list {K : PySem.W.Frag} {a : Addr} {xs : List V} {H : Hp} (hS : SqL K H a xs) : Goes (Itl K a) H xs.length fun j x _ => xs[j]? = some x where
  go := fun j H' s hj => ⟨xs, xs[j], s.seq hS, by simp [hj]⟩
  item := fun j H' x H2 s hj y => by
    obtain ⟨rfl, y⟩ := y
    exact ⟨Same.refl _, y xs (s.seq hS)⟩
  stop := fun H' s => ⟨xs, s.seq hS, Nat.le_refl _⟩
theorem goes_enum {K : PySem.W.Frag} {a : Addr} {xs : List V} {H : Hp} (hS : SqL K H a xs) : Goes (Ite K a) H xs.length fun j v H2 => ∃ T x, v = .ref T ∧ xs[j]? = some x ∧ H2 T = some (.tup [.int ((j : Nat) : Int), x]) where
  go := fun j H' s hj => ⟨xs, xs[j], s.seq hS, by simp [hj]⟩
  item := fun j H' x H2 s hj y => by
    obtain ⟨T, z, rfl, hT, rfl, hz⟩ := y
    exact ⟨Same.new hT, T, z, rfl, hz xs (s.seq hS), upd_same⟩
  stop := fun H' s => ⟨xs, s.seq hS, Nat.le_refl _⟩
theorem goes_range {n : Nat} {H : Hp} : Goes (Itr 0 n) H n fun j x _ => x = .int ((j : Nat) : Int) where
  go := fun j H' s hj => hj
  item := fun j H' x H2 s hj y => by
    obtain ⟨rfl, rfl⟩ := y
    exact ⟨Same.refl _, by rw [Int.zero_add]⟩
  stop := fun H' s => Nat.le_refl _
/-- a comprehension that leaves what stood there, item by item -/
theorem lc_any {J : It} {n : Nat} {f : Nat → V → Hp → Prop} {g : TG} {tt : TT} {te : TE} {vs : List Nat} {σ : L2.St} {H : Hp} {Q : VK} (p : Nat → Bool) (e : Nat → V) (G : Goes J H n f) (hn : n < sizeLine)
    (hs : ∀ (j : Nat) (x : V) (H2 : Hp) (R1 : VK) (R0 : Hp → Prop), j < n → Same H H2 → f j x H2 → (∀ H', Same H2 H' → p j = true → R1 (e j) H') → (∀ H', Same H2 H' → p j = false → R0 H') →
      g x (wipe σ vs) H2 fun σ2 H3 => wipe σ2 vs = wipe σ vs ∧ tt σ2 H3 fun b H4 => if b = true then te σ2 H4 R1 else R0 H4)
    (q : ∀ (D : Addr) (H' : Hp), H D = none → Same H H' → H' D = some (.lst (((List.range n).filter p).map e)) → Q (.ref D) H') : LcJ J g tt te vs σ H Q := by
  intro D hD
  refine ⟨fun j m H' => m = n - j ∧ j ≤ n ∧ Same H H' ∧ H' D = some (.lst (((List.range j).filter p).map e)), ⟨n, by simp, Nat.zero_le _, Same.new hD, by rw [upd_same]; rfl⟩, ?_⟩
  rintro j m H' ⟨rfl, hj, s, hd⟩
  by_cases hlt : j < n
  · refine .inr ⟨G.go j H' s hlt, fun H'' => Same H H'' ∧ H'' D = some (.lst (((List.range (j + 1)).filter p).map e)), fun H'' h => ⟨n - (j + 1), by omega, rfl, hlt, h⟩, fun x H2 y => ?_⟩
    obtain ⟨s2, hf⟩ := G.item j H' x H2 s hlt y
    refine hs j x H2 _ _ hlt (s.trans s2) hf (fun H4 s4 hp => ?_) (fun H4 s4 hp => ?_)
    · have hd4 := s4 _ _ (s2 _ _ hd)
      refine ⟨_, hd4, ?_, ?_, ?_⟩
      · rw [List.length_map]
        exact Nat.lt_of_le_of_lt (List.length_filter_le _ _) (by rw [List.length_range]; omega)
      · intro b o he
        rw [upd_ne (ne_of_none he hD)]
        exact s4 b o (s2 b o (s b o he))
      · rw [upd_same, List.range_succ, List.filter_append, List.filter_cons, hp, List.map_append]
        rfl
    · refine ⟨(s.trans s2).trans s4, ?_⟩
      rw [s4 _ _ (s2 _ _ hd), List.range_succ, List.filter_append, List.filter_cons, hp]
      simp
  · have ej : j = n := by omega
    subst ej
    exact .inl ⟨G.stop H' s, q D H' hD s hd⟩
/-- a comprehension that makes one object each turn -/
theorem lc_objs {α : Type} {C : Addr} {fd : α → List (Str × V)} {J : It} {n : Nat} {f : Nat → V → Hp → Prop} {g : TG} {te : TE} {vs : List Nat} {σ : L2.St} {H : Hp} {Q : VK} (e : Nat → α) (G : Goes J H n f) (hn : n < sizeLine)
    (hs : ∀ (j : Nat) (x : V) (H2 : Hp) (R1 : VK), j < n → Same H H2 → f j x H2 → (∀ (z : Addr) (H' : Hp), Same H2 H' → H2 z = none → InsAt C H' z (fd (e j)) → R1 (.ref z) H') →
      g x (wipe σ vs) H2 fun σ2 H3 => wipe σ2 vs = wipe σ vs ∧ te σ2 H3 R1)
    (q : ∀ (D : Addr) (zs : List Addr) (H' : Hp), Same H H' → Objs C fd H' D zs ((List.range n).map e) → (∀ b, b ∈ D :: zs → H b = none) → (D :: zs).Nodup → Q (.ref D) H') : LcJ J g tYes te vs σ H Q := by
  intro D hD
  refine ⟨fun j m H' => m = n - j ∧ j ≤ n ∧ Same H H' ∧ ∃ zs, Objs C fd H' D zs ((List.range j).map e) ∧ (∀ b, b ∈ D :: zs → H b = none) ∧ (D :: zs).Nodup,
    ⟨n, by simp, Nat.zero_le _, Same.new hD, [], ⟨by rw [upd_same]; rfl, rfl, fun j x y h1 _ => by simp at h1⟩, fun b hb => by
      obtain rfl : b = D := by simpa using hb
      exact hD, by simp⟩, ?_⟩
  rintro j m H' ⟨rfl, hj, s, zs, O, hf0, nd⟩
  by_cases hlt : j < n
  · refine .inr ⟨G.go j H' s hlt, fun H'' => Same H H'' ∧ ∃ zs, Objs C fd H'' D zs ((List.range (j + 1)).map e) ∧ (∀ b, b ∈ D :: zs → H b = none) ∧ (D :: zs).Nodup, fun H'' h => ⟨n - (j + 1), by omega, rfl, hlt, h⟩, fun x H2 y => ?_⟩
    obtain ⟨s2, hf⟩ := G.item j H' x H2 s hlt y
    have O2 := O.same s2
    refine hs j x H2 _ hlt (s.trans s2) hf fun z H4 s4 hz hi => ?_
    have O4 := O2.same s4
    have nz : z ∉ D :: zs := fun m => by
      obtain ⟨o, ho⟩ := O2.some_of m
      rw [hz] at ho
      cases ho
    have nD : D ∉ z :: zs := fun m => by
      rcases List.mem_cons.mp m with rfl | m
      · exact nz List.mem_cons_self
      · exact (List.nodup_cons.mp nd).1 m
    refine ⟨_, O4.lst, ?_, ?_, zs ++ [z], ?_, ?_, ?_⟩
    · rw [List.length_map, O4.len, List.length_map, List.length_range]
      omega
    · intro b o he
      rw [upd_ne (ne_of_none he hD)]
      exact s4 b o (s2 b o (s b o he))
    · rw [List.range_succ, List.map_append]
      exact O4.add nD hi
    · intro b hb
      rw [← List.cons_append] at hb
      rcases List.mem_append.mp hb with hb | hb
      · exact hf0 b hb
      · obtain rfl : b = z := by simpa using hb
        exact (s.trans s2).free hz
    · rw [← List.cons_append]
      refine List.nodup_append.mpr ⟨nd, by simp, fun b hb d hd e => ?_⟩
      obtain rfl : d = z := by simpa using hd
      exact nz (e ▸ hb)
  · have ej : j = n := by omega
    subst ej
    exact .inl ⟨G.stop H' s, q D zs H' s O hf0 nd⟩
end Ir
set_option Elab.async false
set_option maxRecDepth 100000
namespace Ir
open PySem PySem.Spec PyProof.Rows L2
theorem df_mk {K : PySem.W.Frag} {h : Heap} {mg : Str → Option Value} {x : Str} {st : Stmt} {ps : List Str} {f : Addr} {oc : Value} {od an : Option Addr} {osl : Array (Option Value)} {kV doc pm cdv ct : Value} (X : K.In h) (G : h.Ns mainGlobals mg)
    (a : PySem.W.nsIn K mainGlobals x = some (some (.ref f))) (l : K.lookup f = some ⟨oc, od, .func (PySem.W.fnOf x x (defArgs st) (defBody st) (defScope st) .none kV doc pm an cdv ct), osl⟩) (c : PySem.W.codeIn K cdv x = true) (k : PySem.W.keepIn K (.ref f) = true)
    (b : ∀ (kV doc pm : Value) (an : Option Addr) (cdv ct : Value) (us : List Value), us.length = ps.length → bindArgs (PySem.W.fnOf x x (defArgs st) (defBody st) (defScope st) .none kV doc pm an cdv ct) ⟨us, []⟩ = pure (ps.zip us)) : Df K mg x st ps :=
  ⟨f, _, fun_mk (st := st) l c k, PySem.W.mg_of X G a, (fun_mk (st := st) l c k).binds b⟩
theorem num_mk {K : PySem.W.Frag} {h : Heap} {mg : Str → Option Value} {x : Str} {i : Int} {t : Tok} (X : K.In h) (G : h.Ns mainGlobals mg) (a : PySem.W.nsIn K mainGlobals x = some (some (.int i t))) : ∃ t, mg x = some (.int i t) := ⟨t, PySem.W.mg_of X G a⟩
abbrev KOf {K : PySem.W.Frag} {h : Heap} (_ : K.In h) : PySem.W.Frag := K
theorem dm_mk {K : PySem.W.Frag} {h : Heap} {mg : Str → Option Value} {x qual : Str} {st : Stmt} {ps fs : List Str} {C f : Addr} {oc : Value} {od an : Option Addr} {osl : Array (Option Value)} {kV doc pm cdv ct : Value} (X : K.In h) (G : h.Ns mainGlobals mg)
    (a : PySem.W.nsIn K mainGlobals x = some (some (.ref C))) (mk : PySem.W.makesIn K C = true) (i : PySem.W.findIn K (.ref C) "__init__" = some (some (.ref f))) (fn : PySem.W.isFn K (.ref f) = true) (kc : PySem.W.keepIn K (.ref C) = true)
    (l : K.lookup f = some ⟨oc, od, .func (PySem.W.fnOf "__init__" qual (defArgs st) (defBody st) (defScope st) .none kV doc pm an cdv ct), osl⟩) (c : PySem.W.codeIn K cdv qual = true) (k : PySem.W.keepIn K (.ref f) = true)
    (pg : PySem.W.plainGet K C Str.empty = true) (hd : PySem.W.hasDictIn K C = true) (po : PySem.W.plainOver K C = true) (sa : PySem.W.findIn K (.ref C) "__setattr__" = some (some (.builtin "object.__setattr__")))
    (nf : ∀ x ∈ fs, PySem.W.findIn K (.ref C) x = some none)
    (b : ∀ (kV doc pm : Value) (an : Option Addr) (cdv ct : Value) (us : List Value), us.length = ps.length → bindArgs (PySem.W.fnOf "__init__" qual (defArgs st) (defBody st) (defScope st) .none kV doc pm an cdv ct) ⟨us, []⟩ = pure (ps.zip us)) :
    ∃ C, PySem.W.nsIn K mainGlobals x = some (some (.ref C)) ∧ Dm K mg x C qual st ps ∧ Cls K C ∧ ∀ x ∈ fs, NoAttr K C x :=
  ⟨C, a, ⟨f, _, fun_mk (st := st) l c k, PySem.W.mg_of X G a, ⟨mk, i, fn, kc⟩, (fun_mk (st := st) l c k).binds b⟩, ⟨pg, hd, po, sa⟩, nf⟩
def checkInts : List Nat → List Value → Bool
  | [], [] => true
  | n :: ns, .int i _ :: us => decide (i = (n : Int)) && checkInts ns us
  | _, _ => false
theorem vals_ints : ∀ (ns : List Nat) (us : List Value), checkInts ns us = true → Vals (ns.map fun n : Nat => V.int (n : Int)) us
  | [], [], _ => .nil
  | n :: ns, .int i t :: us, h => by
    have h2 : (decide (i = (n : Int)) && checkInts ns us) = true := h
    rw [Bool.and_eq_true, decide_eq_true_eq] at h2
    obtain ⟨e, h3⟩ := h2
    exact .cons ⟨t, by rw [e]⟩ (vals_ints ns us h3)
theorem giv_mk {K : PySem.W.Frag} {h : Heap} {mg : Str → Option Value} {g : Addr} {od : Option Addr} {its : Array Value} {n : Nat} {osl : Array (Option Value)} (X : K.In h) (G : h.Ns mainGlobals mg) (a : PySem.W.nsIn K mainGlobals "GIVEN" = some (some (.ref g)))
    (l : K.lookup g = some ⟨.type "tuple", od, .seq its n, osl⟩) (hv : its.size ≤ sizeLine ∧ Vals (argN.map fun n : Nat => V.int (n : Int)) its.toList) : ∃ g, mg "GIVEN" = some (.ref g) ∧ ∀ H : Hp, SqT K H g (argN.map fun n : Nat => V.int (n : Int)) :=
  ⟨g, PySem.W.mg_of X G a, fun _ => .inr ⟨_, its, n, l, rfl, rfl, hv.1, hv.2⟩⟩
end Ir
set_option Elab.async false
set_option maxRecDepth 100000
set_option maxHeartbeats 2000000
namespace Ir
open PySem PySem.Spec PyProof.Rows L2
local macro_rules | `(tactic| walk_at "rd1") => `(tactic| with_reducible first
  | refine q_seq ?_ | refine q_next ?_ | refine q_if ?_ | refine q_test ?_ | refine q_testB ?_ | refine q_op ?_ | refine q_c ?_ | refine q_i0 ?_ | refine q_eq ?_ | refine q_ne ?_ | refine q_bl ?_ | refine q_ret ?_ | refine q_lst ?_ | refine q_tup ?_ | refine q_cons ?_ | refine q_nil ?_
  | refine q_and ?_ | refine q_or ?_ | refine q_not ?_ | refine q_andV ?_ | refine q_orV ?_ | refine q_set ?_ | refine q_drop ?_ | refine q_call ?_ | refine q_cb ?_ | refine q_make ?_ | refine q_forR ?_ | refine q_forL ?_ | refine q_forE ?_ | refine q_gname ?_ | refine q_bm ?_ | refine q_add ?_ | refine q_sub ?_ | refine q_fld ?_ | refine q_sfld ?_ | refine q_saug ?_ | refine q_ifE ?_ | refine q_notV ?_ | refine q_sl ?_ | refine q_part ?_ | refine q_int ?_ | refine q_yes ?_ | refine q_bm0 ?_)
set_option hygiene false in
local macro_rules | `(tactic| walk_at "rd") => `(tactic| repeat (first | walk_at "rd1" | refine q_var rfl ?_ | refine q_R T hi rfl ?_ | refine q_D T hd rfl ?_ | dsimp only))
local macro_rules | `(tactic| walk_at "ifs") => `(tactic| repeat (first | rw [if_pos (by omega)] | rw [if_neg (by omega)]))
/-! ### sums over the machines -/
section
variable {P : Program} {w : World} {K : PySem.W.Frag} {mg : Str → Option Value} {base : Heap} {c : Cl}
abbrev s_cold_of : Stmt := top 49
theorem sc_cold_of : FnScope ["rink", "machine"] ["rink"] (defScope s_cold_of) := ⟨rfl, rfl, rfl, by decide +kernel, rfl, by decide +kernel, by decide +kernel⟩
theorem ok_cold_of (F : Df K mg "cold_of" s_cold_of ["rink"]) (T : Txt K mg c) : Cal P w K mg base 1 "cold_of" ["rink"] (spR c fun r => .int (r.cold : Nat)) := by
  refine F.ok sc_cold_of (fun vs H Q E h => ?_) (fun f cdv A outer s H vs Q E hr h => ?_)
  · obtain ⟨a, r, fp, rfl, _⟩ := h
    rfl
  · obtain ⟨a, r, fp, rfl, ⟨lm, ls, lq, ms, ss, qs, R, rfl⟩, wf, k⟩ := h
    refine ⟨_, pss_one (ps_ret (pe_callB (cr_sum rfl) (by rfl) T.b_sum boot_sum (pa_cons (pe_lc rfl sc_cold_of.nd (pi_list (pe_fld (pv 0) rfl)) (blkOk_by (own := [("machine", 1)]) rfl) (fun _ _ _ _ _ => (pg_name (i := 1) sc_cold_of.nd rfl (Or.inl rfl))) (fun _ _ _ _ _ => (pts_one (pt_cmpR op_eq (pe_fldK K rfl (pv 1) rfl) pe_int (nomark _)))) (fun _ _ _ _ _ => (pe_fldK K rfl (pv 1) rfl))) pa_nil))), ?_⟩
    obtain ⟨dx, hi⟩ := R.ins
    walk_at "rd"
    refine q_lc ?_
    walk_at "rd"
    refine ⟨lm, rfl, ⟨_, SqL.of R.M.lst⟩, lc_pure (ys := r.machines) (fun m => m.on_) (fun m => .int (m.cold : Nat)) (SqL.of R.M.lst) (by rw [List.length_map, R.M.len]) (by rw [List.length_map, R.M.len]; exact wf.lM) ?_ ?_ ?_⟩
    · intro j x y H' Q' hx hy s q
      obtain ⟨b, hb, rfl⟩ := map_at hx
      obtain ⟨dy, hM⟩ := R.M.obj j b y hb hy
      walk_at "rd"
      refine q_M T ⟨dy, s _ _ hM⟩ rfl ?_
      walk_at "rd"
      cases h : y.on_ <;> simpa [b01, h] using q
    · intro j x y H' Q' hx hy hp s q
      obtain ⟨b, hb, rfl⟩ := map_at hx
      obtain ⟨dy, hM⟩ := R.M.obj j b y hb hy
      walk_at "rd"
      refine q_M T ⟨dy, s _ _ hM⟩ rfl ?_
      exact q
    · intro D H' hD s hl
      walk_at "rd"
      refine ⟨D, (r.machines.filter fun m => m.on_).map fun m => ((m.cold : Nat) : Int), rfl, SqL.of (by rw [hl, List.map_map]; rfl), ?_⟩
      rw [sum_if (fun m : Km424.Machine => m.on_) fun m => m.cold]
      exact k H' s
abbrev s_cost_of : Stmt := top 50
theorem sc_cost_of : FnScope ["rink", "machine"] ["rink"] (defScope s_cost_of) := ⟨rfl, rfl, rfl, by decide +kernel, rfl, by decide +kernel, by decide +kernel⟩
theorem ok_cost_of (F : Df K mg "cost_of" s_cost_of ["rink"]) (T : Txt K mg c) : Cal P w K mg base 1 "cost_of" ["rink"] (spR c fun r => .int (r.costs : Nat)) := by
  refine F.ok sc_cost_of (fun vs H Q E h => ?_) (fun f cdv A outer s H vs Q E hr h => ?_)
  · obtain ⟨a, r, fp, rfl, _⟩ := h
    rfl
  · obtain ⟨a, r, fp, rfl, ⟨lm, ls, lq, ms, ss, qs, R, rfl⟩, wf, k⟩ := h
    refine ⟨_, pss_one (ps_ret (pe_callB (cr_sum rfl) (by rfl) T.b_sum boot_sum (pa_cons (pe_lc rfl sc_cost_of.nd (pi_list (pe_fld (pv 0) rfl)) (blkOk_by (own := [("machine", 1)]) rfl) (fun _ _ _ _ _ => (pg_name (i := 1) sc_cost_of.nd rfl (Or.inl rfl))) (fun _ _ _ _ _ => (pts_one (pt_cmpR op_eq (pe_fldK K rfl (pv 1) rfl) pe_int (nomark _)))) (fun _ _ _ _ _ => (pe_fldK K rfl (pv 1) rfl))) pa_nil))), ?_⟩
    obtain ⟨dx, hi⟩ := R.ins
    walk_at "rd"
    refine q_lc ?_
    walk_at "rd"
    refine ⟨lm, rfl, ⟨_, SqL.of R.M.lst⟩, lc_pure (ys := r.machines) (fun m => m.on_) (fun m => .int (m.cost : Nat)) (SqL.of R.M.lst) (by rw [List.length_map, R.M.len]) (by rw [List.length_map, R.M.len]; exact wf.lM) ?_ ?_ ?_⟩
    · intro j x y H' Q' hx hy s q
      obtain ⟨b, hb, rfl⟩ := map_at hx
      obtain ⟨dy, hM⟩ := R.M.obj j b y hb hy
      walk_at "rd"
      refine q_M T ⟨dy, s _ _ hM⟩ rfl ?_
      walk_at "rd"
      cases h : y.on_ <;> simpa [b01, h] using q
    · intro j x y H' Q' hx hy hp s q
      obtain ⟨b, hb, rfl⟩ := map_at hx
      obtain ⟨dy, hM⟩ := R.M.obj j b y hb hy
      walk_at "rd"
      refine q_M T ⟨dy, s _ _ hM⟩ rfl ?_
      exact q
    · intro D H' hD s hl
      walk_at "rd"
      refine ⟨D, (r.machines.filter fun m => m.on_).map fun m => ((m.cost : Nat) : Int), rfl, SqL.of (by rw [hl, List.map_map]; rfl), ?_⟩
      rw [sum_if (fun m : Km424.Machine => m.on_) fun m => m.cost]
      exact k H' s
abbrev s_heat_for : Stmt := top 51
theorem sc_heat_for : FnScope ["rink", "skaters"] ["rink", "skaters"] (defScope s_heat_for) := ⟨rfl, rfl, rfl, by decide +kernel, rfl, by decide +kernel, by decide +kernel⟩
theorem ok_heat_for (F : Df K mg "heat_for" s_heat_for ["rink", "skaters"]) (T : Txt K mg c) : Cal P w K mg base 1 "heat_for" ["rink", "skaters"] (spR1 c fun r n => .int (r.heat n : Nat)) := by
  refine F.ok sc_heat_for (fun vs H Q E h => ?_) (fun f cdv A outer s H vs Q E hr h => ?_)
  · obtain ⟨a, r, fp, n, rfl, _⟩ := h
    rfl
  · obtain ⟨a, r, fp, n, rfl, ⟨lm, ls, lq, ms, ss, qs, R, rfl⟩, wf, k⟩ := h
    refine ⟨_, pss_one (ps_ret (pe_op op_add (pe_fld (pv 0) rfl) (pe_op op_mul (pv 1) (pe_fld (pv 0) rfl)))), ?_⟩
    obtain ⟨dx, hi⟩ := R.ins
    walk_at "rd"
    have := wf.each
    refine q_i (.inr ⟨by omega, by omega⟩) ?_
    walk_at "rd"
    exact k H (Same.refl H)
abbrev s_is_hard : Stmt := top 52
theorem sc_is_hard : FnScope ["rink"] ["rink"] (defScope s_is_hard) := ⟨rfl, rfl, rfl, by decide +kernel, rfl, by decide +kernel, by decide +kernel⟩
theorem ok_is_hard (F : Df K mg "is_hard" s_is_hard ["rink"]) (T : Txt K mg c) : Cal P w K mg base 1 "is_hard" ["rink"] (spR c fun r => .bl r.hard) := by
  refine F.ok sc_is_hard (fun vs H Q E h => ?_) (fun f cdv A outer s H vs Q E hr h => ?_)
  · obtain ⟨a, r, fp, rfl, _⟩ := h
    rfl
  · obtain ⟨a, r, fp, rfl, ⟨lm, ls, lq, ms, ss, qs, R, rfl⟩, wf, k⟩ := h
    refine ⟨_, pss_one (ps_ret (pe_and (pe_cmpR op_eq (pe_fld (pv 0) rfl) pe_int (nomark _)) (pe_one (pe_cmpR op_ge (pe_fld (pv 0) rfl) (pe_fld (pv 0) rfl) (nomark _))))), ?_⟩
    obtain ⟨dx, hi⟩ := R.ins
    walk_at "rd"
    have k : Q (.bl (r.wet == 0 && decide (r.least ≤ r.ice))) H := k H (Same.refl H)
    refine q_ite (fun e1 => ?_) (fun e1 => ?_)
    · walk_at "rd"
      have e : (r.wet == 0) = true := by simpa using e1
      rw [e, Bool.true_and] at k
      have e2 : decide ((r.least : Int) ≤ (r.ice : Int)) = decide (r.least ≤ r.ice) := by simp
      rw [e2]
      exact k
    · have e : (r.wet == 0) = false := by
        simp only [beq_eq_false_iff_ne, ne_eq]
        omega
      rw [e, Bool.false_and] at k
      exact k
/-! ### ir_flood, ir_shave, ir_drain, ir_off -/
abbrev s_ir_flood : Stmt := top 55
theorem sc_ir_flood : FnScope ["rink", "n"] ["rink", "n"] (defScope s_ir_flood) := ⟨rfl, rfl, rfl, by decide +kernel, rfl, by decide +kernel, by decide +kernel⟩
theorem ok_ir_flood (F : Df K mg "ir_flood" s_ir_flood ["rink", "n"]) (T : Txt K mg c) : Cal P w K mg base 1 "ir_flood" ["rink", "n"] (spM c gFlood 1) := by
  refine F.ok sc_ir_flood (fun vs H Q E h => ?_) (fun f cdv A outer s H vs Q E hr h => ?_)
  · obtain ⟨a, r, fp, ns, rfl, hn, _⟩ := h
    simp [hn]
  · obtain ⟨a, r, fp, ns, rfl, hn, ⟨lm, ls, lq, ms, ss, qs, R, rfl⟩, wf, k⟩ := h
    obtain ⟨n, rfl⟩ := len1 hn
    refine ⟨_, pss_cons (ps_if (pt_cmpR op_eq (pv 1) pe_int (nomark _)) (pss_one (ps_ret (pe_lst (pa_cons (pe_num rfl T.c_NOT_AS_TOLD) pa_nil)))) pss_nil)
      (pss_cons (ps_if (pt_cmpR op_gt (pe_fld (pv 0) rfl) pe_int (nomark _)) (pss_one (ps_ret (pe_lst (pa_cons (pe_num rfl T.c_IN_USE) pa_nil)))) pss_nil)
      (pss_cons (ps_if (pt_cmpR op_gt (pe_op op_add (pe_fld (pv 0) rfl) (pv 1)) (pe_num rfl T.c_MOST_LAID) (nomark _)) (pss_one (ps_ret (pe_lst (pa_cons (pe_num rfl T.c_NO_ROOM) pa_nil)))) pss_nil)
      (pss_cons (ps_fldaug (pv 0) (pv 1) in_add)
      (pss_cons (ps_fldaug (pv 0) (pv 1) in_add)
      (pss_one (ps_ret (pe_lst (pa_cons (pe_fld (pv 0) rfl) pa_nil)))))))), ?_⟩
    obtain ⟨dx, hi⟩ := R.ins
    walk_at "rd"
    refine q_ite (fun e1 => ?_) (fun e1 => ?_) <;> walk_at "rd"
    · exact k.done R .refl (l := [-22]) (by rw [gFlood]; walk_at "ifs") rfl le1
    refine q_ite (fun e2 => ?_) (fun e2 => ?_) <;> walk_at "rd"
    · exact k.done R .refl (l := [-16]) (by rw [gFlood]; walk_at "ifs") rfl le1
    refine q_ite (fun e3 => ?_) (fun e3 => ?_) <;> walk_at "rd"
    · exact k.done R .refl (l := [-28]) (by rw [gFlood]; walk_at "ifs") rfl le1
    refine q_W R hi (r' := { r with laid := r.laid + n }) (r.laid + n) (by omega) rfl rfl rfl rfl fun H1 R F1 hi => ?_
    walk_at "rd"
    refine q_W R hi (r' := { r with laid := r.laid + n, wet := r.wet + n }) (r.wet + n) (by omega) rfl rfl rfl rfl fun H2 R F2 hi => ?_
    walk_at "rd"
    exact k.done R (F1.trans F2) (l := [((r.wet + n : Nat) : Int)]) (by rw [gFlood]; walk_at "ifs") rfl le1
abbrev s_ir_shave : Stmt := top 56
theorem sc_ir_shave : FnScope ["rink", "n"] ["rink", "n"] (defScope s_ir_shave) := ⟨rfl, rfl, rfl, by decide +kernel, rfl, by decide +kernel, by decide +kernel⟩
theorem ok_ir_shave (F : Df K mg "ir_shave" s_ir_shave ["rink", "n"]) (T : Txt K mg c) : Cal P w K mg base 1 "ir_shave" ["rink", "n"] (spM c gShave 1) := by
  refine F.ok sc_ir_shave (fun vs H Q E h => ?_) (fun f cdv A outer s H vs Q E hr h => ?_)
  · obtain ⟨a, r, fp, ns, rfl, hn, _⟩ := h
    simp [hn]
  · obtain ⟨a, r, fp, ns, rfl, hn, ⟨lm, ls, lq, ms, ss, qs, R, rfl⟩, wf, k⟩ := h
    obtain ⟨n, rfl⟩ := len1 hn
    refine ⟨_, pss_cons (ps_if (pt_cmpR op_eq (pv 1) pe_int (nomark _)) (pss_one (ps_ret (pe_lst (pa_cons (pe_num rfl T.c_NOT_AS_TOLD) pa_nil)))) pss_nil)
      (pss_cons (ps_if (pt_cmpR op_gt (pe_fld (pv 0) rfl) pe_int (nomark _)) (pss_one (ps_ret (pe_lst (pa_cons (pe_num rfl T.c_IN_USE) pa_nil)))) pss_nil)
      (pss_cons (ps_if (pt_cmpR op_lt (pe_fld (pv 0) rfl) (pv 1) (nomark _)) (pss_one (ps_ret (pe_lst (pa_cons (pe_num rfl T.c_TOO_FEW) pa_nil)))) pss_nil)
      (pss_cons (ps_fldaug (pv 0) (pv 1) in_sub)
      (pss_cons (ps_fldaug (pv 0) (pv 1) in_add)
      (pss_one (ps_ret (pe_lst (pa_cons (pe_fld (pv 0) rfl) pa_nil)))))))), ?_⟩
    obtain ⟨dx, hi⟩ := R.ins
    walk_at "rd"
    refine q_ite (fun e1 => ?_) (fun e1 => ?_) <;> walk_at "rd"
    · exact k.done R .refl (l := [-22]) (by rw [gShave]; walk_at "ifs") rfl le1
    refine q_ite (fun e2 => ?_) (fun e2 => ?_) <;> walk_at "rd"
    · exact k.done R .refl (l := [-16]) (by rw [gShave]; walk_at "ifs") rfl le1
    refine q_ite (fun e3 => ?_) (fun e3 => ?_) <;> walk_at "rd"
    · exact k.done R .refl (l := [-12]) (by rw [gShave]; walk_at "ifs") rfl le1
    refine q_W R hi (r' := { r with ice := r.ice - n }) (r.ice - n) (by omega) rfl rfl rfl rfl fun H1 R F1 hi => ?_
    walk_at "rd"
    refine q_W R hi (r' := { r with ice := r.ice - n, shaved := r.shaved + n }) (r.shaved + n) (by omega) rfl rfl rfl rfl fun H2 R F2 hi => ?_
    walk_at "rd"
    exact k.done R (F1.trans F2) (l := [((r.ice - n : Nat) : Int)]) (by rw [gShave]; walk_at "ifs") rfl le1
abbrev s_ir_drain : Stmt := top 57
theorem sc_ir_drain : FnScope ["rink", "n"] ["rink", "n"] (defScope s_ir_drain) := ⟨rfl, rfl, rfl, by decide +kernel, rfl, by decide +kernel, by decide +kernel⟩
theorem ok_ir_drain (F : Df K mg "ir_drain" s_ir_drain ["rink", "n"]) (T : Txt K mg c) : Cal P w K mg base 1 "ir_drain" ["rink", "n"] (spM c gDrain 1) := by
  refine F.ok sc_ir_drain (fun vs H Q E h => ?_) (fun f cdv A outer s H vs Q E hr h => ?_)
  · obtain ⟨a, r, fp, ns, rfl, hn, _⟩ := h
    simp [hn]
  · obtain ⟨a, r, fp, ns, rfl, hn, ⟨lm, ls, lq, ms, ss, qs, R, rfl⟩, wf, k⟩ := h
    obtain ⟨n, rfl⟩ := len1 hn
    refine ⟨_, pss_cons (ps_if (pt_cmpR op_eq (pv 1) pe_int (nomark _)) (pss_one (ps_ret (pe_lst (pa_cons (pe_num rfl T.c_NOT_AS_TOLD) pa_nil)))) pss_nil)
      (pss_cons (ps_if (pt_cmpR op_lt (pe_fld (pv 0) rfl) (pv 1) (nomark _)) (pss_one (ps_ret (pe_lst (pa_cons (pe_num rfl T.c_TOO_FEW) pa_nil)))) pss_nil)
      (pss_cons (ps_fldaug (pv 0) (pv 1) in_sub)
      (pss_cons (ps_fldaug (pv 0) (pv 1) in_add)
      (pss_one (ps_ret (pe_lst (pa_cons (pe_fld (pv 0) rfl) pa_nil))))))), ?_⟩
    obtain ⟨dx, hi⟩ := R.ins
    walk_at "rd"
    refine q_ite (fun e1 => ?_) (fun e1 => ?_) <;> walk_at "rd"
    · exact k.done R .refl (l := [-22]) (by rw [gDrain]; walk_at "ifs") rfl le1
    refine q_ite (fun e3 => ?_) (fun e3 => ?_) <;> walk_at "rd"
    · exact k.done R .refl (l := [-12]) (by rw [gDrain]; walk_at "ifs") rfl le1
    refine q_W R hi (r' := { r with wet := r.wet - n }) (r.wet - n) (by omega) rfl rfl rfl rfl fun H1 R F1 hi => ?_
    walk_at "rd"
    refine q_W R hi (r' := { r with wet := r.wet - n, drained := r.drained + n }) (r.drained + n) (by omega) rfl rfl rfl rfl fun H2 R F2 hi => ?_
    walk_at "rd"
    exact k.done R (F1.trans F2) (l := [((r.wet - n : Nat) : Int)]) (by rw [gDrain]; walk_at "ifs") rfl le1
abbrev s_ir_off : Stmt := top 63
theorem sc_ir_off : FnScope ["rink", "n"] ["rink", "n"] (defScope s_ir_off) := ⟨rfl, rfl, rfl, by decide +kernel, rfl, by decide +kernel, by decide +kernel⟩
theorem ok_ir_off (F : Df K mg "ir_off" s_ir_off ["rink", "n"]) (T : Txt K mg c) : Cal P w K mg base 1 "ir_off" ["rink", "n"] (spM c gOff 1) := by
  refine F.ok sc_ir_off (fun vs H Q E h => ?_) (fun f cdv A outer s H vs Q E hr h => ?_)
  · obtain ⟨a, r, fp, ns, rfl, hn, _⟩ := h
    simp [hn]
  · obtain ⟨a, r, fp, ns, rfl, hn, ⟨lm, ls, lq, ms, ss, qs, R, rfl⟩, wf, k⟩ := h
    obtain ⟨n, rfl⟩ := len1 hn
    refine ⟨_, pss_cons (ps_if (pt_cmpR op_eq (pv 1) pe_int (nomark _)) (pss_one (ps_ret (pe_lst (pa_cons (pe_num rfl T.c_NOT_AS_TOLD) pa_nil)))) pss_nil)
      (pss_cons (ps_if (pt_cmpR op_lt (pe_fld (pv 0) rfl) (pv 1) (nomark _)) (pss_one (ps_ret (pe_lst (pa_cons (pe_num rfl T.c_TOO_FEW) pa_nil)))) pss_nil)
      (pss_cons (ps_fldaug (pv 0) (pv 1) in_sub)
      (pss_one (ps_ret (pe_lst (pa_cons (pe_fld (pv 0) rfl) pa_nil)))))), ?_⟩
    obtain ⟨dx, hi⟩ := R.ins
    walk_at "rd"
    refine q_ite (fun e1 => ?_) (fun e1 => ?_) <;> walk_at "rd"
    · exact k.done R .refl (l := [-22]) (by rw [gOff]; walk_at "ifs") rfl le1
    refine q_ite (fun e3 => ?_) (fun e3 => ?_) <;> walk_at "rd"
    · exact k.done R .refl (l := [-12]) (by rw [gOff]; walk_at "ifs") rfl le1
    refine q_W R hi (r' := { r with on_ := r.on_ - n }) (r.on_ - n) (by omega) rfl rfl rfl rfl fun H1 R F1 hi => ?_
    walk_at "rd"
    exact k.done R F1 (l := [((r.on_ - n : Nat) : Int)]) (by rw [gOff]; walk_at "ifs") rfl le1
end
end Ir
set_option Elab.async false
set_option maxRecDepth 100000
set_option maxHeartbeats 2000000
namespace Ir
open PySem PySem.Spec PyProof.Rows L2
local macro_rules | `(tactic| walk_at "rd1") => `(tactic| with_reducible first
  | refine q_seq ?_ | refine q_next ?_ | refine q_if ?_ | refine q_test ?_ | refine q_testB ?_ | refine q_op ?_ | refine q_c ?_ | refine q_i0 ?_ | refine q_eq ?_ | refine q_ne ?_ | refine q_bl ?_ | refine q_ret ?_ | refine q_lst ?_ | refine q_tup ?_ | refine q_cons ?_ | refine q_nil ?_
  | refine q_and ?_ | refine q_or ?_ | refine q_not ?_ | refine q_andV ?_ | refine q_orV ?_ | refine q_set ?_ | refine q_drop ?_ | refine q_call ?_ | refine q_cb ?_ | refine q_make ?_ | refine q_forR ?_ | refine q_forL ?_ | refine q_forE ?_ | refine q_gname ?_ | refine q_bm ?_ | refine q_add ?_ | refine q_sub ?_ | refine q_fld ?_ | refine q_sfld ?_ | refine q_saug ?_ | refine q_ifE ?_ | refine q_notV ?_ | refine q_sl ?_ | refine q_part ?_ | refine q_int ?_ | refine q_yes ?_ | refine q_bm0 ?_)
set_option hygiene false in
local macro_rules | `(tactic| walk_at "rd") => `(tactic| repeat (first | walk_at "rd1" | refine q_var rfl ?_ | refine q_R T hi rfl ?_ | refine q_D T hd rfl ?_ | dsimp only))
local macro_rules | `(tactic| walk_at "ifs") => `(tactic| repeat (first | rw [if_pos (by omega)] | rw [if_neg (by omega)]))
section
variable {P : Program} {w : World} {K : PySem.W.Frag} {mg : Str → Option Value} {base : Heap} {c : Cl}
/-! ### the small classes -/
abbrev s_Machine___init__ : Stmt := inClass (top 22) 0
theorem sc_Machine___init__ : FnScope ["self", "cold", "cost"] ["self", "cold", "cost"] (defScope s_Machine___init__) := ⟨rfl, rfl, rfl, by decide +kernel, rfl, by decide +kernel, by decide +kernel⟩
def fMachine : List Nat → List (Str × V)
  | [a, b] => mf ⟨a, b, false⟩
  | _ => []
theorem ok_Machine (F : Dm K mg "Machine" c.cM "Machine.__init__" s_Machine___init__ ["self", "cold", "cost"]) (T : Txt K mg c) : Kls P w K mg base 1 "Machine" c.cM ["self", "cold", "cost"] (spI c.cM fMachine 2) := by
  refine F.ok sc_Machine___init__ (fun vs H Q E h => ?_) (fun f cdv A outer s H vs Q E hr h => ?_)
  · obtain ⟨p, dx, ns, rfl, hn, _⟩ := h
    simp [hn]
  · obtain ⟨p, dx, ns, rfl, hn, hp, k⟩ := h
    obtain ⟨x, y, rfl⟩ := len2 hn
    refine ⟨_, pss_cons (ps_fld (pv 0) (pv 1) rfl)
      (pss_cons (ps_fld (pv 0) (pv 2) rfl)
      (pss_one (ps_fld (pv 0) pe_int rfl))), ?_⟩
    walk_at "rd"
    refine q_I hp T.clM (T.fM _ (by simp [mN])) (show 0 < 1000 by decide) fun H1 hp h1 => ?_
    walk_at "rd"
    refine q_I hp T.clM (T.fM _ (by simp [mN])) (show 1 < 1000 by decide) fun H2 hp h2 => ?_
    walk_at "rd"
    refine q_I hp T.clM (T.fM _ (by simp [mN])) (show 2 < 1000 by decide) fun H3 hp h3 => ?_
    exact k H3 hp fun b hb => (h3 b hb).trans ((h2 b hb).trans (h1 b hb))
abbrev s_Pairs___init__ : Stmt := inClass (top 23) 0
theorem sc_Pairs___init__ : FnScope ["self"] ["self"] (defScope s_Pairs___init__) := ⟨rfl, rfl, rfl, by decide +kernel, rfl, by decide +kernel, by decide +kernel⟩
def fPairs : List Nat → List (Str × V) := fun _ => pf ⟨0, 0, 0⟩
theorem ok_Pairs (F : Dm K mg "Pairs" c.cP "Pairs.__init__" s_Pairs___init__ ["self"]) (T : Txt K mg c) : Kls P w K mg base 1 "Pairs" c.cP ["self"] (spI c.cP fPairs 0) := by
  refine F.ok sc_Pairs___init__ (fun vs H Q E h => ?_) (fun f cdv A outer s H vs Q E hr h => ?_)
  · obtain ⟨p, dx, ns, rfl, hn, _⟩ := h
    simp [hn]
  · obtain ⟨p, dx, ns, rfl, hn, hp, k⟩ := h
    obtain rfl := List.eq_nil_of_length_eq_zero hn
    refine ⟨_, pss_cons (ps_fld (pv 0) pe_int rfl)
      (pss_cons (ps_fld (pv 0) pe_int rfl)
      (pss_one (ps_fld (pv 0) pe_int rfl))), ?_⟩
    walk_at "rd"
    refine q_I hp T.clP (T.fP _ (by simp [pN])) (show 0 < 1000 by decide) fun H1 hp h1 => ?_
    walk_at "rd"
    refine q_I hp T.clP (T.fP _ (by simp [pN])) (show 1 < 1000 by decide) fun H2 hp h2 => ?_
    walk_at "rd"
    refine q_I hp T.clP (T.fP _ (by simp [pN])) (show 2 < 1000 by decide) fun H3 hp h3 => ?_
    exact k H3 hp fun b hb => (h3 b hb).trans ((h2 b hb).trans (h1 b hb))
abbrev s_Session___init__ : Stmt := inClass (top 24) 0
theorem sc_Session___init__ : FnScope ["self", "begin", "end", "fee"] ["self", "begin", "end", "fee"] (defScope s_Session___init__) := ⟨rfl, rfl, rfl, by decide +kernel, rfl, by decide +kernel, by decide +kernel⟩
def fSession : List Nat → List (Str × V)
  | [a, b, d] => sf ⟨a, b, d, false⟩
  | _ => []
theorem ok_Session (F : Dm K mg "Session" c.cS "Session.__init__" s_Session___init__ ["self", "begin", "end", "fee"]) (T : Txt K mg c) : Kls P w K mg base 1 "Session" c.cS ["self", "begin", "end", "fee"] (spI c.cS fSession 3) := by
  refine F.ok sc_Session___init__ (fun vs H Q E h => ?_) (fun f cdv A outer s H vs Q E hr h => ?_)
  · obtain ⟨p, dx, ns, rfl, hn, _⟩ := h
    simp [hn]
  · obtain ⟨p, dx, ns, rfl, hn, hp, k⟩ := h
    obtain ⟨x, y, z, rfl⟩ := len3 hn
    refine ⟨_, pss_cons (ps_fld (pv 0) (pv 1) rfl)
      (pss_cons (ps_fld (pv 0) (pv 2) rfl)
      (pss_cons (ps_fld (pv 0) (pv 3) rfl)
      (pss_one (ps_fld (pv 0) pe_int rfl)))), ?_⟩
    walk_at "rd"
    refine q_I hp T.clS (T.fS _ (by simp [sN])) (show 0 < 1000 by decide) fun H1 hp h1 => ?_
    walk_at "rd"
    refine q_I hp T.clS (T.fS _ (by simp [sN])) (show 1 < 1000 by decide) fun H2 hp h2 => ?_
    walk_at "rd"
    refine q_I hp T.clS (T.fS _ (by simp [sN])) (show 2 < 1000 by decide) fun H3 hp h3 => ?_
    walk_at "rd"
    refine q_I hp T.clS (T.fS _ (by simp [sN])) (show 3 < 1000 by decide) fun H4 hp h4 => ?_
    exact k H4 hp fun b hb => (h4 b hb).trans ((h3 b hb).trans ((h2 b hb).trans (h1 b hb)))
/-! ### ir_machine, ir_run -/
abbrev s_ir_machine : Stmt := top 53
theorem sc_ir_machine : FnScope ["rink", "cold", "cost"] ["rink", "cold", "cost"] (defScope s_ir_machine) := ⟨rfl, rfl, rfl, by decide +kernel, rfl, by decide +kernel, by decide +kernel⟩
theorem ok_ir_machine (F : Df K mg "ir_machine" s_ir_machine ["rink", "cold", "cost"]) (T : Txt K mg c) (C_Machine : Kls P w K mg base 1 "Machine" c.cM ["self", "cold", "cost"] (spI c.cM fMachine 2)) : Cal P w K mg base 3 "ir_machine" ["rink", "cold", "cost"] (spM c gMachine 2) := by
  refine F.ok sc_ir_machine (fun vs H Q E h => ?_) (fun f cdv A outer s H vs Q E hr h => ?_)
  · obtain ⟨a, r, fp, ns, rfl, hn, _⟩ := h
    simp [hn]
  · obtain ⟨a, r, fp, ns, rfl, hn, ⟨lm, ls, lq, ms, ss, qs, R, rfl⟩, wf, k⟩ := h
    obtain ⟨x, y, rfl⟩ := len2 hn
    refine ⟨_, pss_cons (ps_if (PW.pt (pw_or (pt_cmpR op_lt (pv 1) pe_int (nomark _)) (pw_or (pt_cmpR op_gt (pv 1) (pe_num rfl T.c_MOST_COLD) (nomark _)) (pw_or1 (pt_cmpR op_gt (pv 2) (pe_num rfl T.c_MOST_COST) (nomark _)))))) (pss_one (ps_ret (pe_lst (pa_cons (pe_num rfl T.c_NOT_AS_TOLD) pa_nil)))) pss_nil)
      (pss_cons (ps_if (pt_cmpR op_eq (pe_callB call_len_seq (by rfl) T.b_len PySem.boot_len (pa_cons (pe_fld (pv 0) rfl) pa_nil)) (pe_num rfl T.c_MOST_MACHINES) (nomark _)) (pss_one (ps_ret (pe_lst (pa_cons (pe_num rfl T.c_NO_ROOM) pa_nil)))) pss_nil)
      (pss_cons (ps_expr (pe_bm PySem.F.plainAttrs_list PySem.F.slot_list_append PySem.F.type_list_append mt_append (pe_fld (pv 0) rfl) (pa_cons (pe_mk C_Machine (hr.mono (by decide)) rfl (pa_cons (pv 1) (pa_cons (pv 2) pa_nil))) pa_nil)))
      (pss_one (ps_ret (pe_lst (pa_cons (pe_op op_sub (pe_callB call_len_seq (by rfl) T.b_len PySem.boot_len (pa_cons (pe_fld (pv 0) rfl) pa_nil)) pe_int) pa_nil)))))), ?_⟩
    obtain ⟨dx, hi⟩ := R.ins
    have hM := R.M.lst
    have hl : ((ms.map V.ref).length : Int) = r.machines.length := by rw [List.length_map, R.M.len]
    walk_at "rd"
    refine q_ite (fun e1 => ?_) (fun e1 => ?_)
    · walk_at "rd"
      exact k.done R .refl (l := [-22]) (by rw [gMachine]; walk_at "ifs") rfl le1
    walk_at "rd"
    refine q_ite (fun e2 => ?_) (fun e2 => ?_)
    · walk_at "rd"
      exact k.done R .refl (l := [-22]) (by rw [gMachine]; walk_at "ifs") rfl le1
    walk_at "rd"
    refine q_ite (fun e3 => ?_) (fun e3 => ?_)
    · walk_at "rd"
      exact k.done R .refl (l := [-22]) (by rw [gMachine]; walk_at "ifs") rfl le1
    walk_at "rd"
    refine q_len (SqL.of hM) ?_
    walk_at "rd"
    have := wf.nM
    refine q_ite (fun e4 => ?_) (fun e4 => ?_)
    · walk_at "rd"
      exact k.done R .refl (l := [-28]) (by rw [gMachine]; walk_at "ifs") rfl le1
    walk_at "rd"
    refine ⟨.inl ⟨rfl, _, SqL.of hM⟩, ?_⟩
    walk_at "rd"
    intro x0 d0 n0 m0 e0
    refine ⟨x0, d0, [x, y], rfl, rfl, upd_same, fun H1 h1 f1 => ⟨rfl, ?_⟩⟩
    have s1 : Same H H1 := fun b o e => by
      rw [f1 b (ne_of_none e n0), upd_ne (ne_of_none e n0), upd_ne (ne_of_none e m0)]
      exact e
    have R := R.same s1
    have nx : x0 ∉ fpR a lm ls lq ms ss qs := fun m => by
      obtain ⟨o, e⟩ := (show Rk c H a r lm ls lq ms ss qs by assumption).some_of m
      rw [n0] at e; cases e
    have A1 := R.addM (y := ⟨x, y, false⟩) nx ⟨d0, h1⟩
    walk_at "rd"
    refine ⟨lm, _, _, rfl, rfl, R.M.lst, ?_, ?_⟩
    · rw [List.length_map, R.M.len]; exact wf.lM
    obtain ⟨dy, hi⟩ := A1.ins
    generalize hH2 : upd H1 lm (.lst (ms.map V.ref ++ [.ref x0])) = H2 at A1 hi
    walk_at "rd"
    refine q_len (SqL.of A1.M.lst) ?_
    walk_at "rd"
    have F1 : Frm H H2 (fpR a lm ls lq ms ss qs) := hH2 ▸ (Frm.same s1).trans (Frm.upd (by simp))
    have e : gMachine r [x, y] = ({ r with machines := r.machines ++ [⟨x, y, false⟩] }, [((r.machines.length : Nat) : Int)]) := by rw [gMachine]; walk_at "ifs"
    refine ⟨le1, fun p hp => ?_⟩
    refine k _ p _ ⟨_, _, _, _, _, _, e ▸ A1.new hp, rfl⟩ (F1.trans (Frm.new hp)) (fun b hb => ?_) ?_ (A1.notin hp) ?_
    · simp only [List.mem_cons, List.mem_append, List.not_mem_nil, or_false] at hb ⊢
      rcases hb with hb | (hb | hb | hb) | hb
      · exact .inl (.inl hb)
      · exact .inl (.inr (.inl (.inl hb)))
      · exact .inl (.inr (.inl (.inr hb)))
      · exact .inr (hb ▸ n0)
      · exact .inl (.inr (.inr hb))
    · refine F1.none hp fun m => A1.notin hp ?_
      simp only [List.mem_cons, List.mem_append, List.not_mem_nil, or_false] at m ⊢
      grind
    · rw [upd_same, e]
      simp [R.M.len]
end
end Ir
set_option Elab.async false
set_option maxRecDepth 100000
set_option maxHeartbeats 2000000
namespace Ir
open PySem PySem.Spec PyProof.Rows L2
local macro_rules | `(tactic| walk_at "rd1") => `(tactic| with_reducible first
  | refine q_seq ?_ | refine q_next ?_ | refine q_if ?_ | refine q_test ?_ | refine q_testB ?_ | refine q_op ?_ | refine q_c ?_ | refine q_i0 ?_ | refine q_eq ?_ | refine q_ne ?_ | refine q_bl ?_ | refine q_ret ?_ | refine q_lst ?_ | refine q_tup ?_ | refine q_cons ?_ | refine q_nil ?_
  | refine q_and ?_ | refine q_or ?_ | refine q_not ?_ | refine q_andV ?_ | refine q_orV ?_ | refine q_set ?_ | refine q_drop ?_ | refine q_call ?_ | refine q_cb ?_ | refine q_make ?_ | refine q_forR ?_ | refine q_forL ?_ | refine q_forE ?_ | refine q_gname ?_ | refine q_bm ?_ | refine q_add ?_ | refine q_sub ?_ | refine q_fld ?_ | refine q_sfld ?_ | refine q_saug ?_ | refine q_ifE ?_ | refine q_notV ?_ | refine q_sl ?_ | refine q_part ?_ | refine q_int ?_ | refine q_yes ?_ | refine q_bm0 ?_)
set_option hygiene false in
local macro_rules | `(tactic| walk_at "rd") => `(tactic| repeat (first | walk_at "rd1" | refine q_var rfl ?_ | refine q_R T hi rfl ?_ | refine q_D T hd rfl ?_ | dsimp only))
local macro_rules | `(tactic| walk_at "ifs") => `(tactic| repeat (first | rw [if_pos (by omega)] | rw [if_neg (by omega)]))
section
variable {P : Program} {w : World} {K : PySem.W.Frag} {mg : Str → Option Value} {base : Heap} {c : Cl}
theorem map_ref {ms : List Addr} {j : Nat} {x : Addr} (h : ms[j]? = some x) : (ms.map V.ref)[j]? = some (.ref x) := by
  rw [List.getElem?_map, h]
  rfl
abbrev s_ir_run : Stmt := top 54
theorem sc_ir_run : FnScope ["rink", "k", "on", "machine"] ["rink", "k", "on"] (defScope s_ir_run) := ⟨rfl, rfl, rfl, by decide +kernel, rfl, by decide +kernel, by decide +kernel⟩
theorem ok_ir_run (F : Df K mg "ir_run" s_ir_run ["rink", "k", "on"]) (T : Txt K mg c) (C_cold_of : Cal P w K mg base 1 "cold_of" ["rink"] (spR c fun r => .int (r.cold : Nat))) : Cal P w K mg base 2 "ir_run" ["rink", "k", "on"] (spM c gRun 2) := by
  refine F.ok sc_ir_run (fun vs H Q E h => ?_) (fun f cdv A outer s H vs Q E hr h => ?_)
  · obtain ⟨a, r, fp, ns, rfl, hn, _⟩ := h
    simp [hn]
  · obtain ⟨a, r, fp, ns, rfl, hn, ⟨lm, ls, lq, ms, ss, qs, R, rfl⟩, wf, k⟩ := h
    obtain ⟨i, o, rfl⟩ := len2 hn
    refine ⟨_, pss_cons (ps_if (pt_cmpR op_ge (pv 1) (pe_callB call_len_seq (by rfl) T.b_len PySem.boot_len (pa_cons (pe_fld (pv 0) rfl) pa_nil)) (nomark _)) (pss_one (ps_ret (pe_lst (pa_cons (pe_num rfl T.c_NOT_THERE) pa_nil)))) pss_nil)
      (pss_cons (ps_if (pt_cmpR op_gt (pv 2) pe_int (nomark _)) (pss_one (ps_ret (pe_lst (pa_cons (pe_num rfl T.c_NOT_AS_TOLD) pa_nil)))) pss_nil)
      (pss_cons (ps_set (i := 3) sc_ir_run.nd rfl (Or.inl rfl) (pe_ix ix_list (pe_fld (pv 0) rfl) (pv 1) (fun _ _ => rfl)))
      (pss_cons (ps_if (pt_cmpR op_eq (pe_fld (pv 3) rfl) (pv 2) (nomark _)) (pss_one (ps_ret (pe_lst (pa_cons (pe_num rfl T.c_ALREADY_SO) pa_nil)))) pss_nil)
      (pss_cons (ps_fld (pv 3) (pv 2) rfl)
      (pss_one (ps_ret (pe_lst (pa_cons (pe_fn C_cold_of (hr.mono (by decide)) rfl (pa_cons (pv 0) pa_nil)) pa_nil)))))))), ?_⟩
    obtain ⟨dx, hi⟩ := R.ins
    have hl : ((ms.map V.ref).length : Int) = r.machines.length := by rw [List.length_map, R.M.len]
    walk_at "rd"
    refine q_len (SqL.of R.M.lst) ?_
    walk_at "rd"
    refine q_ite (fun e1 => ?_) (fun e1 => ?_)
    · walk_at "rd"
      have e : r.machines[i]? = none := List.getElem?_eq_none (by omega)
      exact k.done R .refl (l := [-2]) (by rw [gRun, e]) rfl le1
    have hj : i < r.machines.length := by omega
    obtain ⟨x, hx, dm, hm⟩ := R.M.at_ hj
    have e0 : r.machines[i]? = some r.machines[i] := List.getElem?_eq_getElem hj
    generalize r.machines[i] = m at hm e0
    walk_at "rd"
    refine q_ite (fun e2 => ?_) (fun e2 => ?_)
    · walk_at "rd"
      exact k.done R .refl (l := [-22]) (by rw [gRun, e0]; dsimp only; walk_at "ifs") rfl le1
    walk_at "rd"
    refine q_ix (SqL.of R.M.lst) rfl (map_ref hx) ?_
    walk_at "rd"
    refine q_M T ⟨dm, hm⟩ rfl ?_
    walk_at "rd"
    have ho : o = 0 ∨ o = 1 := by omega
    have eo : b01 (o == 1) = (o : Int) := by rcases ho with rfl | rfl <;> rfl
    refine q_ite (fun e3 => ?_) (fun e3 => ?_)
    · walk_at "rd"
      have e : m.on_ = (o == 1) := by
        rw [← eo] at e3
        cases h1 : m.on_ <;> cases h2 : (o == 1) <;> simp [b01, h1, h2] at e3 ⊢
      exact k.done R .refl (l := [-17]) (by rw [gRun, e0]; dsimp only; rw [if_neg (by omega), if_pos e]) rfl le1
    have e : ¬ m.on_ = (o == 1) := fun q => e3 (by rw [q, eo])
    walk_at "rd"
    refine q_setM { m with on_ := o == 1 } T R hx hm rfl (by rw [← eo]; rfl) fun H1 R F1 hm => ?_
    walk_at "rd"
    refine ⟨a, _, _, rfl, ⟨_, _, _, _, _, _, R, rfl⟩, ⟨wf.each, by rw [List.length_set]; exact wf.nM, wf.nQ, wf.nS, wf.sk⟩, fun H2 s2 => ?_⟩
    walk_at "rd"
    exact k.done (R.same s2) (F1.trans (Frm.same s2)) (by rw [gRun, e0]; dsimp only; rw [if_neg (by omega), if_neg e]) rfl le1
/-! ### a minute -/
abbrev s_freeze_or_melt : Stmt := top 58
theorem sc_freeze_or_melt : FnScope ["rink", "cold", "heat", "frozen", "melted"] ["rink", "cold"] (defScope s_freeze_or_melt) := ⟨rfl, rfl, rfl, by decide +kernel, rfl, by decide +kernel, by decide +kernel⟩
theorem ok_freeze_or_melt (F : Df K mg "freeze_or_melt" s_freeze_or_melt ["rink", "cold"]) (T : Txt K mg c) (C_heat_for : Cal P w K mg base 1 "heat_for" ["rink", "skaters"] (spR1 c fun r n => .int (r.heat n : Nat))) : Cal P w K mg base 2 "freeze_or_melt" ["rink", "cold"] (spU c frz 1) := by
  refine F.ok sc_freeze_or_melt (fun vs H Q E h => ?_) (fun f cdv A outer s H vs Q E hr h => ?_)
  · obtain ⟨a, r, fp, ns, rfl, hn, _⟩ := h
    simp [hn]
  · obtain ⟨a, r, fp, ns, rfl, hn, ⟨lm, ls, lq, ms, ss, qs, R, rfl⟩, wf, k⟩ := h
    obtain ⟨cold, rfl⟩ := len1 hn
    refine ⟨_, pss_cons (ps_set (i := 2) sc_freeze_or_melt.nd rfl (Or.inl rfl) (pe_fn C_heat_for (hr.mono (by decide)) rfl (pa_cons (pv 0) (pa_cons (pe_fld (pv 0) rfl) pa_nil))))
      (pss_one (ps_if (pt_cmpR op_gt (pv 1) (pv 2) (nomark _)) (pss_cons (ps_set (i := 3) sc_freeze_or_melt.nd rfl (Or.inl rfl) (pe_callB (call_min2 rfl) (by rfl) T.b_min boot_min (pa_cons (pe_op op_sub (pv 1) (pv 2)) (pa_cons (pe_fld (pv 0) rfl) pa_nil))))
        (pss_cons (ps_fldaug (pv 0) (pv 3) in_add)
        (pss_one (ps_fldaug (pv 0) (pv 3) in_sub)))) (pss_one (ps_if (pt_cmpR op_lt (pv 1) (pv 2) (nomark _)) (pss_cons (ps_set (i := 4) sc_freeze_or_melt.nd rfl (Or.inl rfl) (pe_callB (call_min2 rfl) (by rfl) T.b_min boot_min (pa_cons (pe_op op_sub (pv 2) (pv 1)) (pa_cons (pe_fld (pv 0) rfl) pa_nil))))
          (pss_cons (ps_fldaug (pv 0) (pv 4) in_sub)
          (pss_one (ps_fldaug (pv 0) (pv 4) in_add)))) pss_nil)))), ?_⟩
    obtain ⟨dx, hi⟩ := R.ins
    walk_at "rd"
    refine ⟨a, r, _, r.on_, rfl, ⟨_, _, _, _, _, _, R, rfl⟩, wf, fun H1 s1 => ?_⟩
    have R := R.same s1
    have hi := s1 _ _ hi
    have F1 : Frm H H1 (fpR a lm ls lq ms ss qs) := Frm.same s1
    unfold frz at k
    dsimp only at k
    walk_at "rd"
    generalize r.heat r.on_ = heat at k ⊢
    refine q_ite (fun e1 => ?_) (fun e1 => ?_)
    · walk_at "rd"
      refine ⟨_, _, rfl, ?_⟩
      walk_at "rd"
      have em : (if (r.wet : Int) < (cold : Int) - (heat : Int) then (r.wet : Int) else (cold : Int) - (heat : Int)) = ((min r.wet (cold - heat) : Nat) : Int) := by split <;> omega
      rw [em]
      refine q_W R hi (r' := { r with ice := r.ice + min r.wet (cold - heat) }) (r.ice + min r.wet (cold - heat)) (by omega) rfl rfl rfl rfl fun H2 R F2 hi => ?_
      walk_at "rd"
      refine q_W R hi (r' := { r with ice := r.ice + min r.wet (cold - heat), wet := r.wet - min r.wet (cold - heat) }) (r.wet - min r.wet (cold - heat)) (by omega) rfl rfl rfl rfl fun H3 R F3 hi => ?_
      refine k H3 ⟨_, _, _, _, _, _, ?_, rfl⟩ ((F1.trans F2).trans F3)
      have z : min r.ice (heat - cold) = 0 := by omega
      rw [z]
      exact R
    walk_at "rd"
    refine q_ite (fun e2 => ?_) (fun e2 => ?_)
    · walk_at "rd"
      refine ⟨_, _, rfl, ?_⟩
      walk_at "rd"
      have em : (if (r.ice : Int) < (heat : Int) - (cold : Int) then (r.ice : Int) else (heat : Int) - (cold : Int)) = ((min r.ice (heat - cold) : Nat) : Int) := by split <;> omega
      rw [em]
      refine q_W R hi (r' := { r with ice := r.ice - min r.ice (heat - cold) }) (r.ice - min r.ice (heat - cold)) (by omega) rfl rfl rfl rfl fun H2 R F2 hi => ?_
      walk_at "rd"
      refine q_W R hi (r' := { r with ice := r.ice - min r.ice (heat - cold), wet := r.wet + min r.ice (heat - cold) }) (r.wet + min r.ice (heat - cold)) (by omega) rfl rfl rfl rfl fun H3 R F3 hi => ?_
      refine k H3 ⟨_, _, _, _, _, _, ?_, rfl⟩ ((F1.trans F2).trans F3)
      have z : min r.wet (cold - heat) = 0 := by omega
      rw [z]
      exact R
    · walk_at "rd"
      refine k H1 ⟨_, _, _, _, _, _, ?_, rfl⟩ F1
      have z : min r.wet (cold - heat) = 0 := by omega
      have z2 : min r.ice (heat - cold) = 0 := by omega
      rw [z, z2]
      exact R
abbrev s_send_all_off : Stmt := top 59
theorem sc_send_all_off : FnScope ["rink"] ["rink"] (defScope s_send_all_off) := ⟨rfl, rfl, rfl, by decide +kernel, rfl, by decide +kernel, by decide +kernel⟩
theorem ok_send_all_off (F : Df K mg "send_all_off" s_send_all_off ["rink"]) (T : Txt K mg c) : Cal P w K mg base 1 "send_all_off" ["rink"] (spU c (fun r _ => { r with on_ := 0, sent := r.sent + r.on_ }) 0) := by
  refine F.ok sc_send_all_off (fun vs H Q E h => ?_) (fun f cdv A outer s H vs Q E hr h => ?_)
  · obtain ⟨a, r, fp, ns, rfl, hn, _⟩ := h
    simp [hn]
  · obtain ⟨a, r, fp, ns, rfl, hn, ⟨lm, ls, lq, ms, ss, qs, R, rfl⟩, wf, k⟩ := h
    obtain rfl := List.eq_nil_of_length_eq_zero hn
    refine ⟨_, pss_cons (ps_fldaug (pv 0) (pe_fld (pv 0) rfl) in_add)
      (pss_one (ps_fld (pv 0) pe_int rfl)), ?_⟩
    obtain ⟨dx, hi⟩ := R.ins
    walk_at "rd"
    refine q_W R hi (r' := { r with sent := r.sent + r.on_ }) (r.sent + r.on_) (by omega) rfl rfl rfl rfl fun H1 R F1 hi => ?_
    walk_at "rd"
    refine q_V (r' := { r with on_ := 0, sent := r.sent + r.on_ }) T R hi 0 rfl rfl rfl rfl rfl rfl fun H2 R F2 hi => ?_
    exact k H2 ⟨_, _, _, _, _, _, R, rfl⟩ (F1.trans F2)
abbrev s_pass_minute : Stmt := top 60
theorem sc_pass_minute : FnScope ["rink", "cold", "cost"] ["rink", "cold", "cost"] (defScope s_pass_minute) := ⟨rfl, rfl, rfl, by decide +kernel, rfl, by decide +kernel, by decide +kernel⟩
theorem ok_pass_minute (F : Df K mg "pass_minute" s_pass_minute ["rink", "cold", "cost"]) (T : Txt K mg c) (C_freeze_or_melt : Cal P w K mg base 2 "freeze_or_melt" ["rink", "cold"] (spU c frz 1)) (C_is_hard : Cal P w K mg base 1 "is_hard" ["rink"] (spR c fun r => .bl r.hard))
    (C_send_all_off : Cal P w K mg base 1 "send_all_off" ["rink"] (spU c (fun r _ => { r with on_ := 0, sent := r.sent + r.on_ }) 0)) : Cal P w K mg base 3 "pass_minute" ["rink", "cold", "cost"] (spU c passM 2) := by
  refine F.ok sc_pass_minute (fun vs H Q E h => ?_) (fun f cdv A outer s H vs Q E hr h => ?_)
  · obtain ⟨a, r, fp, ns, rfl, hn, _⟩ := h
    simp [hn]
  · obtain ⟨a, r, fp, ns, rfl, hn, ⟨lm, ls, lq, ms, ss, qs, R, rfl⟩, wf, k⟩ := h
    obtain ⟨cold, cost, rfl⟩ := len2 hn
    refine ⟨_, pss_cons (ps_expr (pe_fn C_freeze_or_melt (hr.mono (by decide)) rfl (pa_cons (pv 0) (pa_cons (pv 1) pa_nil))))
      (pss_cons (ps_fldaug (pv 0) (pv 2) in_add)
      (pss_cons (ps_fldaug (pv 0) pe_int in_add)
      (pss_one (ps_if (pt_not (pt_val (pe_fn C_is_hard (hr.mono (by decide)) rfl (pa_cons (pv 0) pa_nil)))) (pss_one (ps_expr (pe_fn C_send_all_off (hr.mono (by decide)) rfl (pa_cons (pv 0) pa_nil)))) pss_nil)))), ?_⟩
    walk_at "rd"
    refine ⟨a, r, _, [cold], rfl, rfl, ⟨_, _, _, _, _, _, R, rfl⟩, wf, fun H1 O1 F1 => ?_⟩
    obtain ⟨lm1, ls1, lq1, ms1, ss1, qs1, R1, e1⟩ := O1
    rw [e1] at F1 k
    obtain ⟨dx, hi⟩ := R1.ins
    walk_at "rd"
    have w1 : Wf (frz r [cold]) := ⟨wf.each, wf.nM, wf.nQ, wf.nS, wf.sk⟩
    refine q_W R1 hi (r' := { frz r [cold] with spent := r.spent + cost }) (r.spent + cost) (by show (r.spent : Int) + _ = _; omega) rfl rfl rfl rfl fun H2 R2 F2 hi => ?_
    walk_at "rd"
    refine q_W R2 hi (r' := { frz r [cold] with spent := r.spent + cost, time := r.time + 1 }) (r.time + 1) (by show (r.time : Int) + _ = _; omega) rfl rfl rfl rfl fun H3 R3 F3 hi => ?_
    walk_at "rd"
    have w3 : Wf ({ frz r [cold] with spent := r.spent + cost, time := r.time + 1 } : Km424.Rink) := ⟨w1.each, w1.nM, w1.nQ, w1.nS, w1.sk⟩
    have ek : passM r [cold, cost] = if ({ frz r [cold] with spent := r.spent + cost, time := r.time + 1 } : Km424.Rink).hard = false then { ({ frz r [cold] with spent := r.spent + cost, time := r.time + 1 } : Km424.Rink) with on_ := 0, sent := ({ frz r [cold] with spent := r.spent + cost, time := r.time + 1 } : Km424.Rink).sent + ({ frz r [cold] with spent := r.spent + cost, time := r.time + 1 } : Km424.Rink).on_ } else { frz r [cold] with spent := r.spent + cost, time := r.time + 1 } := rfl
    rw [ek] at k
    generalize ({ frz r [cold] with spent := r.spent + cost, time := r.time + 1 } : Km424.Rink) = r3 at R3 hi w3 k
    refine ⟨a, r3, _, rfl, ⟨_, _, _, _, _, _, R3, rfl⟩, w3, fun H4 s4 => ?_⟩
    have R4 := R3.same s4
    have F4 := ((F1.trans F2).trans F3).trans (Frm.same s4)
    walk_at "rd"
    refine q_iteB (fun e => ?_) (fun e => ?_)
    · have e : r3.hard = false := by simpa using e
      rw [if_pos e] at k
      walk_at "rd"
      refine ⟨a, r3, _, [], rfl, rfl, ⟨_, _, _, _, _, _, R4, rfl⟩, w3, fun H5 O5 F5 => ?_⟩
      exact k H5 O5 (F4.trans F5)
    · have e : r3.hard = true := by simpa using e
      rw [if_neg (by rw [e]; decide)] at k
      walk_at "rd"
      exact k H4 ⟨_, _, _, _, _, _, R4, rfl⟩ F4
end
end Ir
set_option Elab.async false
set_option maxRecDepth 100000
set_option maxHeartbeats 2000000
namespace Ir
open PySem PySem.Spec PyProof.Rows L2
local macro_rules | `(tactic| walk_at "rd1") => `(tactic| with_reducible first
  | refine q_seq ?_ | refine q_next ?_ | refine q_if ?_ | refine q_test ?_ | refine q_testB ?_ | refine q_op ?_ | refine q_c ?_ | refine q_i0 ?_ | refine q_eq ?_ | refine q_ne ?_ | refine q_bl ?_ | refine q_ret ?_ | refine q_lst ?_ | refine q_tup ?_ | refine q_cons ?_ | refine q_nil ?_
  | refine q_and ?_ | refine q_or ?_ | refine q_not ?_ | refine q_andV ?_ | refine q_orV ?_ | refine q_set ?_ | refine q_drop ?_ | refine q_call ?_ | refine q_cb ?_ | refine q_make ?_ | refine q_forR ?_ | refine q_forL ?_ | refine q_forE ?_ | refine q_gname ?_ | refine q_bm ?_ | refine q_add ?_ | refine q_sub ?_ | refine q_fld ?_ | refine q_sfld ?_ | refine q_saug ?_ | refine q_ifE ?_ | refine q_notV ?_ | refine q_sl ?_ | refine q_part ?_ | refine q_int ?_ | refine q_yes ?_ | refine q_bm0 ?_)
set_option hygiene false in
local macro_rules | `(tactic| walk_at "rd") => `(tactic| repeat (first | walk_at "rd1" | refine q_var rfl ?_ | refine q_R T hi rfl ?_ | refine q_D T hd rfl ?_ | dsimp only))
local macro_rules | `(tactic| walk_at "ifs") => `(tactic| repeat (first | rw [if_pos (by omega)] | rw [if_neg (by omega)]))
theorem minute_machines (r : Km424.Rink) : r.minute.machines = r.machines := by
  unfold Km424.Rink.minute
  dsimp only
  split <;> rfl
theorem minutes_succ : ∀ (i : Nat) (r : Km424.Rink), Km424.Rink.minutes (i + 1) r = (Km424.Rink.minutes i r).minute
  | 0, _ => rfl
  | i + 1, r => minutes_succ i r.minute
theorem minutes_machines : ∀ (i : Nat) (r : Km424.Rink), (Km424.Rink.minutes i r).machines = r.machines
  | 0, _ => rfl
  | i + 1, r => by
    rw [minutes_succ, minute_machines, minutes_machines i r]
theorem minute_wf {r : Km424.Rink} (h : Wf r) : Wf r.minute := by
  unfold Km424.Rink.minute
  dsimp only
  split <;> exact ⟨h.each, h.nM, h.nQ, h.nS, h.sk⟩
theorem minutes_wf {r : Km424.Rink} (h : Wf r) : ∀ i, Wf (Km424.Rink.minutes i r)
  | 0 => h
  | i + 1 => by
    rw [minutes_succ]
    exact minute_wf (minutes_wf h i)
theorem pass_minute_is (r : Km424.Rink) : passM r [r.cold, r.costs] = r.minute := rfl
section
variable {P : Program} {w : World} {K : PySem.W.Frag} {mg : Str → Option Value} {base : Heap} {c : Cl}
abbrev s_ir_minutes : Stmt := top 61
theorem sc_ir_minutes : FnScope ["rink", "n", "cold", "cost", "passed"] ["rink", "n"] (defScope s_ir_minutes) := ⟨rfl, rfl, rfl, by decide +kernel, rfl, by decide +kernel, by decide +kernel⟩
theorem ok_ir_minutes (F : Df K mg "ir_minutes" s_ir_minutes ["rink", "n"]) (T : Txt K mg c) (C_cold_of : Cal P w K mg base 1 "cold_of" ["rink"] (spR c fun r => .int (r.cold : Nat))) (C_cost_of : Cal P w K mg base 1 "cost_of" ["rink"] (spR c fun r => .int (r.costs : Nat)))
    (C_pass_minute : Cal P w K mg base 3 "pass_minute" ["rink", "cold", "cost"] (spU c passM 2)) : Cal P w K mg base 4 "ir_minutes" ["rink", "n"] (spM c gMinutes 1) := by
  refine F.ok sc_ir_minutes (fun vs H Q E h => ?_) (fun f cdv A outer s H vs Q E hr h => ?_)
  · obtain ⟨a, r, fp, ns, rfl, hn, _⟩ := h
    simp [hn]
  · obtain ⟨a, r, fp, ns, rfl, hn, ⟨lm, ls, lq, ms, ss, qs, R, rfl⟩, wf, k⟩ := h
    obtain ⟨n, rfl⟩ := len1 hn
    refine ⟨_, pss_cons (ps_if (PW.pt (pw_or (pt_cmpR op_lt (pv 1) pe_int (nomark _)) (pw_or1 (pt_cmpR op_gt (pv 1) (pe_num rfl T.c_MOST_MINUTES) (nomark _))))) (pss_one (ps_ret (pe_lst (pa_cons (pe_num rfl T.c_NOT_AS_TOLD) pa_nil)))) pss_nil)
      (pss_cons (ps_if (pt_cmpR op_gt (pe_op op_add (pe_fld (pv 0) rfl) (pv 1)) (pe_num rfl T.c_LAST_MINUTE) (nomark _)) (pss_one (ps_ret (pe_lst (pa_cons (pe_num rfl T.c_TOO_LATE) pa_nil)))) pss_nil)
      (pss_cons (ps_set (i := 2) sc_ir_minutes.nd rfl (Or.inl rfl) (pe_fn C_cold_of (hr.mono (by decide)) rfl (pa_cons (pv 0) pa_nil)))
      (pss_cons (ps_set (i := 3) sc_ir_minutes.nd rfl (Or.inl rfl) (pe_fn C_cost_of (hr.mono (by decide)) rfl (pa_cons (pv 0) pa_nil)))
      (pss_cons (ps_for PassesOwn.never rfl (pi_range1 rfl T.b_range (pa_cons (pv 1) pa_nil)) (pg_name (i := 4) sc_ir_minutes.nd rfl (Or.inl rfl)) (pss_one (ps_expr (pe_fn C_pass_minute (hr.mono (by decide)) rfl (pa_cons (pv 0) (pa_cons (pv 2) (pa_cons (pv 3) pa_nil)))))))
      (pss_one (ps_ret (pe_lst (pa_cons (pe_fld (pv 0) rfl) (pa_cons (pe_fld (pv 0) rfl) (pa_cons (pe_fld (pv 0) rfl) (pa_cons (pe_fld (pv 0) rfl) pa_nil))))))))))), ?_⟩
    obtain ⟨dx, hi⟩ := R.ins
    walk_at "rd"
    refine q_ite (fun e1 => ?_) (fun e1 => ?_)
    · walk_at "rd"
      exact k.done R .refl (l := [-22]) (by rw [gMinutes]; walk_at "ifs") rfl le1
    walk_at "rd"
    refine q_ite (fun e2 => ?_) (fun e2 => ?_)
    · walk_at "rd"
      exact k.done R .refl (l := [-22]) (by rw [gMinutes]; walk_at "ifs") rfl le1
    walk_at "rd"
    refine q_ite (fun e3 => ?_) (fun e3 => ?_)
    · walk_at "rd"
      exact k.done R .refl (l := [-75]) (by rw [gMinutes]; walk_at "ifs") rfl le1
    walk_at "rd"
    refine ⟨a, r, _, rfl, ⟨_, _, _, _, _, _, R, rfl⟩, wf, fun H1 s1 => ?_⟩
    have R := R.same s1
    walk_at "rd"
    refine ⟨a, r, _, rfl, ⟨_, _, _, _, _, _, R, rfl⟩, wf, fun H2 s2 => ?_⟩
    have R := R.same s2
    have F0 : Frm H H2 (fpR a lm ls lq ms ss qs) := (Frm.same s1).trans (Frm.same s2)
    walk_at "rd"
    refine forR (n := n) (by omega) (fun i σ H' => ∃ v : Option V, σ = [some (.ref a), some (.int (n : Int)), some (.int (r.cold : Nat)), some (.int (r.costs : Nat)), v] ∧ Own c H' a (Km424.Rink.minutes i r) (fpR a lm ls lq ms ss qs) ∧ Frm H H' (fpR a lm ls lq ms ss qs))
      ⟨none, rfl, ⟨_, _, _, _, _, _, R, rfl⟩, F0⟩ ?_ ?_
    · rintro i σ H' hi ⟨v, rfl, O, F1⟩
      walk_at "rd"
      refine ⟨a, _, _, [r.cold, r.costs], rfl, rfl, O, minutes_wf wf i, fun H3 O3 F3 => ?_⟩
      refine ⟨_, rfl, ?_, F1.trans F3⟩
      have e1 : (Km424.Rink.minutes i r).cold = r.cold := by unfold Km424.Rink.cold; rw [minutes_machines]
      have e2 : (Km424.Rink.minutes i r).costs = r.costs := by unfold Km424.Rink.costs; rw [minutes_machines]
      rw [minutes_succ, ← pass_minute_is, e1, e2]
      exact O3
    · rintro σ H' ⟨v, rfl, ⟨lm1, ls1, lq1, ms1, ss1, qs1, R1, e1⟩, F1⟩
      rw [e1] at F1 k
      obtain ⟨dx, hi⟩ := R1.ins
      walk_at "rd"
      exact k.done R1 F1 (l := [_, _, _, _]) (by rw [gMinutes]; walk_at "ifs") rfl le4
abbrev s_ir_go : Stmt := top 62
theorem sc_ir_go : FnScope ["rink", "n"] ["rink", "n"] (defScope s_ir_go) := ⟨rfl, rfl, rfl, by decide +kernel, rfl, by decide +kernel, by decide +kernel⟩
theorem ok_ir_go (F : Df K mg "ir_go" s_ir_go ["rink", "n"]) (T : Txt K mg c) (C_is_hard : Cal P w K mg base 1 "is_hard" ["rink"] (spR c fun r => .bl r.hard)) : Cal P w K mg base 2 "ir_go" ["rink", "n"] (spM c gGo 1) := by
  refine F.ok sc_ir_go (fun vs H Q E h => ?_) (fun f cdv A outer s H vs Q E hr h => ?_)
  · obtain ⟨a, r, fp, ns, rfl, hn, _⟩ := h
    simp [hn]
  · obtain ⟨a, r, fp, ns, rfl, hn, ⟨lm, ls, lq, ms, ss, qs, R, rfl⟩, wf, k⟩ := h
    obtain ⟨n, rfl⟩ := len1 hn
    refine ⟨_, pss_cons (ps_if (pt_cmpR op_eq (pv 1) pe_int (nomark _)) (pss_one (ps_ret (pe_lst (pa_cons (pe_num rfl T.c_NOT_AS_TOLD) pa_nil)))) pss_nil)
      (pss_cons (ps_if (pt_not (pt_val (pe_fn C_is_hard (hr.mono (by decide)) rfl (pa_cons (pv 0) pa_nil)))) (pss_one (ps_ret (pe_lst (pa_cons (pe_num rfl T.c_NOT_HARD) pa_nil)))) pss_nil)
      (pss_cons (ps_if (pt_cmpR op_gt (pe_op op_add (pe_fld (pv 0) rfl) (pv 1)) (pe_fld (pv 0) rfl) (nomark _)) (pss_one (ps_ret (pe_lst (pa_cons (pe_num rfl T.c_NO_ROOM) pa_nil)))) pss_nil)
      (pss_cons (ps_fldaug (pv 0) (pv 1) in_add)
      (pss_one (ps_ret (pe_lst (pa_cons (pe_fld (pv 0) rfl) pa_nil))))))), ?_⟩
    obtain ⟨dx, hi⟩ := R.ins
    walk_at "rd"
    refine q_ite (fun e1 => ?_) (fun e1 => ?_) <;> walk_at "rd"
    · exact k.done R .refl (l := [-22]) (by rw [gGo]; walk_at "ifs") rfl le1
    refine ⟨a, r, _, rfl, ⟨_, _, _, _, _, _, R, rfl⟩, wf, fun H1 s1 => ?_⟩
    have R := R.same s1
    have hi := s1 _ _ hi
    have F1 : Frm H H1 (fpR a lm ls lq ms ss qs) := Frm.same s1
    walk_at "rd"
    refine q_iteB (fun e2 => ?_) (fun e2 => ?_)
    · have e2 : r.hard = false := by simpa using e2
      walk_at "rd"
      exact k.done R F1 (l := [-13]) (by rw [gGo]; rw [if_neg (by omega), if_pos e2]) rfl le1
    have e2 : ¬ r.hard = false := by simpa using e2
    walk_at "rd"
    refine q_ite (fun e3 => ?_) (fun e3 => ?_) <;> walk_at "rd"
    · exact k.done R F1 (l := [-28]) (by rw [gGo]; rw [if_neg (by omega), if_neg e2, if_pos (by omega)]) rfl le1
    refine q_W R hi (r' := { r with on_ := r.on_ + n }) (r.on_ + n) (by omega) rfl rfl rfl rfl fun H2 R F2 hi => ?_
    walk_at "rd"
    exact k.done R (F1.trans F2) (l := [((r.on_ + n : Nat) : Int)]) (by rw [gGo]; rw [if_neg (by omega), if_neg e2, if_neg (by omega)]) rfl le1
end
end Ir
set_option Elab.async false
set_option maxRecDepth 100000
set_option maxHeartbeats 2000000
namespace Ir
open PySem PySem.Spec PyProof.Rows L2
local macro_rules | `(tactic| walk_at "rd1") => `(tactic| with_reducible first
  | refine q_seq ?_ | refine q_next ?_ | refine q_if ?_ | refine q_test ?_ | refine q_testB ?_ | refine q_op ?_ | refine q_c ?_ | refine q_i0 ?_ | refine q_eq ?_ | refine q_ne ?_ | refine q_bl ?_ | refine q_ret ?_ | refine q_lst ?_ | refine q_tup ?_ | refine q_cons ?_ | refine q_nil ?_
  | refine q_and ?_ | refine q_or ?_ | refine q_not ?_ | refine q_andV ?_ | refine q_orV ?_ | refine q_set ?_ | refine q_drop ?_ | refine q_call ?_ | refine q_cb ?_ | refine q_make ?_ | refine q_forR ?_ | refine q_forL ?_ | refine q_forE ?_ | refine q_gname ?_ | refine q_bm ?_ | refine q_add ?_ | refine q_sub ?_ | refine q_fld ?_ | refine q_sfld ?_ | refine q_saug ?_ | refine q_ifE ?_ | refine q_notV ?_ | refine q_sl ?_ | refine q_part ?_ | refine q_int ?_ | refine q_yes ?_ | refine q_bm0 ?_)
set_option hygiene false in
local macro_rules | `(tactic| walk_at "rd") => `(tactic| repeat (first | walk_at "rd1" | refine q_var rfl ?_ | refine q_R T hi rfl ?_ | refine q_D T hd rfl ?_ | dsimp only))
local macro_rules | `(tactic| walk_at "ifs") => `(tactic| repeat (first | rw [if_pos (by omega)] | rw [if_neg (by omega)]))
section
variable {P : Program} {w : World} {K : PySem.W.Frag} {mg : Str → Option Value} {base : Heap} {c : Cl}
/-! ### skates -/
def spP (c : Cl) : Sp := fun vs H Q _ => ∃ (x dx : Addr) (m : Km424.Skates), vs = [.ref x] ∧ H x = some (.ins c.cP dx (pf m)) ∧ m.sharp + m.blunt ≤ m.all ∧ Q (.int (m.all : Nat)) H
abbrev s_pairs_in_all : Stmt := top 12
theorem sc_pairs_in_all : FnScope ["pairs"] ["pairs"] (defScope s_pairs_in_all) := ⟨rfl, rfl, rfl, by decide +kernel, rfl, by decide +kernel, by decide +kernel⟩
theorem ok_pairs_in_all (F : Df K mg "pairs_in_all" s_pairs_in_all ["pairs"]) (T : Txt K mg c) : Cal P w K mg base 1 "pairs_in_all" ["pairs"] (spP c) := by
  refine F.ok sc_pairs_in_all (fun vs H Q E h => ?_) (fun f cdv A outer s H vs Q E hr h => ?_)
  · obtain ⟨x, dx, m, rfl, _⟩ := h
    rfl
  · obtain ⟨x, dx, m, rfl, hm, hle, k⟩ := h
    refine ⟨_, pss_one (ps_ret (pe_op op_add (pe_op op_add (pe_fld (pv 0) rfl) (pe_fld (pv 0) rfl)) (pe_fld (pv 0) rfl))), ?_⟩
    walk_at "rd"
    refine q_P T ⟨dx, hm⟩ rfl ?_
    walk_at "rd"
    refine q_P T ⟨dx, hm⟩ rfl ?_
    walk_at "rd"
    refine q_P T ⟨dx, hm⟩ rfl ?_
    walk_at "rd"
    have e : (m.sharp : Int) + (m.blunt : Int) + ((m.all - (m.sharp + m.blunt) : Nat) : Int) = (m.all : Nat) := by omega
    rw [e]
    exact k
theorem pf_put {f : Str} {v : Int} {m m' : Km424.Skates} {z : Nat} (e : v = (z : Int)) (h : putF f (.int (z : Int)) (pf m) = ([("sharp", .int (m'.sharp : Nat)), ("blunt", .int (m'.blunt : Nat)), ("hired", .int ((m'.all - (m'.sharp + m'.blunt) : Nat)))] : List (Str × V))) : putF f (.int v) (pf m) = pf m' := by
  subst e
  exact h
theorem size_at {r : Km424.Rink} {k : Nat} {m : Km424.Skates} (h : r.skates[k]? = some m) : r.size k = m := by
  unfold Km424.Rink.size
  rw [List.getD_eq_getElem?_getD, h]
  rfl
abbrev s_ir_pairs : Stmt := top 13
theorem sc_ir_pairs : FnScope ["rink", "k", "n", "pairs"] ["rink", "k", "n"] (defScope s_ir_pairs) := ⟨rfl, rfl, rfl, by decide +kernel, rfl, by decide +kernel, by decide +kernel⟩
theorem ok_ir_pairs (F : Df K mg "ir_pairs" s_ir_pairs ["rink", "k", "n"]) (T : Txt K mg c) (C_pairs_in_all : Cal P w K mg base 1 "pairs_in_all" ["pairs"] (spP c)) : Cal P w K mg base 2 "ir_pairs" ["rink", "k", "n"] (spM c gPairs 2) := by
  refine F.ok sc_ir_pairs (fun vs H Q E h => ?_) (fun f cdv A outer s H vs Q E hr h => ?_)
  · obtain ⟨a, r, fp, ns, rfl, hn, _⟩ := h
    simp [hn]
  · obtain ⟨a, r, fp, ns, rfl, hn, ⟨lm, ls, lq, ms, ss, qs, R, rfl⟩, wf, k⟩ := h
    obtain ⟨i, n, rfl⟩ := len2 hn
    refine ⟨_, pss_cons (ps_if (pt_cmpR op_ge (pv 1) (pe_callB call_len_seq (by rfl) T.b_len PySem.boot_len (pa_cons (pe_fld (pv 0) rfl) pa_nil)) (nomark _)) (pss_one (ps_ret (pe_lst (pa_cons (pe_num rfl T.c_NOT_THERE) pa_nil)))) pss_nil)
      (pss_cons (ps_if (pt_cmpR op_eq (pv 2) pe_int (nomark _)) (pss_one (ps_ret (pe_lst (pa_cons (pe_num rfl T.c_NOT_AS_TOLD) pa_nil)))) pss_nil)
      (pss_cons (ps_set (i := 3) sc_ir_pairs.nd rfl (Or.inl rfl) (pe_ix ix_list (pe_fld (pv 0) rfl) (pv 1) (fun _ _ => rfl)))
      (pss_cons (ps_if (pt_cmpR op_gt (pe_op op_add (pe_fn C_pairs_in_all (hr.mono (by decide)) rfl (pa_cons (pv 3) pa_nil)) (pv 2)) (pe_num rfl T.c_MOST_PAIRS) (nomark _)) (pss_one (ps_ret (pe_lst (pa_cons (pe_num rfl T.c_NO_ROOM) pa_nil)))) pss_nil)
      (pss_cons (ps_fldaug (pv 3) (pv 2) in_add)
      (pss_one (ps_ret (pe_lst (pa_cons (pe_fn C_pairs_in_all (hr.mono (by decide)) rfl (pa_cons (pv 3) pa_nil)) pa_nil)))))))), ?_⟩
    obtain ⟨dx, hi⟩ := R.ins
    have hl : ((ss.map V.ref).length : Int) = 10 := by rw [List.length_map, R.S.len, wf.nS]; rfl
    walk_at "rd"
    refine q_len (SqL.of R.S.lst) ?_
    walk_at "rd"
    refine q_ite (fun e1 => ?_) (fun e1 => ?_)
    · walk_at "rd"
      exact k.done R .refl (l := [-2]) (by rw [gPairs]; walk_at "ifs") rfl le1
    have hj : i < r.skates.length := by rw [wf.nS]; omega
    obtain ⟨x, hx, dm, hm⟩ := R.S.at_ hj
    have e0 : r.skates[i]? = some r.skates[i] := List.getElem?_eq_getElem hj
    obtain ⟨w1, w2⟩ := wf.sk _ (List.mem_of_getElem? e0)
    generalize r.skates[i] = m at hm e0 w1 w2
    have es := size_at e0
    walk_at "rd"
    refine q_ite (fun e2 => ?_) (fun e2 => ?_)
    · walk_at "rd"
      exact k.done R .refl (l := [-22]) (by rw [gPairs]; walk_at "ifs") rfl le1
    walk_at "rd"
    refine q_ix (SqL.of R.S.lst) rfl (map_ref hx) ?_
    walk_at "rd"
    refine ⟨x, dm, m, rfl, hm, w1, ?_⟩
    walk_at "rd"
    refine q_ite (fun e3 => ?_) (fun e3 => ?_)
    · walk_at "rd"
      exact k.done R .refl (l := [-28]) (by rw [gPairs, es]; walk_at "ifs") rfl le1
    walk_at "rd"
    refine q_P T ⟨dm, hm⟩ rfl ?_
    walk_at "rd"
    refine q_augS ⟨m.all + n, m.sharp + n, m.blunt⟩ R hx hm (pf_put (z := m.sharp + n) (by omega) ?_) fun H1 R F1 hm => ?_
    · dsimp only
      rw [show m.all + n - (m.sharp + n + m.blunt) = m.all - (m.sharp + m.blunt) by omega]
      rfl
    walk_at "rd"
    refine ⟨x, dm, _, rfl, hm, by dsimp only; omega, ?_⟩
    walk_at "rd"
    exact k.done R F1 (l := [_]) (by rw [gPairs, es]; walk_at "ifs"; rfl) rfl le1
abbrev s_ir_hire : Stmt := top 14
theorem sc_ir_hire : FnScope ["rink", "k", "pairs"] ["rink", "k"] (defScope s_ir_hire) := ⟨rfl, rfl, rfl, by decide +kernel, rfl, by decide +kernel, by decide +kernel⟩
theorem ok_ir_hire (F : Df K mg "ir_hire" s_ir_hire ["rink", "k"]) (T : Txt K mg c) : Cal P w K mg base 1 "ir_hire" ["rink", "k"] (spM c gHire 1) := by
  refine F.ok sc_ir_hire (fun vs H Q E h => ?_) (fun f cdv A outer s H vs Q E hr h => ?_)
  · obtain ⟨a, r, fp, ns, rfl, hn, _⟩ := h
    simp [hn]
  · obtain ⟨a, r, fp, ns, rfl, hn, ⟨lm, ls, lq, ms, ss, qs, R, rfl⟩, wf, k⟩ := h
    obtain ⟨i, rfl⟩ := len1 hn
    refine ⟨_, pss_cons (ps_if (pt_cmpR op_ge (pv 1) (pe_callB call_len_seq (by rfl) T.b_len PySem.boot_len (pa_cons (pe_fld (pv 0) rfl) pa_nil)) (nomark _)) (pss_one (ps_ret (pe_lst (pa_cons (pe_num rfl T.c_NOT_THERE) pa_nil)))) pss_nil)
      (pss_cons (ps_set (i := 2) sc_ir_hire.nd rfl (Or.inl rfl) (pe_ix ix_list (pe_fld (pv 0) rfl) (pv 1) (fun _ _ => rfl)))
      (pss_cons (ps_if (pt_cmpR op_eq (pe_fld (pv 2) rfl) pe_int (nomark _)) (pss_one (ps_ret (pe_lst (pa_cons (pe_num rfl T.c_TOO_FEW) pa_nil)))) pss_nil)
      (pss_cons (ps_fldaug (pv 2) pe_int in_sub)
      (pss_cons (ps_fldaug (pv 2) pe_int in_add)
      (pss_one (ps_ret (pe_lst (pa_cons (pe_fld (pv 2) rfl) pa_nil)))))))), ?_⟩
    obtain ⟨dx, hi⟩ := R.ins
    have hl : ((ss.map V.ref).length : Int) = 10 := by rw [List.length_map, R.S.len, wf.nS]; rfl
    walk_at "rd"
    refine q_len (SqL.of R.S.lst) ?_
    walk_at "rd"
    refine q_ite (fun e1 => ?_) (fun e1 => ?_)
    · walk_at "rd"
      exact k.done R .refl (l := [-2]) (by rw [gHire]; walk_at "ifs") rfl le1
    have hj : i < r.skates.length := by rw [wf.nS]; omega
    obtain ⟨x, hx, dm, hm⟩ := R.S.at_ hj
    have e0 : r.skates[i]? = some r.skates[i] := List.getElem?_eq_getElem hj
    obtain ⟨w1, w2⟩ := wf.sk _ (List.mem_of_getElem? e0)
    generalize r.skates[i] = m at hm e0 w1 w2
    have es := size_at e0
    walk_at "rd"
    refine q_ix (SqL.of R.S.lst) rfl (map_ref hx) ?_
    walk_at "rd"
    refine q_P T ⟨dm, hm⟩ rfl ?_
    walk_at "rd"
    refine q_ite (fun e3 => ?_) (fun e3 => ?_)
    · walk_at "rd"
      exact k.done R .refl (l := [-12]) (by rw [gHire, es]; walk_at "ifs") rfl le1
    walk_at "rd"
    refine q_P T ⟨dm, hm⟩ rfl ?_
    walk_at "rd"
    refine q_augS ⟨m.all - 1, m.sharp - 1, m.blunt⟩ R hx hm (pf_put (z := m.sharp - 1) (by omega) ?_) fun H1 R F1 hm => ?_
    · dsimp only
      rw [show m.all - 1 - (m.sharp - 1 + m.blunt) = m.all - (m.sharp + m.blunt) by omega]
      rfl
    walk_at "rd"
    refine q_P T ⟨dm, hm⟩ rfl ?_
    walk_at "rd"
    refine q_augS ⟨m.all, m.sharp - 1, m.blunt⟩ R hx hm (pf_put (z := m.all - (m.sharp - 1 + m.blunt)) (by omega) rfl) fun H2 R F2 hm => ?_
    walk_at "rd"
    refine q_P T ⟨dm, hm⟩ rfl ?_
    walk_at "rd"
    rw [List.set_set] at R
    exact k.done R (F1.trans F2) (l := [_]) (by rw [gHire, es]; walk_at "ifs"; rfl) rfl le1
abbrev s_ir_bring : Stmt := top 15
theorem sc_ir_bring : FnScope ["rink", "k", "blunt", "pairs"] ["rink", "k", "blunt"] (defScope s_ir_bring) := ⟨rfl, rfl, rfl, by decide +kernel, rfl, by decide +kernel, by decide +kernel⟩
theorem ok_ir_bring (F : Df K mg "ir_bring" s_ir_bring ["rink", "k", "blunt"]) (T : Txt K mg c) : Cal P w K mg base 1 "ir_bring" ["rink", "k", "blunt"] (spM c gBring 2) := by
  refine F.ok sc_ir_bring (fun vs H Q E h => ?_) (fun f cdv A outer s H vs Q E hr h => ?_)
  · obtain ⟨a, r, fp, ns, rfl, hn, _⟩ := h
    simp [hn]
  · obtain ⟨a, r, fp, ns, rfl, hn, ⟨lm, ls, lq, ms, ss, qs, R, rfl⟩, wf, k⟩ := h
    obtain ⟨i, b, rfl⟩ := len2 hn
    refine ⟨_, pss_cons (ps_if (pt_cmpR op_ge (pv 1) (pe_callB call_len_seq (by rfl) T.b_len PySem.boot_len (pa_cons (pe_fld (pv 0) rfl) pa_nil)) (nomark _)) (pss_one (ps_ret (pe_lst (pa_cons (pe_num rfl T.c_NOT_THERE) pa_nil)))) pss_nil)
      (pss_cons (ps_if (pt_cmpR op_gt (pv 2) pe_int (nomark _)) (pss_one (ps_ret (pe_lst (pa_cons (pe_num rfl T.c_NOT_AS_TOLD) pa_nil)))) pss_nil)
      (pss_cons (ps_set (i := 3) sc_ir_bring.nd rfl (Or.inl rfl) (pe_ix ix_list (pe_fld (pv 0) rfl) (pv 1) (fun _ _ => rfl)))
      (pss_cons (ps_if (pt_cmpR op_eq (pe_fld (pv 3) rfl) pe_int (nomark _)) (pss_one (ps_ret (pe_lst (pa_cons (pe_num rfl T.c_NONE_SUCH) pa_nil)))) pss_nil)
      (pss_cons (ps_fldaug (pv 3) pe_int in_sub)
      (pss_cons (ps_if (pt_cmpR op_eq (pv 2) pe_int (nomark _)) (pss_one (ps_fldaug (pv 3) pe_int in_add)) (pss_one (ps_fldaug (pv 3) pe_int in_add)))
      (pss_one (ps_ret (pe_lst (pa_cons (pe_fld (pv 3) rfl) pa_nil))))))))), ?_⟩
    obtain ⟨dx, hi⟩ := R.ins
    have hl : ((ss.map V.ref).length : Int) = 10 := by rw [List.length_map, R.S.len, wf.nS]; rfl
    walk_at "rd"
    refine q_len (SqL.of R.S.lst) ?_
    walk_at "rd"
    refine q_ite (fun e1 => ?_) (fun e1 => ?_)
    · walk_at "rd"
      exact k.done R .refl (l := [-2]) (by rw [gBring]; walk_at "ifs") rfl le1
    have hj : i < r.skates.length := by rw [wf.nS]; omega
    obtain ⟨x, hx, dm, hm⟩ := R.S.at_ hj
    have e0 : r.skates[i]? = some r.skates[i] := List.getElem?_eq_getElem hj
    obtain ⟨w1, w2⟩ := wf.sk _ (List.mem_of_getElem? e0)
    generalize r.skates[i] = m at hm e0 w1 w2
    have es := size_at e0
    walk_at "rd"
    refine q_ite (fun e2 => ?_) (fun e2 => ?_)
    · walk_at "rd"
      exact k.done R .refl (l := [-22]) (by rw [gBring]; walk_at "ifs") rfl le1
    walk_at "rd"
    refine q_ix (SqL.of R.S.lst) rfl (map_ref hx) ?_
    walk_at "rd"
    refine q_P T ⟨dm, hm⟩ rfl ?_
    walk_at "rd"
    refine q_ite (fun e3 => ?_) (fun e3 => ?_)
    · walk_at "rd"
      exact k.done R .refl (l := [-6]) (by rw [gBring, es]; walk_at "ifs") rfl le1
    walk_at "rd"
    refine q_P T ⟨dm, hm⟩ rfl ?_
    walk_at "rd"
    refine q_augS ⟨m.all - 1, m.sharp, m.blunt⟩ R hx hm (pf_put (z := m.all - 1 - (m.sharp + m.blunt)) (by omega) rfl) fun H1 R F1 hm => ?_
    walk_at "rd"
    refine q_ite (fun e4 => ?_) (fun e4 => ?_)
    · walk_at "rd"
      refine q_P T ⟨dm, hm⟩ rfl ?_
      walk_at "rd"
      refine q_augS ⟨m.all, m.sharp, m.blunt + 1⟩ R hx hm (pf_put (z := m.blunt + 1) (by omega) ?_) fun H2 R F2 hm => ?_
      · dsimp only
        rw [show m.all - (m.sharp + (m.blunt + 1)) = m.all - 1 - (m.sharp + m.blunt) by omega]
        rfl
      walk_at "rd"
      refine q_P T ⟨dm, hm⟩ rfl ?_
      walk_at "rd"
      rw [List.set_set] at R
      exact k.done R (F1.trans F2) (l := [_]) (by rw [gBring, es]; walk_at "ifs"; rfl) rfl le1
    · walk_at "rd"
      refine q_P T ⟨dm, hm⟩ rfl ?_
      walk_at "rd"
      refine q_augS ⟨m.all, m.sharp + 1, m.blunt⟩ R hx hm (pf_put (z := m.sharp + 1) (by omega) ?_) fun H2 R F2 hm => ?_
      · dsimp only
        rw [show m.all - (m.sharp + 1 + m.blunt) = m.all - 1 - (m.sharp + m.blunt) by omega]
        rfl
      walk_at "rd"
      refine q_P T ⟨dm, hm⟩ rfl ?_
      walk_at "rd"
      rw [List.set_set] at R
      exact k.done R (F1.trans F2) (l := [_]) (by rw [gBring, es]; walk_at "ifs"; rw [show m.sharp + m.blunt + 1 = m.sharp + 1 + m.blunt by omega]; rfl) rfl le1
abbrev s_ir_sharpen : Stmt := top 16
theorem sc_ir_sharpen : FnScope ["rink", "k", "n", "pairs"] ["rink", "k", "n"] (defScope s_ir_sharpen) := ⟨rfl, rfl, rfl, by decide +kernel, rfl, by decide +kernel, by decide +kernel⟩
theorem ok_ir_sharpen (F : Df K mg "ir_sharpen" s_ir_sharpen ["rink", "k", "n"]) (T : Txt K mg c) : Cal P w K mg base 1 "ir_sharpen" ["rink", "k", "n"] (spM c gSharpen 2) := by
  refine F.ok sc_ir_sharpen (fun vs H Q E h => ?_) (fun f cdv A outer s H vs Q E hr h => ?_)
  · obtain ⟨a, r, fp, ns, rfl, hn, _⟩ := h
    simp [hn]
  · obtain ⟨a, r, fp, ns, rfl, hn, ⟨lm, ls, lq, ms, ss, qs, R, rfl⟩, wf, k⟩ := h
    obtain ⟨i, n, rfl⟩ := len2 hn
    refine ⟨_, pss_cons (ps_if (pt_cmpR op_ge (pv 1) (pe_callB call_len_seq (by rfl) T.b_len PySem.boot_len (pa_cons (pe_fld (pv 0) rfl) pa_nil)) (nomark _)) (pss_one (ps_ret (pe_lst (pa_cons (pe_num rfl T.c_NOT_THERE) pa_nil)))) pss_nil)
      (pss_cons (ps_if (pt_cmpR op_eq (pv 2) pe_int (nomark _)) (pss_one (ps_ret (pe_lst (pa_cons (pe_num rfl T.c_NOT_AS_TOLD) pa_nil)))) pss_nil)
      (pss_cons (ps_set (i := 3) sc_ir_sharpen.nd rfl (Or.inl rfl) (pe_ix ix_list (pe_fld (pv 0) rfl) (pv 1) (fun _ _ => rfl)))
      (pss_cons (ps_if (pt_cmpR op_lt (pe_fld (pv 3) rfl) (pv 2) (nomark _)) (pss_one (ps_ret (pe_lst (pa_cons (pe_num rfl T.c_TOO_FEW) pa_nil)))) pss_nil)
      (pss_cons (ps_fldaug (pv 3) (pv 2) in_sub)
      (pss_cons (ps_fldaug (pv 3) (pv 2) in_add)
      (pss_one (ps_ret (pe_lst (pa_cons (pe_fld (pv 3) rfl) pa_nil))))))))), ?_⟩
    obtain ⟨dx, hi⟩ := R.ins
    have hl : ((ss.map V.ref).length : Int) = 10 := by rw [List.length_map, R.S.len, wf.nS]; rfl
    walk_at "rd"
    refine q_len (SqL.of R.S.lst) ?_
    walk_at "rd"
    refine q_ite (fun e1 => ?_) (fun e1 => ?_)
    · walk_at "rd"
      exact k.done R .refl (l := [-2]) (by rw [gSharpen]; walk_at "ifs") rfl le1
    have hj : i < r.skates.length := by rw [wf.nS]; omega
    obtain ⟨x, hx, dm, hm⟩ := R.S.at_ hj
    have e0 : r.skates[i]? = some r.skates[i] := List.getElem?_eq_getElem hj
    obtain ⟨w1, w2⟩ := wf.sk _ (List.mem_of_getElem? e0)
    generalize r.skates[i] = m at hm e0 w1 w2
    have es := size_at e0
    walk_at "rd"
    refine q_ite (fun e2 => ?_) (fun e2 => ?_)
    · walk_at "rd"
      exact k.done R .refl (l := [-22]) (by rw [gSharpen]; walk_at "ifs") rfl le1
    walk_at "rd"
    refine q_ix (SqL.of R.S.lst) rfl (map_ref hx) ?_
    walk_at "rd"
    refine q_P T ⟨dm, hm⟩ rfl ?_
    walk_at "rd"
    refine q_ite (fun e3 => ?_) (fun e3 => ?_)
    · walk_at "rd"
      exact k.done R .refl (l := [-12]) (by rw [gSharpen, es]; walk_at "ifs") rfl le1
    walk_at "rd"
    refine q_P T ⟨dm, hm⟩ rfl ?_
    walk_at "rd"
    refine q_augS ⟨m.all - n, m.sharp, m.blunt - n⟩ R hx hm (pf_put (z := m.blunt - n) (by omega) ?_) fun H1 R F1 hm => ?_
    · dsimp only
      rw [show m.all - n - (m.sharp + (m.blunt - n)) = m.all - (m.sharp + m.blunt) by omega]
      rfl
    walk_at "rd"
    refine q_P T ⟨dm, hm⟩ rfl ?_
    walk_at "rd"
    refine q_augS ⟨m.all, m.sharp + n, m.blunt - n⟩ R hx hm (pf_put (z := m.sharp + n) (by omega) ?_) fun H2 R F2 hm => ?_
    · dsimp only
      rw [show m.all - (m.sharp + n + (m.blunt - n)) = m.all - n - (m.sharp + (m.blunt - n)) by omega]
      rfl
    walk_at "rd"
    refine q_P T ⟨dm, hm⟩ rfl ?_
    walk_at "rd"
    rw [List.set_set] at R
    exact k.done R (F1.trans F2) (l := [_]) (by rw [gSharpen, es]; walk_at "ifs"; rfl) rfl le1
end
end Ir
set_option Elab.async false
set_option maxRecDepth 100000
set_option maxHeartbeats 2000000
namespace Ir
open PySem PySem.Spec PyProof.Rows L2
local macro_rules | `(tactic| walk_at "rd1") => `(tactic| with_reducible first
  | refine q_seq ?_ | refine q_next ?_ | refine q_if ?_ | refine q_test ?_ | refine q_testB ?_ | refine q_op ?_ | refine q_c ?_ | refine q_i0 ?_ | refine q_eq ?_ | refine q_ne ?_ | refine q_bl ?_ | refine q_ret ?_ | refine q_lst ?_ | refine q_tup ?_ | refine q_cons ?_ | refine q_nil ?_
  | refine q_and ?_ | refine q_or ?_ | refine q_not ?_ | refine q_andV ?_ | refine q_orV ?_ | refine q_set ?_ | refine q_drop ?_ | refine q_call ?_ | refine q_cb ?_ | refine q_make ?_ | refine q_forR ?_ | refine q_forL ?_ | refine q_forE ?_ | refine q_gname ?_ | refine q_bm ?_ | refine q_add ?_ | refine q_sub ?_ | refine q_fld ?_ | refine q_sfld ?_ | refine q_saug ?_ | refine q_ifE ?_ | refine q_notV ?_ | refine q_sl ?_ | refine q_part ?_ | refine q_int ?_ | refine q_yes ?_ | refine q_bm0 ?_)
set_option hygiene false in
local macro_rules | `(tactic| walk_at "rd") => `(tactic| repeat (first | walk_at "rd1" | refine q_var rfl ?_ | refine q_R T hi rfl ?_ | refine q_D T hd rfl ?_ | dsimp only))
local macro_rules | `(tactic| walk_at "ifs") => `(tactic| repeat (first | rw [if_pos (by omega)] | rw [if_neg (by omega)]))
theorem bitAnd_nat (a b : Nat) : Builtin.bitAnd (a : Int) (b : Int) = ((a &&& b : Nat) : Int) := by
  rw [bitAnd_pp (Int.natCast_nonneg a) (Int.natCast_nonneg b)]
  rfl
theorem bitOr_nat (a b : Nat) : Builtin.bitOr (a : Int) (b : Int) = ((a ||| b : Nat) : Int) := by
  unfold Builtin.bitOr Builtin.bitAnd
  have h1 : decide (0 ≤ Builtin.bitNot (a : Int)) = false := by unfold Builtin.bitNot; simp; omega
  have h2 : decide (0 ≤ Builtin.bitNot (b : Int)) = false := by unfold Builtin.bitNot; simp; omega
  rw [h1, h2]
  have e : ∀ x : Int, Builtin.bitNot (Builtin.bitNot x) = x := fun x => by unfold Builtin.bitNot; omega
  simp only [e]
  rfl
theorem pow_cast (k : Nat) : (1 : Int) * 2 ^ ((k : Int)).toNat = ((2 ^ k : Nat) : Int) := by
  rw [Int.one_mul, Int.toNat_natCast, Int.natCast_pow]
  rfl
section
variable {P : Program} {w : World} {K : PySem.W.Frag} {mg : Str → Option Value} {base : Heap} {c : Cl}
/-! ### sessions -/
def spFit (c : Cl) : Sp := fun vs H Q _ => ∃ (x y : Addr) (m n : Km424.Ask) (g : Nat), vs = [.ref x, .ref y, .int g] ∧ InsAt c.cS H x (sf m) ∧ InsAt c.cS H y (sf n) ∧ Q (.bl (Km424.apart g n m)) H
abbrev s_two_fit : Stmt := top 82
theorem sc_two_fit : FnScope ["one", "other", "gap"] ["one", "other", "gap"] (defScope s_two_fit) := ⟨rfl, rfl, rfl, by decide +kernel, rfl, by decide +kernel, by decide +kernel⟩
theorem ok_two_fit (F : Df K mg "two_fit" s_two_fit ["one", "other", "gap"]) (T : Txt K mg c) : Cal P w K mg base 1 "two_fit" ["one", "other", "gap"] (spFit c) := by
  refine F.ok sc_two_fit (fun vs H Q E h => ?_) (fun f cdv A outer s H vs Q E hr h => ?_)
  · obtain ⟨x, y, m, n, g, rfl, _⟩ := h
    rfl
  · obtain ⟨x, y, m, n, g, rfl, hm, hn, k⟩ := h
    refine ⟨_, pss_one (ps_ret (pe_or (pe_cmpR op_ge (pe_fld (pv 0) rfl) (pe_op op_add (pe_fld (pv 1) rfl) (pv 2)) (nomark _)) (pe_one (pe_cmpR op_ge (pe_fld (pv 1) rfl) (pe_op op_add (pe_fld (pv 0) rfl) (pv 2)) (nomark _))))), ?_⟩
    unfold Km424.apart at k
    have e1 : decide ((n.to_ : Int) + (g : Int) ≤ (m.from_ : Int)) = decide (n.to_ + g ≤ m.from_) := by
      have : ((n.to_ : Int) + (g : Int) ≤ (m.from_ : Int)) ↔ (n.to_ + g ≤ m.from_) := by omega
      simp [this]
    have e2 : decide ((m.to_ : Int) + (g : Int) ≤ (n.from_ : Int)) = decide (m.to_ + g ≤ n.from_) := by
      have : ((m.to_ : Int) + (g : Int) ≤ (n.from_ : Int)) ↔ (m.to_ + g ≤ n.from_) := by omega
      simp [this]
    rw [← e1, ← e2] at k
    walk_at "rd"
    refine q_S T hm rfl ?_
    walk_at "rd"
    refine q_S T hn rfl ?_
    walk_at "rd"
    refine q_ite (fun e => ?_) (fun e => ?_)
    · rw [decide_eq_true e, Bool.true_or] at k
      exact k
    · rw [decide_eq_false e, Bool.false_or] at k
      walk_at "rd"
      refine q_S T hn rfl ?_
      walk_at "rd"
      refine q_S T hm rfl ?_
      walk_at "rd"
      exact k
def spClash (c : Cl) : Sp := fun vs H Q _ => ∃ (lq : Addr) (qs : List Addr) (ys : List Km424.Ask) (k g : Nat), vs = [.ref lq, .int k, .int g] ∧ Objs c.cS sf H lq qs ys ∧ k < ys.length ∧ ys.length ≤ 8 ∧ ∀ H', Same H H' → Q (.int (clashN g ys k k : Nat)) H'
abbrev s_earlier_that_clash : Stmt := top 83
theorem sc_earlier_that_clash : FnScope ["sessions", "k", "gap", "bits", "other"] ["sessions", "k", "gap"] (defScope s_earlier_that_clash) := ⟨rfl, rfl, rfl, by decide +kernel, rfl, by decide +kernel, by decide +kernel⟩
theorem ok_earlier_that_clash (F : Df K mg "earlier_that_clash" s_earlier_that_clash ["sessions", "k", "gap"]) (T : Txt K mg c) (C_two_fit : Cal P w K mg base 1 "two_fit" ["one", "other", "gap"] (spFit c)) : Cal P w K mg base 2 "earlier_that_clash" ["sessions", "k", "gap"] (spClash c) := by
  refine F.ok sc_earlier_that_clash (fun vs H Q E h => ?_) (fun f cdv A outer s H vs Q E hr h => ?_)
  · obtain ⟨lq, qs, ys, i, g, rfl, _⟩ := h
    rfl
  · obtain ⟨lq, qs, ys, i, g, rfl, O, hi, h8, k⟩ := h
    refine ⟨_, pss_cons (ps_set (i := 3) sc_earlier_that_clash.nd rfl (Or.inl rfl) pe_int)
      (pss_cons (ps_for PassesOwn.never rfl (pi_range1 rfl T.b_range (pa_cons (pv 1) pa_nil)) (pg_name (i := 4) sc_earlier_that_clash.nd rfl (Or.inl rfl)) (pss_one (ps_if (pt_not (pt_val (pe_fn C_two_fit (hr.mono (by decide)) rfl (pa_cons (pe_ix ix_list (pv 0) (pv 4) (fun _ _ => rfl)) (pa_cons (pe_ix ix_list (pv 0) (pv 1) (fun _ _ => rfl)) (pa_cons (pv 2) pa_nil)))))) (pss_one (ps_set (i := 3) sc_earlier_that_clash.nd rfl (Or.inl rfl) (pe_op op_or (pv 3) (pe_op op_shl pe_int (pv 4))))) pss_nil)))
      (pss_one (ps_ret (pv 3)))), ?_⟩
    walk_at "rd"
    refine forR (n := i) (by omega) (fun j σ H' => ∃ v : Option V, σ = [some (.ref lq), some (.int (i : Nat)), some (.int (g : Nat)), some (.int (clashN g ys i j : Nat)), v] ∧ H' = H) ⟨none, rfl, rfl⟩ ?_ ?_
    · rintro j σ H' hj ⟨v, rfl, rfl⟩
      obtain ⟨x, hx, hm⟩ := O.at_ (show j < ys.length by omega)
      obtain ⟨y, hy, hn⟩ := O.at_ hi
      walk_at "rd"
      refine q_ix (SqL.of O.lst) rfl (map_ref hx) ?_
      walk_at "rd"
      refine q_ix (SqL.of O.lst) rfl (map_ref hy) ?_
      walk_at "rd"
      refine ⟨x, y, _, _, g, rfl, hm, hn, ?_⟩
      have e1 : ys.getD i noAsk = ys[i] := by simp [List.getD_eq_getElem?_getD, hi]
      have e2 : ys.getD j noAsk = ys[j] := by simp [List.getD_eq_getElem?_getD, show j < ys.length by omega]
      have es := clash_succ g ys i j
      rw [e1, e2] at es
      walk_at "rd"
      refine q_iteB (fun e => ?_) (fun e => ?_)
      · have e : Km424.apart g ys[i] ys[j] = false := by simpa using e
        rw [e, if_neg (by decide)] at es
        walk_at "rd"
        refine q_i ⟨by omega, by omega, by decide⟩ ?_
        walk_at "rd"
        refine ⟨some (.int (j : Nat)), ?_, rfl⟩
        rw [pow_cast, bitOr_nat, es]
        rfl
      · have e : Km424.apart g ys[i] ys[j] = true := by simpa using e
        rw [e, if_pos rfl] at es
        walk_at "rd"
        exact ⟨some (.int (j : Nat)), by rw [es]; rfl, rfl⟩
    · rintro σ H' ⟨v, rfl, rfl⟩
      walk_at "rd"
      exact k H' (Same.refl H')
end
end Ir
set_option Elab.async false
set_option maxRecDepth 100000
set_option maxHeartbeats 2000000
namespace Ir
open PySem PySem.Spec PyProof.Rows L2
local macro_rules | `(tactic| walk_at "rd1") => `(tactic| with_reducible first
  | refine q_seq ?_ | refine q_next ?_ | refine q_if ?_ | refine q_test ?_ | refine q_testB ?_ | refine q_op ?_ | refine q_c ?_ | refine q_i0 ?_ | refine q_eq ?_ | refine q_ne ?_ | refine q_bl ?_ | refine q_ret ?_ | refine q_lst ?_ | refine q_tup ?_ | refine q_cons ?_ | refine q_nil ?_
  | refine q_and ?_ | refine q_or ?_ | refine q_not ?_ | refine q_andV ?_ | refine q_orV ?_ | refine q_set ?_ | refine q_drop ?_ | refine q_call ?_ | refine q_cb ?_ | refine q_make ?_ | refine q_forR ?_ | refine q_forL ?_ | refine q_forE ?_ | refine q_gname ?_ | refine q_bm ?_ | refine q_add ?_ | refine q_sub ?_ | refine q_fld ?_ | refine q_sfld ?_ | refine q_saug ?_ | refine q_ifE ?_ | refine q_notV ?_ | refine q_sl ?_ | refine q_part ?_ | refine q_int ?_ | refine q_yes ?_ | refine q_bm0 ?_)
set_option hygiene false in
local macro_rules | `(tactic| walk_at "rd") => `(tactic| repeat (first | walk_at "rd1" | refine q_var rfl ?_ | refine q_R T hi rfl ?_ | refine q_D T hd rfl ?_ | dsimp only))
local macro_rules | `(tactic| walk_at "ifs") => `(tactic| repeat (first | rw [if_pos (by omega)] | rw [if_neg (by omega)]))
/-- a for over enumerate(xs) -/
theorem forE {K : PySem.W.Frag} {a : Addr} {xs : List V} {g : TG} {tb : TS} {D : Ends} {σ : L2.St} {H : Hp} (Pv : Nat → L2.St → Hp → Prop) (h0 : Pv 0 σ H) (hl : ∀ i σ H, i ≤ xs.length → Pv i σ H → SqL K H a xs)
    (hs : ∀ i x σ H T, xs[i]? = some x → H T = none → Pv i σ H → g (.ref T) σ (upd H T (.tup [.int ((i : Nat) : Int), x])) fun σ2 H2 => tb { D with nx := Pv (i + 1), ct := Pv (i + 1), bk := D.nx } σ2 H2) (hd : ∀ σ H, Pv xs.length σ H → D.nx σ H) :
    ForAt (Ite K a) g tb D σ H := by
  refine ⟨fun i m σ H => m = xs.length - i ∧ i ≤ xs.length ∧ Pv i σ H, ⟨xs.length, by simp, Nat.zero_le _, h0⟩, ?_⟩
  rintro i m σ H ⟨rfl, hi, p⟩
  have q := hl i σ H hi p
  by_cases hlt : i < xs.length
  · refine .inr ⟨⟨xs, xs[i], q, by simp [hlt]⟩, Pv (i + 1), fun σ' H' p' => ⟨xs.length - (i + 1), by omega, rfl, hlt, p'⟩, fun x H' y => ?_⟩
    obtain ⟨T, z, rfl, hT, rfl, hz⟩ := y
    exact hs i z σ H T (hz xs q) hT p
  · have e : i = xs.length := by omega
    subst e
    exact .inl ⟨⟨xs, q, Nat.le_refl _⟩, hd σ H p⟩
/-- a list of pairs of numbers -/
structure Days (H : Hp) (ts : List Addr) (l : List (Nat × Nat)) : Prop where
  len : ts.length = l.length
  at_ : ∀ (j : Nat) t d, ts[j]? = some t → l[j]? = some d → H t = some (.tup [.int (d.1 : Nat), .int (d.2 : Nat)])
theorem Days.same {H H' : Hp} {ts : List Addr} {l : List (Nat × Nat)} (D : Days H ts l) (s : Same H H') : Days H' ts l := ⟨D.len, fun j t d h1 h2 => s _ _ (D.at_ j t d h1 h2)⟩
theorem Days.keepT {H H' : Hp} {ts : List Addr} {l : List (Nat × Nat)} (D : Days H ts l) (k : ∀ t xs, H t = some (.tup xs) → H' t = some (.tup xs)) : Days H' ts l := ⟨D.len, fun j t d h1 h2 => k _ _ (D.at_ j t d h1 h2)⟩
theorem Days.append {H : Hp} {ts us : List Addr} {l m : List (Nat × Nat)} (D : Days H ts l) (E : Days H us m) : Days H (ts ++ us) (l ++ m) := by
  refine ⟨by simp [D.len, E.len], fun j t d h1 h2 => ?_⟩
  by_cases h : j < ts.length
  · rw [List.getElem?_append_left h] at h1
    rw [List.getElem?_append_left (by rw [← D.len]; exact h)] at h2
    exact D.at_ j t d h1 h2
  · rw [List.getElem?_append_right (by omega)] at h1
    rw [List.getElem?_append_right (by rw [← D.len]; omega), ← D.len] at h2
    exact E.at_ _ t d h1 h2
theorem Days.one {H : Hp} {t : Addr} {d : Nat × Nat} (h : H t = some (.tup [.int (d.1 : Nat), .int (d.2 : Nat)])) : Days H [t] [d] := ⟨rfl, fun j u e h1 h2 => by
  match j, h1, h2 with
  | 0, h1, h2 =>
    cases h1
    cases h2
    exact h
  | j + 1, h1, _ => simp at h1⟩
theorem Days.nil {H : Hp} : Days H [] [] := ⟨rfl, fun j u e h1 _ => by simp at h1⟩
theorem Days.get {H : Hp} {ts : List Addr} {l : List (Nat × Nat)} (D : Days H ts l) {j : Nat} {t : Addr} (h : ts[j]? = some t) : ∃ d, l[j]? = some d ∧ H t = some (.tup [.int (d.1 : Nat), .int (d.2 : Nat)]) := by
  have hj : j < l.length := by rw [← D.len]; exact (List.getElem?_eq_some_iff.mp h).1
  exact ⟨l[j], List.getElem?_eq_getElem hj, D.at_ j t _ h (List.getElem?_eq_getElem hj)⟩
/-- a comprehension over a list of pairs that makes pairs -/
theorem lc_days {K : PySem.W.Frag} {D : Addr} {ts : List Addr} {l : List (Nat × Nat)} {i : Nat} {tt : TT} {te : TE} {σ : L2.St} {H : Hp} {Q : VK} (p : Nat × Nat → Bool) (e : Nat × Nat → Nat × Nat) (hS : H D = some (.lst (ts.map V.ref))) (hd : Days H ts l) (hlen : l.length < sizeLine)
    (htt : ∀ (t : Addr) (d : Nat × Nat) (H' : Hp) (R : Bool → Hp → Prop), Same H H' → H' t = some (.tup [.int (d.1 : Nat), .int (d.2 : Nat)]) → R (p d) H' → tt ((wipe σ [i]).set i (some (.ref t))) H' R)
    (hte : ∀ (t : Addr) (d : Nat × Nat) (H' : Hp) (R : VK), Same H H' → H' t = some (.tup [.int (d.1 : Nat), .int (d.2 : Nat)]) → (∀ u, H' u = none → R (.ref u) (upd H' u (.tup [.int ((e d).1 : Nat), .int ((e d).2 : Nat)]))) → te ((wipe σ [i]).set i (some (.ref t))) H' R)
    (q : ∀ (D' : Addr) (us : List Addr) (H' : Hp), Same H H' → H' D' = some (.lst (us.map V.ref)) → Days H' us ((l.filter p).map e) → Q (.ref D') H') : LcAt K D (gName i) tt te [i] σ H Q := by
  intro D' hD
  refine lc_list (vs := [i]) (xs := ts.map V.ref) (Qd := fun H => Q (.ref D') H) (fun j H' => Same H H' ∧ ∃ us, H' D' = some (.lst (us.map V.ref)) ∧ Days H' us (((l.take j).filter p).map e)) ⟨Same.new hD, [], by rw [upd_same]; rfl, Days.nil⟩ (fun j H' _ h => SqL.of (h.1 _ _ hS)) ?_ ?_
  · rintro j x H' hx ⟨s, us, hu, du⟩
    obtain ⟨t, ht, rfl⟩ := map_at hx
    obtain ⟨d, hd1, hd2⟩ := hd.get ht
    show wipe (((wipe σ [i])).set i (some (V.ref t))) [i] = wipe σ [i] ∧ _
    refine ⟨?_, htt t d H' _ s (s _ _ hd2) ?_⟩
    · show ((σ.set i none).set i (some (V.ref t))).set i none = σ.set i none
      rw [List.set_set, List.set_set]
    · cases hp : p d with
      | true =>
        rw [if_pos rfl]
        refine hte t d H' _ s (s _ _ hd2) fun u hn => ?_
        have nu : D' ≠ u := ne_of_none hu hn
        refine ⟨us.map V.ref, by rw [upd_ne nu]; exact hu, ?_, ?_, us ++ [u], ?_, ?_⟩
        · rw [List.length_map, du.len, List.length_map]
          exact Nat.lt_of_le_of_lt (Nat.le_trans (List.length_filter_le _ _) (List.length_take_le' _ _)) hlen
        · intro b o he
          rw [upd_ne (ne_of_none he hD), upd_ne (ne_of_none (s _ _ he) hn)]
          exact s b o he
        · rw [upd_same, List.map_append]
          rfl
        · rw [take_snoc hd1, List.filter_append, List.filter_cons, hp, List.map_append]
          refine Days.append (du.keepT fun b xs he => ?_) (Days.one ?_)
          · rw [upd_ne (ne_of he hu (by intro z; cases z)), upd_ne (ne_of_none he hn)]
            exact he
          · rw [upd_ne (fun z => nu z.symm), upd_same]
      | false =>
        rw [if_neg (by simp)]
        refine ⟨s, us, hu, ?_⟩
        rw [take_snoc hd1, List.filter_append, List.filter_cons, hp]
        simpa using du
  · rintro H' ⟨s, us, hu, du⟩
    rw [List.length_map, hd.len, List.take_length] at du
    exact q D' us H' s hu du
theorem days_len (g : Nat) (l : List Km424.Ask) : ∀ k, (daysN g l k).length ≤ 2 ^ k
  | 0 => Nat.le_refl _
  | k + 1 => by
    have ih := days_len g l k
    rw [daysN, List.length_append, List.length_map, Nat.pow_succ]
    have := List.length_filter_le (fun d : Nat × Nat => d.1 &&& clashN g l k k == 0) (daysN g l k)
    omega
theorem pow8 {k : Nat} (h : k ≤ 8) : 2 ^ k ≤ 256 := Nat.pow_le_pow_right (by decide) h
section
variable {P : Program} {w : World} {K : PySem.W.Frag} {mg : Str → Option Value} {base : Heap} {c : Cl}
def spDays (c : Cl) : Sp := fun vs H Q _ => ∃ (lq : Addr) (qs : List Addr) (ys : List Km424.Ask) (g : Nat), vs = [.ref lq, .int g] ∧ Objs c.cS sf H lq qs ys ∧ ys.length ≤ 8 ∧
  ∀ H' D ts, Same H H' → H' D = some (.lst (ts.map V.ref)) → Days H' ts (daysN g ys ys.length) → Q (.ref D) H'
abbrev s_days_that_fit : Stmt := top 84
theorem sc_days_that_fit : FnScope ["sessions", "gap", "days", "k", "session", "clash", "day"] ["sessions", "gap"] (defScope s_days_that_fit) := ⟨rfl, rfl, rfl, by decide +kernel, rfl, by decide +kernel, by decide +kernel⟩
theorem ok_days_that_fit (F : Df K mg "days_that_fit" s_days_that_fit ["sessions", "gap"]) (T : Txt K mg c) (C_earlier_that_clash : Cal P w K mg base 2 "earlier_that_clash" ["sessions", "k", "gap"] (spClash c)) : Cal P w K mg base 3 "days_that_fit" ["sessions", "gap"] (spDays c) := by
  refine F.ok sc_days_that_fit (fun vs H Q E h => ?_) (fun f cdv A outer s H vs Q E hr h => ?_)
  · obtain ⟨lq, qs, ys, g, rfl, _⟩ := h
    rfl
  · obtain ⟨lq, qs, ys, g, rfl, O, h8, k⟩ := h
    refine ⟨_, pss_cons (ps_set (i := 2) sc_days_that_fit.nd rfl (Or.inl rfl) (pe_lst (pa_cons (pe_tup (pa_cons pe_int (pa_cons pe_int pa_nil))) pa_nil)))
      (pss_cons (ps_for PassesOwn.never rfl (pi_enum rfl T.b_enumerate (pa_cons (pv 0) pa_nil)) (pg_tup rfl (pgs_cons (pg_name (i := 3) sc_days_that_fit.nd rfl (Or.inr rfl)) (pgs_cons (pg_name (i := 4) sc_days_that_fit.nd rfl (Or.inr rfl)) pgs_nil))) (pss_cons (ps_set (i := 5) sc_days_that_fit.nd rfl (Or.inr rfl) (pe_fn C_earlier_that_clash (hr.mono (by decide)) rfl (pa_cons (pv 0) (pa_cons (pv 3) (pa_cons (pv 1) pa_nil)))))
        (pss_one (ps_set (i := 2) sc_days_that_fit.nd rfl (Or.inl rfl) (pe_op op_cat (pv 2) (pe_lc rfl sc_days_that_fit.nd (pi_list (pv 2)) (blkOk_by (own := [("day", 6)]) rfl) (fun _ _ _ _ _ => (pg_name (i := 6) sc_days_that_fit.nd rfl (Or.inl rfl))) (fun _ _ _ _ _ => (pts_one (pt_cmpR op_eq (pe_op op_and (pe_ix (ix_tupK K rfl) (pv 6) pe_int (fun _ _ => rfl)) (pv 5)) pe_int (nomark _)))) (fun _ _ _ _ _ => (pe_tup (pa_cons (pe_op op_or (pe_ix (ix_tupK K rfl) (pv 6) pe_int (fun _ _ => rfl)) (pe_op op_shl pe_int (pv 3))) (pa_cons (pe_op op_add (pe_ix (ix_tupK K rfl) (pv 6) pe_int (fun _ _ => rfl)) (pe_fldK K rfl (pv 4) rfl)) pa_nil))))))))))
      (pss_one (ps_ret (pv 2)))), ?_⟩
    walk_at "rd"
    refine ⟨le2, fun t0 ht0 => ?_⟩
    walk_at "rd"
    refine ⟨le1, fun D0 hD0 => ?_⟩
    have nt : t0 ≠ D0 := ne_of_none upd_same hD0
    have s0 : Same H (upd (upd H t0 (.tup [.int 0, .int 0])) D0 (.lst [.ref t0])) := (Same.new ht0).trans (Same.new hD0)
    walk_at "rd"
    refine ⟨lq, _, rfl, SqL.of (s0 _ _ O.lst), ?_⟩
    refine forE (xs := qs.map V.ref) (fun i σ H' => ∃ (D : Addr) (ts : List Addr) (v3 v4 v5 : Option V), σ = [some (.ref lq), some (.int (g : Nat)), some (.ref D), v3, v4, v5, none] ∧ Same H H' ∧ H' D = some (.lst (ts.map V.ref)) ∧ Days H' ts (daysN g ys i))
      ⟨D0, [t0], none, none, none, rfl, s0, upd_same, Days.one (by rw [upd_ne nt, upd_same]; rfl)⟩ (fun i σ H' _ ⟨_, _, _, _, _, _, s1, _⟩ => SqL.of (s1 _ _ O.lst)) ?_ ?_
    · rintro i x σ H' Tt hx hT ⟨D, ts, v3, v4, v5, rfl, s1, hD, dD⟩
      obtain ⟨y, hy, rfl⟩ := map_at hx
      have hi : i < ys.length := by rw [← O.len]; exact (List.getElem?_eq_some_iff.mp hy).1
      refine ⟨Tt, [.int ((i : Nat) : Int), .ref y], rfl, SqT.of upd_same, rfl, _, _, rfl, ?_⟩
      refine ⟨_, _, rfl, ?_⟩
      refine ⟨rfl, ?_⟩
      have s2 : Same H' (upd H' Tt (.tup [.int ((i : Nat) : Int), .ref y])) := Same.new hT
      have hD := s2 _ _ hD
      have dD := dD.same s2
      have s2 := s1.trans s2
      generalize upd H' Tt (.tup [.int ((i : Nat) : Int), .ref y]) = H2 at s2 hD dD
      walk_at "rd"
      refine ⟨lq, qs, ys, i, g, rfl, O.same s2, hi, h8, fun H3 s3 => ?_⟩
      have hD := s3 _ _ hD
      have dD := dD.same s3
      have s3 := s2.trans s3
      walk_at "rd"
      refine q_lc ?_
      walk_at "rd"
      obtain ⟨dy, hY⟩ := O.obj i y ys[i] hy (List.getElem?_eq_getElem hi)
      have e1 : ys.getD i noAsk = ys[i] := by simp [List.getD_eq_getElem?_getD, hi]
      have hl8 := Nat.le_trans (days_len g ys i) (pow8 (show i ≤ 8 by omega))
      refine ⟨D, rfl, ⟨_, SqL.of hD⟩, lc_days (fun d => d.1 &&& clashN g ys i i == 0) (fun d => (d.1 ||| 2 ^ i, d.2 + ys[i].fee)) hD dD (Nat.lt_of_le_of_lt hl8 (by decide)) ?_ ?_ ?_⟩
      · intro t d H4 R s4 ht hR
        walk_at "rd"
        refine q_ixT (j := 0) (SqT.of ht) rfl rfl ?_
        walk_at "rd"
        rw [bitAnd_nat]
        have e : decide (((d.1 &&& clashN g ys i i : Nat) : Int) = 0) = (d.1 &&& clashN g ys i i == 0) := by
          rw [Bool.eq_iff_iff]
          simp only [decide_eq_true_eq, beq_iff_eq]
          omega
        rw [e]
        exact hR
      · intro t d H4 R s4 ht hR
        walk_at "rd"
        refine q_ixT (j := 0) (SqT.of ht) rfl rfl ?_
        walk_at "rd"
        refine q_i ⟨by omega, by omega, by decide⟩ ?_
        walk_at "rd"
        refine q_ixT (j := 1) (SqT.of ht) rfl rfl ?_
        walk_at "rd"
        refine q_S T ⟨dy, s4 _ _ (s3 _ _ hY)⟩ rfl ?_
        walk_at "rd"
        rw [pow_cast, bitOr_nat]
        exact ⟨le2, fun u hu => hR u hu⟩
      · intro D' us H4 s4 hD' dD'
        walk_at "rd"
        refine ⟨D, D', _, _, rfl, rfl, s4 _ _ hD, hD', ?_, fun p hp => ?_⟩
        · rw [List.length_map, List.length_map, dD.len, dD'.len, List.length_map]
          have := List.length_filter_le (fun d : Nat × Nat => d.1 &&& clashN g ys i i == 0) (daysN g ys i)
          have : (512 : Nat) ≤ sizeLine := by decide
          omega
        · walk_at "rd"
          refine ⟨p, ts ++ us, _, _, _, rfl, (s3.trans s4).trans (Same.new hp), ?_, ?_⟩
          · rw [upd_same, List.map_append]
          · rw [daysN, e1]
            exact ((dD.same s4).same (Same.new hp)).append (dD'.same (Same.new hp))
    · rintro σ H' ⟨D, ts, v3, v4, v5, rfl, s1, hD, dD⟩
      walk_at "rd"
      rw [List.length_map, O.len] at dD
      exact k H' D ts s1 hD dD
def spBest (c : Cl) : Sp := fun vs H Q _ => ∃ (lq : Addr) (qs : List Addr) (ys : List Km424.Ask) (g : Nat), vs = [.ref lq, .int g] ∧ Objs c.cS sf H lq qs ys ∧ ys.length ≤ 8 ∧
  ∀ H' t, Same H H' → H' t = some (.tup [.int ((pick (daysN g ys ys.length)).1 : Nat), .int ((pick (daysN g ys ys.length)).2 : Nat)]) → Q (.ref t) H'
abbrev s_best_day : Stmt := top 87
theorem sc_best_day : FnScope ["sessions", "gap", "best", "day"] ["sessions", "gap"] (defScope s_best_day) := ⟨rfl, rfl, rfl, by decide +kernel, rfl, by decide +kernel, by decide +kernel⟩
theorem ok_best_day (F : Df K mg "best_day" s_best_day ["sessions", "gap"]) (T : Txt K mg c) (C_days_that_fit : Cal P w K mg base 3 "days_that_fit" ["sessions", "gap"] (spDays c)) : Cal P w K mg base 4 "best_day" ["sessions", "gap"] (spBest c) := by
  refine F.ok sc_best_day (fun vs H Q E h => ?_) (fun f cdv A outer s H vs Q E hr h => ?_)
  · obtain ⟨lq, qs, ys, g, rfl, _⟩ := h
    rfl
  · obtain ⟨lq, qs, ys, g, rfl, O, h8, k⟩ := h
    refine ⟨_, pss_cons (ps_set (i := 2) sc_best_day.nd rfl (Or.inl rfl) (pe_tup (pa_cons pe_int (pa_cons pe_int pa_nil))))
      (pss_cons (ps_for PassesOwn.never rfl (pi_list (pe_fn C_days_that_fit (hr.mono (by decide)) rfl (pa_cons (pv 0) (pa_cons (pv 1) pa_nil)))) (pg_name (i := 3) sc_best_day.nd rfl (Or.inl rfl)) (pss_one (ps_if (pt_cmpR op_gt (pe_ix ix_tup (pv 3) pe_int (fun _ _ => rfl)) (pe_ix ix_tup (pv 2) pe_int (fun _ _ => rfl)) (nomark _)) (pss_one (ps_set (i := 2) sc_best_day.nd rfl (Or.inl rfl) (pv 3))) pss_nil)))
      (pss_one (ps_ret (pv 2)))), ?_⟩
    walk_at "rd"
    refine ⟨le2, fun t0 ht0 => ?_⟩
    walk_at "rd"
    refine ⟨lq, qs, ys, g, rfl, O.same (Same.new ht0), h8, fun H1 D ts s1 hD dD => ?_⟩
    have h0 := s1 _ _ (show upd H t0 (.tup [.int 0, .int 0]) t0 = _ from upd_same)
    have s1 := (Same.new (o := .tup [.int 0, .int 0]) ht0).trans s1
    walk_at "rd"
    refine ⟨D, rfl, ⟨_, SqL.of hD⟩, for_list (K := _) (a := D) (xs := ts.map V.ref) (fun i σ H' => ∃ (t : Addr) (v : Option V), σ = [some (.ref lq), some (.int (g : Nat)), some (.ref t), v] ∧ H' = H1 ∧ H1 t = some (.tup [.int ((pick ((daysN g ys ys.length).take i)).1 : Nat), .int ((pick ((daysN g ys ys.length).take i)).2 : Nat)]))
      ⟨t0, none, rfl, rfl, h0⟩ (fun i σ H' _ ⟨_, _, _, e, _⟩ => by rw [e]; exact SqL.of hD) ?_ ?_⟩
    · rintro i x σ H' hx ⟨t, v, rfl, rfl, ht⟩
      obtain ⟨u, hu, rfl⟩ := map_at hx
      obtain ⟨d, hd1, hd2⟩ := dD.get hu
      have ep : pick ((daysN g ys ys.length).take (i + 1)) = if (pick ((daysN g ys ys.length).take i)).2 < d.2 then d else pick ((daysN g ys ys.length).take i) := by
        unfold pick
        rw [take_snoc hd1, List.foldl_append]
        rfl
      walk_at "rd"
      refine q_ixT (j := 1) (SqT.of hd2) rfl rfl ?_
      walk_at "rd"
      refine q_ixT (j := 1) (SqT.of ht) rfl rfl ?_
      walk_at "rd"
      refine q_ite (fun e => ?_) (fun e => ?_)
      · walk_at "rd"
        rw [if_pos (by omega)] at ep
        exact ⟨u, some (.ref u), rfl, rfl, by rw [ep]; exact hd2⟩
      · walk_at "rd"
        rw [if_neg (by omega)] at ep
        exact ⟨t, some (.ref u), rfl, rfl, by rw [ep]; exact ht⟩
    · rintro σ H' ⟨t, v, rfl, rfl, ht⟩
      walk_at "rd"
      rw [List.length_map, dD.len, List.take_length] at ht
      exact k H' t s1 ht
end
end Ir
set_option Elab.async false
set_option maxRecDepth 100000
set_option maxHeartbeats 2000000
namespace Ir
open PySem PySem.Spec PyProof.Rows L2
local macro_rules | `(tactic| walk_at "rd1") => `(tactic| with_reducible first
  | refine q_seq ?_ | refine q_next ?_ | refine q_if ?_ | refine q_test ?_ | refine q_testB ?_ | refine q_op ?_ | refine q_c ?_ | refine q_i0 ?_ | refine q_eq ?_ | refine q_ne ?_ | refine q_bl ?_ | refine q_ret ?_ | refine q_lst ?_ | refine q_tup ?_ | refine q_cons ?_ | refine q_nil ?_
  | refine q_and ?_ | refine q_or ?_ | refine q_not ?_ | refine q_andV ?_ | refine q_orV ?_ | refine q_set ?_ | refine q_drop ?_ | refine q_call ?_ | refine q_cb ?_ | refine q_make ?_ | refine q_forR ?_ | refine q_forL ?_ | refine q_forE ?_ | refine q_gname ?_ | refine q_bm ?_ | refine q_add ?_ | refine q_sub ?_ | refine q_fld ?_ | refine q_sfld ?_ | refine q_saug ?_ | refine q_ifE ?_ | refine q_notV ?_ | refine q_sl ?_ | refine q_part ?_ | refine q_int ?_ | refine q_yes ?_ | refine q_bm0 ?_)
set_option hygiene false in
local macro_rules | `(tactic| walk_at "rd") => `(tactic| repeat (first | walk_at "rd1" | refine q_var rfl ?_ | refine q_R T hi rfl ?_ | refine q_D T hd rfl ?_ | dsimp only))
local macro_rules | `(tactic| walk_at "ifs") => `(tactic| repeat (first | rw [if_pos (by omega)] | rw [if_neg (by omega)]))
theorem booked_fold : ∀ (n : Nat) (p : Nat → Bool), (List.range n).foldl (fun w k => if p k = true then w + 2 ^ k else w) 0 = 0 ↔ ∀ k, k < n → p k = false
  | 0, p => by simp
  | n + 1, p => by
    rw [List.range_succ, List.foldl_append, List.foldl_cons, List.foldl_nil]
    have ih := booked_fold n p
    cases h : p n with
    | true =>
      simp only [if_true]
      have : 0 < 2 ^ n := Nat.two_pow_pos n
      constructor
      · intro e
        omega
      · intro q
        have := q n (by omega)
        rw [h] at this
        cases this
    | false =>
      simp only [Bool.false_eq_true, if_false]
      rw [ih]
      constructor
      · intro q k hk
        by_cases e : k = n
        · rw [e]; exact h
        · exact q k (by omega)
      · intro q k hk
        exact q k (by omega)
theorem booked_zero (r : Km424.Rink) : r.booked ≠ 0 ↔ (r.asks.any fun a => a.booked) = true := by
  have h := booked_fold r.asks.length fun k => (r.ask k).booked
  constructor
  · intro n
    cases e : r.asks.any fun a => a.booked with
    | true => rfl
    | false =>
      refine absurd (h.mpr fun k hk => ?_) n
      have e1 : r.ask k = r.asks[k] := by unfold Km424.Rink.ask; simp [List.getD_eq_getElem?_getD, hk]
      rw [e1]
      have := List.any_eq_false.mp e r.asks[k] (List.getElem_mem hk)
      simpa using this
  · intro e z
    obtain ⟨a, ha, hb⟩ := List.any_eq_true.mp e
    obtain ⟨k, hk, rfl⟩ := List.getElem_of_mem ha
    have q := h.mp z k hk
    have e1 : r.ask k = r.asks[k] := by unfold Km424.Rink.ask; simp [List.getD_eq_getElem?_getD, hk]
    rw [e1, hb] at q
    cases q
section
variable {P : Program} {w : World} {K : PySem.W.Frag} {mg : Str → Option Value} {base : Heap} {c : Cl}
abbrev s_ir_gap : Stmt := top 88
theorem sc_ir_gap : FnScope ["rink", "n", "session", "before"] ["rink", "n"] (defScope s_ir_gap) := ⟨rfl, rfl, rfl, by decide +kernel, rfl, by decide +kernel, by decide +kernel⟩
theorem ok_ir_gap (F : Df K mg "ir_gap" s_ir_gap ["rink", "n"]) (T : Txt K mg c) : Cal P w K mg base 1 "ir_gap" ["rink", "n"] (spM c gGap 1) := by
  refine F.ok sc_ir_gap (fun vs H Q E h => ?_) (fun f cdv A outer s H vs Q E hr h => ?_)
  · obtain ⟨a, r, fp, ns, rfl, hn, _⟩ := h
    simp [hn]
  · obtain ⟨a, r, fp, ns, rfl, hn, ⟨lm, ls, lq, ms, ss, qs, R, rfl⟩, wf, k⟩ := h
    obtain ⟨n, rfl⟩ := len1 hn
    refine ⟨_, pss_cons (ps_if (pt_cmpR op_gt (pv 1) (pe_num rfl T.c_MOST_GAP) (nomark _)) (pss_one (ps_ret (pe_lst (pa_cons (pe_num rfl T.c_NOT_AS_TOLD) pa_nil)))) pss_nil)
      (pss_cons (ps_if (pt_val (pe_callB (cr_any rfl) (by rfl) T.b_any boot_any (pa_cons (pe_lc rfl sc_ir_gap.nd (pi_list (pe_fld (pv 0) rfl)) (blkOk_by (own := [("session", 2)]) rfl) (fun _ _ _ _ _ => (pg_name (i := 2) sc_ir_gap.nd rfl (Or.inl rfl))) (fun _ _ _ _ _ => pts_nil) (fun _ _ _ _ _ => (pe_cmpR op_eq (pe_fldK K rfl (pv 2) rfl) pe_int (nomark _)))) pa_nil))) (pss_one (ps_ret (pe_lst (pa_cons (pe_num rfl T.c_IN_USE) pa_nil)))) pss_nil)
      (pss_cons (ps_set (i := 3) sc_ir_gap.nd rfl (Or.inl rfl) (pe_fld (pv 0) rfl))
      (pss_cons (ps_fld (pv 0) (pv 1) rfl)
      (pss_one (ps_ret (pe_lst (pa_cons (pv 3) pa_nil))))))), ?_⟩
    obtain ⟨dx, hi⟩ := R.ins
    walk_at "rd"
    refine q_ite (fun e1 => ?_) (fun e1 => ?_) <;> walk_at "rd"
    · exact k.done R .refl (l := [-22]) (by rw [gGap]; walk_at "ifs") rfl le1
    refine q_lc ?_
    walk_at "rd"
    refine ⟨lq, rfl, ⟨_, SqL.of R.Q.lst⟩, lc_pure (ys := r.asks) (fun _ => true) (fun m => .bl m.booked) (SqL.of R.Q.lst) (by rw [List.length_map, R.Q.len]) (by rw [List.length_map, R.Q.len]; exact wf.lQ) ?_ ?_ ?_⟩
    · intro j x y H' Q' hx hy s q
      exact q
    · intro j x y H' Q' hx hy _ s q
      obtain ⟨b, hb, rfl⟩ := map_at hx
      obtain ⟨dy, hM⟩ := R.Q.obj j b y hb hy
      walk_at "rd"
      refine q_S T ⟨dy, s _ _ hM⟩ rfl ?_
      walk_at "rd"
      cases h : y.booked <;> simpa [b01, h] using q
    · intro D H' hD s hl
      have R := R.same s
      have hi := s _ _ hi
      have F1 : Frm H H' (fpR a lm ls lq ms ss qs) := Frm.same s
      walk_at "rd"
      have hz := booked_zero r
      have ea : ((r.asks.filter fun _ => true).map fun m => m.booked).any id = r.asks.any fun a => a.booked := by
        rw [List.filter_eq_self.mpr (by simp), List.any_map]
        rfl
      refine ⟨D, (r.asks.filter fun _ => true).map fun m => m.booked, rfl, SqL.of (by rw [hl, List.map_map]; rfl), ?_⟩
      walk_at "rd"
      rw [ea]
      refine q_iteB (fun e => ?_) (fun e => ?_) <;> walk_at "rd"
      · exact k.done R F1 (l := [-16]) (by rw [gGap]; rw [if_neg (by omega), if_pos (hz.mpr e)]) rfl le1
      have nz : ¬ r.booked ≠ 0 := fun q => by rw [hz.mp q] at e; cases e
      refine q_V (r' := { r with gap := n }) T R hi n rfl rfl rfl rfl rfl rfl fun H2 R F2 hi => ?_
      walk_at "rd"
      exact k.done R (F1.trans F2) (l := [((r.gap : Nat) : Int)]) (by rw [gGap]; rw [if_neg (by omega), if_neg nz]) rfl le1
abbrev s_ir_ask : Stmt := top 89
theorem sc_ir_ask : FnScope ["rink", "begin", "end", "fee"] ["rink", "begin", "end", "fee"] (defScope s_ir_ask) := ⟨rfl, rfl, rfl, by decide +kernel, rfl, by decide +kernel, by decide +kernel⟩
theorem ok_ir_ask (F : Df K mg "ir_ask" s_ir_ask ["rink", "begin", "end", "fee"]) (T : Txt K mg c) (C_Session : Kls P w K mg base 1 "Session" c.cS ["self", "begin", "end", "fee"] (spI c.cS fSession 3)) : Cal P w K mg base 3 "ir_ask" ["rink", "begin", "end", "fee"] (spM c gAsk 3) := by
  refine F.ok sc_ir_ask (fun vs H Q E h => ?_) (fun f cdv A outer s H vs Q E hr h => ?_)
  · obtain ⟨a, r, fp, ns, rfl, hn, _⟩ := h
    simp [hn]
  · obtain ⟨a, r, fp, ns, rfl, hn, ⟨lm, ls, lq, ms, ss, qs, R, rfl⟩, wf, k⟩ := h
    obtain ⟨x, y, z, rfl⟩ := len3 hn
    refine ⟨_, pss_cons (ps_if (PW.pt (pw_or (pt_cmpR op_le (pv 2) (pv 1) (nomark _)) (pw_or (pt_cmpR op_gt (pv 2) (pe_num rfl T.c_DAY_END) (nomark _)) (pw_or1 (pt_cmpR op_gt (pv 3) (pe_num rfl T.c_MOST_FEE) (nomark _)))))) (pss_one (ps_ret (pe_lst (pa_cons (pe_num rfl T.c_NOT_AS_TOLD) pa_nil)))) pss_nil)
      (pss_cons (ps_if (pt_cmpR op_eq (pe_callB call_len_seq (by rfl) T.b_len PySem.boot_len (pa_cons (pe_fld (pv 0) rfl) pa_nil)) (pe_num rfl T.c_MOST_SESSIONS) (nomark _)) (pss_one (ps_ret (pe_lst (pa_cons (pe_num rfl T.c_NO_ROOM) pa_nil)))) pss_nil)
      (pss_cons (ps_expr (pe_bm PySem.F.plainAttrs_list PySem.F.slot_list_append PySem.F.type_list_append mt_append (pe_fld (pv 0) rfl) (pa_cons (pe_mk C_Session (hr.mono (by decide)) rfl (pa_cons (pv 1) (pa_cons (pv 2) (pa_cons (pv 3) pa_nil)))) pa_nil)))
      (pss_one (ps_ret (pe_lst (pa_cons (pe_op op_sub (pe_callB call_len_seq (by rfl) T.b_len PySem.boot_len (pa_cons (pe_fld (pv 0) rfl) pa_nil)) pe_int) pa_nil)))))), ?_⟩
    obtain ⟨dx, hi⟩ := R.ins
    have hM := R.Q.lst
    have hl : ((qs.map V.ref).length : Int) = r.asks.length := by rw [List.length_map, R.Q.len]
    walk_at "rd"
    refine q_ite (fun e1 => ?_) (fun e1 => ?_)
    · walk_at "rd"
      exact k.done R .refl (l := [-22]) (by rw [gAsk]; walk_at "ifs") rfl le1
    walk_at "rd"
    refine q_ite (fun e2 => ?_) (fun e2 => ?_)
    · walk_at "rd"
      exact k.done R .refl (l := [-22]) (by rw [gAsk]; walk_at "ifs") rfl le1
    walk_at "rd"
    refine q_ite (fun e3 => ?_) (fun e3 => ?_)
    · walk_at "rd"
      exact k.done R .refl (l := [-22]) (by rw [gAsk]; walk_at "ifs") rfl le1
    walk_at "rd"
    refine q_len (SqL.of hM) ?_
    walk_at "rd"
    have := wf.nQ
    refine q_ite (fun e4 => ?_) (fun e4 => ?_)
    · walk_at "rd"
      exact k.done R .refl (l := [-28]) (by rw [gAsk]; walk_at "ifs") rfl le1
    walk_at "rd"
    refine ⟨.inl ⟨rfl, _, SqL.of hM⟩, ?_⟩
    walk_at "rd"
    intro x0 d0 n0 m0 e0
    refine ⟨x0, d0, [x, y, z], rfl, rfl, upd_same, fun H1 h1 f1 => ⟨rfl, ?_⟩⟩
    have s1 : Same H H1 := fun b o e => by
      rw [f1 b (ne_of_none e n0), upd_ne (ne_of_none e n0), upd_ne (ne_of_none e m0)]
      exact e
    have nx : x0 ∉ fpR a lm ls lq ms ss qs := R.notin n0
    have R := R.same s1
    have A1 := R.addQ (y := ⟨x, y, z, false⟩) nx ⟨d0, h1⟩
    walk_at "rd"
    refine ⟨lq, _, _, rfl, rfl, R.Q.lst, ?_, ?_⟩
    · rw [List.length_map, R.Q.len]; exact wf.lQ
    obtain ⟨dy, hi⟩ := A1.ins
    generalize hH2 : upd H1 lq (.lst (qs.map V.ref ++ [.ref x0])) = H2 at A1 hi
    walk_at "rd"
    refine q_len (SqL.of A1.Q.lst) ?_
    walk_at "rd"
    have F1 : Frm H H2 (fpR a lm ls lq ms ss qs) := hH2 ▸ (Frm.same s1).trans (Frm.upd (by simp))
    have e : gAsk r [x, y, z] = ({ r with asks := r.asks ++ [⟨x, y, z, false⟩] }, [((r.asks.length : Nat) : Int)]) := by rw [gAsk]; walk_at "ifs"
    refine ⟨le1, fun p hp => ?_⟩
    refine k _ p _ ⟨_, _, _, _, _, _, e ▸ A1.new hp, rfl⟩ (F1.trans (Frm.new hp)) (fun b hb => ?_) ?_ (A1.notin hp) ?_
    · simp only [List.mem_cons, List.mem_append, List.not_mem_nil, or_false] at hb ⊢
      by_cases q : b = x0
      · exact .inr (q ▸ n0)
      · simp only [q, or_false] at hb
        exact .inl hb
    · refine F1.none hp fun m => A1.notin hp ?_
      simp only [List.mem_cons, List.mem_append, List.not_mem_nil, or_false] at m ⊢
      grind
    · rw [upd_same, e]
      simp [R.Q.len]
abbrev s_ir_drop : Stmt := top 91
theorem sc_ir_drop : FnScope ["rink", "k", "session"] ["rink", "k"] (defScope s_ir_drop) := ⟨rfl, rfl, rfl, by decide +kernel, rfl, by decide +kernel, by decide +kernel⟩
theorem ok_ir_drop (F : Df K mg "ir_drop" s_ir_drop ["rink", "k"]) (T : Txt K mg c) : Cal P w K mg base 1 "ir_drop" ["rink", "k"] (spM c gDrop 1) := by
  refine F.ok sc_ir_drop (fun vs H Q E h => ?_) (fun f cdv A outer s H vs Q E hr h => ?_)
  · obtain ⟨a, r, fp, ns, rfl, hn, _⟩ := h
    simp [hn]
  · obtain ⟨a, r, fp, ns, rfl, hn, ⟨lm, ls, lq, ms, ss, qs, R, rfl⟩, wf, k⟩ := h
    obtain ⟨i, rfl⟩ := len1 hn
    refine ⟨_, pss_cons (ps_if (pt_cmpR op_ge (pv 1) (pe_callB call_len_seq (by rfl) T.b_len PySem.boot_len (pa_cons (pe_fld (pv 0) rfl) pa_nil)) (nomark _)) (pss_one (ps_ret (pe_lst (pa_cons (pe_num rfl T.c_NOT_THERE) pa_nil)))) pss_nil)
      (pss_cons (ps_set (i := 2) sc_ir_drop.nd rfl (Or.inl rfl) (pe_ix ix_list (pe_fld (pv 0) rfl) (pv 1) (fun _ _ => rfl)))
      (pss_cons (ps_if (pt_cmpR op_eq (pe_fld (pv 2) rfl) pe_int (nomark _)) (pss_one (ps_ret (pe_lst (pa_cons (pe_num rfl T.c_NONE_SUCH) pa_nil)))) pss_nil)
      (pss_cons (ps_fld (pv 2) pe_int rfl)
      (pss_one (ps_ret (pe_lst (pa_cons (pe_fld (pv 2) rfl) pa_nil))))))), ?_⟩
    obtain ⟨dx, hi⟩ := R.ins
    have hl : ((qs.map V.ref).length : Int) = r.asks.length := by rw [List.length_map, R.Q.len]
    walk_at "rd"
    refine q_len (SqL.of R.Q.lst) ?_
    walk_at "rd"
    refine q_ite (fun e1 => ?_) (fun e1 => ?_)
    · walk_at "rd"
      have e : r.asks[i]? = none := List.getElem?_eq_none (by omega)
      exact k.done R .refl (l := [-2]) (by rw [gDrop, e]) rfl le1
    have hj : i < r.asks.length := by omega
    obtain ⟨x, hx, dm, hm⟩ := R.Q.at_ hj
    have e0 : r.asks[i]? = some r.asks[i] := List.getElem?_eq_getElem hj
    generalize r.asks[i] = m at hm e0
    walk_at "rd"
    refine q_ix (SqL.of R.Q.lst) rfl (map_ref hx) ?_
    walk_at "rd"
    refine q_S T ⟨dm, hm⟩ rfl ?_
    walk_at "rd"
    refine q_ite (fun e2 => ?_) (fun e2 => ?_)
    · have e : m.booked = false := by
        cases h : m.booked with
        | false => rfl
        | true => rw [h] at e2; exact absurd e2 (by decide)
      walk_at "rd"
      exact k.done R .refl (l := [-6]) (by rw [gDrop, e0]; dsimp only; rw [if_pos e]) rfl le1
    have e : ¬ m.booked = false := fun h => e2 (by rw [h]; rfl)
    walk_at "rd"
    refine q_setQ { m with booked := false } T R hx hm rfl rfl fun H1 R F1 hm => ?_
    walk_at "rd"
    refine q_S T ⟨dm, hm⟩ rfl ?_
    walk_at "rd"
    exact k.done R F1 (l := [_]) (by rw [gDrop, e0]; dsimp only; rw [if_neg e]) rfl le1
/-! ### ir_book -/
def bookTo (r : Km424.Rink) (w i : Nat) : List Km424.Ask := ((List.range i).map fun k => { r.ask k with booked := w.testBit k }) ++ r.asks.drop i
theorem bookTo_len (r : Km424.Rink) (w : Nat) {i : Nat} (h : i ≤ r.asks.length) : (bookTo r w i).length = r.asks.length := by
  unfold bookTo
  rw [List.length_append, List.length_map, List.length_range, List.length_drop]
  omega
theorem bookTo_at (r : Km424.Rink) (w : Nat) {i : Nat} (h : i < r.asks.length) : (bookTo r w i)[i]? = some (r.ask i) := by
  unfold bookTo
  rw [List.getElem?_append_right (by simp), List.length_map, List.length_range, Nat.sub_self, List.getElem?_drop, Nat.add_zero]
  unfold Km424.Rink.ask
  simp [List.getD_eq_getElem?_getD, h]
theorem bookTo_set (r : Km424.Rink) (w : Nat) {i : Nat} (h : i < r.asks.length) : (bookTo r w i).set i { r.ask i with booked := w.testBit i } = bookTo r w (i + 1) := by
  unfold bookTo
  have l1 : ((List.range i).map fun k => ({ r.ask k with booked := w.testBit k } : Km424.Ask)).length = i := by simp
  rw [List.set_append_right _ _ (by omega), l1, Nat.sub_self, List.range_succ, List.map_append, List.append_assoc]
  congr 1
  rw [List.drop_eq_getElem_cons h]
  rfl
theorem bit_is (w k : Nat) : ((w : Int) / 2 ^ ((k : Int)).toNat) % 2 = b01 (w.testBit k) := by
  rw [Int.toNat_natCast]
  have e : ((w : Int) / 2 ^ k) % 2 = ((w / 2 ^ k % 2 : Nat) : Int) := by
    rw [Int.natCast_emod, Int.natCast_ediv, Int.natCast_pow]
    rfl
  rw [e, Nat.testBit_eq_decide_div_mod_eq]
  have h2 : w / 2 ^ k % 2 < 2 := Nat.mod_lt _ (by decide)
  by_cases h : w / 2 ^ k % 2 = 1
  · rw [h]; rfl
  · have : w / 2 ^ k % 2 = 0 := by omega
    rw [this]; rfl
abbrev s_ir_book : Stmt := top 90
theorem sc_ir_book : FnScope ["rink", "best", "k", "session"] ["rink"] (defScope s_ir_book) := ⟨rfl, rfl, rfl, by decide +kernel, rfl, by decide +kernel, by decide +kernel⟩
theorem ok_ir_book (F : Df K mg "ir_book" s_ir_book ["rink"]) (T : Txt K mg c) (C_best_day : Cal P w K mg base 4 "best_day" ["sessions", "gap"] (spBest c)) : Cal P w K mg base 5 "ir_book" ["rink"] (spM c gBook 0) := by
  refine F.ok sc_ir_book (fun vs H Q E h => ?_) (fun f cdv A outer s H vs Q E hr h => ?_)
  · obtain ⟨a, r, fp, ns, rfl, hn, _⟩ := h
    simp [hn]
  · obtain ⟨a, r, fp, ns, rfl, hn, ⟨lm, ls, lq, ms, ss, qs, R, rfl⟩, wf, k⟩ := h
    obtain rfl := List.eq_nil_of_length_eq_zero hn
    refine ⟨_, pss_cons (ps_if (pt_cmpR op_eq (pe_callB call_len_seq (by rfl) T.b_len PySem.boot_len (pa_cons (pe_fld (pv 0) rfl) pa_nil)) pe_int (nomark _)) (pss_one (ps_ret (pe_lst (pa_cons (pe_num rfl T.c_NONE_SUCH) pa_nil)))) pss_nil)
      (pss_cons (ps_set (i := 1) sc_ir_book.nd rfl (Or.inl rfl) (pe_fn C_best_day (hr.mono (by decide)) rfl (pa_cons (pe_fld (pv 0) rfl) (pa_cons (pe_fld (pv 0) rfl) pa_nil))))
      (pss_cons (ps_for PassesOwn.never rfl (pi_range1 rfl T.b_range (pa_cons (pe_callB call_len_seq (by rfl) T.b_len PySem.boot_len (pa_cons (pe_fld (pv 0) rfl) pa_nil)) pa_nil)) (pg_name (i := 2) sc_ir_book.nd rfl (Or.inl rfl)) (pss_cons (ps_set (i := 3) sc_ir_book.nd rfl (Or.inl rfl) (pe_ix ix_list (pe_fld (pv 0) rfl) (pv 2) (fun _ _ => rfl)))
        (pss_one (ps_fld (pv 3) (pe_op op_and (pe_op op_shr (pe_ix ix_tup (pv 1) pe_int (fun _ _ => rfl)) (pv 2)) pe_int) rfl))))
      (pss_one (ps_ret (pe_lst (pa_cons (pe_ix ix_tup (pv 1) pe_int (fun _ _ => rfl)) (pa_cons (pe_ix ix_tup (pv 1) pe_int (fun _ _ => rfl)) pa_nil))))))), ?_⟩
    obtain ⟨dx, hi⟩ := R.ins
    have hl : ((qs.map V.ref).length : Int) = r.asks.length := by rw [List.length_map, R.Q.len]
    walk_at "rd"
    refine q_len (SqL.of R.Q.lst) ?_
    walk_at "rd"
    refine q_ite (fun e1 => ?_) (fun e1 => ?_)
    · walk_at "rd"
      have e : r.asks = [] := List.eq_nil_of_length_eq_zero (by omega)
      exact k.done R .refl (l := [-6]) (by rw [gBook, if_pos e]) rfl le1
    have ne : ¬ r.asks = [] := fun e => e1 (by rw [hl, e]; rfl)
    have n8 := wf.nQ
    walk_at "rd"
    refine ⟨lq, qs, r.asks, r.gap, rfl, R.Q, wf.nQ, fun H1 t s1 ht => ?_⟩
    rw [best_is] at ht
    have R := R.same s1
    have hi := s1 _ _ hi
    walk_at "rd"
    refine q_len (SqL.of R.Q.lst) ?_
    walk_at "rd"
    have el : (qs.map V.ref).length = r.asks.length := by rw [List.length_map, R.Q.len]
    rw [el]
    have tf : t ∉ fpR a lm ls lq ms ss qs := fun m => by
      obtain ⟨dz, hz⟩ := R.ins
      have nR : ∀ {b : Addr} {o : HO}, H1 b = some o → (∀ xs, o ≠ .tup xs) → t ≠ b := fun {b o} hb ho e => by
        subst e
        rw [ht] at hb
        exact ho _ (Option.some.inj hb).symm
      have nO : ∀ {α : Type} {C l : Addr} {fd : α → List (Str × V)} {xs : List Addr} {ys : List α}, Objs C fd H1 l xs ys → t ∉ l :: xs := fun {α C l fd xs ys} O m => by
        rcases List.mem_cons.mp m with e | m
        · exact nR O.lst (by intro xs z; cases z) e
        · obtain ⟨j, hj, e⟩ := List.getElem_of_mem m
          obtain ⟨x, hx, dx, h⟩ := O.at_ (show j < ys.length by rw [← O.len]; exact hj)
          rw [List.getElem?_eq_getElem hj, e] at hx
          cases hx
          exact nR h (by intro xs z; cases z) rfl
      rcases List.mem_cons.mp m with e | m
      · exact nR hz (by intro xs z; cases z) e
      · rcases List.mem_append.mp m with m | m
        · exact nO R.M m
        · rcases List.mem_append.mp m with m | m
          · exact nO R.S m
          · exact nO R.Q m
    refine forR (n := r.asks.length) (by omega) (fun i σ H' => ∃ v2 v3 : Option V, σ = [some (.ref a), some (.ref t), v2, v3] ∧ Rk c H' a { r with asks := bookTo r r.best i } lm ls lq ms ss qs ∧ Frm H1 H' (fpR a lm ls lq ms ss qs)) ⟨none, none, rfl, R, Frm.refl⟩ ?_ ?_
    · rintro i σ H' hi' ⟨v2, v3, rfl, R', F'⟩
      obtain ⟨dx, hi⟩ := R'.ins
      have hj : i < (bookTo r r.best i).length := by rw [bookTo_len r r.best (Nat.le_of_lt hi')]; exact hi'
      obtain ⟨x, hx, dm, hm⟩ := R'.Q.at_ hj
      have ea : (bookTo r r.best i)[i] = r.ask i := Option.some.inj ((List.getElem?_eq_getElem hj).symm.trans (bookTo_at r r.best hi'))
      have hm : H' x = some (.ins c.cS dm (sf (r.ask i))) := by rw [← ea]; exact hm
      walk_at "rd"
      refine q_ix (SqL.of R'.Q.lst) rfl (map_ref hx) ?_
      walk_at "rd"
      refine q_ixT (j := 0) (SqT.of (F' _ _ ht tf)) rfl rfl ?_
      walk_at "rd"
      refine q_i (by omega) ?_
      walk_at "rd"
      rw [bitAnd_m1, bit_is]
      refine ⟨x, c.cS, dm, _, rfl, hm, T.clS, T.fS _ (by simp [sN]), (show 4 < 1000 by decide), some (.int (i : Nat)), some (.ref x), rfl, ?_, F'.trans (Frm.upd (by have := List.mem_of_getElem? hx; simp [this]))⟩
      have R2 := R'.setQ (dx := dm) (y := { r.ask i with booked := r.best.testBit i }) hx rfl
      have es := bookTo_set r r.best hi'
      have R3 : Rk c _ a { r with asks := (bookTo r r.best i).set i { r.ask i with booked := r.best.testBit i } } lm ls lq ms ss qs := R2
      rw [es] at R3
      exact R3
    · rintro σ H' ⟨v2, v3, rfl, R', F'⟩
      have ht' := F' _ _ ht tf
      have eb : bookTo r r.best r.asks.length = (List.range r.asks.length).map fun k => { r.ask k with booked := r.best.testBit k } := by
        unfold bookTo
        rw [List.drop_length, List.append_nil]
      rw [eb] at R'
      walk_at "rd"
      refine q_ixT (j := 1) (SqT.of ht') rfl rfl ?_
      walk_at "rd"
      refine q_ixT (j := 0) (SqT.of ht') rfl rfl ?_
      walk_at "rd"
      exact k.done R' ((Frm.same s1).trans F') (l := [_, _]) (by rw [gBook, if_neg ne]) rfl le2
end
end Ir
set_option Elab.async false
set_option maxRecDepth 100000
set_option maxHeartbeats 2000000
namespace Ir
open PySem PySem.Spec PyProof.Rows L2
local macro_rules | `(tactic| walk_at "rd1") => `(tactic| with_reducible first
  | refine q_seq ?_ | refine q_next ?_ | refine q_if ?_ | refine q_test ?_ | refine q_testB ?_ | refine q_op ?_ | refine q_c ?_ | refine q_i0 ?_ | refine q_eq ?_ | refine q_ne ?_ | refine q_bl ?_ | refine q_ret ?_ | refine q_lst ?_ | refine q_tup ?_ | refine q_cons ?_ | refine q_nil ?_
  | refine q_and ?_ | refine q_or ?_ | refine q_not ?_ | refine q_andV ?_ | refine q_orV ?_ | refine q_set ?_ | refine q_drop ?_ | refine q_call ?_ | refine q_cb ?_ | refine q_make ?_ | refine q_forR ?_ | refine q_forL ?_ | refine q_forE ?_ | refine q_gname ?_ | refine q_bm ?_ | refine q_add ?_ | refine q_sub ?_ | refine q_fld ?_ | refine q_sfld ?_ | refine q_saug ?_ | refine q_ifE ?_ | refine q_notV ?_ | refine q_sl ?_ | refine q_part ?_ | refine q_int ?_ | refine q_yes ?_ | refine q_bm0 ?_)
set_option hygiene false in
local macro_rules | `(tactic| walk_at "rd") => `(tactic| repeat (first | walk_at "rd1" | refine q_var rfl ?_ | refine q_R T hi rfl ?_ | refine q_D T hd rfl ?_ | dsimp only))
local macro_rules | `(tactic| walk_at "ifs") => `(tactic| repeat (first | rw [if_pos (by omega)] | rw [if_neg (by omega)]))
section
variable {P : Program} {w : World} {K : PySem.W.Frag} {mg : Str → Option Value} {base : Heap} {c : Cl}
/-- a call as spM tells it, between calls -/
def spX (c : Cl) (g : Km424.Rink → List Nat → Km424.Rink × List Int) (k : Nat) : Sp := fun vs H Q _ => ∃ (a : Addr) (r : Km424.Rink) (fp : List Addr) (ns : List Nat), vs = .ref a :: ns.map (fun n : Nat => V.int n) ∧ ns.length = k ∧ Own c H a r fp ∧ Wx r ∧ Fin c H a (g r ns) fp Q
def optV : Option Nat → V
  | none => .non
  | some n => .int (n : Nat)
theorem q_01 {b : Bool} {σ : L2.St} {H : Hp} {Q : VK} (h : Q (.int (b01 b)) H) : if b = true then tC (.int 1) σ H Q else tC (.int 0) σ H Q := by cases b <;> exact h
theorem bit01 (b : Bool) : ((Km424.bit b : Nat) : Int) = b01 b := by cases b <;> rfl
theorem dec_nat0 (n : Nat) : decide ((n : Int) = 0) = (n == 0) := by
  rw [Bool.eq_iff_iff]
  simp
theorem dec_le (m n : Nat) : decide ((m : Int) ≤ (n : Int)) = decide (m ≤ n) := by
  rw [Bool.eq_iff_iff]
  simp
def spT (c : Cl) : Sp := fun vs H Q _ => ∃ (a : Addr) (r : Km424.Rink) (fp : List Addr), vs = [.ref a] ∧ Own c H a r fp ∧ Wx r ∧ ∀ H', Same H H' → Q (optV (soonN r)) H'
abbrev s_minutes_till_hard : Stmt := top 67
theorem sc_minutes_till_hard : FnScope ["rink", "freezes"] ["rink"] (defScope s_minutes_till_hard) := ⟨rfl, rfl, rfl, by decide +kernel, rfl, by decide +kernel, by decide +kernel⟩
theorem ok_minutes_till_hard (F : Df K mg "minutes_till_hard" s_minutes_till_hard ["rink"]) (T : Txt K mg c) (C_is_hard : Cal P w K mg base 1 "is_hard" ["rink"] (spR c fun r => .bl r.hard)) (C_cold_of : Cal P w K mg base 1 "cold_of" ["rink"] (spR c fun r => .int (r.cold : Nat)))
    (C_heat_for : Cal P w K mg base 1 "heat_for" ["rink", "skaters"] (spR1 c fun r n => .int (r.heat n : Nat))) : Cal P w K mg base 2 "minutes_till_hard" ["rink"] (spT c) := by
  refine F.ok sc_minutes_till_hard (fun vs H Q E h => ?_) (fun f cdv A outer s H vs Q E hr h => ?_)
  · obtain ⟨a, r, fp, rfl, _⟩ := h
    rfl
  · obtain ⟨a, r, fp, rfl, ⟨lm, ls, lq, ms, ss, qs, R, rfl⟩, wx, k⟩ := h
    refine ⟨_, pss_cons (ps_if (pt_val (pe_fn C_is_hard (hr.mono (by decide)) rfl (pa_cons (pv 0) pa_nil))) (pss_one (ps_ret pe_int)) pss_nil)
      (pss_cons (ps_set (i := 1) sc_minutes_till_hard.nd rfl (Or.inl rfl) (pe_op op_sub (pe_fn C_cold_of (hr.mono (by decide)) rfl (pa_cons (pv 0) pa_nil)) (pe_fn C_heat_for (hr.mono (by decide)) rfl (pa_cons (pv 0) (pa_cons (pe_fld (pv 0) rfl) pa_nil)))))
      (pss_cons (ps_if (PW.pt (pw_or (pt_cmpR op_le (pv 1) pe_int (nomark _)) (pw_or1 (pt_cmpR op_lt (pe_op op_add (pe_fld (pv 0) rfl) (pe_fld (pv 0) rfl)) (pe_fld (pv 0) rfl) (nomark _))))) (pss_one (ps_ret pe_non)) pss_nil)
      (pss_one (ps_ret (pe_op op_fdiv (pe_op op_sub (pe_op op_add (pe_fld (pv 0) rfl) (pv 1)) pe_int) (pv 1)))))), ?_⟩
    obtain ⟨dx, hi⟩ := R.ins
    walk_at "rd"
    refine ⟨a, r, _, rfl, ⟨_, _, _, _, _, _, R, rfl⟩, wx.wf, fun H1 s1 => ?_⟩
    have R := R.same s1
    have hi := s1 _ _ hi
    walk_at "rd"
    refine q_iteB (fun e => ?_) (fun e => ?_)
    · walk_at "rd"
      have es : soonN r = some 0 := by rw [soonN, if_pos e]
      rw [es] at k
      exact k H1 s1
    walk_at "rd"
    refine ⟨a, r, _, rfl, ⟨_, _, _, _, _, _, R, rfl⟩, wx.wf, fun H2 s2 => ?_⟩
    have R := R.same s2
    have hi := s2 _ _ hi
    walk_at "rd"
    refine ⟨a, r, _, r.on_, rfl, ⟨_, _, _, _, _, _, R, rfl⟩, wx.wf, fun H3 s3 => ?_⟩
    have R := R.same s3
    have hi := s3 _ _ hi
    have k := k H3 ((s1.trans s2).trans s3)
    have hc := cold_le wx
    unfold soonN at k
    rw [if_neg (by rw [e]; decide)] at k
    walk_at "rd"
    generalize r.heat r.on_ = heat at k ⊢
    generalize r.cold = cold at k hc ⊢
    refine q_ite (fun e2 => ?_) (fun e2 => ?_)
    · walk_at "rd"
      rw [if_pos (by omega)] at k
      exact k
    walk_at "rd"
    refine q_ite (fun e3 => ?_) (fun e3 => ?_)
    · walk_at "rd"
      rw [if_pos (by omega)] at k
      exact k
    walk_at "rd"
    rw [if_neg (by omega)] at k
    refine q_i ⟨by omega, by omega⟩ ?_
    have ez : ((r.wet : Int) + ((cold : Int) - (heat : Int)) - 1) / ((cold : Int) - (heat : Int)) = (((r.wet + (cold - heat) - 1) / (cold - heat) : Nat) : Int) := by
      rw [Int.natCast_ediv]
      congr 1 <;> omega
    rw [ez]
    exact k
abbrev s_ir_soon : Stmt := top 70
theorem sc_ir_soon : FnScope ["rink", "minutes"] ["rink"] (defScope s_ir_soon) := ⟨rfl, rfl, rfl, by decide +kernel, rfl, by decide +kernel, by decide +kernel⟩
theorem ok_ir_soon (F : Df K mg "ir_soon" s_ir_soon ["rink"]) (T : Txt K mg c) (C_minutes_till_hard : Cal P w K mg base 2 "minutes_till_hard" ["rink"] (spT c)) : Cal P w K mg base 3 "ir_soon" ["rink"] (spX c gSoon 0) := by
  refine F.ok sc_ir_soon (fun vs H Q E h => ?_) (fun f cdv A outer s H vs Q E hr h => ?_)
  · obtain ⟨a, r, fp, ns, rfl, hn, _⟩ := h
    simp [hn]
  · obtain ⟨a, r, fp, ns, rfl, hn, ⟨lm, ls, lq, ms, ss, qs, R, rfl⟩, wx, k⟩ := h
    obtain rfl := List.eq_nil_of_length_eq_zero hn
    refine ⟨_, pss_cons (ps_set (i := 1) sc_ir_soon.nd rfl (Or.inl rfl) (pe_fn C_minutes_till_hard (hr.mono (by decide)) rfl (pa_cons (pv 0) pa_nil)))
      (pss_cons (ps_if (PW.pt (pw_or (pt_cmpR op_isN (pv 1) pe_non (nomark _)) (pw_or1 (pt_cmpR op_gt (pv 1) (pe_num rfl T.c_MOST_MINUTES_AHEAD) (nomark _))))) (pss_one (ps_ret (pe_lst (pa_cons (pe_num rfl T.c_OUT_OF_REACH) pa_nil)))) pss_nil)
      (pss_one (ps_ret (pe_lst (pa_cons (pv 1) pa_nil))))), ?_⟩
    walk_at "rd"
    refine ⟨a, r, _, rfl, ⟨_, _, _, _, _, _, R, rfl⟩, wx, fun H1 s1 => ?_⟩
    have R := R.same s1
    have F1 : Frm H H1 (fpR a lm ls lq ms ss qs) := Frm.same s1
    unfold gSoon at k
    cases es : soonN r with
    | none =>
      rw [es] at k
      unfold optV
      walk_at "rd"
      refine ⟨rfl, ?_⟩
      walk_at "rd"
      refine q_ite (fun e2 => ?_) (fun e2 => absurd rfl e2)
      walk_at "rd"
      exact k.done R F1 (l := [-33]) rfl rfl le1
    | some m =>
      rw [es] at k
      unfold optV
      walk_at "rd"
      refine ⟨rfl, ?_⟩
      walk_at "rd"
      refine q_ite (fun e2 => by cases e2) (fun _ => ?_)
      walk_at "rd"
      refine q_ite (fun e3 => ?_) (fun e3 => ?_) <;> walk_at "rd"
      · exact k.done R F1 (l := [-33]) (by dsimp only; rw [if_pos (by omega)]) rfl le1
      · exact k.done R F1 (l := [((m : Nat) : Int)]) (by dsimp only; rw [if_neg (by omega)]) rfl le1
abbrev s_ir_hard : Stmt := top 69
theorem sc_ir_hard : FnScope ["rink", "dry", "enough", "hard"] ["rink"] (defScope s_ir_hard) := ⟨rfl, rfl, rfl, by decide +kernel, rfl, by decide +kernel, by decide +kernel⟩
theorem ok_ir_hard (F : Df K mg "ir_hard" s_ir_hard ["rink"]) (T : Txt K mg c) (C_is_hard : Cal P w K mg base 1 "is_hard" ["rink"] (spR c fun r => .bl r.hard)) : Cal P w K mg base 2 "ir_hard" ["rink"] (spM c gHard 0) := by
  refine F.ok sc_ir_hard (fun vs H Q E h => ?_) (fun f cdv A outer s H vs Q E hr h => ?_)
  · obtain ⟨a, r, fp, ns, rfl, hn, _⟩ := h
    simp [hn]
  · obtain ⟨a, r, fp, ns, rfl, hn, ⟨lm, ls, lq, ms, ss, qs, R, rfl⟩, wf, k⟩ := h
    obtain rfl := List.eq_nil_of_length_eq_zero hn
    refine ⟨_, pss_cons (ps_set (i := 1) sc_ir_hard.nd rfl (Or.inl rfl) (pe_ifExp (pt_cmpR op_eq (pe_fld (pv 0) rfl) pe_int (nomark _)) pe_int pe_int))
      (pss_cons (ps_set (i := 2) sc_ir_hard.nd rfl (Or.inl rfl) (pe_ifExp (pt_cmpR op_ge (pe_fld (pv 0) rfl) (pe_fld (pv 0) rfl) (nomark _)) pe_int pe_int))
      (pss_cons (ps_set (i := 3) sc_ir_hard.nd rfl (Or.inl rfl) (pe_ifExp (pt_val (pe_fn C_is_hard (hr.mono (by decide)) rfl (pa_cons (pv 0) pa_nil))) pe_int pe_int))
      (pss_one (ps_ret (pe_lst (pa_cons (pv 3) (pa_cons (pv 1) (pa_cons (pv 2) pa_nil)))))))), ?_⟩
    obtain ⟨dx, hi⟩ := R.ins
    walk_at "rd"
    refine q_01 ?_
    walk_at "rd"
    refine q_01 ?_
    walk_at "rd"
    refine ⟨a, r, _, rfl, ⟨_, _, _, _, _, _, R, rfl⟩, wf, fun H1 s1 => ?_⟩
    have R := R.same s1
    walk_at "rd"
    refine q_01 ?_
    walk_at "rd"
    refine k.done R (Frm.same s1) (l := [_, _, _]) rfl ?_ le3
    rw [bit01, bit01, bit01, dec_nat0, dec_le]
    rfl
abbrev s_ir_bears : Stmt := top 71
theorem sc_ir_bears : FnScope ["rink", "cold"] ["rink"] (defScope s_ir_bears) := ⟨rfl, rfl, rfl, by decide +kernel, rfl, by decide +kernel, by decide +kernel⟩
theorem ok_ir_bears (F : Df K mg "ir_bears" s_ir_bears ["rink"]) (T : Txt K mg c) (C_cold_of : Cal P w K mg base 1 "cold_of" ["rink"] (spR c fun r => .int (r.cold : Nat))) : Cal P w K mg base 2 "ir_bears" ["rink"] (spM c gBears 0) := by
  refine F.ok sc_ir_bears (fun vs H Q E h => ?_) (fun f cdv A outer s H vs Q E hr h => ?_)
  · obtain ⟨a, r, fp, ns, rfl, hn, _⟩ := h
    simp [hn]
  · obtain ⟨a, r, fp, ns, rfl, hn, ⟨lm, ls, lq, ms, ss, qs, R, rfl⟩, wf, k⟩ := h
    obtain rfl := List.eq_nil_of_length_eq_zero hn
    refine ⟨_, pss_cons (ps_set (i := 1) sc_ir_bears.nd rfl (Or.inl rfl) (pe_fn C_cold_of (hr.mono (by decide)) rfl (pa_cons (pv 0) pa_nil)))
      (pss_cons (ps_if (pt_cmpR op_lt (pv 1) (pe_fld (pv 0) rfl) (nomark _)) (pss_one (ps_ret (pe_lst (pa_cons (pe_num rfl T.c_OUT_OF_REACH) pa_nil)))) pss_nil)
      (pss_cons (ps_if (pt_cmpR op_eq (pe_fld (pv 0) rfl) pe_int (nomark _)) (pss_one (ps_ret (pe_lst (pa_cons (pe_fld (pv 0) rfl) pa_nil)))) pss_nil)
      (pss_one (ps_ret (pe_lst (pa_cons (pe_callB (call_min2 rfl) (by rfl) T.b_min boot_min (pa_cons (pe_fld (pv 0) rfl) (pa_cons (pe_op op_fdiv (pe_op op_sub (pv 1) (pe_fld (pv 0) rfl)) (pe_fld (pv 0) rfl)) pa_nil))) pa_nil)))))), ?_⟩
    obtain ⟨dx, hi⟩ := R.ins
    walk_at "rd"
    refine ⟨a, r, _, rfl, ⟨_, _, _, _, _, _, R, rfl⟩, wf, fun H1 s1 => ?_⟩
    have R := R.same s1
    have hi := s1 _ _ hi
    have F1 : Frm H H1 (fpR a lm ls lq ms ss qs) := Frm.same s1
    have we := wf.each
    unfold gBears at k
    walk_at "rd"
    refine q_ite (fun e2 => ?_) (fun e2 => ?_)
    · walk_at "rd"
      exact k.done R F1 (l := [-33]) (by rw [if_pos (by omega)]) rfl le1
    have nb : ¬ r.cold < r.base := by omega
    rw [if_neg nb, bears_is nb] at k
    walk_at "rd"
    refine q_ite (fun e3 => ?_) (fun e3 => ?_)
    · walk_at "rd"
      exact k.done R F1 (l := [((r.room : Nat) : Int)]) (by rw [if_pos (by omega)]) rfl le1
    walk_at "rd"
    refine q_i ⟨by omega, by omega⟩ ?_
    walk_at "rd"
    refine ⟨_, _, rfl, ?_⟩
    walk_at "rd"
    have ez : ((r.cold : Int) - (r.base : Int)) / (r.each : Int) = (((r.cold - r.base) / r.each : Nat) : Int) := by
      rw [Int.natCast_ediv]
      congr 1
      omega
    rw [ez]
    refine k.done R F1 (l := [_]) (by rw [if_neg (by omega)]) ?_ le1
    generalize (r.cold - r.base) / r.each = q
    have em : (if (q : Int) < (r.room : Int) then (q : Int) else (r.room : Int)) = ((min r.room q : Nat) : Int) := by split <;> omega
    rw [em]
    rfl
abbrev s_ir_ice : Stmt := top 73
theorem sc_ir_ice : FnScope ["rink"] ["rink"] (defScope s_ir_ice) := ⟨rfl, rfl, rfl, by decide +kernel, rfl, by decide +kernel, by decide +kernel⟩
theorem ok_ir_ice (F : Df K mg "ir_ice" s_ir_ice ["rink"]) (T : Txt K mg c) : Cal P w K mg base 1 "ir_ice" ["rink"] (spM c gIce 0) := by
  refine F.ok sc_ir_ice (fun vs H Q E h => ?_) (fun f cdv A outer s H vs Q E hr h => ?_)
  · obtain ⟨a, r, fp, ns, rfl, hn, _⟩ := h
    simp [hn]
  · obtain ⟨a, r, fp, ns, rfl, hn, ⟨lm, ls, lq, ms, ss, qs, R, rfl⟩, wf, k⟩ := h
    obtain rfl := List.eq_nil_of_length_eq_zero hn
    refine ⟨_, pss_one (ps_ret (pe_lst (pa_cons (pe_fld (pv 0) rfl) (pa_cons (pe_fld (pv 0) rfl) (pa_cons (pe_fld (pv 0) rfl) (pa_cons (pe_fld (pv 0) rfl) pa_nil)))))), ?_⟩
    obtain ⟨dx, hi⟩ := R.ins
    walk_at "rd"
    exact k.done R .refl (l := [_, _, _, _]) rfl rfl le4
abbrev s_ir_water : Stmt := top 75
theorem sc_ir_water : FnScope ["rink"] ["rink"] (defScope s_ir_water) := ⟨rfl, rfl, rfl, by decide +kernel, rfl, by decide +kernel, by decide +kernel⟩
theorem ok_ir_water (F : Df K mg "ir_water" s_ir_water ["rink"]) (T : Txt K mg c) : Cal P w K mg base 1 "ir_water" ["rink"] (spM c gWater 0) := by
  refine F.ok sc_ir_water (fun vs H Q E h => ?_) (fun f cdv A outer s H vs Q E hr h => ?_)
  · obtain ⟨a, r, fp, ns, rfl, hn, _⟩ := h
    simp [hn]
  · obtain ⟨a, r, fp, ns, rfl, hn, ⟨lm, ls, lq, ms, ss, qs, R, rfl⟩, wf, k⟩ := h
    obtain rfl := List.eq_nil_of_length_eq_zero hn
    refine ⟨_, pss_one (ps_ret (pe_lst (pa_cons (pe_fld (pv 0) rfl) (pa_cons (pe_fld (pv 0) rfl) (pa_cons (pe_fld (pv 0) rfl) (pa_cons (pe_fld (pv 0) rfl) (pa_cons (pe_fld (pv 0) rfl) pa_nil))))))), ?_⟩
    obtain ⟨dx, hi⟩ := R.ins
    walk_at "rd"
    exact k.done R .refl (l := [_, _, _, _, _]) rfl rfl le5
abbrev s_ir_power : Stmt := top 74
theorem sc_ir_power : FnScope ["rink"] ["rink"] (defScope s_ir_power) := ⟨rfl, rfl, rfl, by decide +kernel, rfl, by decide +kernel, by decide +kernel⟩
theorem ok_ir_power (F : Df K mg "ir_power" s_ir_power ["rink"]) (T : Txt K mg c) (C_cold_of : Cal P w K mg base 1 "cold_of" ["rink"] (spR c fun r => .int (r.cold : Nat))) (C_cost_of : Cal P w K mg base 1 "cost_of" ["rink"] (spR c fun r => .int (r.costs : Nat)))
    (C_heat_for : Cal P w K mg base 1 "heat_for" ["rink", "skaters"] (spR1 c fun r n => .int (r.heat n : Nat))) : Cal P w K mg base 2 "ir_power" ["rink"] (spM c gPower 0) := by
  refine F.ok sc_ir_power (fun vs H Q E h => ?_) (fun f cdv A outer s H vs Q E hr h => ?_)
  · obtain ⟨a, r, fp, ns, rfl, hn, _⟩ := h
    simp [hn]
  · obtain ⟨a, r, fp, ns, rfl, hn, ⟨lm, ls, lq, ms, ss, qs, R, rfl⟩, wf, k⟩ := h
    obtain rfl := List.eq_nil_of_length_eq_zero hn
    refine ⟨_, pss_one (ps_ret (pe_lst (pa_cons (pe_fn C_cold_of (hr.mono (by decide)) rfl (pa_cons (pv 0) pa_nil)) (pa_cons (pe_fn C_heat_for (hr.mono (by decide)) rfl (pa_cons (pv 0) (pa_cons (pe_fld (pv 0) rfl) pa_nil))) (pa_cons (pe_fn C_cost_of (hr.mono (by decide)) rfl (pa_cons (pv 0) pa_nil)) pa_nil))))), ?_⟩
    obtain ⟨dx, hi⟩ := R.ins
    walk_at "rd"
    refine ⟨a, r, _, rfl, ⟨_, _, _, _, _, _, R, rfl⟩, wf, fun H1 s1 => ?_⟩
    have R := R.same s1
    have hi := s1 _ _ hi
    walk_at "rd"
    refine ⟨a, r, _, r.on_, rfl, ⟨_, _, _, _, _, _, R, rfl⟩, wf, fun H2 s2 => ?_⟩
    have R := R.same s2
    walk_at "rd"
    refine ⟨a, r, _, rfl, ⟨_, _, _, _, _, _, R, rfl⟩, wf, fun H3 s3 => ?_⟩
    have R := R.same s3
    walk_at "rd"
    exact k.done R (Frm.same ((s1.trans s2).trans s3)) (l := [_, _, _]) rfl rfl le3
abbrev s_ir_money : Stmt := top 76
theorem sc_ir_money : FnScope ["rink", "fees", "session"] ["rink"] (defScope s_ir_money) := ⟨rfl, rfl, rfl, by decide +kernel, rfl, by decide +kernel, by decide +kernel⟩
theorem ok_ir_money (F : Df K mg "ir_money" s_ir_money ["rink"]) (T : Txt K mg c) : Cal P w K mg base 1 "ir_money" ["rink"] (spM c gMoney 0) := by
  refine F.ok sc_ir_money (fun vs H Q E h => ?_) (fun f cdv A outer s H vs Q E hr h => ?_)
  · obtain ⟨a, r, fp, ns, rfl, hn, _⟩ := h
    simp [hn]
  · obtain ⟨a, r, fp, ns, rfl, hn, ⟨lm, ls, lq, ms, ss, qs, R, rfl⟩, wf, k⟩ := h
    obtain rfl := List.eq_nil_of_length_eq_zero hn
    refine ⟨_, pss_cons (ps_setLc (i := 1) rfl sc_ir_money.nd rfl rfl (sw_true rfl rfl rfl rfl) (pi_list (pe_fld (pv 0) rfl)) (blkOk_by (own := [("session", 2)]) rfl) (fun _ _ _ _ _ => (pg_name (i := 2) sc_ir_money.nd rfl (Or.inl rfl))) (fun _ _ _ _ _ => (pts_one (pt_cmpR op_eq (pe_fldK K rfl (pv 2) rfl) pe_int (nomark _)))) (fun _ _ _ _ _ => (pe_fldK K rfl (pv 2) rfl)))
      (pss_one (ps_ret (pe_lst (pa_cons (pe_fld (pv 0) rfl) (pa_cons (pe_callB (cr_sum rfl) (by rfl) T.b_sum boot_sum (pa_cons (pv 1) pa_nil)) (pa_cons (pe_callB call_len_seq (by rfl) T.b_len PySem.boot_len (pa_cons (pv 1) pa_nil)) (pa_cons (pe_fld (pv 0) rfl) pa_nil))))))), ?_⟩
    obtain ⟨dx, hi⟩ := R.ins
    walk_at "rd"
    refine q_lc ?_
    walk_at "rd"
    refine ⟨lq, rfl, ⟨_, SqL.of R.Q.lst⟩, lc_pure (ys := r.asks) (fun m => m.booked) (fun m => .int (m.fee : Nat)) (SqL.of R.Q.lst) (by rw [List.length_map, R.Q.len]) (by rw [List.length_map, R.Q.len]; exact wf.lQ) ?_ ?_ ?_⟩
    · intro j x y H' Q' hx hy s q
      obtain ⟨b, hb, rfl⟩ := map_at hx
      obtain ⟨dy, hM⟩ := R.Q.obj j b y hb hy
      walk_at "rd"
      refine q_S T ⟨dy, s _ _ hM⟩ rfl ?_
      walk_at "rd"
      cases h : y.booked <;> simpa [b01, h] using q
    · intro j x y H' Q' hx hy hp s q
      obtain ⟨b, hb, rfl⟩ := map_at hx
      obtain ⟨dy, hM⟩ := R.Q.obj j b y hb hy
      walk_at "rd"
      refine q_S T ⟨dy, s _ _ hM⟩ rfl ?_
      exact q
    · intro D H' hD s hl
      have R := R.same s
      have hi := s _ _ hi
      walk_at "rd"
      refine ⟨D, (r.asks.filter fun m => m.booked).map fun m => ((m.fee : Nat) : Int), rfl, SqL.of (by rw [hl, List.map_map]; rfl), ?_⟩
      walk_at "rd"
      refine q_len (SqL.of hl) ?_
      walk_at "rd"
      rw [sum_if (fun m : Km424.Ask => m.booked) fun m => m.fee, List.length_map]
      refine k.done R (Frm.same s) (l := [_, _, _, _]) rfl ?_ le4
      rw [money_fees, money_many wf.nQ]
      rfl
end
end Ir
set_option Elab.async false
set_option maxRecDepth 100000
set_option maxHeartbeats 2000000
namespace Ir
open PySem PySem.Spec PyProof.Rows L2
local macro_rules | `(tactic| walk_at "rd1") => `(tactic| with_reducible first
  | refine q_seq ?_ | refine q_next ?_ | refine q_if ?_ | refine q_test ?_ | refine q_testB ?_ | refine q_op ?_ | refine q_c ?_ | refine q_i0 ?_ | refine q_eq ?_ | refine q_ne ?_ | refine q_bl ?_ | refine q_ret ?_ | refine q_lst ?_ | refine q_tup ?_ | refine q_cons ?_ | refine q_nil ?_
  | refine q_and ?_ | refine q_or ?_ | refine q_not ?_ | refine q_andV ?_ | refine q_orV ?_ | refine q_set ?_ | refine q_drop ?_ | refine q_call ?_ | refine q_cb ?_ | refine q_make ?_ | refine q_forR ?_ | refine q_forL ?_ | refine q_forE ?_ | refine q_gname ?_ | refine q_bm ?_ | refine q_add ?_ | refine q_sub ?_ | refine q_fld ?_ | refine q_sfld ?_ | refine q_saug ?_ | refine q_ifE ?_ | refine q_notV ?_ | refine q_sl ?_ | refine q_part ?_ | refine q_int ?_ | refine q_yes ?_ | refine q_bm0 ?_)
set_option hygiene false in
local macro_rules | `(tactic| walk_at "rd") => `(tactic| repeat (first | walk_at "rd1" | refine q_var rfl ?_ | refine q_R T hi rfl ?_ | refine q_D T hd rfl ?_ | dsimp only | rw [if_pos (rfl : true = true)] | rw [if_neg Bool.false_ne_true]))
local macro_rules | `(tactic| walk_at "ifs") => `(tactic| repeat (first | rw [if_pos (by omega)] | rw [if_neg (by omega)]))
local macro_rules | `(tactic| walk_at "to") => `(tactic| repeat (first | walk_at "rd1" | dsimp only))
/-! ### the cheapest machines -/
def coldS (l : List Km424.Machine) (w : Nat) : Nat := Km424.sum ((List.range l.length).map fun k => if w.testBit k = true then (l.getD k noMach).cold else 0)
def costS (l : List Km424.Machine) (w : Nat) : Nat := Km424.sum ((List.range l.length).map fun k => if w.testBit k = true then (l.getD k noMach).cost else 0)
def cheapL (l : List Km424.Machine) (heat i : Nat) : Option (Nat × Nat) := (List.range i).foldl (fun b w => if coldS l w < heat then b else match b with
  | none => some (costS l w, w)
  | some (v, u) => if costS l w < v then some (costS l w, w) else some (v, u)) none
theorem cheapest_is (r : Km424.Rink) (n : Nat) : r.cheapest n = cheapL r.machines (r.heat n) (2 ^ r.machines.length) := by
  unfold Km424.Rink.cheapest cheapL
  congr 1
  funext b w
  rw [cold_set, cost_set]
  rfl
theorem cheap_succ (l : List Km424.Machine) (heat i : Nat) : cheapL l heat (i + 1) = if coldS l i < heat then cheapL l heat i else match cheapL l heat i with
  | none => some (costS l i, i)
  | some (v, u) => if costS l i < v then some (costS l i, i) else some (v, u) := by
  unfold cheapL
  rw [List.range_succ, List.foldl_append]
  rfl
/-- what stands for the set that was found -/
def CheapV (H : Hp) (l : List Km424.Machine) : Option (Nat × Nat) → V → Prop
  | none, v => v = .non
  | some (p, u), v => ∃ t, v = .ref t ∧ H t = some (.tup [.int (u : Nat), .int (coldS l u : Nat), .int (p : Nat)])
theorem CheapV.same {H H' : Hp} {l : List Km424.Machine} {o : Option (Nat × Nat)} {v : V} (h : CheapV H l o v) (s : Same H H') : CheapV H' l o v := by
  cases o with
  | none => exact h
  | some p =>
    obtain ⟨t, e, ht⟩ := h
    exact ⟨t, e, s _ _ ht⟩
theorem pow6 {k : Nat} (h : k ≤ 6) : 2 ^ k ≤ 64 := Nat.pow_le_pow_right (by decide) h
section
variable {P : Program} {w : World} {K : PySem.W.Frag} {mg : Str → Option Value} {base : Heap} {c : Cl}
/-- the sum over the machines of a set -/
theorem lc_sumM {ks : List Nat} {ms : List Addr} {l : List Km424.Machine} {a lm : Addr} {f : Str} {g : Km424.Machine → Nat} {i : Nat} {σ : L2.St} {H : Hp} {Q : VK} {te : TE} (O : Objs c.cM mf H lm ms l) (hk : ∀ k, k ∈ ks → k < l.length) (hlen : ks.length < sizeLine)
    (hS : H a = some (.lst (ks.map fun k => .ref (ms.getD k 0))))
    (hte : ∀ (x dx : Addr) (m : Km424.Machine) (H' : Hp) (R : VK), H' x = some (.ins c.cM dx (mf m)) → R (.int (g m : Nat)) H' → te ((wipe σ [i]).set i (some (.ref x))) H' R)
    (q : ∀ (D : Addr) (H' : Hp), Same H H' → H' D = some (.lst ((ks.map fun k => ((g (l.getD k noMach) : Nat) : Int)).map V.int)) → Q (.ref D) H') : LcAt K a (gName i) tYes te [i] σ H Q := by
  refine lc_pure (ys := ks) (xs := ks.map fun k => .ref (ms.getD k 0)) (fun _ => true) (fun k => .int (g (l.getD k noMach) : Nat)) (SqL.of hS) (by rw [List.length_map]) (by rw [List.length_map]; exact hlen) ?_ ?_ ?_
  · intro j x y H' R hx hy s q'
    exact q'
  · intro j x y H' R hx hy _ s q'
    rw [List.getElem?_map, hy] at hx
    cases hx
    have hy' := hk y (List.mem_of_getElem? hy)
    obtain ⟨x, hx, dm, hm⟩ := O.at_ hy'
    have e1 : ms.getD y 0 = x := by rw [List.getD_eq_getElem?_getD, hx]; rfl
    have e2 : l.getD y noMach = l[y] := by simp [List.getD_eq_getElem?_getD, hy']
    rw [e2] at q'
    show te (List.set (wipe σ [i]) i (some (.ref (ms.getD y 0)))) H' R
    rw [e1]
    exact hte x dm _ H' R (s _ _ hm) q'
  · intro D H' hD s hl
    refine q D H' s ?_
    rw [hl, List.filter_eq_self.mpr (by simp), List.map_map]
    rfl
def spCheap (c : Cl) : Sp := fun vs H Q _ => ∃ (lm : Addr) (ms : List Addr) (l : List Km424.Machine) (heat : Nat), vs = [.ref lm, .int (heat : Nat)] ∧ Objs c.cM mf H lm ms l ∧ l.length ≤ 6 ∧ ∀ H' v, Same H H' → CheapV H' l (cheapL l heat (2 ^ l.length)) v → Q v H'
abbrev s_cheapest_machines : Stmt := top 68
theorem sc_cheapest_machines : FnScope ["machines", "heat", "cheapest", "bits", "chosen", "k", "machine", "cold", "cost"] ["machines", "heat"] (defScope s_cheapest_machines) := ⟨rfl, rfl, rfl, by decide +kernel, rfl, by decide +kernel, by decide +kernel⟩
theorem ok_cheapest_machines (F : Df K mg "cheapest_machines" s_cheapest_machines ["machines", "heat"]) (T : Txt K mg c) : Cal P w K mg base 1 "cheapest_machines" ["machines", "heat"] (spCheap c) := by
  refine F.ok sc_cheapest_machines (fun vs H Q E h => ?_) (fun f cdv A outer s H vs Q E hr h => ?_)
  · obtain ⟨lm, ms, l, heat, rfl, _⟩ := h
    rfl
  · obtain ⟨lm, ms, l, heat, rfl, O, h6, k⟩ := h
    refine ⟨_, pss_cons (ps_set (i := 2) sc_cheapest_machines.nd rfl (Or.inl rfl) pe_non)
      (pss_cons (ps_for PassesOwn.never rfl (pi_range1 rfl T.b_range (pa_cons (pe_op op_shl pe_int (pe_callB call_len_seq (by rfl) T.b_len PySem.boot_len (pa_cons (pv 0) pa_nil))) pa_nil)) (pg_name (i := 3) sc_cheapest_machines.nd rfl (Or.inr rfl)) (pss_cons (ps_setLc (i := 4) rfl sc_cheapest_machines.nd rfl rfl (sw_true rfl rfl rfl rfl) (pi_enum rfl T.b_enumerate (pa_cons (pv 0) pa_nil)) (blkOk_by (own := [("k", 5), ("machine", 6)]) rfl) (fun _ _ _ _ _ => (pg_tupK (n := 2) K rfl rfl (pgs_cons (pg_name (i := 5) sc_cheapest_machines.nd rfl (Or.inl rfl)) (pgs_cons (pg_name (i := 6) sc_cheapest_machines.nd rfl (Or.inl rfl)) pgs_nil)))) (fun _ _ _ _ _ => (pts_one (pt_cmpR op_eq (pe_op op_and (pe_op op_shr (pv 3) (pv 5)) pe_int) pe_int (nomark _)))) (fun _ _ _ _ _ => (pv 6)))
        (pss_cons (ps_set (i := 7) sc_cheapest_machines.nd rfl (Or.inl rfl) (pe_callB (cr_sum rfl) (by rfl) T.b_sum boot_sum (pa_cons (pe_lc rfl sc_cheapest_machines.nd (pi_list (pv 4)) (blkOk_by (own := [("machine", 6)]) rfl) (fun _ _ _ _ _ => (pg_name (i := 6) sc_cheapest_machines.nd rfl (Or.inl rfl))) (fun _ _ _ _ _ => pts_nil) (fun _ _ _ _ _ => (pe_fldK K rfl (pv 6) rfl))) pa_nil)))
        (pss_cons (ps_set (i := 8) sc_cheapest_machines.nd rfl (Or.inl rfl) (pe_callB (cr_sum rfl) (by rfl) T.b_sum boot_sum (pa_cons (pe_lc rfl sc_cheapest_machines.nd (pi_list (pv 4)) (blkOk_by (own := [("machine", 6)]) rfl) (fun _ _ _ _ _ => (pg_name (i := 6) sc_cheapest_machines.nd rfl (Or.inl rfl))) (fun _ _ _ _ _ => pts_nil) (fun _ _ _ _ _ => (pe_fldK K rfl (pv 6) rfl))) pa_nil)))
        (pss_one (ps_if (PW.pt (pw_and (pt_cmpR op_ge (pv 7) (pv 1) (nomark _)) (pw_and1 (PW.pt (pw_or (pt_cmpR op_isN (pv 2) pe_non (nomark _)) (pw_or1 (pt_cmpR op_lt (pv 8) (pe_ix ix_tup (pv 2) pe_int (fun _ _ => rfl)) (nomark _)))))))) (pss_one (ps_set (i := 2) sc_cheapest_machines.nd rfl (Or.inl rfl) (pe_tup (pa_cons (pv 3) (pa_cons (pv 7) (pa_cons (pv 8) pa_nil)))))) pss_nil))))))
      (pss_one (ps_ret (pv 2)))), ?_⟩
    have hl : ((ms.map V.ref).length : Int) = (l.length : Nat) := by rw [List.length_map, O.len]
    have hp := pow6 h6
    walk_at "rd"
    refine q_len (SqL.of O.lst) ?_
    walk_at "rd"
    refine q_i ⟨by omega, by omega, by decide⟩ ?_
    walk_at "rd"
    rw [hl, pow_cast]
    refine forR (n := 2 ^ l.length) (by omega) (fun i σ H' => ∃ (v : V) (b3 b4 b7 b8 : Option V), σ = [some (.ref lm), some (.int (heat : Nat)), some v, b3, b4, none, none, b7, b8] ∧ Same H H' ∧ CheapV H' l (cheapL l heat i) v) ⟨.non, none, none, none, none, rfl, Same.refl H, rfl⟩ ?_ ?_
    · rintro i σ H' hi ⟨v, b3, b4, b7, b8, rfl, s1, cv⟩
      have O1 := O.same s1
      walk_at "to"
      refine q_lcE ?_
      walk_at "rd"
      refine ⟨lm, _, rfl, SqL.of O1.lst, lc_any (fun j => i.testBit j) (fun j => .ref (ms.getD j 0)) (goes_enum (SqL.of O1.lst)) (by rw [List.length_map, O.len]; exact Nat.lt_of_le_of_lt h6 (by decide)) ?_ ?_⟩
      · intro j x H2 R1 R0 hj s2 hf h1 h0
        obtain ⟨Tt, y, rfl, hy, hT⟩ := hf
        obtain ⟨m, hm, rfl⟩ := map_at hy
        refine ⟨Tt, _, rfl, SqT.of hT, rfl, _, _, rfl, ?_⟩
        refine ⟨_, _, rfl, ?_⟩
        refine ⟨rfl, ?_⟩
        refine ⟨rfl, ?_⟩
        have em : ms.getD j 0 = m := by rw [List.getD_eq_getElem?_getD, hm]; rfl
        rw [em] at h1
        walk_at "rd"
        refine q_i (by omega) ?_
        walk_at "rd"
        rw [bitAnd_m1, bit_is]
        cases hb : i.testBit j with
        | true =>
          refine q_ite (fun _ => ?_) (fun e => absurd rfl e)
          walk_at "rd"
          exact h1 H2 (Same.refl H2) hb
        | false =>
          refine q_ite (fun e => by cases e) (fun _ => ?_)
          exact h0 H2 (Same.refl H2) hb
      · intro D H2 hD s2 hDl
        have O2 := O1.same s2
        rw [List.length_map, O.len] at hDl
        have hk : ∀ k, k ∈ (List.range l.length).filter (fun j => i.testBit j) → k < l.length := fun k hk => List.mem_range.mp (List.mem_filter.mp hk).1
        have hkl : ((List.range l.length).filter (fun j => i.testBit j)).length < sizeLine := Nat.lt_of_le_of_lt (List.length_filter_le _ _) (by rw [List.length_range]; exact Nat.lt_of_le_of_lt h6 (by decide))
        walk_at "rd"
        refine q_lc ?_
        walk_at "rd"
        refine ⟨D, rfl, ⟨_, SqL.of hDl⟩, lc_sumM (g := fun m => m.cold) (f := "cold") O2 hk hkl hDl ?_ ?_⟩
        · intro x dx m H3 R hx q
          walk_at "rd"
          refine q_M T ⟨dx, hx⟩ rfl ?_
          exact q
        intro D3 H3 s3 h3
        have O3 := O2.same s3
        have hDl3 := s3 _ _ hDl
        walk_at "rd"
        refine ⟨D3, _, rfl, SqL.of h3, ?_⟩
        walk_at "rd"
        refine q_lc ?_
        walk_at "rd"
        refine ⟨D, rfl, ⟨_, SqL.of hDl3⟩, lc_sumM (g := fun m => m.cost) (f := "cost") O3 hk hkl hDl3 ?_ ?_⟩
        · intro x dx m H4 R hx q
          walk_at "rd"
          refine q_M T ⟨dx, hx⟩ rfl ?_
          exact q
        intro D4 H4 s4 h4
        walk_at "rd"
        refine ⟨D4, _, rfl, SqL.of h4, ?_⟩
        have s5 : Same H' H4 := (s2.trans s3).trans s4
        have cv := cv.same s5
        have s5 := s1.trans s5
        have ec : (((List.range l.length).filter fun j => i.testBit j).map fun k => (((l.getD k noMach).cold : Nat) : Int)).sum = ((coldS l i : Nat) : Int) := sum_if (fun j => i.testBit j) (fun k => (l.getD k noMach).cold) (List.range l.length)
        have ep : (((List.range l.length).filter fun j => i.testBit j).map fun k => (((l.getD k noMach).cost : Nat) : Int)).sum = ((costS l i : Nat) : Int) := sum_if (fun j => i.testBit j) (fun k => (l.getD k noMach).cost) (List.range l.length)
        have es := cheap_succ l heat i
        walk_at "rd"
        rw [ec, ep]
        refine q_ite (fun e1 => ?_) (fun e1 => ?_)
        · rw [if_neg (by omega)] at es
          walk_at "rd"
          refine ⟨rfl, ?_⟩
          walk_at "rd"
          cases eo : cheapL l heat i with
          | none =>
            rw [eo] at cv es
            obtain rfl : v = .non := cv
            refine q_ite (fun _ => ?_) (fun e => absurd rfl e)
            walk_at "rd"
            refine ⟨le3, fun t ht => ?_⟩
            walk_at "rd"
            refine ⟨_, _, _, _, _, rfl, s5.trans (Same.new ht), ?_⟩
            rw [es]
            exact ⟨t, rfl, upd_same⟩
          | some pu =>
            obtain ⟨p, u⟩ := pu
            rw [eo] at cv es
            obtain ⟨t0, rfl, ht0⟩ := cv
            refine q_ite (fun e => by cases e) (fun _ => ?_)
            walk_at "rd"
            refine q_ixT (j := 2) (SqT.of ht0) rfl rfl ?_
            walk_at "rd"
            refine q_ite (fun e2 => ?_) (fun e2 => ?_)
            · walk_at "rd"
              refine ⟨le3, fun t ht => ?_⟩
              walk_at "rd"
              refine ⟨_, _, _, _, _, rfl, s5.trans (Same.new ht), ?_⟩
              dsimp only at es
              rw [if_pos (by omega)] at es
              rw [es]
              exact ⟨t, rfl, upd_same⟩
            · walk_at "rd"
              refine ⟨_, _, _, _, _, rfl, s5, ?_⟩
              dsimp only at es
              rw [if_neg (by omega)] at es
              rw [es]
              exact ⟨t0, rfl, ht0⟩
        · rw [if_pos (by omega)] at es
          walk_at "rd"
          refine ⟨v, _, _, _, _, rfl, s5, ?_⟩
          rw [es]
          exact cv
    · rintro σ H' ⟨v, b3, b4, b7, b8, rfl, s1, cv⟩
      walk_at "rd"
      exact k H' v s1 cv
abbrev s_ir_cheapest : Stmt := top 72
theorem sc_ir_cheapest : FnScope ["rink", "n", "cheapest"] ["rink", "n"] (defScope s_ir_cheapest) := ⟨rfl, rfl, rfl, by decide +kernel, rfl, by decide +kernel, by decide +kernel⟩
theorem ok_ir_cheapest (F : Df K mg "ir_cheapest" s_ir_cheapest ["rink", "n"]) (T : Txt K mg c) (C_heat_for : Cal P w K mg base 1 "heat_for" ["rink", "skaters"] (spR1 c fun r n => .int (r.heat n : Nat)))
    (C_cheapest_machines : Cal P w K mg base 1 "cheapest_machines" ["machines", "heat"] (spCheap c)) : Cal P w K mg base 2 "ir_cheapest" ["rink", "n"] (spM c gCheapest 1) := by
  refine F.ok sc_ir_cheapest (fun vs H Q E h => ?_) (fun f cdv A outer s H vs Q E hr h => ?_)
  · obtain ⟨a, r, fp, ns, rfl, hn, _⟩ := h
    simp [hn]
  · obtain ⟨a, r, fp, ns, rfl, hn, ⟨lm, ls, lq, ms, ss, qs, R, rfl⟩, wf, k⟩ := h
    obtain ⟨n, rfl⟩ := len1 hn
    refine ⟨_, pss_cons (ps_if (pt_cmpR op_gt (pv 1) (pe_num rfl T.c_MOST_SKATERS) (nomark _)) (pss_one (ps_ret (pe_lst (pa_cons (pe_num rfl T.c_NOT_AS_TOLD) pa_nil)))) pss_nil)
      (pss_cons (ps_set (i := 2) sc_ir_cheapest.nd rfl (Or.inl rfl) (pe_fn C_cheapest_machines (hr.mono (by decide)) rfl (pa_cons (pe_fld (pv 0) rfl) (pa_cons (pe_fn C_heat_for (hr.mono (by decide)) rfl (pa_cons (pv 0) (pa_cons (pv 1) pa_nil))) pa_nil))))
      (pss_cons (ps_if (pt_cmpR op_isN (pv 2) pe_non (nomark _)) (pss_one (ps_ret (pe_lst (pa_cons (pe_num rfl T.c_OUT_OF_REACH) pa_nil)))) pss_nil)
      (pss_one (ps_ret (pe_lst (pa_cons (pe_ix ix_tup (pv 2) pe_int (fun _ _ => rfl)) (pa_cons (pe_ix ix_tup (pv 2) pe_int (fun _ _ => rfl)) (pa_cons (pe_ix ix_tup (pv 2) pe_int (fun _ _ => rfl)) pa_nil)))))))), ?_⟩
    obtain ⟨dx, hi⟩ := R.ins
    rw [gCheapest, cheapest_is] at k
    walk_at "rd"
    refine q_ite (fun e1 => ?_) (fun e1 => ?_)
    · walk_at "rd"
      exact k.done R .refl (l := [-22]) (by rw [if_pos (by omega)]) rfl le1
    rw [if_neg (by omega)] at k
    walk_at "rd"
    refine ⟨a, r, _, n, rfl, ⟨_, _, _, _, _, _, R, rfl⟩, wf, fun H1 s1 => ?_⟩
    have R := R.same s1
    walk_at "rd"
    refine ⟨lm, ms, r.machines, r.heat n, rfl, R.M, wf.nM, fun H2 v s2 cv => ?_⟩
    have R := R.same s2
    have F2 : Frm H H2 (fpR a lm ls lq ms ss qs) := Frm.same (s1.trans s2)
    walk_at "rd"
    refine ⟨rfl, ?_⟩
    walk_at "rd"
    cases eo : cheapL r.machines (r.heat n) (2 ^ r.machines.length) with
    | none =>
      rw [eo] at cv k
      obtain rfl : v = .non := cv
      refine q_ite (fun _ => ?_) (fun e => absurd rfl e)
      walk_at "rd"
      exact k.done R F2 (l := [-33]) rfl rfl le1
    | some pu =>
      obtain ⟨p, u⟩ := pu
      rw [eo] at cv k
      obtain ⟨t0, rfl, ht0⟩ := cv
      refine q_ite (fun e => by cases e) (fun _ => ?_)
      walk_at "rd"
      refine q_ixT (j := 2) (SqT.of ht0) rfl rfl ?_
      walk_at "rd"
      refine q_ixT (j := 0) (SqT.of ht0) rfl rfl ?_
      walk_at "rd"
      refine q_ixT (j := 1) (SqT.of ht0) rfl rfl ?_
      walk_at "rd"
      refine k.done R F2 (l := [_, _, _]) rfl ?_ le3
      rw [cold_set]
      rfl
end
end Ir
set_option Elab.async false
set_option maxRecDepth 100000
set_option maxHeartbeats 2000000
namespace Ir
open PySem PySem.Spec PyProof.Rows L2
local macro_rules | `(tactic| walk_at "rd1") => `(tactic| with_reducible first
  | refine q_seq ?_ | refine q_next ?_ | refine q_if ?_ | refine q_test ?_ | refine q_testB ?_ | refine q_op ?_ | refine q_c ?_ | refine q_i0 ?_ | refine q_eq ?_ | refine q_ne ?_ | refine q_bl ?_ | refine q_ret ?_ | refine q_lst ?_ | refine q_tup ?_ | refine q_cons ?_ | refine q_nil ?_
  | refine q_and ?_ | refine q_or ?_ | refine q_not ?_ | refine q_andV ?_ | refine q_orV ?_ | refine q_set ?_ | refine q_drop ?_ | refine q_call ?_ | refine q_cb ?_ | refine q_make ?_ | refine q_forR ?_ | refine q_forL ?_ | refine q_forE ?_ | refine q_gname ?_ | refine q_bm ?_ | refine q_add ?_ | refine q_sub ?_ | refine q_fld ?_ | refine q_sfld ?_ | refine q_saug ?_ | refine q_ifE ?_ | refine q_notV ?_ | refine q_sl ?_ | refine q_part ?_ | refine q_int ?_ | refine q_yes ?_ | refine q_bm0 ?_)
set_option hygiene false in
local macro_rules | `(tactic| walk_at "rd") => `(tactic| repeat (first | walk_at "rd1" | refine q_var rfl ?_ | refine q_R T hi rfl ?_ | refine q_D T hd rfl ?_ | dsimp only | rw [if_pos (rfl : true = true)] | rw [if_neg Bool.false_ne_true]))
local macro_rules | `(tactic| walk_at "ifs") => `(tactic| repeat (first | rw [if_pos (by omega)] | rw [if_neg (by omega)]))
local macro_rules | `(tactic| walk_at "to") => `(tactic| repeat (first | walk_at "rd1" | dsimp only))
theorem fits_clash (r : Km424.Rink) (w : Nat) : r.fits w = !((((List.range r.asks.length).filter fun k => w.testBit k).map fun k => (((clashN r.gap r.asks k k &&& w : Nat)) : Int)).any fun z => z != 0) := by
  unfold Km424.Rink.fits
  rw [Bool.eq_iff_iff]
  simp only [Bool.not_eq_true', List.any_eq_false, List.mem_map, List.mem_filter, List.mem_range, List.all_eq_true, bne_iff_ne, ne_eq, Decidable.not_not]
  constructor
  · rintro h z ⟨k, ⟨hk, hb⟩, rfl⟩
    have e := and_clash r.gap r.asks k w
    have : (w &&& clashN r.gap r.asks k k == 0) = true := by
      rw [e]
      simp only [List.all_eq_true, List.mem_range]
      intro j hj
      have := h k hk j hj
      rw [hb, Bool.true_and] at this
      exact this
    have := eq_of_beq this
    rw [Nat.and_comm, this]
    rfl
  · intro h i hi j hj
    cases hb : w.testBit i with
    | false => rfl
    | true =>
      have z := h _ ⟨i, ⟨hi, hb⟩, rfl⟩
      have z : w &&& clashN r.gap r.asks i i = 0 := by rw [Nat.and_comm]; omega
      have e := and_clash r.gap r.asks i w
      rw [z] at e
      have e := List.all_eq_true.mp e.symm j (List.mem_range.mpr hj)
      rw [Bool.true_and]
      exact e
section
variable {P : Program} {w : World} {K : PySem.W.Frag} {mg : Str → Option Value} {base : Heap} {c : Cl}
def spFits (c : Cl) : Sp := fun vs H Q _ => ∃ (lq : Addr) (qs : List Addr) (r : Km424.Rink) (w : Nat), vs = [.ref lq, .int (r.gap : Nat), .int (w : Nat)] ∧ Objs c.cS sf H lq qs r.asks ∧ r.asks.length ≤ 8 ∧ ∀ H', Same H H' → Q (.bl (r.fits w)) H'
abbrev s_fits : Stmt := top 85
theorem sc_fits : FnScope ["sessions", "gap", "bits", "clashes", "k"] ["sessions", "gap", "bits"] (defScope s_fits) := ⟨rfl, rfl, rfl, by decide +kernel, rfl, by decide +kernel, by decide +kernel⟩
theorem ok_fits (F : Df K mg "fits" s_fits ["sessions", "gap", "bits"]) (T : Txt K mg c) (C_earlier_that_clash : Cal P w K mg base 2 "earlier_that_clash" ["sessions", "k", "gap"] (spClash c)) : Cal P w K mg base 3 "fits" ["sessions", "gap", "bits"] (spFits c) := by
  refine F.ok sc_fits (fun vs H Q E h => ?_) (fun f cdv A outer s H vs Q E hr h => ?_)
  · obtain ⟨lq, qs, r, b, rfl, _⟩ := h
    rfl
  · obtain ⟨lq, qs, r, b, rfl, O, h8, k⟩ := h
    refine ⟨_, pss_cons (ps_setLc (i := 3) rfl sc_fits.nd rfl rfl (sw_true rfl rfl rfl rfl) (pi_range1 rfl T.b_range (pa_cons (pe_callB call_len_seq (by rfl) T.b_len PySem.boot_len (pa_cons (pv 0) pa_nil)) pa_nil)) (blkOk_by (own := [("k", 4)]) rfl) (fun _ _ _ _ _ => (pg_name (i := 4) sc_fits.nd rfl (Or.inl rfl))) (fun _ _ _ _ _ => (pts_one (pt_cmpR op_eq (pe_op op_and (pe_op op_shr (pv 2) (pv 4)) pe_int) pe_int (nomark _)))) (fun _ _ _ _ _ => (pe_op op_and (pe_fn C_earlier_that_clash (hr.mono (by decide)) rfl (pa_cons (pv 0) (pa_cons (pv 4) (pa_cons (pv 1) pa_nil)))) (pv 2))))
      (pss_one (ps_ret (pe_not (pe_callB (cr_anyI rfl) (by rfl) T.b_any boot_any (pa_cons (pv 3) pa_nil))))), ?_⟩
    have hl : (qs.map V.ref).length = r.asks.length := by rw [List.length_map, O.len]
    walk_at "to"
    refine q_lcR ?_
    walk_at "rd"
    refine q_len (SqL.of O.lst) ?_
    walk_at "rd"
    rw [hl]
    refine ⟨(r.asks.length : Nat), rfl, by omega, by omega, ?_⟩
    rw [Int.toNat_natCast]
    refine lc_any (fun j => b.testBit j) (fun j => .int ((clashN r.gap r.asks j j &&& b : Nat) : Int)) goes_range (Nat.lt_of_le_of_lt h8 (by decide)) ?_ ?_
    · intro j x H2 R1 R0 hj s2 hf h1 h0
      subst hf
      refine ⟨rfl, ?_⟩
      walk_at "rd"
      refine q_i (by omega) ?_
      walk_at "rd"
      rw [bitAnd_m1, bit_is]
      cases hb : b.testBit j with
      | true =>
        refine q_ite (fun _ => ?_) (fun e => absurd rfl e)
        walk_at "rd"
        refine ⟨lq, qs, r.asks, j, r.gap, rfl, O.same s2, hj, h8, fun H3 s3 => ?_⟩
        walk_at "rd"
        rw [bitAnd_nat]
        exact h1 H3 s3 hb
      | false =>
        refine q_ite (fun e => by cases e) (fun _ => ?_)
        exact h0 H2 (Same.refl H2) hb
    · intro D H2 hD s2 hDl
      walk_at "rd"
      refine ⟨D, ((List.range r.asks.length).filter fun j => b.testBit j).map fun j => ((clashN r.gap r.asks j j &&& b : Nat) : Int), rfl, SqL.of (by rw [hDl, List.map_map]; rfl), ?_⟩
      walk_at "rd"
      rw [← fits_clash]
      exact k H2 s2
def spFees (c : Cl) : Sp := fun vs H Q _ => ∃ (lq : Addr) (qs : List Addr) (r : Km424.Rink) (w : Nat), vs = [.ref lq, .int (w : Nat)] ∧ Objs c.cS sf H lq qs r.asks ∧ r.asks.length ≤ 8 ∧ ∀ H', Same H H' → Q (.int (r.brings w : Nat)) H'
abbrev s_fees_of : Stmt := top 86
theorem sc_fees_of : FnScope ["sessions", "bits", "k", "session"] ["sessions", "bits"] (defScope s_fees_of) := ⟨rfl, rfl, rfl, by decide +kernel, rfl, by decide +kernel, by decide +kernel⟩
theorem ok_fees_of (F : Df K mg "fees_of" s_fees_of ["sessions", "bits"]) (T : Txt K mg c) : Cal P w K mg base 1 "fees_of" ["sessions", "bits"] (spFees c) := by
  refine F.ok sc_fees_of (fun vs H Q E h => ?_) (fun f cdv A outer s H vs Q E hr h => ?_)
  · obtain ⟨lq, qs, r, b, rfl, _⟩ := h
    rfl
  · obtain ⟨lq, qs, r, b, rfl, O, h8, k⟩ := h
    refine ⟨_, pss_one (ps_ret (pe_callB (cr_sum rfl) (by rfl) T.b_sum boot_sum (pa_cons (pe_lc rfl sc_fees_of.nd (pi_enum rfl T.b_enumerate (pa_cons (pv 0) pa_nil)) (blkOk_by (own := [("k", 2), ("session", 3)]) rfl) (fun _ _ _ _ _ => (pg_tupK (n := 2) K rfl rfl (pgs_cons (pg_name (i := 2) sc_fees_of.nd rfl (Or.inl rfl)) (pgs_cons (pg_name (i := 3) sc_fees_of.nd rfl (Or.inl rfl)) pgs_nil)))) (fun _ _ _ _ _ => (pts_one (pt_cmpR op_eq (pe_op op_and (pe_op op_shr (pv 1) (pv 2)) pe_int) pe_int (nomark _)))) (fun _ _ _ _ _ => (pe_fldK K rfl (pv 3) rfl))) pa_nil))), ?_⟩
    have hl : (qs.map V.ref).length = r.asks.length := by rw [List.length_map, O.len]
    walk_at "to"
    refine q_lcE ?_
    walk_at "rd"
    refine ⟨lq, _, rfl, SqL.of O.lst, lc_any (fun j => b.testBit j) (fun j => .int (((r.ask j).fee : Nat) : Int)) (goes_enum (SqL.of O.lst)) (by rw [hl]; exact Nat.lt_of_le_of_lt h8 (by decide)) ?_ ?_⟩
    · intro j x H2 R1 R0 hj s2 hf h1 h0
      obtain ⟨Tt, y, rfl, hy, hT⟩ := hf
      obtain ⟨m, hm, rfl⟩ := map_at hy
      rw [hl] at hj
      obtain ⟨dm, hM⟩ := O.obj j m r.asks[j] hm (List.getElem?_eq_getElem hj)
      have ea : r.ask j = r.asks[j] := by unfold Km424.Rink.ask; simp [List.getD_eq_getElem?_getD, hj]
      rw [ea] at h1
      refine ⟨Tt, _, rfl, SqT.of hT, rfl, _, _, rfl, ?_⟩
      refine ⟨_, _, rfl, ?_⟩
      refine ⟨rfl, ?_⟩
      refine ⟨rfl, ?_⟩
      walk_at "rd"
      refine q_i (by omega) ?_
      walk_at "rd"
      rw [bitAnd_m1, bit_is]
      cases hb : b.testBit j with
      | true =>
        refine q_ite (fun _ => ?_) (fun e => absurd rfl e)
        walk_at "rd"
        refine q_S T ⟨dm, s2 _ _ hM⟩ rfl ?_
        exact h1 H2 (Same.refl H2) hb
      | false =>
        refine q_ite (fun e => by cases e) (fun _ => ?_)
        exact h0 H2 (Same.refl H2) hb
    · intro D H2 hD s2 hDl
      rw [hl] at hDl
      walk_at "rd"
      refine ⟨D, ((List.range r.asks.length).filter fun j => b.testBit j).map fun j => (((r.ask j).fee : Nat) : Int), rfl, SqL.of (by rw [hDl, List.map_map]; rfl), ?_⟩
      rw [sum_if (fun j => b.testBit j) (fun k => (r.ask k).fee) (List.range r.asks.length)]
      exact k H2 s2
abbrev s_ir_would : Stmt := top 92
theorem sc_ir_would : FnScope ["rink", "asks", "fit"] ["rink", "asks"] (defScope s_ir_would) := ⟨rfl, rfl, rfl, by decide +kernel, rfl, by decide +kernel, by decide +kernel⟩
theorem ok_ir_would (F : Df K mg "ir_would" s_ir_would ["rink", "asks"]) (T : Txt K mg c) (C_fits : Cal P w K mg base 3 "fits" ["sessions", "gap", "bits"] (spFits c)) (C_fees_of : Cal P w K mg base 1 "fees_of" ["sessions", "bits"] (spFees c)) : Cal P w K mg base 4 "ir_would" ["rink", "asks"] (spM c gWould 1) := by
  refine F.ok sc_ir_would (fun vs H Q E h => ?_) (fun f cdv A outer s H vs Q E hr h => ?_)
  · obtain ⟨a, r, fp, ns, rfl, hn, _⟩ := h
    simp [hn]
  · obtain ⟨a, r, fp, ns, rfl, hn, ⟨lm, ls, lq, ms, ss, qs, R, rfl⟩, wf, k⟩ := h
    obtain ⟨n, rfl⟩ := len1 hn
    refine ⟨_, pss_cons (ps_if (pt_cmpR op_ge (pv 1) (pe_op op_shl pe_int (pe_callB call_len_seq (by rfl) T.b_len PySem.boot_len (pa_cons (pe_fld (pv 0) rfl) pa_nil))) (nomark _)) (pss_one (ps_ret (pe_lst (pa_cons (pe_num rfl T.c_NOT_AS_TOLD) pa_nil)))) pss_nil)
      (pss_cons (ps_set (i := 2) sc_ir_would.nd rfl (Or.inl rfl) (pe_ifExp (pt_val (pe_fn C_fits (hr.mono (by decide)) rfl (pa_cons (pe_fld (pv 0) rfl) (pa_cons (pe_fld (pv 0) rfl) (pa_cons (pv 1) pa_nil))))) pe_int pe_int))
      (pss_one (ps_ret (pe_lst (pa_cons (pv 2) (pa_cons (pe_fn C_fees_of (hr.mono (by decide)) rfl (pa_cons (pe_fld (pv 0) rfl) (pa_cons (pv 1) pa_nil))) pa_nil)))))), ?_⟩
    obtain ⟨dx, hi⟩ := R.ins
    have hl : ((qs.map V.ref).length : Int) = (r.asks.length : Nat) := by rw [List.length_map, R.Q.len]
    have n8 := wf.nQ
    rw [gWould] at k
    walk_at "rd"
    refine q_len (SqL.of R.Q.lst) ?_
    walk_at "rd"
    refine q_i ⟨by omega, by omega, by decide⟩ ?_
    walk_at "rd"
    rw [hl, pow_cast]
    generalize 2 ^ r.asks.length = pw at k ⊢
    refine q_ite (fun e1 => ?_) (fun e1 => ?_)
    · walk_at "rd"
      exact k.done R .refl (l := [-22]) (by rw [if_pos (by omega)]) rfl le1
    rw [if_neg (by omega)] at k
    walk_at "rd"
    refine ⟨lq, qs, r, n, rfl, R.Q, wf.nQ, fun H1 s1 => ?_⟩
    have R := R.same s1
    have hi := s1 _ _ hi
    walk_at "rd"
    refine q_01 ?_
    walk_at "rd"
    refine ⟨lq, qs, r, n, rfl, R.Q, wf.nQ, fun H2 s2 => ?_⟩
    have R := R.same s2
    walk_at "rd"
    refine k.done R (Frm.same (s1.trans s2)) (l := [_, _]) rfl ?_ le2
    rw [bit01]
    rfl
abbrev s_ir_best : Stmt := top 93
theorem sc_ir_best : FnScope ["rink", "best"] ["rink"] (defScope s_ir_best) := ⟨rfl, rfl, rfl, by decide +kernel, rfl, by decide +kernel, by decide +kernel⟩
theorem ok_ir_best (F : Df K mg "ir_best" s_ir_best ["rink"]) (T : Txt K mg c) (C_best_day : Cal P w K mg base 4 "best_day" ["sessions", "gap"] (spBest c)) : Cal P w K mg base 5 "ir_best" ["rink"] (spM c gBest 0) := by
  refine F.ok sc_ir_best (fun vs H Q E h => ?_) (fun f cdv A outer s H vs Q E hr h => ?_)
  · obtain ⟨a, r, fp, ns, rfl, hn, _⟩ := h
    simp [hn]
  · obtain ⟨a, r, fp, ns, rfl, hn, ⟨lm, ls, lq, ms, ss, qs, R, rfl⟩, wf, k⟩ := h
    obtain rfl := List.eq_nil_of_length_eq_zero hn
    refine ⟨_, pss_cons (ps_if (pt_cmpR op_eq (pe_callB call_len_seq (by rfl) T.b_len PySem.boot_len (pa_cons (pe_fld (pv 0) rfl) pa_nil)) pe_int (nomark _)) (pss_one (ps_ret (pe_lst (pa_cons (pe_num rfl T.c_NONE_SUCH) pa_nil)))) pss_nil)
      (pss_cons (ps_set (i := 1) sc_ir_best.nd rfl (Or.inl rfl) (pe_fn C_best_day (hr.mono (by decide)) rfl (pa_cons (pe_fld (pv 0) rfl) (pa_cons (pe_fld (pv 0) rfl) pa_nil))))
      (pss_one (ps_ret (pe_lst (pa_cons (pe_ix ix_tup (pv 1) pe_int (fun _ _ => rfl)) (pa_cons (pe_ix ix_tup (pv 1) pe_int (fun _ _ => rfl)) pa_nil)))))), ?_⟩
    obtain ⟨dx, hi⟩ := R.ins
    have hl : ((qs.map V.ref).length : Int) = r.asks.length := by rw [List.length_map, R.Q.len]
    unfold gBest at k
    walk_at "rd"
    refine q_len (SqL.of R.Q.lst) ?_
    walk_at "rd"
    refine q_ite (fun e1 => ?_) (fun e1 => ?_)
    · walk_at "rd"
      have e : r.asks = [] := List.eq_nil_of_length_eq_zero (by omega)
      exact k.done R .refl (l := [-6]) (by rw [if_pos e]) rfl le1
    have ne : ¬ r.asks = [] := fun e => e1 (by rw [hl, e]; rfl)
    rw [if_neg ne] at k
    walk_at "rd"
    refine ⟨lq, qs, r.asks, r.gap, rfl, R.Q, wf.nQ, fun H1 t s1 ht => ?_⟩
    rw [best_is] at ht
    have R := R.same s1
    walk_at "rd"
    refine q_ixT (j := 1) (SqT.of ht) rfl rfl ?_
    walk_at "rd"
    refine q_ixT (j := 0) (SqT.of ht) rfl rfl ?_
    walk_at "rd"
    exact k.done R (Frm.same s1) (l := [_, _]) rfl rfl le2
abbrev s_ir_look : Stmt := top 95
theorem sc_ir_look : FnScope ["rink", "k", "session"] ["rink", "k"] (defScope s_ir_look) := ⟨rfl, rfl, rfl, by decide +kernel, rfl, by decide +kernel, by decide +kernel⟩
theorem ok_ir_look (F : Df K mg "ir_look" s_ir_look ["rink", "k"]) (T : Txt K mg c) : Cal P w K mg base 1 "ir_look" ["rink", "k"] (spM c gLook 1) := by
  refine F.ok sc_ir_look (fun vs H Q E h => ?_) (fun f cdv A outer s H vs Q E hr h => ?_)
  · obtain ⟨a, r, fp, ns, rfl, hn, _⟩ := h
    simp [hn]
  · obtain ⟨a, r, fp, ns, rfl, hn, ⟨lm, ls, lq, ms, ss, qs, R, rfl⟩, wf, k⟩ := h
    obtain ⟨i, rfl⟩ := len1 hn
    refine ⟨_, pss_cons (ps_if (pt_cmpR op_ge (pv 1) (pe_callB call_len_seq (by rfl) T.b_len PySem.boot_len (pa_cons (pe_fld (pv 0) rfl) pa_nil)) (nomark _)) (pss_one (ps_ret (pe_lst (pa_cons (pe_num rfl T.c_NOT_THERE) pa_nil)))) pss_nil)
      (pss_cons (ps_set (i := 2) sc_ir_look.nd rfl (Or.inl rfl) (pe_ix ix_list (pe_fld (pv 0) rfl) (pv 1) (fun _ _ => rfl)))
      (pss_one (ps_ret (pe_lst (pa_cons (pe_fld (pv 2) rfl) (pa_cons (pe_fld (pv 2) rfl) (pa_cons (pe_fld (pv 2) rfl) (pa_cons (pe_fld (pv 2) rfl) pa_nil)))))))), ?_⟩
    obtain ⟨dx, hi⟩ := R.ins
    have hl : ((qs.map V.ref).length : Int) = r.asks.length := by rw [List.length_map, R.Q.len]
    rw [gLook] at k
    walk_at "rd"
    refine q_len (SqL.of R.Q.lst) ?_
    walk_at "rd"
    refine q_ite (fun e1 => ?_) (fun e1 => ?_)
    · walk_at "rd"
      have e : r.asks[i]? = none := List.getElem?_eq_none (by omega)
      rw [e] at k
      exact k.done R .refl (l := [-2]) rfl rfl le1
    have hj : i < r.asks.length := by omega
    obtain ⟨x, hx, dm, hm⟩ := R.Q.at_ hj
    have e0 : r.asks[i]? = some r.asks[i] := List.getElem?_eq_getElem hj
    generalize r.asks[i] = m at hm e0
    rw [e0] at k
    walk_at "rd"
    refine q_ix (SqL.of R.Q.lst) rfl (map_ref hx) ?_
    walk_at "rd"
    refine q_S T ⟨dm, hm⟩ rfl ?_
    walk_at "rd"
    refine q_S T ⟨dm, hm⟩ rfl ?_
    walk_at "rd"
    refine q_S T ⟨dm, hm⟩ rfl ?_
    walk_at "rd"
    refine q_S T ⟨dm, hm⟩ rfl ?_
    walk_at "rd"
    refine k.done R .refl (l := [_, _, _, _]) rfl ?_ le4
    rw [bit01]
    rfl
theorem find_step {p : Nat → Bool} {i : Nat} (h : (List.range i).find? p = none) : (List.range (i + 1)).find? p = if p i = true then some i else none := by
  rw [List.range_succ, List.find?_append, h]
  show [i].find? p = _
  rw [List.find?_cons]
  cases p i <;> rfl
theorem find_more {p : Nat → Bool} {i k n : Nat} (h : (List.range i).find? p = some k) (hn : i ≤ n) : (List.range n).find? p = some k := by
  have e : n = i + (n - i) := by omega
  rw [e, List.range_add, List.find?_append, h]
  rfl
abbrev s_ir_who : Stmt := top 94
theorem sc_ir_who : FnScope ["rink", "minute", "k", "session"] ["rink", "minute"] (defScope s_ir_who) := ⟨rfl, rfl, rfl, by decide +kernel, rfl, by decide +kernel, by decide +kernel⟩
theorem ok_ir_who (F : Df K mg "ir_who" s_ir_who ["rink", "minute"]) (T : Txt K mg c) : Cal P w K mg base 1 "ir_who" ["rink", "minute"] (spM c gWho 1) := by
  refine F.ok sc_ir_who (fun vs H Q E h => ?_) (fun f cdv A outer s H vs Q E hr h => ?_)
  · obtain ⟨a, r, fp, ns, rfl, hn, _⟩ := h
    simp [hn]
  · obtain ⟨a, r, fp, ns, rfl, hn, ⟨lm, ls, lq, ms, ss, qs, R, rfl⟩, wf, k⟩ := h
    obtain ⟨x, rfl⟩ := len1 hn
    refine ⟨_, pss_cons (ps_if (pt_cmpR op_ge (pv 1) (pe_num rfl T.c_DAY_END) (nomark _)) (pss_one (ps_ret (pe_lst (pa_cons (pe_num rfl T.c_NOT_AS_TOLD) pa_nil)))) pss_nil)
      (pss_cons (ps_for PassesOwn.never rfl (pi_enum rfl T.b_enumerate (pa_cons (pe_fld (pv 0) rfl) pa_nil)) (pg_tup rfl (pgs_cons (pg_name (i := 2) sc_ir_who.nd rfl (Or.inl rfl)) (pgs_cons (pg_name (i := 3) sc_ir_who.nd rfl (Or.inl rfl)) pgs_nil))) (pss_one (ps_if (PW.pt (pw_and (pt_cmpR op_eq (pe_fld (pv 3) rfl) pe_int (nomark _)) (pw_and (pt_cmpR op_le (pe_fld (pv 3) rfl) (pv 1) (nomark _)) (pw_and1 (pt_cmpR op_lt (pv 1) (pe_fld (pv 3) rfl) (nomark _)))))) (pss_one (ps_ret (pe_lst (pa_cons (pv 2) (pa_cons (pe_op op_sub (pe_fld (pv 3) rfl) (pv 1)) pa_nil))))) pss_nil)))
      (pss_one (ps_ret (pe_lst (pa_cons (pe_num rfl T.c_NONE_SUCH) pa_nil))))), ?_⟩
    obtain ⟨dx, hi⟩ := R.ins
    have hl : (qs.map V.ref).length = r.asks.length := by rw [List.length_map, R.Q.len]
    rw [gWho] at k
    walk_at "rd"
    refine q_ite (fun e1 => ?_) (fun e1 => ?_)
    · walk_at "rd"
      exact k.done R .refl (l := [-22]) (by rw [if_pos (by omega)]) rfl le1
    rw [if_neg (by omega)] at k
    walk_at "rd"
    refine ⟨lq, _, rfl, SqL.of R.Q.lst, ?_⟩
    refine forE (xs := qs.map V.ref) (fun i σ H' => ∃ (v2 v3 : Option V), σ = [some (.ref a), some (.int (x : Nat)), v2, v3] ∧ Same H H' ∧ (List.range i).find? (hasIt r x) = none) ⟨none, none, rfl, Same.refl H, rfl⟩ (fun i σ H' _ ⟨_, _, _, s1, _⟩ => SqL.of (s1 _ _ R.Q.lst)) ?_ ?_
    · rintro i y σ H' Tt hy hT ⟨v2, v3, rfl, s1, hf⟩
      obtain ⟨m, hm, rfl⟩ := map_at hy
      have hj : i < r.asks.length := by rw [← R.Q.len]; exact (List.getElem?_eq_some_iff.mp hm).1
      obtain ⟨dm, hM⟩ := R.Q.obj i m r.asks[i] hm (List.getElem?_eq_getElem hj)
      have ea : r.ask i = r.asks[i] := by unfold Km424.Rink.ask; simp [List.getD_eq_getElem?_getD, hj]
      have fs := find_step hf
      refine ⟨Tt, [.int ((i : Nat) : Int), .ref m], rfl, SqT.of upd_same, rfl, _, _, rfl, ?_⟩
      refine ⟨_, _, rfl, ?_⟩
      refine ⟨rfl, ?_⟩
      have s2 : Same H (upd H' Tt (.tup [.int ((i : Nat) : Int), .ref m])) := s1.trans (Same.new hT)
      generalize upd H' Tt (.tup [.int ((i : Nat) : Int), .ref m]) = H2 at s2
      have hM := s2 _ _ hM
      have R := R.same s2
      have hh : hasIt r x i = (r.asks[i].booked && (decide (r.asks[i].from_ ≤ x) && decide (x < r.asks[i].to_))) := by unfold hasIt; rw [ea]
      generalize r.asks[i] = q at hM ea hh
      have no : hasIt r x i = false → ∃ v2 v3 : Option V, [some (V.ref a), some (V.int (x : Nat)), some (V.int (i : Nat)), some (V.ref m)] = [some (.ref a), some (.int (x : Nat)), v2, v3] ∧ Same H H2 ∧ (List.range (i + 1)).find? (hasIt r x) = none := fun e => ⟨_, _, rfl, s2, by rw [fs, if_neg (by rw [e]; decide)]⟩
      walk_at "rd"
      refine q_S T ⟨dm, hM⟩ rfl ?_
      walk_at "rd"
      refine q_ite (fun c1 => ?_) (fun c1 => ?_)
      · have b1 : q.booked = true := by
          cases h : q.booked with
          | true => rfl
          | false => rw [h] at c1; exact absurd c1 (by decide)
        walk_at "rd"
        refine q_S T ⟨dm, hM⟩ rfl ?_
        walk_at "rd"
        refine q_ite (fun c2 => ?_) (fun c2 => ?_)
        · walk_at "rd"
          refine q_S T ⟨dm, hM⟩ rfl ?_
          walk_at "rd"
          refine q_ite (fun c3 => ?_) (fun c3 => ?_)
          · have yes : hasIt r x i = true := by
              rw [hh, b1, decide_eq_true (show q.from_ ≤ x by omega), decide_eq_true (show x < q.to_ by omega)]
              rfl
            rw [yes, if_pos rfl] at fs
            rw [find_more fs (by omega)] at k
            dsimp only at k
            rw [ea] at k
            walk_at "rd"
            refine q_S T ⟨dm, hM⟩ rfl ?_
            walk_at "rd"
            refine k.done R (Frm.same s2) (l := [_, _]) rfl ?_ le2
            rw [show (q.to_ : Int) - (x : Int) = ((q.to_ - x : Nat) : Int) by omega]
            rfl
          · walk_at "rd"
            exact no (by rw [hh, decide_eq_false (show ¬ x < q.to_ by omega)]; simp)
        · walk_at "rd"
          exact no (by rw [hh, decide_eq_false (show ¬ q.from_ ≤ x by omega)]; simp)
      · have b1 : q.booked = false := by
          cases h : q.booked with
          | false => rfl
          | true => rw [h] at c1; exact absurd rfl c1
        walk_at "rd"
        exact no (by rw [hh, b1]; rfl)
    · rintro σ H' ⟨v2, v3, rfl, s1, hf⟩
      rw [hl] at hf
      rw [hf] at k
      walk_at "rd"
      exact k.done (R.same s1) (Frm.same s1) (l := [-6]) rfl rfl le1
end
end Ir
set_option Elab.async false
set_option maxRecDepth 100000
set_option maxHeartbeats 2000000
namespace Ir
open PySem PySem.Spec PyProof.Rows L2
local macro_rules | `(tactic| walk_at "rd1") => `(tactic| with_reducible first
  | refine q_seq ?_ | refine q_next ?_ | refine q_if ?_ | refine q_test ?_ | refine q_testB ?_ | refine q_op ?_ | refine q_c ?_ | refine q_i0 ?_ | refine q_eq ?_ | refine q_ne ?_ | refine q_bl ?_ | refine q_ret ?_ | refine q_lst ?_ | refine q_tup ?_ | refine q_cons ?_ | refine q_nil ?_
  | refine q_and ?_ | refine q_or ?_ | refine q_not ?_ | refine q_andV ?_ | refine q_orV ?_ | refine q_set ?_ | refine q_drop ?_ | refine q_call ?_ | refine q_cb ?_ | refine q_make ?_ | refine q_forR ?_ | refine q_forL ?_ | refine q_forE ?_ | refine q_gname ?_ | refine q_bm ?_ | refine q_add ?_ | refine q_sub ?_ | refine q_fld ?_ | refine q_sfld ?_ | refine q_saug ?_ | refine q_ifE ?_ | refine q_notV ?_ | refine q_sl ?_ | refine q_part ?_ | refine q_int ?_ | refine q_yes ?_ | refine q_bm0 ?_)
set_option hygiene false in
local macro_rules | `(tactic| walk_at "rd") => `(tactic| repeat (first | walk_at "rd1" | refine q_var rfl ?_ | refine q_R T hi rfl ?_ | refine q_D T hd rfl ?_ | dsimp only | rw [if_pos (rfl : true = true)] | rw [if_neg Bool.false_ne_true]))
local macro_rules | `(tactic| walk_at "ifs") => `(tactic| repeat (first | rw [if_pos (by omega)] | rw [if_neg (by omega)]))
local macro_rules | `(tactic| walk_at "to") => `(tactic| repeat (first | walk_at "rd1" | dsimp only))
def nearL (l : List Km424.Skates) (k i : Nat) : Option Nat := (List.range i).foldl (fun b i => if (l.getD i ⟨0, 0, 0⟩).sharp = 0 then b else match b with
  | none => some i
  | some j => if Km424.absDiff i k ≤ Km424.absDiff j k then some i else some j) none
theorem nearest_is (r : Km424.Rink) (k : Nat) : r.nearest k = nearL r.skates k 10 := rfl
theorem near_succ (l : List Km424.Skates) (k i : Nat) : nearL l k (i + 1) = if (l.getD i ⟨0, 0, 0⟩).sharp = 0 then nearL l k i else match nearL l k i with
  | none => some i
  | some j => if Km424.absDiff i k ≤ Km424.absDiff j k then some i else some j := by
  unfold nearL
  rw [List.range_succ, List.foldl_append]
  rfl
theorem abs_is (i k : Nat) : (if ((i : Int) - (k : Int)) < 0 then -((i : Int) - (k : Int)) else (i : Int) - (k : Int)) = ((Km424.absDiff i k : Nat) : Int) := by
  unfold Km424.absDiff
  split <;> split <;> omega
section
variable {P : Program} {w : World} {K : PySem.W.Frag} {mg : Str → Option Value} {base : Heap} {c : Cl}
def spNear (c : Cl) : Sp := fun vs H Q _ => ∃ (ls : Addr) (ss : List Addr) (l : List Km424.Skates) (k : Nat), vs = [.ref ls, .int (k : Nat)] ∧ Objs c.cP pf H ls ss l ∧ ∀ H', Same H H' → Q (optV (nearL l k l.length)) H'
abbrev s_nearest_size : Stmt := top 17
theorem sc_nearest_size : FnScope ["sizes", "k", "nearest", "size", "pairs"] ["sizes", "k"] (defScope s_nearest_size) := ⟨rfl, rfl, rfl, by decide +kernel, rfl, by decide +kernel, by decide +kernel⟩
theorem ok_nearest_size (F : Df K mg "nearest_size" s_nearest_size ["sizes", "k"]) (T : Txt K mg c) : Cal P w K mg base 1 "nearest_size" ["sizes", "k"] (spNear c) := by
  refine F.ok sc_nearest_size (fun vs H Q E h => ?_) (fun f cdv A outer s H vs Q E hr h => ?_)
  · obtain ⟨ls, ss, l, n, rfl, _⟩ := h
    rfl
  · obtain ⟨ls, ss, l, n, rfl, O, k⟩ := h
    refine ⟨_, pss_cons (ps_set (i := 2) sc_nearest_size.nd rfl (Or.inl rfl) pe_non)
      (pss_cons (ps_for PassesOwn.never rfl (pi_enum rfl T.b_enumerate (pa_cons (pv 0) pa_nil)) (pg_tup rfl (pgs_cons (pg_name (i := 3) sc_nearest_size.nd rfl (Or.inl rfl)) (pgs_cons (pg_name (i := 4) sc_nearest_size.nd rfl (Or.inl rfl)) pgs_nil))) (pss_one (ps_if (PW.pt (pw_and (pt_cmpR op_gt (pe_fld (pv 4) rfl) pe_int (nomark _)) (pw_and1 (PW.pt (pw_or (pt_cmpR op_isN (pv 2) pe_non (nomark _)) (pw_or1 (pt_cmpR op_le (pe_callB call_abs (by rfl) T.b_abs boot_abs (pa_cons (pe_op op_sub (pv 3) (pv 1)) pa_nil)) (pe_callB call_abs (by rfl) T.b_abs boot_abs (pa_cons (pe_op op_sub (pv 2) (pv 1)) pa_nil)) (nomark _)))))))) (pss_one (ps_set (i := 2) sc_nearest_size.nd rfl (Or.inl rfl) (pv 3))) pss_nil)))
      (pss_one (ps_ret (pv 2)))), ?_⟩
    walk_at "rd"
    refine ⟨ls, _, rfl, SqL.of O.lst, ?_⟩
    refine forE (xs := ss.map V.ref) (fun i σ H' => ∃ (v3 v4 : Option V), σ = [some (.ref ls), some (.int (n : Nat)), some (optV (nearL l n i)), v3, v4] ∧ Same H H') ⟨none, none, rfl, Same.refl H⟩ (fun i σ H' _ ⟨_, _, _, s1⟩ => SqL.of (s1 _ _ O.lst)) ?_ ?_
    · rintro i y σ H' Tt hy hT ⟨v3, v4, rfl, s1⟩
      obtain ⟨m, hm, rfl⟩ := map_at hy
      have hj : i < l.length := by rw [← O.len]; exact (List.getElem?_eq_some_iff.mp hm).1
      obtain ⟨dm, hM⟩ := O.obj i m l[i] hm (List.getElem?_eq_getElem hj)
      have es := near_succ l n i
      have ea : l.getD i ⟨0, 0, 0⟩ = l[i] := by simp [List.getD_eq_getElem?_getD, hj]
      rw [ea] at es
      refine ⟨Tt, [.int ((i : Nat) : Int), .ref m], rfl, SqT.of upd_same, rfl, _, _, rfl, ?_⟩
      refine ⟨_, _, rfl, ?_⟩
      refine ⟨rfl, ?_⟩
      have s2 : Same H (upd H' Tt (.tup [.int ((i : Nat) : Int), .ref m])) := s1.trans (Same.new hT)
      generalize upd H' Tt (.tup [.int ((i : Nat) : Int), .ref m]) = H2 at s2
      have hM := s2 _ _ hM
      generalize l[i] = q at hM es
      walk_at "rd"
      refine q_P T ⟨dm, hM⟩ rfl ?_
      walk_at "rd"
      refine q_ite (fun c1 => ?_) (fun c1 => ?_)
      · rw [if_neg (by omega)] at es
        walk_at "rd"
        refine ⟨rfl, ?_⟩
        walk_at "rd"
        cases eo : nearL l n i with
        | none =>
          rw [eo] at es
          refine q_ite (fun _ => ?_) (fun e => absurd rfl e)
          walk_at "rd"
          exact ⟨_, _, by rw [es]; rfl, s2⟩
        | some j =>
          rw [eo] at es
          refine q_ite (fun e => by cases e) (fun _ => ?_)
          dsimp only [optV]
          walk_at "rd"
          refine ⟨_, rfl, ?_⟩
          walk_at "rd"
          refine ⟨_, rfl, ?_⟩
          walk_at "rd"
          rw [abs_is, abs_is]
          refine q_ite (fun c2 => ?_) (fun c2 => ?_)
          · walk_at "rd"
            dsimp only at es
            rw [if_pos (by omega)] at es
            exact ⟨_, _, by rw [es]; rfl, s2⟩
          · walk_at "rd"
            dsimp only at es
            rw [if_neg (by omega)] at es
            exact ⟨_, _, by rw [es]; rfl, s2⟩
      · rw [if_pos (by omega)] at es
        walk_at "rd"
        exact ⟨_, _, by rw [es]; rfl, s2⟩
    · rintro σ H' ⟨v3, v4, rfl, s1⟩
      walk_at "rd"
      rw [List.length_map, O.len]
      exact k H' s1
abbrev s_ir_nearest : Stmt := top 19
theorem sc_ir_nearest : FnScope ["rink", "k", "nearest"] ["rink", "k"] (defScope s_ir_nearest) := ⟨rfl, rfl, rfl, by decide +kernel, rfl, by decide +kernel, by decide +kernel⟩
theorem ok_ir_nearest (F : Df K mg "ir_nearest" s_ir_nearest ["rink", "k"]) (T : Txt K mg c) (C_nearest_size : Cal P w K mg base 1 "nearest_size" ["sizes", "k"] (spNear c)) : Cal P w K mg base 2 "ir_nearest" ["rink", "k"] (spM c gNearest 1) := by
  refine F.ok sc_ir_nearest (fun vs H Q E h => ?_) (fun f cdv A outer s H vs Q E hr h => ?_)
  · obtain ⟨a, r, fp, ns, rfl, hn, _⟩ := h
    simp [hn]
  · obtain ⟨a, r, fp, ns, rfl, hn, ⟨lm, ls, lq, ms, ss, qs, R, rfl⟩, wf, k⟩ := h
    obtain ⟨n, rfl⟩ := len1 hn
    refine ⟨_, pss_cons (ps_if (pt_cmpR op_ge (pv 1) (pe_callB call_len_seq (by rfl) T.b_len PySem.boot_len (pa_cons (pe_fld (pv 0) rfl) pa_nil)) (nomark _)) (pss_one (ps_ret (pe_lst (pa_cons (pe_num rfl T.c_NOT_THERE) pa_nil)))) pss_nil)
      (pss_cons (ps_set (i := 2) sc_ir_nearest.nd rfl (Or.inl rfl) (pe_fn C_nearest_size (hr.mono (by decide)) rfl (pa_cons (pe_fld (pv 0) rfl) (pa_cons (pv 1) pa_nil))))
      (pss_cons (ps_if (pt_cmpR op_isN (pv 2) pe_non (nomark _)) (pss_one (ps_ret (pe_lst (pa_cons (pe_num rfl T.c_OUT_OF_REACH) pa_nil)))) pss_nil)
      (pss_one (ps_ret (pe_lst (pa_cons (pv 2) pa_nil)))))), ?_⟩
    obtain ⟨dx, hi⟩ := R.ins
    have hl : ((ss.map V.ref).length : Int) = 10 := by rw [List.length_map, R.S.len, wf.nS]; rfl
    rw [gNearest, nearest_is] at k
    walk_at "rd"
    refine q_len (SqL.of R.S.lst) ?_
    walk_at "rd"
    refine q_ite (fun e1 => ?_) (fun e1 => ?_)
    · walk_at "rd"
      exact k.done R .refl (l := [-2]) (by rw [if_pos (by omega)]) rfl le1
    rw [if_neg (by omega)] at k
    walk_at "rd"
    refine ⟨ls, ss, r.skates, n, rfl, R.S, fun H1 s1 => ?_⟩
    rw [wf.nS]
    have R := R.same s1
    have F1 : Frm H H1 (fpR a lm ls lq ms ss qs) := Frm.same s1
    walk_at "rd"
    refine ⟨rfl, ?_⟩
    walk_at "rd"
    cases eo : nearL r.skates n 10 with
    | none =>
      rw [eo] at k
      refine q_ite (fun _ => ?_) (fun e => absurd rfl e)
      walk_at "rd"
      exact k.done R F1 (l := [-33]) rfl rfl le1
    | some j =>
      rw [eo] at k
      refine q_ite (fun e => by cases e) (fun _ => ?_)
      walk_at "rd"
      exact k.done R F1 (l := [_]) rfl rfl le1
abbrev s_ir_size : Stmt := top 18
theorem sc_ir_size : FnScope ["rink", "k", "pairs"] ["rink", "k"] (defScope s_ir_size) := ⟨rfl, rfl, rfl, by decide +kernel, rfl, by decide +kernel, by decide +kernel⟩
theorem ok_ir_size (F : Df K mg "ir_size" s_ir_size ["rink", "k"]) (T : Txt K mg c) (C_pairs_in_all : Cal P w K mg base 1 "pairs_in_all" ["pairs"] (spP c)) : Cal P w K mg base 2 "ir_size" ["rink", "k"] (spM c gSize 1) := by
  refine F.ok sc_ir_size (fun vs H Q E h => ?_) (fun f cdv A outer s H vs Q E hr h => ?_)
  · obtain ⟨a, r, fp, ns, rfl, hn, _⟩ := h
    simp [hn]
  · obtain ⟨a, r, fp, ns, rfl, hn, ⟨lm, ls, lq, ms, ss, qs, R, rfl⟩, wf, k⟩ := h
    obtain ⟨i, rfl⟩ := len1 hn
    refine ⟨_, pss_cons (ps_if (pt_cmpR op_ge (pv 1) (pe_callB call_len_seq (by rfl) T.b_len PySem.boot_len (pa_cons (pe_fld (pv 0) rfl) pa_nil)) (nomark _)) (pss_one (ps_ret (pe_lst (pa_cons (pe_num rfl T.c_NOT_THERE) pa_nil)))) pss_nil)
      (pss_cons (ps_set (i := 2) sc_ir_size.nd rfl (Or.inl rfl) (pe_ix ix_list (pe_fld (pv 0) rfl) (pv 1) (fun _ _ => rfl)))
      (pss_one (ps_ret (pe_lst (pa_cons (pe_fn C_pairs_in_all (hr.mono (by decide)) rfl (pa_cons (pv 2) pa_nil)) (pa_cons (pe_fld (pv 2) rfl) (pa_cons (pe_fld (pv 2) rfl) (pa_cons (pe_fld (pv 2) rfl) pa_nil)))))))), ?_⟩
    obtain ⟨dx, hi⟩ := R.ins
    have hl : ((ss.map V.ref).length : Int) = 10 := by rw [List.length_map, R.S.len, wf.nS]; rfl
    rw [gSize] at k
    walk_at "rd"
    refine q_len (SqL.of R.S.lst) ?_
    walk_at "rd"
    refine q_ite (fun e1 => ?_) (fun e1 => ?_)
    · walk_at "rd"
      exact k.done R .refl (l := [-2]) (by rw [if_pos (by omega)]) rfl le1
    rw [if_neg (by omega)] at k
    have hj : i < r.skates.length := by rw [wf.nS]; omega
    obtain ⟨x, hx, dm, hm⟩ := R.S.at_ hj
    have e0 : r.skates[i]? = some r.skates[i] := List.getElem?_eq_getElem hj
    obtain ⟨w1, w2⟩ := wf.sk _ (List.mem_of_getElem? e0)
    generalize r.skates[i] = m at hm e0 w1 w2
    have es := size_at e0
    rw [es] at k
    walk_at "rd"
    refine q_ix (SqL.of R.S.lst) rfl (map_ref hx) ?_
    walk_at "rd"
    refine ⟨x, dm, m, rfl, hm, w1, ?_⟩
    walk_at "rd"
    refine q_P T ⟨dm, hm⟩ rfl ?_
    walk_at "rd"
    refine q_P T ⟨dm, hm⟩ rfl ?_
    walk_at "rd"
    refine q_P T ⟨dm, hm⟩ rfl ?_
    walk_at "rd"
    exact k.done R .refl (l := [_, _, _, _]) rfl rfl le4
end
end Ir
set_option Elab.async false
set_option maxRecDepth 100000
set_option maxHeartbeats 2000000
namespace Ir
open PySem PySem.Spec PyProof.Rows L2
local macro_rules | `(tactic| walk_at "rd1") => `(tactic| with_reducible first
  | refine q_seq ?_ | refine q_next ?_ | refine q_if ?_ | refine q_test ?_ | refine q_testB ?_ | refine q_op ?_ | refine q_c ?_ | refine q_i0 ?_ | refine q_eq ?_ | refine q_ne ?_ | refine q_bl ?_ | refine q_ret ?_ | refine q_lst ?_ | refine q_tup ?_ | refine q_cons ?_ | refine q_nil ?_
  | refine q_and ?_ | refine q_or ?_ | refine q_not ?_ | refine q_andV ?_ | refine q_orV ?_ | refine q_set ?_ | refine q_drop ?_ | refine q_call ?_ | refine q_cb ?_ | refine q_make ?_ | refine q_forR ?_ | refine q_forL ?_ | refine q_forE ?_ | refine q_gname ?_ | refine q_bm ?_ | refine q_add ?_ | refine q_sub ?_ | refine q_fld ?_ | refine q_sfld ?_ | refine q_saug ?_ | refine q_ifE ?_ | refine q_notV ?_ | refine q_sl ?_ | refine q_part ?_ | refine q_int ?_ | refine q_yes ?_ | refine q_bm0 ?_)
set_option hygiene false in
local macro_rules | `(tactic| walk_at "rd") => `(tactic| repeat (first | walk_at "rd1" | refine q_var rfl ?_ | refine q_R T hi rfl ?_ | refine q_D T hd rfl ?_ | dsimp only | rw [if_pos (rfl : true = true)] | rw [if_neg Bool.false_ne_true]))
local macro_rules | `(tactic| walk_at "ifs") => `(tactic| repeat (first | rw [if_pos (by omega)] | rw [if_neg (by omega)]))
local macro_rules | `(tactic| walk_at "to") => `(tactic| repeat (first | walk_at "rd1" | dsimp only))
theorem Frm.of1 {H H1 : Hp} {p : Addr} (h : ∀ b, b ≠ p → H1 b = H b) : Frm H H1 [p] := fun b o e n => by
  rw [h b (fun z => n (by simp [z]))]
  exact e
theorem Frm.at1 {H H1 : Hp} {p b : Addr} {o : HO} (F : Frm H H1 [p]) (e : H b = some o) (n : b ≠ p) : H1 b = some o := F b o e (by simpa using n)
theorem Objs.nil {α : Type} {C l : Addr} {fd : α → List (Str × V)} {H : Hp} (h : H l = some (.lst [])) : Objs C fd H l [] [] := ⟨h, rfl, fun j x y h1 _ => by simp at h1⟩
theorem Objs.frm {α : Type} {C l : Addr} {fd : α → List (Str × V)} {H H' : Hp} {zs : List Addr} {ys : List α} {p : Addr} (O : Objs C fd H l zs ys) (F : Frm H H' [p]) (n : p ∉ l :: zs) : Objs C fd H' l zs ys :=
  O.keep fun b o m e => F.at1 e fun z => n (z ▸ m)
section
variable {P : Program} {w : World} {K : PySem.W.Frag} {mg : Str → Option Value} {base : Heap} {c : Cl}
/-! ### a new rink -/
def spRk (c : Cl) : Sp := fun vs H Q _ => ∃ (p dx : Addr) (x y z u : Nat), vs = [.ref p, .int (x : Nat), .int (y : Nat), .int (z : Nat), .int (u : Nat)] ∧ H p = some (.ins c.cR dx []) ∧
  ∀ H' fp, Own c H' p (Km424.opened x y z u) fp → Frm H H' [p] → (∀ b, b ∈ fp → b = p ∨ H b = none) → Q .non H'
abbrev s_Rink___init__ : Stmt := inClass (top 25) 0
theorem sc_Rink___init__ : FnScope ["self", "base", "each", "least", "room", "size"] ["self", "base", "each", "least", "room"] (defScope s_Rink___init__) := ⟨rfl, rfl, rfl, by decide +kernel, rfl, by decide +kernel, by decide +kernel⟩
theorem ok_Rink (F : Dm K mg "Rink" c.cR "Rink.__init__" s_Rink___init__ ["self", "base", "each", "least", "room"]) (T : Txt K mg c) (C_Pairs : Kls P w K mg base 1 "Pairs" c.cP ["self"] (spI c.cP fPairs 0)) : Kls P w K mg base 3 "Rink" c.cR ["self", "base", "each", "least", "room"] (spRk c) := by
  refine F.ok sc_Rink___init__ (fun vs H Q E h => ?_) (fun f cdv A outer s H vs Q E hr h => ?_)
  · obtain ⟨p, dx, x, y, z, u, rfl, _⟩ := h
    rfl
  · obtain ⟨p, dx, x, y, z, u, rfl, hp, k⟩ := h
    refine ⟨_, pss_cons (ps_fld (pv 0) (pv 1) rfl)
      (pss_cons (ps_fld (pv 0) (pv 2) rfl)
      (pss_cons (ps_fld (pv 0) (pv 3) rfl)
      (pss_cons (ps_fld (pv 0) (pv 4) rfl)
      (pss_cons (ps_fld (pv 0) (pe_lst pa_nil) rfl)
      (pss_cons (ps_fld (pv 0) pe_int rfl)
      (pss_cons (ps_fld (pv 0) pe_int rfl)
      (pss_cons (ps_fld (pv 0) pe_int rfl)
      (pss_cons (ps_fld (pv 0) pe_int rfl)
      (pss_cons (ps_fld (pv 0) pe_int rfl)
      (pss_cons (ps_fld (pv 0) pe_int rfl)
      (pss_cons (ps_fld (pv 0) pe_int rfl)
      (pss_cons (ps_fld (pv 0) pe_int rfl)
      (pss_cons (ps_fld (pv 0) pe_int rfl)
      (pss_cons (ps_fld (pv 0) (pe_lc rfl sc_Rink___init__.nd (pi_range1 rfl T.b_range (pa_cons (pe_num rfl T.c_SIZES) pa_nil)) (blkOk_by (own := [("size", 5)]) rfl) (fun _ _ _ _ _ => (pg_name (i := 5) sc_Rink___init__.nd rfl (Or.inl rfl))) (fun _ _ _ _ _ => pts_nil) (fun _ _ _ _ _ => (pe_mk0 C_Pairs (hr.mono (by decide)) rfl))) rfl)
      (pss_cons (ps_fld (pv 0) pe_int rfl)
      (pss_one (ps_fld (pv 0) (pe_lst pa_nil) rfl))))))))))))))))), ?_⟩
    walk_at "rd"
    refine q_I hp T.clR (T.fR _ (by simp [rN])) (show 0 < 1000 by decide) fun H1 hp h1 => ?_
    walk_at "rd"
    refine q_I hp T.clR (T.fR _ (by simp [rN])) (show 1 < 1000 by decide) fun H2 hp h2 => ?_
    walk_at "rd"
    refine q_I hp T.clR (T.fR _ (by simp [rN])) (show 2 < 1000 by decide) fun H3 hp h3 => ?_
    have hp : H3 p = some (.ins c.cR dx [("base", .int (x : Nat)), ("each", .int (y : Nat)), ("least", .int (z : Nat))]) := hp
    walk_at "rd"
    refine q_I hp T.clR (T.fR _ (by simp [rN])) (show 3 < 1000 by decide) fun H4 hp h4 => ?_
    have hp : H4 p = some (.ins c.cR dx [("base", .int (x : Nat)), ("each", .int (y : Nat)), ("least", .int (z : Nat)), ("room", .int (u : Nat))]) := hp
    have FA : Frm H H4 [p] := (Frm.of1 h1).trans ((Frm.of1 h2).trans ((Frm.of1 h3).trans (Frm.of1 h4)))
    clear h1 h2 h3 h4
    walk_at "rd"
    refine ⟨Nat.zero_le _, fun lm nlm => ?_⟩
    have plm : lm ≠ p := fun e => ne_of_none hp nlm e.symm
    have s5 : Same H4 (upd H4 lm (.lst [])) := Same.new nlm
    have hlm : upd H4 lm (.lst []) lm = some (.lst []) := upd_same
    generalize upd H4 lm (.lst []) = H5 at s5 hlm ⊢
    have hp := s5 _ _ hp
    walk_at "rd"
    refine q_I hp T.clR (T.fR _ (by simp [rN])) (show 4 < 1000 by decide) fun H6 hp h1 => ?_
    have hp : H6 p = some (.ins c.cR dx [("base", .int (x : Nat)), ("each", .int (y : Nat)), ("least", .int (z : Nat)), ("room", .int (u : Nat)), ("machines", .ref lm)]) := hp
    walk_at "rd"
    refine q_I hp T.clR (T.fR _ (by simp [rN])) (show 5 < 1000 by decide) fun H7 hp h2 => ?_
    have hp : H7 p = some (.ins c.cR dx [("base", .int (x : Nat)), ("each", .int (y : Nat)), ("least", .int (z : Nat)), ("room", .int (u : Nat)), ("machines", .ref lm), ("ice", .int 0)]) := hp
    walk_at "rd"
    refine q_I hp T.clR (T.fR _ (by simp [rN])) (show 6 < 1000 by decide) fun H8 hp h3 => ?_
    have hp : H8 p = some (.ins c.cR dx [("base", .int (x : Nat)), ("each", .int (y : Nat)), ("least", .int (z : Nat)), ("room", .int (u : Nat)), ("machines", .ref lm), ("ice", .int 0), ("water", .int 0)]) := hp
    walk_at "rd"
    refine q_I hp T.clR (T.fR _ (by simp [rN])) (show 7 < 1000 by decide) fun H9 hp h4 => ?_
    have hp : H9 p = some (.ins c.cR dx [("base", .int (x : Nat)), ("each", .int (y : Nat)), ("least", .int (z : Nat)), ("room", .int (u : Nat)), ("machines", .ref lm), ("ice", .int 0), ("water", .int 0), ("laid", .int 0)]) := hp
    walk_at "rd"
    refine q_I hp T.clR (T.fR _ (by simp [rN])) (show 8 < 1000 by decide) fun H10 hp h5 => ?_
    have hp : H10 p = some (.ins c.cR dx [("base", .int (x : Nat)), ("each", .int (y : Nat)), ("least", .int (z : Nat)), ("room", .int (u : Nat)), ("machines", .ref lm), ("ice", .int 0), ("water", .int 0), ("laid", .int 0), ("shaved", .int 0)]) := hp
    walk_at "rd"
    refine q_I hp T.clR (T.fR _ (by simp [rN])) (show 9 < 1000 by decide) fun H11 hp h6 => ?_
    have hp : H11 p = some (.ins c.cR dx [("base", .int (x : Nat)), ("each", .int (y : Nat)), ("least", .int (z : Nat)), ("room", .int (u : Nat)), ("machines", .ref lm), ("ice", .int 0), ("water", .int 0), ("laid", .int 0), ("shaved", .int 0), ("drained", .int 0)]) := hp
    walk_at "rd"
    refine q_I hp T.clR (T.fR _ (by simp [rN])) (show 10 < 1000 by decide) fun H12 hp h7 => ?_
    have hp : H12 p = some (.ins c.cR dx [("base", .int (x : Nat)), ("each", .int (y : Nat)), ("least", .int (z : Nat)), ("room", .int (u : Nat)), ("machines", .ref lm), ("ice", .int 0), ("water", .int 0), ("laid", .int 0), ("shaved", .int 0), ("drained", .int 0), ("skaters", .int 0)]) := hp
    walk_at "rd"
    refine q_I hp T.clR (T.fR _ (by simp [rN])) (show 11 < 1000 by decide) fun H13 hp h8 => ?_
    have hp : H13 p = some (.ins c.cR dx [("base", .int (x : Nat)), ("each", .int (y : Nat)), ("least", .int (z : Nat)), ("room", .int (u : Nat)), ("machines", .ref lm), ("ice", .int 0), ("water", .int 0), ("laid", .int 0), ("shaved", .int 0), ("drained", .int 0), ("skaters", .int 0), ("sent_off", .int 0)]) := hp
    walk_at "rd"
    refine q_I hp T.clR (T.fR _ (by simp [rN])) (show 12 < 1000 by decide) fun H14 hp h9 => ?_
    have hp : H14 p = some (.ins c.cR dx [("base", .int (x : Nat)), ("each", .int (y : Nat)), ("least", .int (z : Nat)), ("room", .int (u : Nat)), ("machines", .ref lm), ("ice", .int 0), ("water", .int 0), ("laid", .int 0), ("shaved", .int 0), ("drained", .int 0), ("skaters", .int 0), ("sent_off", .int 0), ("minute", .int 0)]) := hp
    walk_at "rd"
    refine q_I hp T.clR (T.fR _ (by simp [rN])) (show 13 < 1000 by decide) fun H15 hp h10 => ?_
    have hp : H15 p = some (.ins c.cR dx [("base", .int (x : Nat)), ("each", .int (y : Nat)), ("least", .int (z : Nat)), ("room", .int (u : Nat)), ("machines", .ref lm), ("ice", .int 0), ("water", .int 0), ("laid", .int 0), ("shaved", .int 0), ("drained", .int 0), ("skaters", .int 0), ("sent_off", .int 0), ("minute", .int 0), ("spent", .int 0)]) := hp
    have FB : Frm H5 H15 [p] := (Frm.of1 h1).trans ((Frm.of1 h2).trans ((Frm.of1 h3).trans ((Frm.of1 h4).trans ((Frm.of1 h5).trans ((Frm.of1 h6).trans ((Frm.of1 h7).trans ((Frm.of1 h8).trans ((Frm.of1 h9).trans (Frm.of1 h10)))))))))
    clear h1 h2 h3 h4 h5 h6 h7 h8 h9 h10
    have hlm := FB.at1 hlm plm
    walk_at "rd"
    refine q_lcR ?_
    walk_at "rd"
    refine ⟨10, rfl, by decide, by decide, lc_objs (C := c.cP) (fd := pf) (n := 10) (fun _ => ⟨0, 0, 0⟩) goes_range (by decide) ?_ ?_⟩
    · intro j v G2 R1 hj t2 hf h1
      subst hf
      refine q_gname ?_
      refine ⟨rfl, ?_⟩
      walk_at "rd"
      intro z0 d0 n0 m0 e0
      refine ⟨z0, d0, [], rfl, rfl, upd_same, fun G3 g3 f3 => ⟨rfl, ?_⟩⟩
      refine h1 z0 G3 (fun b o e => ?_) n0 ⟨d0, g3⟩
      rw [f3 b (ne_of_none e n0), upd_ne (ne_of_none e n0), upd_ne (ne_of_none e m0)]
      exact e
    intro D zs H16 s16 O hfr nd
    have pD : p ∉ D :: zs := fun m => by
      have := hfr p m
      rw [hp] at this
      cases this
    have lD : lm ∉ D :: zs := fun m => by
      have := hfr lm m
      rw [hlm] at this
      cases this
    have hp := s16 _ _ hp
    have hlm := s16 _ _ hlm
    walk_at "rd"
    refine q_I hp T.clR (T.fR _ (by simp [rN])) (show 14 < 1000 by decide) fun H17 hp h1 => ?_
    have hp : H17 p = some (.ins c.cR dx [("base", .int (x : Nat)), ("each", .int (y : Nat)), ("least", .int (z : Nat)), ("room", .int (u : Nat)), ("machines", .ref lm), ("ice", .int 0), ("water", .int 0), ("laid", .int 0), ("shaved", .int 0), ("drained", .int 0), ("skaters", .int 0), ("sent_off", .int 0), ("minute", .int 0), ("spent", .int 0), ("sizes", .ref D)]) := hp
    walk_at "rd"
    refine q_I hp T.clR (T.fR _ (by simp [rN])) (show 15 < 1000 by decide) fun H18 hp h2 => ?_
    have hp : H18 p = some (.ins c.cR dx [("base", .int (x : Nat)), ("each", .int (y : Nat)), ("least", .int (z : Nat)), ("room", .int (u : Nat)), ("machines", .ref lm), ("ice", .int 0), ("water", .int 0), ("laid", .int 0), ("shaved", .int 0), ("drained", .int 0), ("skaters", .int 0), ("sent_off", .int 0), ("minute", .int 0), ("spent", .int 0), ("sizes", .ref D), ("gap", .int 0)]) := hp
    have FC : Frm H16 H18 [p] := (Frm.of1 h1).trans (Frm.of1 h2)
    clear h1 h2
    have hlm := FC.at1 hlm plm
    have O := O.frm FC pD
    walk_at "rd"
    refine ⟨Nat.zero_le _, fun lq nlq => ?_⟩
    have plq : lq ≠ p := fun e => ne_of_none hp nlq e.symm
    have lmq : lm ≠ lq := ne_of_none hlm nlq
    have qD : lq ∉ D :: zs := fun m => by
      obtain ⟨o, ho⟩ := O.some_of m
      rw [nlq] at ho
      cases ho
    have s19 : Same H18 (upd H18 lq (.lst [])) := Same.new nlq
    have hlq : upd H18 lq (.lst []) lq = some (.lst []) := upd_same
    generalize upd H18 lq (.lst []) = H19 at s19 hlq ⊢
    have hp := s19 _ _ hp
    have hlm := s19 _ _ hlm
    have O := O.same s19
    walk_at "rd"
    refine q_I hp T.clR (T.fR _ (by simp [rN])) (show 16 < 1000 by decide) fun H20 hp h1 => ?_
    have hp : H20 p = some (.ins c.cR dx [("base", .int (x : Nat)), ("each", .int (y : Nat)), ("least", .int (z : Nat)), ("room", .int (u : Nat)), ("machines", .ref lm), ("ice", .int 0), ("water", .int 0), ("laid", .int 0), ("shaved", .int 0), ("drained", .int 0), ("skaters", .int 0), ("sent_off", .int 0), ("minute", .int 0), ("spent", .int 0), ("sizes", .ref D), ("gap", .int 0), ("sessions", .ref lq)]) := hp
    have FD : Frm H19 H20 [p] := Frm.of1 h1
    have hlm := FD.at1 hlm plm
    have hlq := FD.at1 hlq plq
    have O := O.frm FD pD
    have FE : Frm H H20 [p] := FA.trans ((Frm.same s5).trans (FB.trans ((Frm.same s16).trans (FC.trans ((Frm.same s19).trans FD)))))
    refine k H20 _ ⟨lm, D, lq, [], zs, [], ⟨⟨dx, hp⟩, Objs.nil hlm, O, Objs.nil hlq, ?_⟩, rfl⟩ FE ?_
    · simp only [List.nodup_cons, List.nodup_append, List.mem_cons, List.mem_append, List.not_mem_nil, not_or, or_false] at nd pD lD qD ⊢
      grind
    · intro b hb
      have hb : b = p ∨ b = lm ∨ b ∈ D :: zs ∨ b = lq := by
        simp only [List.mem_cons, List.mem_append, List.not_mem_nil, or_false] at hb ⊢
        grind
      have no : ∀ {G : Hp}, G b = none → Frm H G [p] → b ≠ p → b = p ∨ H b = none := fun e F n => .inr (F.none e (by simpa using n))
      rcases hb with rfl | rfl | hb | rfl
      · exact .inl rfl
      · exact no nlm FA plm
      · exact no (hfr b hb) (FA.trans ((Frm.same s5).trans FB)) (fun e => pD (e ▸ hb))
      · exact no nlq (FA.trans ((Frm.same s5).trans (FB.trans ((Frm.same s16).trans FC)))) plq
/-! ### copies -/
def spCp {α : Type} (C : Addr) (fd : α → List (Str × V)) : Sp := fun vs H Q _ => ∃ (x : Addr) (y : α), vs = [.ref x] ∧ InsAt C H x (fd y) ∧ ∀ H' z, Same H H' → H z = none → InsAt C H' z (fd y) → Q (.ref z) H'
abbrev s_copy_of_machine : Stmt := top 26
theorem sc_copy_of_machine : FnScope ["machine", "copied"] ["machine"] (defScope s_copy_of_machine) := ⟨rfl, rfl, rfl, by decide +kernel, rfl, by decide +kernel, by decide +kernel⟩
theorem ok_copy_of_machine (F : Df K mg "copy_of_machine" s_copy_of_machine ["machine"]) (T : Txt K mg c) (C_Machine : Kls P w K mg base 1 "Machine" c.cM ["self", "cold", "cost"] (spI c.cM fMachine 2)) : Cal P w K mg base 3 "copy_of_machine" ["machine"] (spCp c.cM mf) := by
  refine F.ok sc_copy_of_machine (fun vs H Q E h => ?_) (fun f cdv A outer s H vs Q E hr h => ?_)
  · obtain ⟨x, y, rfl, _⟩ := h
    rfl
  · obtain ⟨x, y, rfl, hx, k⟩ := h
    refine ⟨_, pss_cons (ps_set (i := 1) sc_copy_of_machine.nd rfl (Or.inl rfl) (pe_mk C_Machine (hr.mono (by decide)) rfl (pa_cons (pe_fld (pv 0) rfl) (pa_cons (pe_fld (pv 0) rfl) pa_nil))))
      (pss_cons (ps_fld (pv 1) (pe_fld (pv 0) rfl) rfl)
      (pss_one (ps_ret (pv 1)))), ?_⟩
    walk_at "rd"
    refine q_M T hx rfl ?_
    walk_at "rd"
    refine q_M T hx rfl ?_
    walk_at "rd"
    intro z0 d0 n0 m0 e0
    refine ⟨z0, d0, [y.cold, y.cost], rfl, rfl, upd_same, fun H1 h1 f1 => ⟨rfl, ?_⟩⟩
    have s1 : Same H H1 := fun b o e => by
      rw [f1 b (ne_of_none e n0), upd_ne (ne_of_none e n0), upd_ne (ne_of_none e m0)]
      exact e
    obtain ⟨dy, hx⟩ := hx
    walk_at "rd"
    refine q_M T ⟨dy, s1 _ _ hx⟩ rfl ?_
    walk_at "rd"
    refine q_I h1 T.clM (T.fM _ (by simp [mN])) (show 3 < 1000 by decide) fun H2 h2 f2 => ?_
    walk_at "rd"
    exact k H2 z0 (fun b o e => by rw [f2 b (ne_of_none e n0)]; exact s1 b o e) n0 ⟨d0, h2⟩
abbrev s_copy_of_pairs : Stmt := top 27
theorem sc_copy_of_pairs : FnScope ["pairs", "copied"] ["pairs"] (defScope s_copy_of_pairs) := ⟨rfl, rfl, rfl, by decide +kernel, rfl, by decide +kernel, by decide +kernel⟩
theorem ok_copy_of_pairs (F : Df K mg "copy_of_pairs" s_copy_of_pairs ["pairs"]) (T : Txt K mg c) (C_Pairs : Kls P w K mg base 1 "Pairs" c.cP ["self"] (spI c.cP fPairs 0)) : Cal P w K mg base 3 "copy_of_pairs" ["pairs"] (spCp c.cP pf) := by
  refine F.ok sc_copy_of_pairs (fun vs H Q E h => ?_) (fun f cdv A outer s H vs Q E hr h => ?_)
  · obtain ⟨x, y, rfl, _⟩ := h
    rfl
  · obtain ⟨x, y, rfl, hx, k⟩ := h
    refine ⟨_, pss_cons (ps_set (i := 1) sc_copy_of_pairs.nd rfl (Or.inl rfl) (pe_mk0 C_Pairs (hr.mono (by decide)) rfl))
      (pss_cons (ps_fld (pv 1) (pe_fld (pv 0) rfl) rfl)
      (pss_cons (ps_fld (pv 1) (pe_fld (pv 0) rfl) rfl)
      (pss_cons (ps_fld (pv 1) (pe_fld (pv 0) rfl) rfl)
      (pss_one (ps_ret (pv 1)))))), ?_⟩
    walk_at "rd"
    intro z0 d0 n0 m0 e0
    refine ⟨z0, d0, [], rfl, rfl, upd_same, fun H1 h1 f1 => ⟨rfl, ?_⟩⟩
    have s1 : Same H H1 := fun b o e => by
      rw [f1 b (ne_of_none e n0), upd_ne (ne_of_none e n0), upd_ne (ne_of_none e m0)]
      exact e
    obtain ⟨dy, hx⟩ := hx
    walk_at "rd"
    refine q_P T ⟨dy, s1 _ _ hx⟩ rfl ?_
    walk_at "rd"
    refine q_I h1 T.clP (T.fP _ (by simp [pN])) (show 3 < 1000 by decide) fun H2 h2 f2 => ?_
    have s2 : Same H H2 := fun b o e => by rw [f2 b (ne_of_none e n0)]; exact s1 b o e
    walk_at "rd"
    refine q_P T ⟨dy, s2 _ _ hx⟩ rfl ?_
    walk_at "rd"
    refine q_I h2 T.clP (T.fP _ (by simp [pN])) (show 3 < 1000 by decide) fun H3 h3 f3 => ?_
    have s3 : Same H H3 := fun b o e => by rw [f3 b (ne_of_none e n0)]; exact s2 b o e
    walk_at "rd"
    refine q_P T ⟨dy, s3 _ _ hx⟩ rfl ?_
    walk_at "rd"
    refine q_I h3 T.clP (T.fP _ (by simp [pN])) (show 3 < 1000 by decide) fun H4 h4 f4 => ?_
    walk_at "rd"
    exact k H4 z0 (fun b o e => by rw [f4 b (ne_of_none e n0)]; exact s3 b o e) n0 ⟨d0, h4⟩
abbrev s_copy_of_session : Stmt := top 28
theorem sc_copy_of_session : FnScope ["session", "copied"] ["session"] (defScope s_copy_of_session) := ⟨rfl, rfl, rfl, by decide +kernel, rfl, by decide +kernel, by decide +kernel⟩
theorem ok_copy_of_session (F : Df K mg "copy_of_session" s_copy_of_session ["session"]) (T : Txt K mg c) (C_Session : Kls P w K mg base 1 "Session" c.cS ["self", "begin", "end", "fee"] (spI c.cS fSession 3)) : Cal P w K mg base 3 "copy_of_session" ["session"] (spCp c.cS sf) := by
  refine F.ok sc_copy_of_session (fun vs H Q E h => ?_) (fun f cdv A outer s H vs Q E hr h => ?_)
  · obtain ⟨x, y, rfl, _⟩ := h
    rfl
  · obtain ⟨x, y, rfl, hx, k⟩ := h
    refine ⟨_, pss_cons (ps_set (i := 1) sc_copy_of_session.nd rfl (Or.inl rfl) (pe_mk C_Session (hr.mono (by decide)) rfl (pa_cons (pe_fld (pv 0) rfl) (pa_cons (pe_fld (pv 0) rfl) (pa_cons (pe_fld (pv 0) rfl) pa_nil)))))
      (pss_cons (ps_fld (pv 1) (pe_fld (pv 0) rfl) rfl)
      (pss_one (ps_ret (pv 1)))), ?_⟩
    walk_at "rd"
    refine q_S T hx rfl ?_
    walk_at "rd"
    refine q_S T hx rfl ?_
    walk_at "rd"
    refine q_S T hx rfl ?_
    walk_at "rd"
    intro z0 d0 n0 m0 e0
    refine ⟨z0, d0, [y.from_, y.to_, y.fee], rfl, rfl, upd_same, fun H1 h1 f1 => ⟨rfl, ?_⟩⟩
    have s1 : Same H H1 := fun b o e => by
      rw [f1 b (ne_of_none e n0), upd_ne (ne_of_none e n0), upd_ne (ne_of_none e m0)]
      exact e
    obtain ⟨dy, hx⟩ := hx
    walk_at "rd"
    refine q_S T ⟨dy, s1 _ _ hx⟩ rfl ?_
    walk_at "rd"
    refine q_I h1 T.clS (T.fS _ (by simp [sN])) (show 4 < 1000 by decide) fun H2 h2 f2 => ?_
    walk_at "rd"
    exact k H2 z0 (fun b o e => by rw [f2 b (ne_of_none e n0)]; exact s1 b o e) n0 ⟨d0, h2⟩
/-- a value of a rink that is being made is written -/
theorem q_raw {B : Hp → Prop} {H : Hp} {a dx lm ls lq lm' ls' lq' : Addr} {r r' : Km424.Rink} {f : Str} {y : V} (T : Txt K mg c) (hi : H a = some (.ins c.cR dx (rf r lm ls lq))) (hf : f ∈ rN) (ef : putF f y (rf r lm ls lq) = rf r' lm' ls' lq')
    (q : ∀ H1, H1 a = some (.ins c.cR dx (rf r' lm' ls' lq')) → (∀ b, b ≠ a → H1 b = H b) → B H1) : ∃ a' C dx fs, V.ref a = .ref a' ∧ H a' = some (.ins C dx fs) ∧ Cls K C ∧ NoAttr K C f ∧ fs.length < 1000 ∧ B (upd H a' (.ins C dx (putF f y fs))) := by
  refine ⟨a, c.cR, dx, _, rfl, hi, T.clR, T.fR _ hf, (by show 17 < 1000; decide), ?_⟩
  rw [ef]
  exact q _ upd_same fun b hb => upd_ne hb
/-- each of a list of objects is copied -/
theorem lc_copy {α : Type} {C : Addr} {fd : α → List (Str × V)} {d : α} {H : Hp} {l : Addr} {xs : List Addr} {ys : List α} {i : Nat} {σ : L2.St} {te : TE} {Q : VK} (O : Objs C fd H l xs ys) (hlen : ys.length < sizeLine)
    (hte : ∀ (x : Addr) (y : α) (H2 : Hp) (R : VK), InsAt C H2 x (fd y) → (∀ H' z, Same H2 H' → H2 z = none → InsAt C H' z (fd y) → R (.ref z) H') → te ((wipe σ [i]).set i (some (.ref x))) H2 R)
    (q : ∀ (D : Addr) (zs : List Addr) (H' : Hp), Same H H' → Objs C fd H' D zs ys → (∀ b, b ∈ D :: zs → H b = none) → (D :: zs).Nodup → Q (.ref D) H') : LcJ (Itl K l) (gName i) tYes te [i] σ H Q := by
  have hl : (xs.map V.ref).length = ys.length := by rw [List.length_map, O.len]
  refine lc_objs (C := C) (fd := fd) (fun k => ys.getD k d) (goes_list (SqL.of O.lst)) (by rw [hl]; exact hlen) ?_ ?_
  · intro j x H2 R1 hj s2 hf h1
    obtain ⟨m, hm, rfl⟩ := map_at hf
    rw [hl] at hj
    obtain ⟨dm, hM⟩ := O.obj j m ys[j] hm (List.getElem?_eq_getElem hj)
    have ea : ys.getD j d = ys[j] := by simp [List.getD_eq_getElem?_getD, hj]
    rw [ea] at h1
    refine q_gname ?_
    refine ⟨?_, hte m _ H2 R1 ⟨dm, s2 _ _ hM⟩ fun H' z s' hz hi => h1 z H' s' hz hi⟩
    show ((σ.set i none).set i (some (V.ref m))).set i none = σ.set i none
    rw [List.set_set, List.set_set]
  · intro D zs H' s O' hf nd
    rw [hl] at O'
    have e := map_range d id ys
    rw [List.map_id] at e
    have e : (List.range ys.length).map (fun k => ys.getD k d) = ys := e
    rw [e] at O'
    exact q D zs H' s O' hf nd
def spCR (c : Cl) : Sp := fun vs H Q _ => ∃ (a : Addr) (r : Km424.Rink) (fp : List Addr), vs = [.ref a] ∧ Own c H a r fp ∧ Wf r ∧ ∀ H' z fz, Same H H' → Own c H' z r fz → (∀ b, b ∈ fz → H b = none) → Q (.ref z) H'
abbrev s_copy_of_rink : Stmt := top 29
theorem sc_copy_of_rink : FnScope ["rink", "copied", "machine", "pairs", "session"] ["rink"] (defScope s_copy_of_rink) := ⟨rfl, rfl, rfl, by decide +kernel, rfl, by decide +kernel, by decide +kernel⟩
theorem ok_copy_of_rink (F : Df K mg "copy_of_rink" s_copy_of_rink ["rink"]) (T : Txt K mg c) (C_Rink : Kls P w K mg base 3 "Rink" c.cR ["self", "base", "each", "least", "room"] (spRk c)) (C_copy_of_machine : Cal P w K mg base 3 "copy_of_machine" ["machine"] (spCp c.cM mf))
    (C_copy_of_pairs : Cal P w K mg base 3 "copy_of_pairs" ["pairs"] (spCp c.cP pf)) (C_copy_of_session : Cal P w K mg base 3 "copy_of_session" ["session"] (spCp c.cS sf)) : Cal P w K mg base 5 "copy_of_rink" ["rink"] (spCR c) := by
  refine F.ok sc_copy_of_rink (fun vs H Q E h => ?_) (fun f cdv A outer s H vs Q E hr h => ?_)
  · obtain ⟨a, r, fp, rfl, _⟩ := h
    rfl
  · obtain ⟨a, r, fp, rfl, ⟨lm, ls, lq, ms, ss, qs, R, rfl⟩, wf, k⟩ := h
    refine ⟨_, pss_cons (ps_set (i := 1) sc_copy_of_rink.nd rfl (Or.inl rfl) (pe_mk C_Rink (hr.mono (by decide)) rfl (pa_cons (pe_fld (pv 0) rfl) (pa_cons (pe_fld (pv 0) rfl) (pa_cons (pe_fld (pv 0) rfl) (pa_cons (pe_fld (pv 0) rfl) pa_nil))))))
      (pss_cons (ps_fld (pv 1) (pe_lc rfl sc_copy_of_rink.nd (pi_list (pe_fld (pv 0) rfl)) (blkOk_by (own := [("machine", 2)]) rfl) (fun _ _ _ _ _ => (pg_name (i := 2) sc_copy_of_rink.nd rfl (Or.inl rfl))) (fun _ _ _ _ _ => pts_nil) (fun _ _ _ _ _ => (pe_fn C_copy_of_machine (hr.mono (by decide)) rfl (pa_cons (pv 2) pa_nil)))) rfl)
      (pss_cons (ps_fld (pv 1) (pe_fld (pv 0) rfl) rfl)
      (pss_cons (ps_fld (pv 1) (pe_fld (pv 0) rfl) rfl)
      (pss_cons (ps_fld (pv 1) (pe_fld (pv 0) rfl) rfl)
      (pss_cons (ps_fld (pv 1) (pe_fld (pv 0) rfl) rfl)
      (pss_cons (ps_fld (pv 1) (pe_fld (pv 0) rfl) rfl)
      (pss_cons (ps_fld (pv 1) (pe_fld (pv 0) rfl) rfl)
      (pss_cons (ps_fld (pv 1) (pe_fld (pv 0) rfl) rfl)
      (pss_cons (ps_fld (pv 1) (pe_fld (pv 0) rfl) rfl)
      (pss_cons (ps_fld (pv 1) (pe_fld (pv 0) rfl) rfl)
      (pss_cons (ps_fld (pv 1) (pe_lc rfl sc_copy_of_rink.nd (pi_list (pe_fld (pv 0) rfl)) (blkOk_by (own := [("pairs", 3)]) rfl) (fun _ _ _ _ _ => (pg_name (i := 3) sc_copy_of_rink.nd rfl (Or.inl rfl))) (fun _ _ _ _ _ => pts_nil) (fun _ _ _ _ _ => (pe_fn C_copy_of_pairs (hr.mono (by decide)) rfl (pa_cons (pv 3) pa_nil)))) rfl)
      (pss_cons (ps_fld (pv 1) (pe_fld (pv 0) rfl) rfl)
      (pss_cons (ps_fld (pv 1) (pe_lc rfl sc_copy_of_rink.nd (pi_list (pe_fld (pv 0) rfl)) (blkOk_by (own := [("session", 4)]) rfl) (fun _ _ _ _ _ => (pg_name (i := 4) sc_copy_of_rink.nd rfl (Or.inl rfl))) (fun _ _ _ _ _ => pts_nil) (fun _ _ _ _ _ => (pe_fn C_copy_of_session (hr.mono (by decide)) rfl (pa_cons (pv 4) pa_nil)))) rfl)
      (pss_one (ps_ret (pv 1)))))))))))))))), ?_⟩
    obtain ⟨dx, hi⟩ := R.ins
    walk_at "rd"
    intro z d0 n0 m0 e0
    refine ⟨z, d0, r.base, r.each, r.least, r.room, rfl, upd_same, fun H1 fp1 O1 F1 _ => ⟨rfl, ?_⟩⟩
    have s1 : Same H H1 := fun b o e => by
      refine F1.at1 ?_ (ne_of_none e n0)
      rw [upd_ne (ne_of_none e n0), upd_ne (ne_of_none e m0)]
      exact e
    obtain ⟨lm0, ls0, lq0, ms0, ss0, qs0, R0, _⟩ := O1
    obtain ⟨d1, hj⟩ := R0.ins
    have R1 := R.same s1
    have hi := s1 _ _ hi
    walk_at "rd"
    refine q_lcL ?_
    walk_at "rd"
    refine ⟨lm, rfl, ⟨_, SqL.of R1.M.lst⟩, lc_copy (d := noMach) R1.M wf.lM (fun x y H2 R' hx k' => ?_) fun D1 z1 H2 s2 O2 fr2 nd2 => ?_⟩
    · walk_at "rd"
      exact ⟨x, y, rfl, hx, k'⟩
    have zD : z ∉ D1 :: z1 := fun m => by
      have := fr2 z m
      rw [hj] at this
      cases this
    have R2 := R1.same s2
    have hi := s2 _ _ hi
    have hj := s2 _ _ hj
    have za : a ≠ z := ne_of_none (show H a = some _ from (by assumption)) n0
    walk_at "rd"
    refine q_raw (r' := Km424.opened r.base r.each r.least r.room) (lm' := D1) (ls' := ls0) (lq' := lq0) T hj (by simp [rN]) rfl fun H3 hj h3 => ?_
    have hi := (h3 a za).trans hi
    walk_at "rd"
    refine q_raw (r' := { Km424.opened r.base r.each r.least r.room with ice := r.ice }) (lm' := D1) (ls' := ls0) (lq' := lq0) T hj (by simp [rN]) rfl fun H4 hj h4 => ?_
    have hi := (h4 a za).trans hi
    walk_at "rd"
    refine q_raw (r' := { Km424.opened r.base r.each r.least r.room with ice := r.ice, wet := r.wet }) (lm' := D1) (ls' := ls0) (lq' := lq0) T hj (by simp [rN]) rfl fun H5 hj h5 => ?_
    have hi := (h5 a za).trans hi
    walk_at "rd"
    refine q_raw (r' := { Km424.opened r.base r.each r.least r.room with ice := r.ice, wet := r.wet, laid := r.laid }) (lm' := D1) (ls' := ls0) (lq' := lq0) T hj (by simp [rN]) rfl fun H6 hj h6 => ?_
    have hi := (h6 a za).trans hi
    walk_at "rd"
    refine q_raw (r' := { Km424.opened r.base r.each r.least r.room with ice := r.ice, wet := r.wet, laid := r.laid, shaved := r.shaved }) (lm' := D1) (ls' := ls0) (lq' := lq0) T hj (by simp [rN]) rfl fun H7 hj h7 => ?_
    have hi := (h7 a za).trans hi
    walk_at "rd"
    refine q_raw (r' := { Km424.opened r.base r.each r.least r.room with ice := r.ice, wet := r.wet, laid := r.laid, shaved := r.shaved, drained := r.drained }) (lm' := D1) (ls' := ls0) (lq' := lq0) T hj (by simp [rN]) rfl fun H8 hj h8 => ?_
    have hi := (h8 a za).trans hi
    walk_at "rd"
    refine q_raw (r' := { Km424.opened r.base r.each r.least r.room with ice := r.ice, wet := r.wet, laid := r.laid, shaved := r.shaved, drained := r.drained, on_ := r.on_ }) (lm' := D1) (ls' := ls0) (lq' := lq0) T hj (by simp [rN]) rfl fun H9 hj h9 => ?_
    have hi := (h9 a za).trans hi
    walk_at "rd"
    refine q_raw (r' := { Km424.opened r.base r.each r.least r.room with ice := r.ice, wet := r.wet, laid := r.laid, shaved := r.shaved, drained := r.drained, on_ := r.on_, sent := r.sent }) (lm' := D1) (ls' := ls0) (lq' := lq0) T hj (by simp [rN]) rfl fun H10 hj h10 => ?_
    have hi := (h10 a za).trans hi
    walk_at "rd"
    refine q_raw (r' := { Km424.opened r.base r.each r.least r.room with ice := r.ice, wet := r.wet, laid := r.laid, shaved := r.shaved, drained := r.drained, on_ := r.on_, sent := r.sent, time := r.time }) (lm' := D1) (ls' := ls0) (lq' := lq0) T hj (by simp [rN]) rfl fun H11 hj h11 => ?_
    have hi := (h11 a za).trans hi
    walk_at "rd"
    refine q_raw (r' := { Km424.opened r.base r.each r.least r.room with ice := r.ice, wet := r.wet, laid := r.laid, shaved := r.shaved, drained := r.drained, on_ := r.on_, sent := r.sent, time := r.time, spent := r.spent }) (lm' := D1) (ls' := ls0) (lq' := lq0) T hj (by simp [rN]) rfl fun H12 hj h12 => ?_
    have hi := (h12 a za).trans hi
    have FB : Frm H2 H12 [z] := (Frm.of1 h3).trans ((Frm.of1 h4).trans ((Frm.of1 h5).trans ((Frm.of1 h6).trans ((Frm.of1 h7).trans ((Frm.of1 h8).trans ((Frm.of1 h9).trans ((Frm.of1 h10).trans ((Frm.of1 h11).trans (Frm.of1 h12)))))))))
    clear h3 h4 h5 h6 h7 h8 h9 h10 h11 h12
    have zf : z ∉ fpR a lm ls lq ms ss qs := R.notin n0
    have R12 := R2.keep (H' := H12) fun b o m e => FB.at1 e fun q => zf (q ▸ m)
    have O12 := O2.frm FB zD
    walk_at "rd"
    refine q_lcL ?_
    walk_at "rd"
    refine ⟨ls, rfl, ⟨_, SqL.of R12.S.lst⟩, lc_copy (d := ⟨0, 0, 0⟩) R12.S (by rw [wf.nS]; decide) (fun x y H2 R' hx k' => ?_) fun D2 z2 H13 s13 O13 fr13 nd13 => ?_⟩
    · walk_at "rd"
      exact ⟨x, y, rfl, hx, k'⟩
    have zD2 : z ∉ D2 :: z2 := fun m => by
      have := fr13 z m
      rw [hj] at this
      cases this
    have dj12 : ∀ b, b ∈ D1 :: z1 → b ∉ D2 :: z2 := fun b m n => by
      obtain ⟨o, ho⟩ := O12.some_of m
      rw [fr13 b n] at ho
      cases ho
    have R13 := R12.same s13
    have O12 := O12.same s13
    have hi := s13 _ _ hi
    have hj := s13 _ _ hj
    walk_at "rd"
    refine q_raw (r' := { Km424.opened r.base r.each r.least r.room with ice := r.ice, wet := r.wet, laid := r.laid, shaved := r.shaved, drained := r.drained, on_ := r.on_, sent := r.sent, time := r.time, spent := r.spent }) (lm' := D1) (ls' := D2) (lq' := lq0) T hj (by simp [rN]) rfl fun H14 hj h14 => ?_
    have hi := (h14 a za).trans hi
    walk_at "rd"
    refine q_raw (r' := { Km424.opened r.base r.each r.least r.room with ice := r.ice, wet := r.wet, laid := r.laid, shaved := r.shaved, drained := r.drained, on_ := r.on_, sent := r.sent, time := r.time, spent := r.spent, gap := r.gap }) (lm' := D1) (ls' := D2) (lq' := lq0) T hj (by simp [rN]) rfl fun H15 hj h15 => ?_
    have hi := (h15 a za).trans hi
    have FC : Frm H13 H15 [z] := (Frm.of1 h14).trans (Frm.of1 h15)
    clear h14 h15
    have R15 := R13.keep (H' := H15) fun b o m e => FC.at1 e fun q => zf (q ▸ m)
    have O12 := O12.frm FC zD
    have O13 := O13.frm FC zD2
    walk_at "rd"
    refine q_lcL ?_
    walk_at "rd"
    refine ⟨lq, rfl, ⟨_, SqL.of R15.Q.lst⟩, lc_copy (d := noAsk) R15.Q wf.lQ (fun x y H2 R' hx k' => ?_) fun D3 z3 H16 s16 O16 fr16 nd16 => ?_⟩
    · walk_at "rd"
      exact ⟨x, y, rfl, hx, k'⟩
    have zD3 : z ∉ D3 :: z3 := fun m => by
      have := fr16 z m
      rw [hj] at this
      cases this
    have dj13 : ∀ b, b ∈ D1 :: z1 → b ∉ D3 :: z3 := fun b m n => by
      obtain ⟨o, ho⟩ := O12.some_of m
      rw [fr16 b n] at ho
      cases ho
    have dj23 : ∀ b, b ∈ D2 :: z2 → b ∉ D3 :: z3 := fun b m n => by
      obtain ⟨o, ho⟩ := O13.some_of m
      rw [fr16 b n] at ho
      cases ho
    have O12 := O12.same s16
    have O13 := O13.same s16
    have hj := s16 _ _ hj
    walk_at "rd"
    refine q_raw (r' := r) (lm' := D1) (ls' := D2) (lq' := D3) T hj (by simp [rN]) rfl fun H17 hj h17 => ?_
    have FD : Frm H16 H17 [z] := Frm.of1 h17
    have O12 := O12.frm FD zD
    have O13 := O13.frm FD zD2
    have O16 := O16.frm FD zD3
    walk_at "rd"
    have all : ∀ {G : Hp}, Frm H2 G [z] → Same H G := fun F b o e => F.at1 (s2 _ _ (s1 _ _ e)) (ne_of_none e n0)
    have F13 : Frm H2 H13 [z] := FB.trans (Frm.same s13)
    have F15 : Frm H2 H15 [z] := F13.trans FC
    have F17 : Frm H2 H17 [z] := F15.trans ((Frm.same s16).trans FD)
    refine k H17 z _ (all F17) ⟨D1, D2, D3, z1, z2, z3, ⟨⟨d1, hj⟩, O12, O13, O16, ?_⟩, rfl⟩ ?_
    · refine List.nodup_cons.mpr ⟨fun m => ?_, List.nodup_append.mpr ⟨nd2, List.nodup_append.mpr ⟨nd13, nd16, fun b m d n e => dj23 b m (e ▸ n)⟩, fun b m d n e => ?_⟩⟩
      · rcases List.mem_append.mp m with m | m
        · exact zD m
        · rcases List.mem_append.mp m with m | m
          · exact zD2 m
          · exact zD3 m
      · subst e
        rcases List.mem_append.mp n with n | n
        · exact dj12 b m n
        · exact dj13 b m n
    · intro b m
      rcases List.mem_cons.mp m with rfl | m
      · exact n0
      · rcases List.mem_append.mp m with m | m
        · exact s1.free (fr2 b m)
        · rcases List.mem_append.mp m with m | m
          · exact (all FB).free (fr13 b m)
          · exact (all F15).free (fr16 b m)
end
end Ir
set_option Elab.async false
set_option maxRecDepth 100000
set_option maxHeartbeats 2000000
namespace Ir
open PySem PySem.Spec PyProof.Rows L2
local macro_rules | `(tactic| walk_at "rd1") => `(tactic| with_reducible first
  | refine q_seq ?_ | refine q_next ?_ | refine q_if ?_ | refine q_test ?_ | refine q_testB ?_ | refine q_op ?_ | refine q_c ?_ | refine q_i0 ?_ | refine q_eq ?_ | refine q_ne ?_ | refine q_bl ?_ | refine q_ret ?_ | refine q_lst ?_ | refine q_tup ?_ | refine q_cons ?_ | refine q_nil ?_
  | refine q_and ?_ | refine q_or ?_ | refine q_not ?_ | refine q_andV ?_ | refine q_orV ?_ | refine q_set ?_ | refine q_drop ?_ | refine q_call ?_ | refine q_cb ?_ | refine q_make ?_ | refine q_forR ?_ | refine q_forL ?_ | refine q_forE ?_ | refine q_gname ?_ | refine q_bm ?_ | refine q_add ?_ | refine q_sub ?_ | refine q_fld ?_ | refine q_sfld ?_ | refine q_saug ?_ | refine q_ifE ?_ | refine q_notV ?_ | refine q_sl ?_ | refine q_part ?_ | refine q_int ?_ | refine q_yes ?_ | refine q_bm0 ?_)
set_option hygiene false in
local macro_rules | `(tactic| walk_at "rd") => `(tactic| repeat (first | walk_at "rd1" | refine q_var rfl ?_ | refine q_R T hi rfl ?_ | refine q_D T hd rfl ?_ | dsimp only))
local macro_rules | `(tactic| walk_at "ifs") => `(tactic| repeat (first | rw [if_pos (by omega)] | rw [if_neg (by omega)]))
/-! ### the desk -/
theorem Own.keep {c : Cl} {H H' : Hp} {a : Addr} {r : Km424.Rink} {fp : List Addr} (O : Own c H a r fp) (k : ∀ b o, b ∈ fp → H b = some o → H' b = some o) : Own c H' a r fp := by
  obtain ⟨lm, ls, lq, ms, ss, qs, R, rfl⟩ := O
  exact ⟨_, _, _, _, _, _, R.keep k, rfl⟩
theorem Own.same {c : Cl} {H H' : Hp} {a : Addr} {r : Km424.Rink} {fp : List Addr} (O : Own c H a r fp) (s : Same H H') : Own c H' a r fp := O.keep fun b o _ e => s b o e
theorem Own.some_of {c : Cl} {H : Hp} {a : Addr} {r : Km424.Rink} {fp : List Addr} (O : Own c H a r fp) {b : Addr} (m : b ∈ fp) : ∃ o, H b = some o := by
  obtain ⟨lm, ls, lq, ms, ss, qs, R, rfl⟩ := O
  exact R.some_of m
theorem Own.nd {c : Cl} {H : Hp} {a : Addr} {r : Km424.Rink} {fp : List Addr} (O : Own c H a r fp) : fp.Nodup := by
  obtain ⟨lm, ls, lq, ms, ss, qs, R, rfl⟩ := O
  exact R.nd
abbrev Ent := Addr × Km424.Rink × List Addr
abbrev fpE (es : List Ent) : List Addr := es.flatMap fun e => e.2.2
abbrev fpD (d le ll : Addr) (fp : List Addr) (es ls : List Ent) : List Addr := d :: le :: ll :: (fp ++ (fpE es ++ fpE ls))
def dF (a le ll : Addr) : List (Str × V) := [("rink", .ref a), ("earlier", .ref le), ("later", .ref ll)]
structure Dk (c : Cl) (H : Hp) (d : Addr) (D : Km424.Desk) (a le ll : Addr) (fp : List Addr) (es ls : List Ent) : Prop where
  ins : InsAt c.cD H d (dF a le ll)
  now : Own c H a D.now fp
  lE : H le = some (.lst (es.map fun e => V.ref e.1))
  lL : H ll = some (.lst (ls.map fun e => V.ref e.1))
  E : ∀ e, e ∈ es → Own c H e.1 e.2.1 e.2.2
  L : ∀ e, e ∈ ls → Own c H e.1 e.2.1 e.2.2
  past : D.past = (es.map fun e => e.2.1).reverse
  fut : D.future = (ls.map fun e => e.2.1).reverse
  nd : (fpD d le ll fp es ls).Nodup
def OwnD (c : Cl) (H : Hp) (d : Addr) (D : Km424.Desk) (F : List Addr) : Prop := ∃ a le ll fp es ls, Dk c H d D a le ll fp es ls ∧ F = fpD d le ll fp es ls
section
variable {c : Cl} {H H' : Hp} {d a le ll : Addr} {D : Km424.Desk} {fp : List Addr} {es ls : List Ent}
theorem sub_flat {es fs : List Ent} (h : List.Sublist es fs) : List.Sublist (fpE es) (fpE fs) := by
  induction h with
  | slnil => exact List.Sublist.refl _
  | cons e _ ih =>
    show List.Sublist _ (List.flatMap _ (e :: _))
    rw [List.flatMap_cons]
    exact ih.trans (List.sublist_append_right _ _)
  | cons_cons e _ ih =>
    show List.Sublist (List.flatMap _ (e :: _)) (List.flatMap _ (e :: _))
    rw [List.flatMap_cons, List.flatMap_cons]
    exact (List.Sublist.refl _).append ih
theorem mem_fpE {es : List Ent} {b : Addr} (h : b ∈ fpE es) : ∃ e, e ∈ es ∧ b ∈ e.2.2 := List.mem_flatMap.mp h
theorem in_fpE {es : List Ent} {e : Ent} {b : Addr} (h : e ∈ es) (m : b ∈ e.2.2) : b ∈ fpE es := List.mem_flatMap.mpr ⟨e, h, m⟩
theorem Dk.some_of (k : Dk c H d D a le ll fp es ls) {b : Addr} (m : b ∈ fpD d le ll fp es ls) : ∃ o, H b = some o := by
  rcases List.mem_cons.mp m with rfl | m
  · obtain ⟨dx, h⟩ := k.ins
    exact ⟨_, h⟩
  rcases List.mem_cons.mp m with rfl | m
  · exact ⟨_, k.lE⟩
  rcases List.mem_cons.mp m with rfl | m
  · exact ⟨_, k.lL⟩
  rcases List.mem_append.mp m with m | m
  · exact k.now.some_of m
  rcases List.mem_append.mp m with m | m
  · obtain ⟨e, he, m⟩ := mem_fpE m
    exact (k.E e he).some_of m
  · obtain ⟨e, he, m⟩ := mem_fpE m
    exact (k.L e he).some_of m
theorem Dk.notin (k : Dk c H d D a le ll fp es ls) {p : Addr} (h : H p = none) : p ∉ fpD d le ll fp es ls := fun m => by
  obtain ⟨o, e⟩ := k.some_of m
  rw [h] at e
  cases e
theorem Dk.keep (k : Dk c H d D a le ll fp es ls) (h : ∀ b o, b ∈ fpD d le ll fp es ls → H b = some o → H' b = some o) : Dk c H' d D a le ll fp es ls where
  ins := let ⟨dx, e⟩ := k.ins; ⟨dx, h _ _ (by simp) e⟩
  now := k.now.keep fun b o m => h b o (by simp [m])
  lE := h _ _ (by simp) k.lE
  lL := h _ _ (by simp) k.lL
  E := fun e he => (k.E e he).keep fun b o m => h b o (by
    have := in_fpE he m
    simp only [List.mem_cons, List.mem_append]
    exact .inr (.inr (.inr (.inr (.inl this)))))
  L := fun e he => (k.L e he).keep fun b o m => h b o (by
    have := in_fpE he m
    simp only [List.mem_cons, List.mem_append]
    exact .inr (.inr (.inr (.inr (.inr this)))))
  past := k.past
  fut := k.fut
  nd := k.nd
theorem Dk.same (k : Dk c H d D a le ll fp es ls) (s : Same H H') : Dk c H' d D a le ll fp es ls := k.keep fun b o _ e => s b o e
/-- what is apart from what -/
theorem Dk.apart (k : Dk c H d D a le ll fp es ls) : (d ≠ le ∧ d ≠ ll ∧ le ≠ ll) ∧ (d ∉ fp ∧ le ∉ fp ∧ ll ∉ fp) ∧ (d ∉ fpE es ∧ le ∉ fpE es ∧ ll ∉ fpE es) ∧ (d ∉ fpE ls ∧ le ∉ fpE ls ∧ ll ∉ fpE ls) ∧ (∀ b, b ∈ fp → b ∉ fpE es ∧ b ∉ fpE ls) ∧ (∀ b, b ∈ fpE es → b ∉ fpE ls) := by
  have nd := k.nd
  unfold fpD at nd
  generalize fpE es = A at nd ⊢
  generalize fpE ls = B at nd ⊢
  simp only [List.nodup_cons, List.nodup_append, List.mem_cons, List.mem_append, not_or] at nd
  obtain ⟨⟨h1, h2, h3, h4, h5⟩, ⟨h6, h7, h8, h9⟩, ⟨h10, h11, h12⟩, h13, ⟨h14, h15, h16⟩, h17⟩ := nd
  exact ⟨⟨h1, h2, h6⟩, ⟨h3, h7, h10⟩, ⟨h4, h8, h11⟩, ⟨h5, h9, h12⟩, fun b m => ⟨fun n => h17 b m b (.inl n) rfl, fun n => h17 b m b (.inr n) rfl⟩, fun b m n => h16 b m b n rfl⟩
/-- a call on the rink was made -/
theorem Dk.moved (k : Dk c H d D a le ll fp es ls) {r' : Km424.Rink} {fp' : List Addr} (O : Own c H' a r' fp') (F : Frm H H' fp) (sub : ∀ b, b ∈ fp' → b ∈ fp ∨ H b = none) : Dk c H' d ⟨r', D.past, D.future⟩ a le ll fp' es ls := by
  obtain ⟨⟨x1, x2, x3⟩, ⟨x4, x5, x6⟩, ⟨x7, x8, x9⟩, ⟨x10, x11, x12⟩, x13, x14⟩ := k.apart
  obtain ⟨dx, hd⟩ := k.ins
  have no : ∀ b, b ∈ fp' → ∀ o, H b = some o → b ∈ fp := fun b m o e => (sub b m).resolve_right fun n => by rw [n] at e; cases e
  refine ⟨⟨dx, F _ _ hd x4⟩, O, F _ _ k.lE x5, F _ _ k.lL x6, fun e he => (k.E e he).keep fun b o m h => F b o h fun n => (x13 b n).1 (in_fpE he m), fun e he => (k.L e he).keep fun b o m h => F b o h fun n => (x13 b n).2 (in_fpE he m), k.past, k.fut, ?_⟩
  have nd := k.nd
  have nf := O.nd
  have nE : ∀ b, b ∈ fp' → b ∉ fpE es := fun b m n => by
    obtain ⟨e, he, n'⟩ := mem_fpE n
    obtain ⟨o, ho⟩ := (k.E e he).some_of n'
    exact (x13 b (no b m o ho)).1 n
  have nL : ∀ b, b ∈ fp' → b ∉ fpE ls := fun b m n => by
    obtain ⟨e, he, n'⟩ := mem_fpE n
    obtain ⟨o, ho⟩ := (k.L e he).some_of n'
    exact (x13 b (no b m o ho)).2 n
  have nd1 : d ∉ fp' := fun m => x4 (no d m _ hd)
  have nd2 : le ∉ fp' := fun m => x5 (no le m _ k.lE)
  have nd3 : ll ∉ fp' := fun m => x6 (no ll m _ k.lL)
  unfold fpD at nd ⊢
  generalize fpE es = A at *
  generalize fpE ls = B at *
  simp only [List.nodup_cons, List.nodup_append, List.mem_cons, List.mem_append, not_or] at nd ⊢
  obtain ⟨⟨h1, h2, h3, h4, h5⟩, ⟨h6, h7, h8, h9⟩, ⟨h10, h11, h12⟩, h13, ⟨h14, h15, h16⟩, h17⟩ := nd
  refine ⟨⟨h1, h2, nd1, h4, h5⟩, ⟨h6, nd2, h8, h9⟩, ⟨nd3, h11, h12⟩, nf, ⟨h14, h15, h16⟩, fun b m q hq e => ?_⟩
  subst e
  rcases hq with hq | hq
  · exact nE b m hq
  · exact nL b m hq
theorem Dk.sub (k : Dk c H d D a le ll fp es ls) {fp' : List Addr} (sub : ∀ b, b ∈ fp' → b ∈ fp ∨ H b = none) : ∀ b, b ∈ fpD d le ll fp' es ls → b ∈ fpD d le ll fp es ls ∨ H b = none := by
  intro b m
  simp only [List.mem_cons, List.mem_append] at m ⊢
  rcases m with m | m | m | m | m | m
  · exact .inl (.inl m)
  · exact .inl (.inr (.inl m))
  · exact .inl (.inr (.inr (.inl m)))
  · rcases sub b m with m | m
    · exact .inl (.inr (.inr (.inr (.inl m))))
    · exact .inr m
  · exact .inl (.inr (.inr (.inr (.inr (.inl m)))))
  · exact .inl (.inr (.inr (.inr (.inr (.inr m)))))
end
/-- what is wanted behind a call on the desk -/
def FinD (c : Cl) (H : Hp) (d : Addr) (res : Km424.Desk × List Int) (F : List Addr) (Q : VK) : Prop :=
  ∀ (H' : Hp) (p : Addr) (F' : List Addr), OwnD c H' d res.1 F' → Frm H H' F → (∀ b, b ∈ F' → b ∈ F ∨ H b = none) → H p = none → p ∉ F' → H' p = some (.lst (res.2.map V.int)) → Q (.ref p) H'
def actL (D : Km424.Desk) (call : Km424.Call) : Km424.Desk × List Int := ((Km424.act D call).1, ansOf (Km424.act D call).2)
theorem Frm.mono {H H' : Hp} {f g : List Addr} (F : Frm H H' f) (h : ∀ b, b ∈ f → b ∈ g) : Frm H H' g := fun b o e n => F b o e fun m => n (h b m)
section
variable {P : Program} {w : World} {K : PySem.W.Frag} {mg : Str → Option Value} {base : Heap} {c : Cl}
theorem FinD.done {H0 H : Hp} {d a le ll : Addr} {D1 : Km424.Desk} {fp : List Addr} {es ls : List Ent} {res : Km424.Desk × List Int} {l : List Int} {xs : List V} {F M : List Addr} {Q : VK} (k : FinD c H0 d res F Q) (kk : Dk c H d D1 a le ll fp es ls) (Fr : Frm H0 H M) (hM : ∀ b, b ∈ M → b ∈ F ∧ ∃ o, H b = some o)
    (sub : ∀ b, b ∈ fpD d le ll fp es ls → b ∈ F ∨ H0 b = none) (e : res = (D1, l)) (ex : xs = l.map V.int) (hx : xs.length ≤ sizeLine) : xs.length ≤ sizeLine ∧ ∀ p, H p = none → Q (.ref p) (upd H p (.lst xs)) := by
  subst e ex
  refine ⟨hx, fun p hp => k _ p _ ⟨_, _, _, _, _, _, kk.same (Same.new hp), rfl⟩ ((Fr.mono fun b m => (hM b m).1).trans (Frm.new hp)) sub (Fr.none hp fun m => ?_) (kk.notin hp) upd_same⟩
  obtain ⟨o, ho⟩ := (hM p m).2
  rw [hp] at ho
  cases ho
theorem q_D {B : Addr → Addr → V → Prop} {H : Hp} {d dx a le ll : Addr} {f : Str} {v : V} (T : Txt K mg c) (hd : H d = some (.ins c.cD dx (dF a le ll))) (l : (dF a le ll).lookup f = some v) (q : B d c.cD v) : ∃ a' C dx fs v, V.ref d = .ref a' ∧ H a' = some (.ins C dx fs) ∧ Cls K C ∧ NoAttr K C f ∧ fs.lookup f = some v ∧ B a' C v :=
  ⟨d, c.cD, dx, _, v, rfl, hd, T.clD, T.fD _ (show f ∈ dN from mem_lookup l), l, q⟩
theorem q_setD {B : Hp → Prop} {H : Hp} {d dx a le ll a' le' ll' : Addr} {f : Str} {y : V} (T : Txt K mg c) (hd : H d = some (.ins c.cD dx (dF a le ll))) (hf : f ∈ dN) (ef : putF f y (dF a le ll) = dF a' le' ll')
    (q : ∀ H1, H1 d = some (.ins c.cD dx (dF a' le' ll')) → (∀ b, b ≠ d → H1 b = H b) → B H1) : ∃ a' C dx fs, V.ref d = .ref a' ∧ H a' = some (.ins C dx fs) ∧ Cls K C ∧ NoAttr K C f ∧ fs.length < 1000 ∧ B (upd H a' (.ins C dx (putF f y fs))) := by
  refine ⟨d, c.cD, dx, _, rfl, hd, T.clD, T.fD _ hf, (by show 3 < 1000; decide), ?_⟩
  rw [ef]
  exact q _ upd_same fun b hb => upd_ne hb
/-! ### the parts of a desk -/
def spDk (c : Cl) : Sp := fun vs H Q _ => ∃ (p dx : Addr), vs = [.ref p] ∧ H p = some (.ins c.cD dx []) ∧ ∀ H' F, OwnD c H' p (Km424.fresh 0 0 1 1) F → Frm H H' [p] → (∀ b, b ∈ F → b = p ∨ H b = none) → Q .non H'
abbrev s_Desk___init__ : Stmt := inClass (top 36) 0
theorem sc_Desk___init__ : FnScope ["self"] ["self"] (defScope s_Desk___init__) := ⟨rfl, rfl, rfl, by decide +kernel, rfl, by decide +kernel, by decide +kernel⟩
theorem ok_Desk (F : Dm K mg "Desk" c.cD "Desk.__init__" s_Desk___init__ ["self"]) (T : Txt K mg c) (C_Rink : Kls P w K mg base 3 "Rink" c.cR ["self", "base", "each", "least", "room"] (spRk c)) : Kls P w K mg base 5 "Desk" c.cD ["self"] (spDk c) := by
  refine F.ok sc_Desk___init__ (fun vs H Q E h => ?_) (fun f cdv A outer s H vs Q E hr h => ?_)
  · obtain ⟨p, dx, rfl, _⟩ := h
    rfl
  · obtain ⟨p, dx, rfl, hp, k⟩ := h
    refine ⟨_, pss_cons (ps_fld (pv 0) (pe_mk C_Rink (hr.mono (by decide)) rfl (pa_cons pe_int (pa_cons pe_int (pa_cons pe_int (pa_cons pe_int pa_nil))))) rfl)
      (pss_cons (ps_fld (pv 0) (pe_lst pa_nil) rfl)
      (pss_one (ps_fld (pv 0) (pe_lst pa_nil) rfl))), ?_⟩
    walk_at "rd"
    intro z d0 n0 m0 e0
    refine ⟨z, d0, 0, 0, 1, 1, rfl, upd_same, fun H1 fp O1 F1 fr1 => ⟨rfl, ?_⟩⟩
    have s1 : Same H H1 := fun b o e => by
      refine F1.at1 ?_ (ne_of_none e n0)
      rw [upd_ne (ne_of_none e n0), upd_ne (ne_of_none e m0)]
      exact e
    have fr : ∀ b, b ∈ fp → H b = none := fun b m => by
      rcases fr1 b m with rfl | h
      · exact n0
      · by_cases e : b = z
        · rw [e]; exact n0
        · rw [upd_ne e] at h
          by_cases e2 : b = d0
          · rw [e2]; exact m0
          · rw [upd_ne e2] at h
            exact h
    have pf : p ∉ fp := fun m => by
      have := fr p m
      rw [hp] at this
      cases this
    have hp := s1 _ _ hp
    walk_at "rd"
    refine q_I hp T.clD (T.fD _ (by simp [dN])) (show 0 < 1000 by decide) fun H2 hp h2 => ?_
    have F2 : Frm H1 H2 [p] := Frm.of1 h2
    have O2 := O1.keep (H' := H2) fun b o m e => F2.at1 e fun z => pf (z ▸ m)
    walk_at "rd"
    refine ⟨Nat.zero_le _, fun le nle => ?_⟩
    have ple : le ≠ p := fun e => ne_of_none hp nle e.symm
    have lef : le ∉ fp := fun m => by
      obtain ⟨o, ho⟩ := O2.some_of m
      rw [nle] at ho
      cases ho
    have s3 : Same H2 (upd H2 le (.lst [])) := Same.new nle
    have hle : upd H2 le (.lst []) le = some (.lst []) := upd_same
    generalize upd H2 le (.lst []) = H3 at s3 hle ⊢
    have hp := s3 _ _ hp
    have O3 := O2.same s3
    walk_at "rd"
    refine q_I hp T.clD (T.fD _ (by simp [dN])) (show 1 < 1000 by decide) fun H4 hp h4 => ?_
    have F4 : Frm H3 H4 [p] := Frm.of1 h4
    have O4 := O3.keep (H' := H4) fun b o m e => F4.at1 e fun z => pf (z ▸ m)
    have hle := F4.at1 hle ple
    walk_at "rd"
    refine ⟨Nat.zero_le _, fun ll nll => ?_⟩
    have pll : ll ≠ p := fun e => ne_of_none hp nll e.symm
    have lll : le ≠ ll := ne_of_none hle nll
    have llf : ll ∉ fp := fun m => by
      obtain ⟨o, ho⟩ := O4.some_of m
      rw [nll] at ho
      cases ho
    have s5 : Same H4 (upd H4 ll (.lst [])) := Same.new nll
    have hll : upd H4 ll (.lst []) ll = some (.lst []) := upd_same
    generalize upd H4 ll (.lst []) = H5 at s5 hll ⊢
    have hp := s5 _ _ hp
    have O5 := O4.same s5
    have hle := s5 _ _ hle
    walk_at "rd"
    refine q_I hp T.clD (T.fD _ (by simp [dN])) (show 2 < 1000 by decide) fun H6 hp h6 => ?_
    have F6 : Frm H5 H6 [p] := Frm.of1 h6
    have O6 := O5.keep (H' := H6) fun b o m e => F6.at1 e fun z => pf (z ▸ m)
    have hle := F6.at1 hle ple
    have hll := F6.at1 hll pll
    have FA : Frm H H2 [p] := (Frm.same s1).trans F2
    have FB : Frm H H4 [p] := FA.trans ((Frm.same s3).trans F4)
    refine k H6 _ ⟨z, le, ll, fp, [], [], ⟨⟨dx, hp⟩, O6, hle, hll, fun e he => (by cases he), fun e he => (by cases he), rfl, rfl, ?_⟩, rfl⟩ (FB.trans ((Frm.same s5).trans F6)) ?_
    · have nf := O6.nd
      simp only [List.nodup_cons, List.nodup_append, List.mem_cons, List.mem_append, List.flatMap_nil, List.not_mem_nil, List.append_nil, not_or, or_false]
      exact ⟨⟨fun e => ple e.symm, fun e => pll e.symm, pf⟩, ⟨lll, lef⟩, llf, nf⟩
    · intro b m
      simp only [List.mem_cons, List.mem_append, List.flatMap_nil, List.not_mem_nil, or_false] at m
      rcases m with rfl | rfl | rfl | m
      · exact .inl rfl
      · exact .inr (FA.none nle (by simpa using ple))
      · exact .inr (FB.none nll (by simpa using pll))
      · exact .inr (fr b m)
/-- the parts of a desk behind a change -/
theorem take_past {es : List Ent} {ent : Ent} (h : es.length = 30) : (ent.2.1 :: (es.map fun e => e.2.1).reverse).take 30 = (((es ++ [ent]).tail).map fun e => e.2.1).reverse := by
  match es, h with
  | e0 :: es, h =>
    have h : es.length = 29 := by simpa using h
    rw [List.map_cons, List.reverse_cons, List.cons_append, List.tail_cons, List.map_append, List.reverse_append, List.take_succ_cons]
    show _ = ent.2.1 :: _
    congr 1
    rw [List.take_append_of_le_length (by rw [List.length_reverse, List.length_map, h]; exact Nat.le_refl _)]
    refine List.take_of_length_le (by rw [List.length_reverse, List.length_map, h]; exact Nat.le_refl _)
def spNote (c : Cl) : Sp := fun vs H Q _ => ∃ (d : Addr) (D : Km424.Desk) (a le ll : Addr) (fp : List Addr) (es ls : List Ent) (x : Addr) (r : Km424.Rink) (fx : List Addr), vs = [.ref d, .ref x] ∧ Dk c H d D a le ll fp es ls ∧ es.length ≤ 30 ∧ Own c H x r fx ∧ (∀ b, b ∈ fx → b ∉ fpD d le ll fp es ls) ∧
  ∀ H' ll' es', Dk c H' d ⟨D.now, (r :: D.past).take 30, []⟩ a le ll' fp es' [] → Frm H H' [d, le] → H ll' = none → (∀ b, b ∈ fpE es' → b ∈ fpE es ∨ b ∈ fx) → Q .non H'
abbrev s_note_change : Stmt := top 37
theorem sc_note_change : FnScope ["desk", "before"] ["desk", "before"] (defScope s_note_change) := ⟨rfl, rfl, rfl, by decide +kernel, rfl, by decide +kernel, by decide +kernel⟩
theorem ok_note_change (F : Df K mg "note_change" s_note_change ["desk", "before"]) (T : Txt K mg c) : Cal P w K mg base 1 "note_change" ["desk", "before"] (spNote c) := by
  refine F.ok sc_note_change (fun vs H Q E h => ?_) (fun f cdv A outer s H vs Q E hr h => ?_)
  · obtain ⟨d, D, a, le, ll, fp, es, ls, x, r, fx, rfl, _⟩ := h
    rfl
  · obtain ⟨d, D, a, le, ll, fp, es, ls, x, r, fx, rfl, kk, h30, Ox, apx, k⟩ := h
    refine ⟨_, pss_cons (ps_expr (pe_bm PySem.F.plainAttrs_list PySem.F.slot_list_append PySem.F.type_list_append mt_append (pe_fld (pv 0) rfl) (pa_cons (pv 1) pa_nil)))
      (pss_cons (ps_if (pt_cmpR op_gt (pe_callB call_len_seq (by rfl) T.b_len PySem.boot_len (pa_cons (pe_fld (pv 0) rfl) pa_nil)) (pe_num rfl T.c_MOST_BACK) (nomark _)) (pss_one (ps_expr (pe_bm PySem.F.plainAttrs_list PySem.F.slot_list_pop PySem.F.type_list_pop mt_popAt (pe_fld (pv 0) rfl) (pa_cons pe_int pa_nil)))) pss_nil)
      (pss_one (ps_fld (pv 0) (pe_lst pa_nil) rfl))), ?_⟩
    obtain ⟨⟨x1, x2, x3⟩, ⟨x4, x5, x6⟩, ⟨x7, x8, x9⟩, ⟨x10, x11, x12⟩, x13, x14⟩ := kk.apart
    obtain ⟨dx, hd⟩ := kk.ins
    have hle := kk.lE
    walk_at "rd"
    refine ⟨.inl ⟨rfl, _, SqL.of hle⟩, ?_⟩
    walk_at "rd"
    refine ⟨le, _, _, rfl, rfl, hle, ?_, ?_⟩
    · rw [List.length_map]; exact Nat.lt_of_le_of_lt h30 (by decide)
    have e1 : (es.map fun e => V.ref e.1) ++ [V.ref x] = (es ++ [((x, r, fx) : Ent)]).map fun e => V.ref e.1 := by rw [List.map_append]; rfl
    rw [e1]
    have hd : (upd H le (.lst ((es ++ [((x, r, fx) : Ent)]).map fun e => V.ref e.1))) d = some (.ins c.cD dx (dF a le ll)) := by rw [upd_ne x1]; exact hd
    have hle1 : (upd H le (.lst ((es ++ [((x, r, fx) : Ent)]).map fun e => V.ref e.1))) le = some (.lst ((es ++ [((x, r, fx) : Ent)]).map fun e => V.ref e.1)) := upd_same
    have F1 : Frm H (upd H le (.lst ((es ++ [((x, r, fx) : Ent)]).map fun e => V.ref e.1))) [d, le] := Frm.upd (by simp)
    generalize upd H le (.lst ((es ++ [((x, r, fx) : Ent)]).map fun e => V.ref e.1)) = H1 at hd hle1 F1 ⊢
    -- what is left: the list is as it is to be, later is new
    have fin : ∀ (H2 : Hp) (es' : List Ent), H2 d = some (.ins c.cD dx (dF a le ll)) → H2 le = some (.lst (es'.map fun e => V.ref e.1)) → Frm H H2 [d, le] → List.Sublist es' (es ++ [((x, r, fx) : Ent)]) → (r :: D.past).take 30 = (es'.map fun e => e.2.1).reverse →
        ∀ p, H2 p = none → ∀ H3, H3 d = some (.ins c.cD dx (dF a le p)) → (∀ b, b ≠ d → H3 b = upd H2 p (.lst []) b) → Q .non H3 := by
      intro H2 es' hd2 hle2 F2 sl ep p np H3 hd3 h3
      have npd : p ≠ d := fun e => ne_of_none hd2 np e.symm
      have npl : p ≠ le := fun e => ne_of_none hle2 np e.symm
      have F3 : Frm H H3 [d, le] := fun b o e n => by
        have nb : b ≠ d := fun z => n (by simp [z])
        have e2 := F2 b o e n
        rw [h3 b nb, upd_ne (ne_of_none e2 np)]
        exact e2
      have np0 : H p = none := F2.none np (by simp [npd, npl])
      have fz := Ox.nd
      have mE : ∀ b, b ∈ fpE es' → b ∈ fpE es ∨ b ∈ fx := fun b m => by
        obtain ⟨e, he, m⟩ := mem_fpE m
        rcases List.mem_append.mp (sl.subset he) with he | he
        · exact .inl (in_fpE he m)
        · obtain rfl := List.mem_singleton.mp he
          exact .inr m
      have keepX : ∀ b o, b ∈ fx → H b = some o → H3 b = some o := fun b o m e => F3 b o e fun n => apx b m (by
        simp only [List.mem_cons, List.not_mem_nil, or_false] at n
        rcases n with rfl | rfl <;> simp)
      have keepE : ∀ e, e ∈ es' → Own c H3 e.1 e.2.1 e.2.2 := fun e he => by
        rcases List.mem_append.mp (sl.subset he) with he | he
        · refine (kk.E e he).keep fun b o m h => F3 b o h fun n => ?_
          simp only [List.mem_cons, List.not_mem_nil, or_false] at n
          rcases n with rfl | rfl
          · exact x7 (in_fpE he m)
          · exact x8 (in_fpE he m)
        · obtain rfl := List.mem_singleton.mp he
          exact Ox.keep keepX
      have keepN : Own c H3 a D.now fp := kk.now.keep fun b o m h => F3 b o h fun n => by
        simp only [List.mem_cons, List.not_mem_nil, or_false] at n
        rcases n with rfl | rfl
        · exact x4 m
        · exact x5 m
      refine k H3 p es' ⟨⟨dx, hd3⟩, keepN, ?_, ?_, keepE, fun e he => (by cases he), ep, rfl, ?_⟩ F3 np0 mE
      · rw [h3 le (Ne.symm x1), upd_ne (Ne.symm npl)]; exact hle2
      · rw [h3 p npd, upd_same]; rfl
      · have sl2 : List.Sublist (fpE es') (fpE (es ++ [((x, r, fx) : Ent)])) := sub_flat sl
        have nd := kk.nd
        have nx : ∀ b, b ∈ fx → b ≠ d ∧ b ≠ le ∧ b ∉ fp ∧ b ∉ fpE es := fun b m => by
          have := apx b m
          simp only [List.mem_cons, List.mem_append, not_or] at this
          exact ⟨this.1, this.2.1, this.2.2.2.1, this.2.2.2.2.1⟩
        have big : (d :: le :: p :: (fp ++ fpE (es ++ [((x, r, fx) : Ent)]))).Nodup := by
          have pp : p ∉ fp ∧ p ∉ fpE es ∧ p ∉ fx := by
            refine ⟨fun m => ?_, fun m => ?_, fun m => ?_⟩
            · obtain ⟨o, ho⟩ := kk.now.some_of m
              rw [np0] at ho; cases ho
            · obtain ⟨e, he, m⟩ := mem_fpE m
              obtain ⟨o, ho⟩ := (kk.E e he).some_of m
              rw [np0] at ho; cases ho
            · obtain ⟨o, ho⟩ := Ox.some_of m
              rw [np0] at ho; cases ho
          have ef : fpE (es ++ [((x, r, fx) : Ent)]) = fpE es ++ fx := by
            show List.flatMap _ (es ++ _) = _
            rw [List.flatMap_append]
            simp
          rw [ef]
          unfold fpD at nd
          generalize fpE es = AA at nd nx pp x13 ⊢
          simp only [List.nodup_cons, List.nodup_append, List.mem_cons, List.mem_append, not_or] at nd ⊢
          obtain ⟨⟨h1, h2, h3, h4, h5⟩, ⟨h6, h7, h8, h9⟩, ⟨h10, h11, h12⟩, h13, ⟨h14, h15, h16⟩, h17⟩ := nd
          refine ⟨⟨h1, Ne.symm npd, h3, h4, fun m => (nx d m).1 rfl⟩, ⟨Ne.symm npl, h7, h8, fun m => (nx le m).2.1 rfl⟩, ⟨pp.1, pp.2.1, pp.2.2⟩, h13, ⟨h14, fz, fun b m q n e => (nx q n).2.2.2 (e ▸ m)⟩, fun b m q n e => ?_⟩
          subst e
          rcases n with n | n
          · exact h17 b m b (.inl n) rfl
          · exact (nx b n).2.2.1 m
        have sl3 : List.Sublist (d :: le :: p :: (fp ++ (fpE es' ++ fpE []))) (d :: le :: p :: (fp ++ fpE (es ++ [((x, r, fx) : Ent)]))) := by
          refine ((((List.Sublist.refl fp).append ?_).cons_cons p).cons_cons le).cons_cons d
          show List.Sublist (fpE es' ++ []) _
          rw [List.append_nil]
          exact sl2
        exact big.sublist sl3
    walk_at "rd"
    refine q_len (SqL.of hle1) ?_
    walk_at "rd"
    refine q_ite (fun e => ?_) (fun e => ?_)
    · have h30' : es.length = 30 := by simp at e; omega
      walk_at "rd"
      refine ⟨.inl ⟨rfl, _, SqL.of hle1⟩, ?_⟩
      walk_at "rd"
      have hne : 0 < ((es ++ [((x, r, fx) : Ent)]).map fun e => V.ref e.1).length := by simp
      refine ⟨le, _, 0, 0, _, rfl, rfl, hle1, by decide, by decide, ?_, List.getElem?_eq_getElem hne, ?_⟩
      · unfold seqIndex?
        simp
      have e2 : ((es ++ [((x, r, fx) : Ent)]).map fun e => V.ref e.1).eraseIdx 0 = ((es ++ [((x, r, fx) : Ent)]).tail).map fun e => V.ref e.1 := by
        rw [List.eraseIdx_zero, List.map_tail]
      rw [e2]
      have hd2 : (upd H1 le (.lst (((es ++ [((x, r, fx) : Ent)]).tail).map fun e => V.ref e.1))) d = some (.ins c.cD dx (dF a le ll)) := by rw [upd_ne x1]; exact hd
      have hle2 : (upd H1 le (.lst (((es ++ [((x, r, fx) : Ent)]).tail).map fun e => V.ref e.1))) le = some (.lst (((es ++ [((x, r, fx) : Ent)]).tail).map fun e => V.ref e.1)) := upd_same
      have F2 : Frm H (upd H1 le (.lst (((es ++ [((x, r, fx) : Ent)]).tail).map fun e => V.ref e.1))) [d, le] := F1.trans (Frm.upd (by simp))
      generalize upd H1 le (.lst (((es ++ [((x, r, fx) : Ent)]).tail).map fun e => V.ref e.1)) = H2 at hd2 hle2 F2 ⊢
      have fin := fin H2 _ hd2 hle2 F2 (List.tail_sublist _) (by rw [kk.past]; exact take_past (ent := (x, r, fx)) h30')
      walk_at "rd"
      refine ⟨Nat.zero_le _, fun p np => ?_⟩
      walk_at "rd"
      refine q_setD (a' := a) (le' := le) (ll' := p) T (by rw [upd_ne (ne_of_none hd2 np)]; exact hd2) (by simp [dN]) rfl fun H3 hd3 h3 => ?_
      exact fin p np H3 hd3 h3
    · have h30' : es.length < 30 := by simp at e; omega
      have fin := fin H1 _ hd hle1 F1 (List.Sublist.refl _) (by
        rw [kk.past, List.map_append, List.reverse_append]
        refine (List.take_of_length_le ?_).trans rfl
        simp
        omega)
      walk_at "rd"
      refine ⟨Nat.zero_le _, fun p np => ?_⟩
      walk_at "rd"
      refine q_setD (a' := a) (le' := le) (ll' := p) T (by rw [upd_ne (ne_of_none hd np)]; exact hd) (by simp [dN]) rfl fun H3 hd3 h3 => ?_
      exact fin p np H3 hd3 h3
end
end Ir
set_option Elab.async false
set_option maxRecDepth 100000
set_option maxHeartbeats 2000000
namespace Ir
open PySem PySem.Spec PyProof.Rows L2
local macro_rules | `(tactic| walk_at "rd1") => `(tactic| with_reducible first
  | refine q_seq ?_ | refine q_next ?_ | refine q_if ?_ | refine q_test ?_ | refine q_testB ?_ | refine q_op ?_ | refine q_c ?_ | refine q_i0 ?_ | refine q_eq ?_ | refine q_ne ?_ | refine q_bl ?_ | refine q_ret ?_ | refine q_lst ?_ | refine q_tup ?_ | refine q_cons ?_ | refine q_nil ?_
  | refine q_and ?_ | refine q_or ?_ | refine q_not ?_ | refine q_andV ?_ | refine q_orV ?_ | refine q_set ?_ | refine q_drop ?_ | refine q_call ?_ | refine q_cb ?_ | refine q_make ?_ | refine q_forR ?_ | refine q_forL ?_ | refine q_forE ?_ | refine q_gname ?_ | refine q_bm ?_ | refine q_add ?_ | refine q_sub ?_ | refine q_fld ?_ | refine q_sfld ?_ | refine q_saug ?_ | refine q_ifE ?_ | refine q_notV ?_ | refine q_sl ?_ | refine q_part ?_ | refine q_int ?_ | refine q_yes ?_ | refine q_bm0 ?_)
set_option hygiene false in
local macro_rules | `(tactic| walk_at "rd") => `(tactic| repeat (first | walk_at "rd1" | refine q_var rfl ?_ | refine q_R T hi rfl ?_ | refine q_D T hd rfl ?_ | dsimp only))
local macro_rules | `(tactic| walk_at "ifs") => `(tactic| repeat (first | rw [if_pos (by omega)] | rw [if_neg (by omega)]))
local macro_rules | `(tactic| walk_at "to") => `(tactic| repeat (first | walk_at "rd1" | dsimp only))
theorem perm_mv (A B C E : List Addr) : List.Perm (C ++ (B ++ (E ++ A))) (A ++ ((B ++ C) ++ E)) := by
  rw [List.perm_iff_count]
  intro x
  simp only [List.count_append]
  omega
theorem perm_mv2 (A B C E : List Addr) : List.Perm (C ++ ((B ++ A) ++ E)) (A ++ (B ++ (E ++ C))) := by
  rw [List.perm_iff_count]
  intro x
  simp only [List.count_append]
  omega
theorem fpE_snoc (es : List Ent) (e : Ent) : fpE (es ++ [e]) = fpE es ++ e.2.2 := by
  show List.flatMap _ (es ++ _) = _
  rw [List.flatMap_append]
  simp
theorem snoc_of {α : Type} {l : List α} (h : l ≠ []) : ∃ m x, l = m ++ [x] := ⟨l.dropLast, l.getLast h, (List.dropLast_concat_getLast h).symm⟩
section
variable {P : Program} {w : World} {K : PySem.W.Frag} {mg : Str → Option Value} {base : Heap} {c : Cl}
/-- a call on the desk alone -/
def spD (c : Cl) (call : List Nat → Km424.Call) (k : Nat) : Sp := fun vs H Q _ => ∃ (d : Addr) (D : Km424.Desk) (F : List Addr) (ns : List Nat), vs = .ref d :: ns.map (fun n : Nat => V.int n) ∧ ns.length = k ∧ OwnD c H d D F ∧ Wd D ∧ FinD c H d (actL D (call ns)) F Q
abbrev s_ir_back : Stmt := top 39
theorem sc_ir_back : FnScope ["desk"] ["desk"] (defScope s_ir_back) := ⟨rfl, rfl, rfl, by decide +kernel, rfl, by decide +kernel, by decide +kernel⟩
theorem ok_ir_back (F : Df K mg "ir_back" s_ir_back ["desk"]) (T : Txt K mg c) : Cal P w K mg base 1 "ir_back" ["desk"] (spD c (fun _ => .back) 0) := by
  refine F.ok sc_ir_back (fun vs H Q E h => ?_) (fun f cdv A outer s H vs Q E hr h => ?_)
  · obtain ⟨d, D, F, ns, rfl, hn, _⟩ := h
    simp [hn]
  · obtain ⟨d, D, F, ns, rfl, hn, ⟨a, le, ll, fp, es, ls, kk, rfl⟩, wd, k⟩ := h
    obtain rfl := List.eq_nil_of_length_eq_zero hn
    refine ⟨_, pss_cons (ps_if (pt_cmpR op_eq (pe_callB call_len_seq (by rfl) T.b_len PySem.boot_len (pa_cons (pe_fld (pv 0) rfl) pa_nil)) pe_int (nomark _)) (pss_one (ps_ret (pe_lst (pa_cons (pe_num rfl T.c_NOT_THERE) pa_nil)))) pss_nil)
      (pss_cons (ps_expr (pe_bm PySem.F.plainAttrs_list PySem.F.slot_list_append PySem.F.type_list_append mt_append (pe_fld (pv 0) rfl) (pa_cons (pe_fld (pv 0) rfl) pa_nil)))
      (pss_cons (ps_fld (pv 0) (pe_bm0 PySem.F.plainAttrs_list PySem.F.slot_list_pop PySem.F.type_list_pop mt_pop (pe_fld (pv 0) rfl)) rfl)
      (pss_one (ps_ret (pe_lst (pa_cons (pe_callB call_len_seq (by rfl) T.b_len PySem.boot_len (pa_cons (pe_fld (pv 0) rfl) pa_nil)) pa_nil)))))), ?_⟩
    obtain ⟨⟨x1, x2, x3⟩, ⟨x4, x5, x6⟩, ⟨x7, x8, x9⟩, ⟨x10, x11, x12⟩, x13, x14⟩ := kk.apart
    obtain ⟨dx, hd⟩ := kk.ins
    have hle := kk.lE
    have hll := kk.lL
    have hlen := wd.len
    rw [kk.past, kk.fut] at hlen
    simp only [List.length_reverse, List.length_map] at hlen
    walk_at "rd"
    refine q_len (SqL.of hle) ?_
    walk_at "rd"
    refine q_ite (fun e1 => ?_) (fun e1 => ?_)
    · walk_at "rd"
      have e0 : es = [] := by simpa using e1
      subst e0
      have ep : D.past = [] := kk.past
      have ea : actL D .back = (D, [-2]) := by
        unfold actL Km424.act
        rw [ep]
        rfl
      exact k.done kk Frm.refl (M := []) (fun b m => by cases m) (fun b m => .inl m) ea rfl le1
    have ne : es ≠ [] := fun e => e1 (by rw [e]; rfl)
    obtain ⟨es0, e, rfl⟩ := snoc_of ne
    clear ne e1
    have ep : D.past = e.2.1 :: (es0.map fun e => e.2.1).reverse := by
      rw [kk.past, List.map_append, List.reverse_append]
      rfl
    have ea : actL D .back = (⟨e.2.1, (es0.map fun e => e.2.1).reverse, D.now :: D.future⟩, [((es0.length : Nat) : Int)]) := by
      unfold actL Km424.act
      rw [ep]
      show (_, [(((es0.map fun e => e.2.1).reverse.length : Nat) : Int)]) = _
      rw [List.length_reverse, List.length_map]
    walk_at "rd"
    refine ⟨.inl ⟨rfl, _, SqL.of hll⟩, ?_⟩
    walk_at "rd"
    refine ⟨ll, _, _, rfl, rfl, hll, ?_, ?_⟩
    · rw [List.length_map]
      exact Nat.lt_of_le_of_lt (show ls.length ≤ 30 by omega) (by decide)
    have el : (ls.map fun e => V.ref e.1) ++ [V.ref a] = (ls ++ [((a, D.now, fp) : Ent)]).map fun e => V.ref e.1 := by rw [List.map_append]; rfl
    rw [el]
    have hd1 : (upd H ll (.lst ((ls ++ [((a, D.now, fp) : Ent)]).map fun e => V.ref e.1))) d = some (.ins c.cD dx (dF a le ll)) := by rw [upd_ne x2]; exact hd
    have hle1 : (upd H ll (.lst ((ls ++ [((a, D.now, fp) : Ent)]).map fun e => V.ref e.1))) le = some (.lst ((es0 ++ [e]).map fun e => V.ref e.1)) := by rw [upd_ne x3]; exact hle
    have hll1 : (upd H ll (.lst ((ls ++ [((a, D.now, fp) : Ent)]).map fun e => V.ref e.1))) ll = some (.lst ((ls ++ [((a, D.now, fp) : Ent)]).map fun e => V.ref e.1)) := upd_same
    have F1 : Frm H (upd H ll (.lst ((ls ++ [((a, D.now, fp) : Ent)]).map fun e => V.ref e.1))) [d, le, ll] := Frm.upd (by simp)
    clear hd hle hll
    generalize upd H ll (.lst ((ls ++ [((a, D.now, fp) : Ent)]).map fun e => V.ref e.1)) = H1 at hd1 hle1 hll1 F1 ⊢
    have hd := hd1
    walk_at "rd"
    refine ⟨.inl ⟨rfl, _, SqL.of hle1⟩, ?_⟩
    refine ⟨le, _, V.ref e.1, rfl, rfl, hle1, by simp, ?_⟩
    have e2 : ((es0 ++ [e]).map fun e => V.ref e.1).dropLast = es0.map fun e => V.ref e.1 := by rw [List.map_append]; simp
    rw [e2]
    have hd2 : (upd H1 le (.lst (es0.map fun e => V.ref e.1))) d = some (.ins c.cD dx (dF a le ll)) := by rw [upd_ne x1]; exact hd1
    have hle2 : (upd H1 le (.lst (es0.map fun e => V.ref e.1))) le = some (.lst (es0.map fun e => V.ref e.1)) := upd_same
    have hll2 : (upd H1 le (.lst (es0.map fun e => V.ref e.1))) ll = some (.lst ((ls ++ [((a, D.now, fp) : Ent)]).map fun e => V.ref e.1)) := by rw [upd_ne (Ne.symm x3)]; exact hll1
    have F2 : Frm H (upd H1 le (.lst (es0.map fun e => V.ref e.1))) [d, le, ll] := F1.trans (Frm.upd (by simp))
    clear hd
    generalize upd H1 le (.lst (es0.map fun e => V.ref e.1)) = H2 at hd2 hle2 hll2 F2 ⊢
    walk_at "rd"
    refine q_setD (a' := e.1) (le' := le) (ll' := ll) T hd2 (by simp [dN]) rfl fun H3 hd h3 => ?_
    have hle3 := (h3 le (Ne.symm x1)).trans hle2
    have hll3 := (h3 ll (Ne.symm x2)).trans hll2
    have F3 : Frm H H3 [d, le, ll] := F2.trans ((Frm.of1 h3).mono (by simp))
    clear h3
    walk_at "rd"
    refine q_len (SqL.of hle3) ?_
    walk_at "rd"
    rw [List.length_map]
    have keep : ∀ b o, (b ∈ fp ∨ b ∈ fpE (es0 ++ [e]) ∨ b ∈ fpE ls) → H b = some o → H3 b = some o := fun b o m h => F3 b o h fun n => by
      simp only [List.mem_cons, List.not_mem_nil, or_false] at n
      rcases n with rfl | rfl | rfl
      · rcases m with m | m | m
        · exact x4 m
        · exact x7 m
        · exact x10 m
      · rcases m with m | m | m
        · exact x5 m
        · exact x8 m
        · exact x11 m
      · rcases m with m | m | m
        · exact x6 m
        · exact x9 m
        · exact x12 m
    have pm : List.Perm (fpD d le ll e.2.2 es0 (ls ++ [((a, D.now, fp) : Ent)])) (fpD d le ll fp (es0 ++ [e]) ls) := by
      unfold fpD
      rw [fpE_snoc, fpE_snoc]
      exact (((perm_mv fp (fpE es0) e.2.2 (fpE ls)).cons ll).cons le).cons d
    have K3 : Dk c H3 d ⟨e.2.1, (es0.map fun e => e.2.1).reverse, D.now :: D.future⟩ e.1 le ll e.2.2 es0 (ls ++ [((a, D.now, fp) : Ent)]) := by
      refine ⟨⟨dx, hd⟩, (kk.E e (by simp)).keep fun b o m h => keep b o (.inr (.inl (in_fpE (by simp) m))) h, hle3, hll3, fun x hx => (kk.E x (by simp [hx])).keep fun b o m h => keep b o (.inr (.inl (in_fpE (e := x) (by simp [hx]) m))) h, fun x hx => ?_, rfl, ?_, pm.nodup_iff.mpr kk.nd⟩
      · rcases List.mem_append.mp hx with hx | hx
        · exact (kk.L x hx).keep fun b o m h => keep b o (.inr (.inr (in_fpE hx m))) h
        · obtain rfl := List.mem_singleton.mp hx
          exact kk.now.keep fun b o m h => keep b o (.inl m) h
      · rw [List.map_append, List.reverse_append, kk.fut]
        rfl
    refine k.done K3 F3 (fun b m => ?_) (fun b m => .inl (pm.mem_iff.mp m)) ea rfl le1
    simp only [List.mem_cons, List.not_mem_nil, or_false] at m
    rcases m with rfl | rfl | rfl
    · exact ⟨by simp, _, hd⟩
    · exact ⟨by simp, _, hle3⟩
    · exact ⟨by simp, _, hll3⟩
abbrev s_ir_again : Stmt := top 40
theorem sc_ir_again : FnScope ["desk"] ["desk"] (defScope s_ir_again) := ⟨rfl, rfl, rfl, by decide +kernel, rfl, by decide +kernel, by decide +kernel⟩
theorem ok_ir_again (F : Df K mg "ir_again" s_ir_again ["desk"]) (T : Txt K mg c) : Cal P w K mg base 1 "ir_again" ["desk"] (spD c (fun _ => .again) 0) := by
  refine F.ok sc_ir_again (fun vs H Q E h => ?_) (fun f cdv A outer s H vs Q E hr h => ?_)
  · obtain ⟨d, D, F, ns, rfl, hn, _⟩ := h
    simp [hn]
  · obtain ⟨d, D, F, ns, rfl, hn, ⟨a, le, ll, fp, es, ls, kk, rfl⟩, wd, k⟩ := h
    obtain rfl := List.eq_nil_of_length_eq_zero hn
    refine ⟨_, pss_cons (ps_if (pt_cmpR op_eq (pe_callB call_len_seq (by rfl) T.b_len PySem.boot_len (pa_cons (pe_fld (pv 0) rfl) pa_nil)) pe_int (nomark _)) (pss_one (ps_ret (pe_lst (pa_cons (pe_num rfl T.c_NOT_THERE) pa_nil)))) pss_nil)
      (pss_cons (ps_expr (pe_bm PySem.F.plainAttrs_list PySem.F.slot_list_append PySem.F.type_list_append mt_append (pe_fld (pv 0) rfl) (pa_cons (pe_fld (pv 0) rfl) pa_nil)))
      (pss_cons (ps_fld (pv 0) (pe_bm0 PySem.F.plainAttrs_list PySem.F.slot_list_pop PySem.F.type_list_pop mt_pop (pe_fld (pv 0) rfl)) rfl)
      (pss_one (ps_ret (pe_lst (pa_cons (pe_callB call_len_seq (by rfl) T.b_len PySem.boot_len (pa_cons (pe_fld (pv 0) rfl) pa_nil)) pa_nil)))))), ?_⟩
    obtain ⟨⟨x1, x2, x3⟩, ⟨x4, x5, x6⟩, ⟨x7, x8, x9⟩, ⟨x10, x11, x12⟩, x13, x14⟩ := kk.apart
    obtain ⟨dx, hd⟩ := kk.ins
    have hle := kk.lE
    have hll := kk.lL
    have hlen := wd.len
    have hpl : D.past.length = es.length := by rw [kk.past]; simp
    rw [kk.past, kk.fut] at hlen
    simp only [List.length_reverse, List.length_map] at hlen
    walk_at "rd"
    refine q_len (SqL.of hll) ?_
    walk_at "rd"
    refine q_ite (fun e1 => ?_) (fun e1 => ?_)
    · walk_at "rd"
      have e0 : ls = [] := by simpa using e1
      subst e0
      have ep : D.future = [] := kk.fut
      have ea : actL D .again = (D, [-2]) := by
        unfold actL Km424.act
        rw [ep]
        rfl
      exact k.done kk Frm.refl (M := []) (fun b m => by cases m) (fun b m => .inl m) ea rfl le1
    have ne : ls ≠ [] := fun e => e1 (by rw [e]; rfl)
    obtain ⟨ls0, e, rfl⟩ := snoc_of ne
    clear ne e1
    rw [List.length_append, List.length_singleton] at hlen
    have ep : D.future = e.2.1 :: (ls0.map fun e => e.2.1).reverse := by
      rw [kk.fut, List.map_append, List.reverse_append]
      rfl
    have ea : actL D .again = (⟨e.2.1, D.now :: D.past, (ls0.map fun e => e.2.1).reverse⟩, [((ls0.length : Nat) : Int)]) := by
      unfold actL Km424.act
      rw [ep]
      show (Km424.Desk.mk _ ((D.now :: D.past).take 30) _, [(((ls0.map fun e => e.2.1).reverse.length : Nat) : Int)]) = _
      rw [List.length_reverse, List.length_map, List.take_of_length_le (by rw [List.length_cons]; omega)]
    walk_at "rd"
    refine ⟨.inl ⟨rfl, _, SqL.of hle⟩, ?_⟩
    walk_at "rd"
    refine ⟨le, _, _, rfl, rfl, hle, ?_, ?_⟩
    · rw [List.length_map]
      exact Nat.lt_of_le_of_lt (show es.length ≤ 30 by omega) (by decide)
    have el : (es.map fun e => V.ref e.1) ++ [V.ref a] = (es ++ [((a, D.now, fp) : Ent)]).map fun e => V.ref e.1 := by rw [List.map_append]; rfl
    rw [el]
    have hd1 : (upd H le (.lst ((es ++ [((a, D.now, fp) : Ent)]).map fun e => V.ref e.1))) d = some (.ins c.cD dx (dF a le ll)) := by rw [upd_ne x1]; exact hd
    have hll1 : (upd H le (.lst ((es ++ [((a, D.now, fp) : Ent)]).map fun e => V.ref e.1))) ll = some (.lst ((ls0 ++ [e]).map fun e => V.ref e.1)) := by rw [upd_ne (Ne.symm x3)]; exact hll
    have hle1 : (upd H le (.lst ((es ++ [((a, D.now, fp) : Ent)]).map fun e => V.ref e.1))) le = some (.lst ((es ++ [((a, D.now, fp) : Ent)]).map fun e => V.ref e.1)) := upd_same
    have F1 : Frm H (upd H le (.lst ((es ++ [((a, D.now, fp) : Ent)]).map fun e => V.ref e.1))) [d, le, ll] := Frm.upd (by simp)
    clear hd hle hll
    generalize upd H le (.lst ((es ++ [((a, D.now, fp) : Ent)]).map fun e => V.ref e.1)) = H1 at hd1 hle1 hll1 F1 ⊢
    have hd := hd1
    walk_at "rd"
    refine ⟨.inl ⟨rfl, _, SqL.of hll1⟩, ?_⟩
    refine ⟨ll, _, V.ref e.1, rfl, rfl, hll1, by simp, ?_⟩
    have e2 : ((ls0 ++ [e]).map fun e => V.ref e.1).dropLast = ls0.map fun e => V.ref e.1 := by rw [List.map_append]; simp
    rw [e2]
    have hd2 : (upd H1 ll (.lst (ls0.map fun e => V.ref e.1))) d = some (.ins c.cD dx (dF a le ll)) := by rw [upd_ne x2]; exact hd1
    have hll2 : (upd H1 ll (.lst (ls0.map fun e => V.ref e.1))) ll = some (.lst (ls0.map fun e => V.ref e.1)) := upd_same
    have hle2 : (upd H1 ll (.lst (ls0.map fun e => V.ref e.1))) le = some (.lst ((es ++ [((a, D.now, fp) : Ent)]).map fun e => V.ref e.1)) := by rw [upd_ne x3]; exact hle1
    have F2 : Frm H (upd H1 ll (.lst (ls0.map fun e => V.ref e.1))) [d, le, ll] := F1.trans (Frm.upd (by simp))
    clear hd
    generalize upd H1 ll (.lst (ls0.map fun e => V.ref e.1)) = H2 at hd2 hle2 hll2 F2 ⊢
    walk_at "rd"
    refine q_setD (a' := e.1) (le' := le) (ll' := ll) T hd2 (by simp [dN]) rfl fun H3 hd h3 => ?_
    have hle3 := (h3 le (Ne.symm x1)).trans hle2
    have hll3 := (h3 ll (Ne.symm x2)).trans hll2
    have F3 : Frm H H3 [d, le, ll] := F2.trans ((Frm.of1 h3).mono (by simp))
    clear h3
    walk_at "rd"
    refine q_len (SqL.of hll3) ?_
    walk_at "rd"
    rw [List.length_map]
    have keep : ∀ b o, (b ∈ fp ∨ b ∈ fpE es ∨ b ∈ fpE (ls0 ++ [e])) → H b = some o → H3 b = some o := fun b o m h => F3 b o h fun n => by
      simp only [List.mem_cons, List.not_mem_nil, or_false] at n
      rcases n with rfl | rfl | rfl
      · rcases m with m | m | m
        · exact x4 m
        · exact x7 m
        · exact x10 m
      · rcases m with m | m | m
        · exact x5 m
        · exact x8 m
        · exact x11 m
      · rcases m with m | m | m
        · exact x6 m
        · exact x9 m
        · exact x12 m
    have pm : List.Perm (fpD d le ll e.2.2 (es ++ [((a, D.now, fp) : Ent)]) ls0) (fpD d le ll fp es (ls0 ++ [e])) := by
      unfold fpD
      rw [fpE_snoc, fpE_snoc]
      exact (((perm_mv2 fp (fpE es) e.2.2 (fpE ls0)).cons ll).cons le).cons d
    have K3 : Dk c H3 d ⟨e.2.1, D.now :: D.past, (ls0.map fun e => e.2.1).reverse⟩ e.1 le ll e.2.2 (es ++ [((a, D.now, fp) : Ent)]) ls0 := by
      refine ⟨⟨dx, hd⟩, (kk.L e (by simp)).keep fun b o m h => keep b o (.inr (.inr (in_fpE (by simp) m))) h, hle3, hll3, fun x hx => ?_, fun x hx => (kk.L x (by simp [hx])).keep fun b o m h => keep b o (.inr (.inr (in_fpE (e := x) (by simp [hx]) m))) h, ?_, rfl, pm.nodup_iff.mpr kk.nd⟩
      · rcases List.mem_append.mp hx with hx | hx
        · exact (kk.E x hx).keep fun b o m h => keep b o (.inr (.inl (in_fpE hx m))) h
        · obtain rfl := List.mem_singleton.mp hx
          exact kk.now.keep fun b o m h => keep b o (.inl m) h
      · rw [List.map_append, List.reverse_append, kk.past]
        rfl
    refine k.done K3 F3 (fun b m => ?_) (fun b m => .inl (pm.mem_iff.mp m)) ea rfl le1
    simp only [List.mem_cons, List.not_mem_nil, or_false] at m
    rcases m with rfl | rfl | rfl
    · exact ⟨by simp, _, hd⟩
    · exact ⟨by simp, _, hle3⟩
    · exact ⟨by simp, _, hll3⟩
theorem sum_all (l : List Km424.Skates) : (l.map fun m => ((m.all : Nat) : Int)).sum = ((Km424.sum (l.map fun s => s.all) : Nat) : Int) := by
  have h := sum_if (fun _ : Km424.Skates => true) (fun s => s.all) l
  rw [List.filter_eq_self.mpr (by simp)] at h
  exact h
abbrev s_ir_state : Stmt := top 41
theorem sc_ir_state : FnScope ["desk", "rink", "pairs", "size"] ["desk"] (defScope s_ir_state) := ⟨rfl, rfl, rfl, by decide +kernel, rfl, by decide +kernel, by decide +kernel⟩
theorem ok_ir_state (F : Df K mg "ir_state" s_ir_state ["desk"]) (T : Txt K mg c) (C_pairs_in_all : Cal P w K mg base 1 "pairs_in_all" ["pairs"] (spP c)) : Cal P w K mg base 2 "ir_state" ["desk"] (spD c (fun _ => .state) 0) := by
  refine F.ok sc_ir_state (fun vs H Q E h => ?_) (fun f cdv A outer s H vs Q E hr h => ?_)
  · obtain ⟨d, D, F, ns, rfl, hn, _⟩ := h
    simp [hn]
  · obtain ⟨d, D, F, ns, rfl, hn, ⟨a, le, ll, fp, es, ls, kk, rfl⟩, wd, k⟩ := h
    obtain rfl := List.eq_nil_of_length_eq_zero hn
    refine ⟨_, pss_cons (ps_set (i := 1) sc_ir_state.nd rfl (Or.inl rfl) (pe_fld (pv 0) rfl))
      (pss_cons (ps_set (i := 2) sc_ir_state.nd rfl (Or.inl rfl) (pe_callB (cr_sum rfl) (by rfl) T.b_sum boot_sum (pa_cons (pe_lc rfl sc_ir_state.nd (pi_list (pe_fld (pv 1) rfl)) (blkOk_by (own := [("size", 3)]) rfl) (fun _ _ _ _ _ => (pg_name (i := 3) sc_ir_state.nd rfl (Or.inl rfl))) (fun _ _ _ _ _ => pts_nil) (fun _ _ _ _ _ => (pe_fn C_pairs_in_all (hr.mono (by decide)) rfl (pa_cons (pv 3) pa_nil)))) pa_nil)))
      (pss_one (ps_ret (pe_lst (pa_cons (pe_fld (pv 1) rfl) (pa_cons (pe_callB call_len_seq (by rfl) T.b_len PySem.boot_len (pa_cons (pe_fld (pv 1) rfl) pa_nil)) (pa_cons (pe_callB call_len_seq (by rfl) T.b_len PySem.boot_len (pa_cons (pe_fld (pv 1) rfl) pa_nil)) (pa_cons (pv 2) (pa_cons (pe_callB call_len_seq (by rfl) T.b_len PySem.boot_len (pa_cons (pe_fld (pv 0) rfl) pa_nil)) (pa_cons (pe_callB call_len_seq (by rfl) T.b_len PySem.boot_len (pa_cons (pe_fld (pv 0) rfl) pa_nil)) pa_nil)))))))))), ?_⟩
    obtain ⟨lm, lz, lq, ms, ss, qs, R, rfl⟩ := kk.now
    obtain ⟨dx, hd⟩ := kk.ins
    obtain ⟨dr, hi⟩ := R.ins
    have wf := wd.now.wf
    walk_at "rd"
    refine q_lc ?_
    walk_at "rd"
    refine ⟨lz, rfl, ⟨_, SqL.of R.S.lst⟩, lc_pure (ys := D.now.skates) (fun _ => true) (fun m => .int (m.all : Nat)) (SqL.of R.S.lst) (by rw [List.length_map, R.S.len]) (by rw [List.length_map, R.S.len, wf.nS]; decide) ?_ ?_ ?_⟩
    · intro j x y H' Q' hx hy s q
      exact q
    · intro j x y H' Q' hx hy hp s q
      obtain ⟨b, hb, rfl⟩ := map_at hx
      obtain ⟨dy, hM⟩ := R.S.obj j b y hb hy
      walk_at "rd"
      exact ⟨b, dy, y, rfl, s _ _ hM, (wf.sk y (List.mem_of_getElem? hy)).1, q⟩
    · intro D1 H' hD s hl
      have R := R.same s
      have hi := s _ _ hi
      have kk := kk.same s
      have hd := s _ _ hd
      walk_at "rd"
      refine ⟨D1, D.now.skates.map fun m => ((m.all : Nat) : Int), rfl, SqL.of (by rw [hl, List.filter_eq_self.mpr (by simp), List.map_map]; rfl), ?_⟩
      rw [sum_all]
      walk_at "rd"
      refine q_len (SqL.of R.M.lst) ?_
      walk_at "rd"
      refine q_len (SqL.of R.Q.lst) ?_
      walk_at "rd"
      refine q_len (SqL.of kk.lE) ?_
      walk_at "rd"
      refine q_len (SqL.of kk.lL) ?_
      walk_at "rd"
      have ea : actL D .state = (D, [((D.now.time : Nat) : Int), ((ms.length : Nat) : Int), ((qs.length : Nat) : Int), ((Km424.sum (D.now.skates.map fun s => s.all) : Nat) : Int), ((es.length : Nat) : Int), ((ls.length : Nat) : Int)]) := by
        have e1 : D.past.length = es.length := by rw [kk.past]; simp
        have e2 : D.future.length = ls.length := by rw [kk.fut]; simp
        rw [R.M.len, R.Q.len, ← e1, ← e2]
        rfl
      refine k.done kk (Frm.same s) (M := []) (fun b m => by cases m) (fun b m => .inl m) ea ?_ le6
      simp
def startOf : List Nat → Km424.Call
  | [x, y, z, u] => .start x y z u
  | _ => .state
theorem len4 {α : Type} {l : List α} (h : l.length = 4) : ∃ a b c d, l = [a, b, c, d] := match l, h with | [a, b, c, d], _ => ⟨a, b, c, d, rfl⟩
abbrev s_ir_start : Stmt := top 38
theorem sc_ir_start : FnScope ["desk", "base", "each", "least", "room"] ["desk", "base", "each", "least", "room"] (defScope s_ir_start) := ⟨rfl, rfl, rfl, by decide +kernel, rfl, by decide +kernel, by decide +kernel⟩
theorem ok_ir_start (F : Df K mg "ir_start" s_ir_start ["desk", "base", "each", "least", "room"]) (T : Txt K mg c) (C_Rink : Kls P w K mg base 3 "Rink" c.cR ["self", "base", "each", "least", "room"] (spRk c)) : Cal P w K mg base 5 "ir_start" ["desk", "base", "each", "least", "room"] (spD c startOf 4) := by
  refine F.ok sc_ir_start (fun vs H Q E h => ?_) (fun f cdv A outer s H vs Q E hr h => ?_)
  · obtain ⟨d, D, F, ns, rfl, hn, _⟩ := h
    simp [hn]
  · obtain ⟨d, D, F, ns, rfl, hn, ⟨a, le, ll, fp, es, ls, kk, rfl⟩, wd, k⟩ := h
    obtain ⟨x, y, z, u, rfl⟩ := len4 hn
    refine ⟨_, pss_cons (ps_if (PW.pt (pw_or (pt_cmpR op_gt (pv 1) (pe_num rfl T.c_MOST_BASE) (nomark _)) (pw_or1 (pt_cmpR op_gt (pv 2) (pe_num rfl T.c_MOST_EACH) (nomark _))))) (pss_one (ps_ret (pe_lst (pa_cons (pe_num rfl T.c_NOT_AS_TOLD) pa_nil)))) pss_nil)
      (pss_cons (ps_if (PW.pt (pw_or (pt_cmpR op_lt (pv 3) pe_int (nomark _)) (pw_or (pt_cmpR op_gt (pv 3) (pe_num rfl T.c_MOST_LEAST) (nomark _)) (pw_or (pt_cmpR op_lt (pv 4) pe_int (nomark _)) (pw_or1 (pt_cmpR op_gt (pv 4) (pe_num rfl T.c_MOST_ROOM) (nomark _))))))) (pss_one (ps_ret (pe_lst (pa_cons (pe_num rfl T.c_NOT_AS_TOLD) pa_nil)))) pss_nil)
      (pss_cons (ps_fld (pv 0) (pe_mk C_Rink (hr.mono (by decide)) rfl (pa_cons (pv 1) (pa_cons (pv 2) (pa_cons (pv 3) (pa_cons (pv 4) pa_nil))))) rfl)
      (pss_cons (ps_fld (pv 0) (pe_lst pa_nil) rfl)
      (pss_cons (ps_fld (pv 0) (pe_lst pa_nil) rfl)
      (pss_one (ps_ret (pe_lst (pa_cons pe_int pa_nil)))))))), ?_⟩
    obtain ⟨dx, hd⟩ := kk.ins
    have no : ¬ (x ≤ 1000 ∧ y ≤ 100 ∧ 1 ≤ z ∧ z ≤ 100000 ∧ 1 ≤ u ∧ u ≤ 500) → actL D (startOf [x, y, z, u]) = (D, [-22]) := fun h => by
      have e : Km424.okStart x y z u = false := by
        cases e : Km424.okStart x y z u with
        | false => rfl
        | true => exact absurd ((okStart_is x y z u).mp e) h
      unfold actL startOf
      dsimp only
      rw [Km424.act, if_pos e]
      rfl
    have out : ¬ (x ≤ 1000 ∧ y ≤ 100 ∧ 1 ≤ z ∧ z ≤ 100000 ∧ 1 ≤ u ∧ u ≤ 500) → ∀ xs : List V, xs = [V.int (-22)] → xs.length ≤ sizeLine ∧ ∀ p, H p = none → Q (.ref p) (upd H p (.lst xs)) := fun h xs ex =>
      k.done kk Frm.refl (M := []) (fun b m => by cases m) (fun b m => .inl m) (no h) (l := [-22]) ex (by rw [ex]; exact le1)
    walk_at "rd"
    refine q_ite (fun e1 => ?_) (fun e1 => ?_) <;> walk_at "rd"
    · exact out (by omega) _ rfl
    refine q_ite (fun e2 => ?_) (fun e2 => ?_) <;> walk_at "rd"
    · exact out (by omega) _ rfl
    refine q_ite (fun e3 => ?_) (fun e3 => ?_) <;> walk_at "rd"
    · exact out (by omega) _ rfl
    refine q_ite (fun e4 => ?_) (fun e4 => ?_) <;> walk_at "rd"
    · exact out (by omega) _ rfl
    refine q_ite (fun e5 => ?_) (fun e5 => ?_) <;> walk_at "rd"
    · exact out (by omega) _ rfl
    refine q_ite (fun e6 => ?_) (fun e6 => ?_) <;> walk_at "rd"
    · exact out (by omega) _ rfl
    have ea : actL D (startOf [x, y, z, u]) = (⟨Km424.opened x y z u, [], []⟩, [0]) := by
      have e : Km424.okStart x y z u = true := (okStart_is x y z u).mpr (by omega)
      unfold actL startOf
      dsimp only
      rw [Km424.act, if_neg (by rw [e]; decide)]
      rfl
    clear no out
    intro t d0 n0 m0 e0
    refine ⟨t, d0, x, y, z, u, rfl, upd_same, fun H1 ft O1 F1 fr1 => ⟨rfl, ?_⟩⟩
    have s1 : Same H H1 := fun b o e => by
      refine F1.at1 ?_ (ne_of_none e n0)
      rw [upd_ne (ne_of_none e n0), upd_ne (ne_of_none e m0)]
      exact e
    have fr : ∀ b, b ∈ ft → H b = none := fun b m => by
      rcases fr1 b m with rfl | h
      · exact n0
      · by_cases e : b = t
        · rw [e]; exact n0
        · rw [upd_ne e] at h
          by_cases e2 : b = d0
          · rw [e2]; exact m0
          · rw [upd_ne e2] at h
            exact h
    have pf : d ∉ ft := fun m => by
      have := fr d m
      rw [hd] at this
      cases this
    have hd := s1 _ _ hd
    walk_at "rd"
    refine q_setD (a' := t) (le' := le) (ll' := ll) T hd (by simp [dN]) rfl fun H2 hd h2 => ?_
    have F2 : Frm H1 H2 [d] := Frm.of1 h2
    have O2 := O1.keep (H' := H2) fun b o m e => F2.at1 e fun z => pf (z ▸ m)
    walk_at "rd"
    refine ⟨Nat.zero_le _, fun le' nle => ?_⟩
    have ple : le' ≠ d := fun e => ne_of_none hd nle e.symm
    have lef : le' ∉ ft := fun m => by
      obtain ⟨o, ho⟩ := O2.some_of m
      rw [nle] at ho
      cases ho
    have s3 : Same H2 (upd H2 le' (.lst [])) := Same.new nle
    have hle : upd H2 le' (.lst []) le' = some (.lst []) := upd_same
    generalize upd H2 le' (.lst []) = H3 at s3 hle ⊢
    have hd := s3 _ _ hd
    have O3 := O2.same s3
    walk_at "rd"
    refine q_setD (a' := t) (le' := le') (ll' := ll) T hd (by simp [dN]) rfl fun H4 hd h4 => ?_
    have F4 : Frm H3 H4 [d] := Frm.of1 h4
    have O4 := O3.keep (H' := H4) fun b o m e => F4.at1 e fun z => pf (z ▸ m)
    have hle := F4.at1 hle ple
    walk_at "rd"
    refine ⟨Nat.zero_le _, fun ll' nll => ?_⟩
    have pll : ll' ≠ d := fun e => ne_of_none hd nll e.symm
    have lll : le' ≠ ll' := ne_of_none hle nll
    have llf : ll' ∉ ft := fun m => by
      obtain ⟨o, ho⟩ := O4.some_of m
      rw [nll] at ho
      cases ho
    have s5 : Same H4 (upd H4 ll' (.lst [])) := Same.new nll
    have hll : upd H4 ll' (.lst []) ll' = some (.lst []) := upd_same
    generalize upd H4 ll' (.lst []) = H5 at s5 hll ⊢
    have hd := s5 _ _ hd
    have O5 := O4.same s5
    have hle := s5 _ _ hle
    walk_at "rd"
    refine q_setD (a' := t) (le' := le') (ll' := ll') T hd (by simp [dN]) rfl fun H6 hd h6 => ?_
    have F6 : Frm H5 H6 [d] := Frm.of1 h6
    have O6 := O5.keep (H' := H6) fun b o m e => F6.at1 e fun z => pf (z ▸ m)
    have hle := F6.at1 hle ple
    have hll := F6.at1 hll pll
    have FA : Frm H H2 [d] := (Frm.same s1).trans F2
    have FB : Frm H H4 [d] := FA.trans ((Frm.same s3).trans F4)
    have FC : Frm H H6 [d] := FB.trans ((Frm.same s5).trans F6)
    walk_at "rd"
    have K6 : Dk c H6 d ⟨Km424.opened x y z u, [], []⟩ t le' ll' ft [] [] := by
      refine ⟨⟨dx, hd⟩, O6, hle, hll, fun e he => (by cases he), fun e he => (by cases he), rfl, rfl, ?_⟩
      have nf := O6.nd
      simp only [List.nodup_cons, List.nodup_append, List.mem_cons, List.mem_append, List.flatMap_nil, List.not_mem_nil, List.append_nil, not_or, or_false]
      exact ⟨⟨fun e => ple e.symm, fun e => pll e.symm, pf⟩, ⟨lll, lef⟩, llf, nf⟩
    refine k.done K6 FC (fun b m => ?_) (fun b m => ?_) ea rfl le1
    · obtain rfl : b = d := by simpa using m
      exact ⟨by simp, _, hd⟩
    · simp only [List.mem_cons, List.mem_append, List.flatMap_nil, List.not_mem_nil, or_false] at m
      rcases m with rfl | rfl | rfl | m
      · exact .inl (by simp)
      · exact .inr (FA.none nle (by simpa using ple))
      · exact .inr (FB.none nll (by simpa using pll))
      · exact .inr (fr b m)
end
end Ir
set_option Elab.async false
set_option maxRecDepth 100000
set_option maxHeartbeats 2000000
namespace Ir
open PySem PySem.Spec PyProof.Rows L2
local macro_rules | `(tactic| walk_at "rd1") => `(tactic| with_reducible first
  | refine q_seq ?_ | refine q_next ?_ | refine q_if ?_ | refine q_test ?_ | refine q_testB ?_ | refine q_op ?_ | refine q_c ?_ | refine q_i0 ?_ | refine q_eq ?_ | refine q_ne ?_ | refine q_bl ?_ | refine q_ret ?_ | refine q_lst ?_ | refine q_tup ?_ | refine q_cons ?_ | refine q_nil ?_
  | refine q_and ?_ | refine q_or ?_ | refine q_not ?_ | refine q_andV ?_ | refine q_orV ?_ | refine q_set ?_ | refine q_drop ?_ | refine q_call ?_ | refine q_cb ?_ | refine q_make ?_ | refine q_forR ?_ | refine q_forL ?_ | refine q_forE ?_ | refine q_gname ?_ | refine q_bm ?_ | refine q_add ?_ | refine q_sub ?_ | refine q_fld ?_ | refine q_sfld ?_ | refine q_saug ?_ | refine q_ifE ?_ | refine q_notV ?_ | refine q_sl ?_ | refine q_part ?_ | refine q_int ?_ | refine q_yes ?_ | refine q_bm0 ?_)
set_option hygiene false in
local macro_rules | `(tactic| walk_at "rd") => `(tactic| repeat (first | walk_at "rd1" | refine q_var rfl ?_ | refine q_R T hi rfl ?_ | refine q_D T hd rfl ?_ | dsimp only | rw [if_pos (rfl : true = true)] | rw [if_neg Bool.false_ne_true]))
local macro_rules | `(tactic| walk_at "ifs") => `(tactic| repeat (first | rw [if_pos (by omega)] | rw [if_neg (by omega)]))
local macro_rules | `(tactic| walk_at "to") => `(tactic| repeat (first | walk_at "rd1" | dsimp only))
theorem len0 {α : Type} {l : List α} (h : l.length = 0) : l = [] := List.eq_nil_of_length_eq_zero h
section
variable {P : Program} {w : World} {K : PySem.W.Frag} {mg : Str → Option Value} {base : Heap} {c : Cl}
/-- a call on a rink by its number -/
def spDi (c : Cl) (lo hi : Nat) : Sp := fun vs H Q _ => ∃ (a : Addr) (r : Km424.Rink) (fp : List Addr) (n : Nat) (gl : Addr) (ns : List Nat), vs = [.ref a, .int (n : Nat), .ref gl] ∧ Own c H a r fp ∧ Wx r ∧ H gl = some (.lst (ns.map fun n : Nat => V.int n)) ∧ lo ≤ n ∧ n ≤ hi ∧ argN[n]? = some ns.length ∧ Fin c H a (gAll n r ns) fp Q
/-- .. that is given no numbers -/
def spDi0 (c : Cl) (lo hi : Nat) : Sp := fun vs H Q _ => ∃ (a : Addr) (r : Km424.Rink) (fp : List Addr) (n : Nat), vs = [.ref a, .int (n : Nat)] ∧ Own c H a r fp ∧ Wx r ∧ lo ≤ n ∧ n ≤ hi ∧ Fin c H a (gAll n r []) fp Q
abbrev s_change_ice : Stmt := top 98
theorem sc_change_ice : FnScope ["rink", "number", "given"] ["rink", "number", "given"] (defScope s_change_ice) := ⟨rfl, rfl, rfl, by decide +kernel, rfl, by decide +kernel, by decide +kernel⟩
theorem ok_change_ice (F : Df K mg "change_ice" s_change_ice ["rink", "number", "given"]) (T : Txt K mg c) (C_ir_machine : Cal P w K mg base 3 "ir_machine" ["rink", "cold", "cost"] (spM c gMachine 2)) (C_ir_run : Cal P w K mg base 2 "ir_run" ["rink", "k", "on"] (spM c gRun 2)) (C_ir_flood : Cal P w K mg base 1 "ir_flood" ["rink", "n"] (spM c gFlood 1)) (C_ir_shave : Cal P w K mg base 1 "ir_shave" ["rink", "n"] (spM c gShave 1)) (C_ir_drain : Cal P w K mg base 1 "ir_drain" ["rink", "n"] (spM c gDrain 1)) (C_ir_minutes : Cal P w K mg base 4 "ir_minutes" ["rink", "n"] (spM c gMinutes 1)) (C_ir_go : Cal P w K mg base 2 "ir_go" ["rink", "n"] (spM c gGo 1)) (C_ir_off : Cal P w K mg base 1 "ir_off" ["rink", "n"] (spM c gOff 1)) : Cal P w K mg base 5 "change_ice" ["rink", "number", "given"] (spDi c 1 8) := by
  refine F.ok sc_change_ice (fun vs H Q E h => ?_) (fun f cdv A outer s H vs Q E hr h => ?_)
  · obtain ⟨a, r, fp, n, gl, ns, rfl, _⟩ := h
    rfl
  · obtain ⟨a, r, fp, n, gl, ns, rfl, O, wx, hg, h1, h2, ha, k⟩ := h
    refine ⟨_, pss_cons (ps_if (pt_cmpR op_eq (pv 1) pe_int (nomark _)) (pss_one (ps_ret (pe_fn C_ir_machine (hr.mono (by decide)) rfl (pa_cons (pv 0) (pa_cons (pe_ix ix_list (pv 2) pe_int (fun _ _ => rfl)) (pa_cons (pe_ix ix_list (pv 2) pe_int (fun _ _ => rfl)) pa_nil)))))) pss_nil)
      (pss_cons (ps_if (pt_cmpR op_eq (pv 1) pe_int (nomark _)) (pss_one (ps_ret (pe_fn C_ir_run (hr.mono (by decide)) rfl (pa_cons (pv 0) (pa_cons (pe_ix ix_list (pv 2) pe_int (fun _ _ => rfl)) (pa_cons (pe_ix ix_list (pv 2) pe_int (fun _ _ => rfl)) pa_nil)))))) pss_nil)
      (pss_cons (ps_if (pt_cmpR op_eq (pv 1) pe_int (nomark _)) (pss_one (ps_ret (pe_fn C_ir_flood (hr.mono (by decide)) rfl (pa_cons (pv 0) (pa_cons (pe_ix ix_list (pv 2) pe_int (fun _ _ => rfl)) pa_nil))))) pss_nil)
      (pss_cons (ps_if (pt_cmpR op_eq (pv 1) pe_int (nomark _)) (pss_one (ps_ret (pe_fn C_ir_shave (hr.mono (by decide)) rfl (pa_cons (pv 0) (pa_cons (pe_ix ix_list (pv 2) pe_int (fun _ _ => rfl)) pa_nil))))) pss_nil)
      (pss_cons (ps_if (pt_cmpR op_eq (pv 1) pe_int (nomark _)) (pss_one (ps_ret (pe_fn C_ir_drain (hr.mono (by decide)) rfl (pa_cons (pv 0) (pa_cons (pe_ix ix_list (pv 2) pe_int (fun _ _ => rfl)) pa_nil))))) pss_nil)
      (pss_cons (ps_if (pt_cmpR op_eq (pv 1) pe_int (nomark _)) (pss_one (ps_ret (pe_fn C_ir_minutes (hr.mono (by decide)) rfl (pa_cons (pv 0) (pa_cons (pe_ix ix_list (pv 2) pe_int (fun _ _ => rfl)) pa_nil))))) pss_nil)
      (pss_cons (ps_if (pt_cmpR op_eq (pv 1) pe_int (nomark _)) (pss_one (ps_ret (pe_fn C_ir_go (hr.mono (by decide)) rfl (pa_cons (pv 0) (pa_cons (pe_ix ix_list (pv 2) pe_int (fun _ _ => rfl)) pa_nil))))) pss_nil)
      (pss_one (ps_ret (pe_fn C_ir_off (hr.mono (by decide)) rfl (pa_cons (pv 0) (pa_cons (pe_ix ix_list (pv 2) pe_int (fun _ _ => rfl)) pa_nil))))))))))), ?_⟩
    walk_at "rd"
    refine q_ite (fun e1 => ?_) (fun e1 => ?_)
    · have en : n = 1 := by omega
      subst en
      have hl : ns.length = 2 := (Option.some.inj ha).symm
      obtain ⟨x, y, rfl⟩ := len2 hl
      walk_at "rd"
      refine q_ix (j := 0) (SqL.of hg) rfl rfl ?_
      walk_at "rd"
      refine q_ix (j := 1) (SqL.of hg) rfl rfl ?_
      walk_at "rd"
      exact ⟨a, r, fp, [x, y], rfl, rfl, O, wx.wf, k⟩
    walk_at "rd"
    refine q_ite (fun e2 => ?_) (fun e2 => ?_)
    · have en : n = 2 := by omega
      subst en
      have hl : ns.length = 2 := (Option.some.inj ha).symm
      obtain ⟨x, y, rfl⟩ := len2 hl
      walk_at "rd"
      refine q_ix (j := 0) (SqL.of hg) rfl rfl ?_
      walk_at "rd"
      refine q_ix (j := 1) (SqL.of hg) rfl rfl ?_
      walk_at "rd"
      exact ⟨a, r, fp, [x, y], rfl, rfl, O, wx.wf, k⟩
    walk_at "rd"
    refine q_ite (fun e3 => ?_) (fun e3 => ?_)
    · have en : n = 3 := by omega
      subst en
      have hl : ns.length = 1 := (Option.some.inj ha).symm
      obtain ⟨x, rfl⟩ := len1 hl
      walk_at "rd"
      refine q_ix (j := 0) (SqL.of hg) rfl rfl ?_
      walk_at "rd"
      exact ⟨a, r, fp, [x], rfl, rfl, O, wx.wf, k⟩
    walk_at "rd"
    refine q_ite (fun e4 => ?_) (fun e4 => ?_)
    · have en : n = 4 := by omega
      subst en
      have hl : ns.length = 1 := (Option.some.inj ha).symm
      obtain ⟨x, rfl⟩ := len1 hl
      walk_at "rd"
      refine q_ix (j := 0) (SqL.of hg) rfl rfl ?_
      walk_at "rd"
      exact ⟨a, r, fp, [x], rfl, rfl, O, wx.wf, k⟩
    walk_at "rd"
    refine q_ite (fun e5 => ?_) (fun e5 => ?_)
    · have en : n = 5 := by omega
      subst en
      have hl : ns.length = 1 := (Option.some.inj ha).symm
      obtain ⟨x, rfl⟩ := len1 hl
      walk_at "rd"
      refine q_ix (j := 0) (SqL.of hg) rfl rfl ?_
      walk_at "rd"
      exact ⟨a, r, fp, [x], rfl, rfl, O, wx.wf, k⟩
    walk_at "rd"
    refine q_ite (fun e6 => ?_) (fun e6 => ?_)
    · have en : n = 6 := by omega
      subst en
      have hl : ns.length = 1 := (Option.some.inj ha).symm
      obtain ⟨x, rfl⟩ := len1 hl
      walk_at "rd"
      refine q_ix (j := 0) (SqL.of hg) rfl rfl ?_
      walk_at "rd"
      exact ⟨a, r, fp, [x], rfl, rfl, O, wx.wf, k⟩
    walk_at "rd"
    refine q_ite (fun e7 => ?_) (fun e7 => ?_)
    · have en : n = 7 := by omega
      subst en
      have hl : ns.length = 1 := (Option.some.inj ha).symm
      obtain ⟨x, rfl⟩ := len1 hl
      walk_at "rd"
      refine q_ix (j := 0) (SqL.of hg) rfl rfl ?_
      walk_at "rd"
      exact ⟨a, r, fp, [x], rfl, rfl, O, wx.wf, k⟩
    have en : n = 8 := by omega
    subst en
    have hl : ns.length = 1 := (Option.some.inj ha).symm
    obtain ⟨x, rfl⟩ := len1 hl
    walk_at "rd"
    refine q_ix (j := 0) (SqL.of hg) rfl rfl ?_
    walk_at "rd"
    exact ⟨a, r, fp, [x], rfl, rfl, O, wx.wf, k⟩
abbrev s_change_skates : Stmt := top 99
theorem sc_change_skates : FnScope ["rink", "number", "given"] ["rink", "number", "given"] (defScope s_change_skates) := ⟨rfl, rfl, rfl, by decide +kernel, rfl, by decide +kernel, by decide +kernel⟩
theorem ok_change_skates (F : Df K mg "change_skates" s_change_skates ["rink", "number", "given"]) (T : Txt K mg c) (C_ir_pairs : Cal P w K mg base 2 "ir_pairs" ["rink", "k", "n"] (spM c gPairs 2)) (C_ir_hire : Cal P w K mg base 1 "ir_hire" ["rink", "k"] (spM c gHire 1)) (C_ir_bring : Cal P w K mg base 1 "ir_bring" ["rink", "k", "blunt"] (spM c gBring 2)) (C_ir_sharpen : Cal P w K mg base 1 "ir_sharpen" ["rink", "k", "n"] (spM c gSharpen 2)) : Cal P w K mg base 3 "change_skates" ["rink", "number", "given"] (spDi c 9 12) := by
  refine F.ok sc_change_skates (fun vs H Q E h => ?_) (fun f cdv A outer s H vs Q E hr h => ?_)
  · obtain ⟨a, r, fp, n, gl, ns, rfl, _⟩ := h
    rfl
  · obtain ⟨a, r, fp, n, gl, ns, rfl, O, wx, hg, h1, h2, ha, k⟩ := h
    refine ⟨_, pss_cons (ps_if (pt_cmpR op_eq (pv 1) pe_int (nomark _)) (pss_one (ps_ret (pe_fn C_ir_pairs (hr.mono (by decide)) rfl (pa_cons (pv 0) (pa_cons (pe_ix ix_list (pv 2) pe_int (fun _ _ => rfl)) (pa_cons (pe_ix ix_list (pv 2) pe_int (fun _ _ => rfl)) pa_nil)))))) pss_nil)
      (pss_cons (ps_if (pt_cmpR op_eq (pv 1) pe_int (nomark _)) (pss_one (ps_ret (pe_fn C_ir_hire (hr.mono (by decide)) rfl (pa_cons (pv 0) (pa_cons (pe_ix ix_list (pv 2) pe_int (fun _ _ => rfl)) pa_nil))))) pss_nil)
      (pss_cons (ps_if (pt_cmpR op_eq (pv 1) pe_int (nomark _)) (pss_one (ps_ret (pe_fn C_ir_bring (hr.mono (by decide)) rfl (pa_cons (pv 0) (pa_cons (pe_ix ix_list (pv 2) pe_int (fun _ _ => rfl)) (pa_cons (pe_ix ix_list (pv 2) pe_int (fun _ _ => rfl)) pa_nil)))))) pss_nil)
      (pss_one (ps_ret (pe_fn C_ir_sharpen (hr.mono (by decide)) rfl (pa_cons (pv 0) (pa_cons (pe_ix ix_list (pv 2) pe_int (fun _ _ => rfl)) (pa_cons (pe_ix ix_list (pv 2) pe_int (fun _ _ => rfl)) pa_nil)))))))), ?_⟩
    walk_at "rd"
    refine q_ite (fun e9 => ?_) (fun e9 => ?_)
    · have en : n = 9 := by omega
      subst en
      have hl : ns.length = 2 := (Option.some.inj ha).symm
      obtain ⟨x, y, rfl⟩ := len2 hl
      walk_at "rd"
      refine q_ix (j := 0) (SqL.of hg) rfl rfl ?_
      walk_at "rd"
      refine q_ix (j := 1) (SqL.of hg) rfl rfl ?_
      walk_at "rd"
      exact ⟨a, r, fp, [x, y], rfl, rfl, O, wx.wf, k⟩
    walk_at "rd"
    refine q_ite (fun e10 => ?_) (fun e10 => ?_)
    · have en : n = 10 := by omega
      subst en
      have hl : ns.length = 1 := (Option.some.inj ha).symm
      obtain ⟨x, rfl⟩ := len1 hl
      walk_at "rd"
      refine q_ix (j := 0) (SqL.of hg) rfl rfl ?_
      walk_at "rd"
      exact ⟨a, r, fp, [x], rfl, rfl, O, wx.wf, k⟩
    walk_at "rd"
    refine q_ite (fun e11 => ?_) (fun e11 => ?_)
    · have en : n = 11 := by omega
      subst en
      have hl : ns.length = 2 := (Option.some.inj ha).symm
      obtain ⟨x, y, rfl⟩ := len2 hl
      walk_at "rd"
      refine q_ix (j := 0) (SqL.of hg) rfl rfl ?_
      walk_at "rd"
      refine q_ix (j := 1) (SqL.of hg) rfl rfl ?_
      walk_at "rd"
      exact ⟨a, r, fp, [x, y], rfl, rfl, O, wx.wf, k⟩
    have en : n = 12 := by omega
    subst en
    have hl : ns.length = 2 := (Option.some.inj ha).symm
    obtain ⟨x, y, rfl⟩ := len2 hl
    walk_at "rd"
    refine q_ix (j := 0) (SqL.of hg) rfl rfl ?_
    walk_at "rd"
    refine q_ix (j := 1) (SqL.of hg) rfl rfl ?_
    walk_at "rd"
    exact ⟨a, r, fp, [x, y], rfl, rfl, O, wx.wf, k⟩
abbrev s_change_sessions : Stmt := top 100
theorem sc_change_sessions : FnScope ["rink", "number", "given"] ["rink", "number", "given"] (defScope s_change_sessions) := ⟨rfl, rfl, rfl, by decide +kernel, rfl, by decide +kernel, by decide +kernel⟩
theorem ok_change_sessions (F : Df K mg "change_sessions" s_change_sessions ["rink", "number", "given"]) (T : Txt K mg c) (C_ir_gap : Cal P w K mg base 1 "ir_gap" ["rink", "n"] (spM c gGap 1)) (C_ir_ask : Cal P w K mg base 3 "ir_ask" ["rink", "begin", "end", "fee"] (spM c gAsk 3)) (C_ir_book : Cal P w K mg base 5 "ir_book" ["rink"] (spM c gBook 0)) (C_ir_drop : Cal P w K mg base 1 "ir_drop" ["rink", "k"] (spM c gDrop 1)) : Cal P w K mg base 6 "change_sessions" ["rink", "number", "given"] (spDi c 13 16) := by
  refine F.ok sc_change_sessions (fun vs H Q E h => ?_) (fun f cdv A outer s H vs Q E hr h => ?_)
  · obtain ⟨a, r, fp, n, gl, ns, rfl, _⟩ := h
    rfl
  · obtain ⟨a, r, fp, n, gl, ns, rfl, O, wx, hg, h1, h2, ha, k⟩ := h
    refine ⟨_, pss_cons (ps_if (pt_cmpR op_eq (pv 1) pe_int (nomark _)) (pss_one (ps_ret (pe_fn C_ir_gap (hr.mono (by decide)) rfl (pa_cons (pv 0) (pa_cons (pe_ix ix_list (pv 2) pe_int (fun _ _ => rfl)) pa_nil))))) pss_nil)
      (pss_cons (ps_if (pt_cmpR op_eq (pv 1) pe_int (nomark _)) (pss_one (ps_ret (pe_fn C_ir_ask (hr.mono (by decide)) rfl (pa_cons (pv 0) (pa_cons (pe_ix ix_list (pv 2) pe_int (fun _ _ => rfl)) (pa_cons (pe_ix ix_list (pv 2) pe_int (fun _ _ => rfl)) (pa_cons (pe_ix ix_list (pv 2) pe_int (fun _ _ => rfl)) pa_nil))))))) pss_nil)
      (pss_cons (ps_if (pt_cmpR op_eq (pv 1) pe_int (nomark _)) (pss_one (ps_ret (pe_fn C_ir_book (hr.mono (by decide)) rfl (pa_cons (pv 0) pa_nil)))) pss_nil)
      (pss_one (ps_ret (pe_fn C_ir_drop (hr.mono (by decide)) rfl (pa_cons (pv 0) (pa_cons (pe_ix ix_list (pv 2) pe_int (fun _ _ => rfl)) pa_nil))))))), ?_⟩
    walk_at "rd"
    refine q_ite (fun e13 => ?_) (fun e13 => ?_)
    · have en : n = 13 := by omega
      subst en
      have hl : ns.length = 1 := (Option.some.inj ha).symm
      obtain ⟨x, rfl⟩ := len1 hl
      walk_at "rd"
      refine q_ix (j := 0) (SqL.of hg) rfl rfl ?_
      walk_at "rd"
      exact ⟨a, r, fp, [x], rfl, rfl, O, wx.wf, k⟩
    walk_at "rd"
    refine q_ite (fun e14 => ?_) (fun e14 => ?_)
    · have en : n = 14 := by omega
      subst en
      have hl : ns.length = 3 := (Option.some.inj ha).symm
      obtain ⟨x, y, z, rfl⟩ := len3 hl
      walk_at "rd"
      refine q_ix (j := 0) (SqL.of hg) rfl rfl ?_
      walk_at "rd"
      refine q_ix (j := 1) (SqL.of hg) rfl rfl ?_
      walk_at "rd"
      refine q_ix (j := 2) (SqL.of hg) rfl rfl ?_
      walk_at "rd"
      exact ⟨a, r, fp, [x, y, z], rfl, rfl, O, wx.wf, k⟩
    walk_at "rd"
    refine q_ite (fun e15 => ?_) (fun e15 => ?_)
    · have en : n = 15 := by omega
      subst en
      have hl : ns.length = 0 := (Option.some.inj ha).symm
      obtain rfl := len0 hl
      walk_at "rd"
      exact ⟨a, r, fp, [], rfl, rfl, O, wx.wf, k⟩
    have en : n = 16 := by omega
    subst en
    have hl : ns.length = 1 := (Option.some.inj ha).symm
    obtain ⟨x, rfl⟩ := len1 hl
    walk_at "rd"
    refine q_ix (j := 0) (SqL.of hg) rfl rfl ?_
    walk_at "rd"
    exact ⟨a, r, fp, [x], rfl, rfl, O, wx.wf, k⟩
abbrev s_ask_ice : Stmt := top 102
theorem sc_ask_ice : FnScope ["rink", "number", "given"] ["rink", "number", "given"] (defScope s_ask_ice) := ⟨rfl, rfl, rfl, by decide +kernel, rfl, by decide +kernel, by decide +kernel⟩
theorem ok_ask_ice (F : Df K mg "ask_ice" s_ask_ice ["rink", "number", "given"]) (T : Txt K mg c) (C_ir_hard : Cal P w K mg base 2 "ir_hard" ["rink"] (spM c gHard 0)) (C_ir_soon : Cal P w K mg base 3 "ir_soon" ["rink"] (spX c gSoon 0)) (C_ir_bears : Cal P w K mg base 2 "ir_bears" ["rink"] (spM c gBears 0)) (C_ir_cheapest : Cal P w K mg base 2 "ir_cheapest" ["rink", "n"] (spM c gCheapest 1)) : Cal P w K mg base 4 "ask_ice" ["rink", "number", "given"] (spDi c 17 20) := by
  refine F.ok sc_ask_ice (fun vs H Q E h => ?_) (fun f cdv A outer s H vs Q E hr h => ?_)
  · obtain ⟨a, r, fp, n, gl, ns, rfl, _⟩ := h
    rfl
  · obtain ⟨a, r, fp, n, gl, ns, rfl, O, wx, hg, h1, h2, ha, k⟩ := h
    refine ⟨_, pss_cons (ps_if (pt_cmpR op_eq (pv 1) pe_int (nomark _)) (pss_one (ps_ret (pe_fn C_ir_hard (hr.mono (by decide)) rfl (pa_cons (pv 0) pa_nil)))) pss_nil)
      (pss_cons (ps_if (pt_cmpR op_eq (pv 1) pe_int (nomark _)) (pss_one (ps_ret (pe_fn C_ir_soon (hr.mono (by decide)) rfl (pa_cons (pv 0) pa_nil)))) pss_nil)
      (pss_cons (ps_if (pt_cmpR op_eq (pv 1) pe_int (nomark _)) (pss_one (ps_ret (pe_fn C_ir_bears (hr.mono (by decide)) rfl (pa_cons (pv 0) pa_nil)))) pss_nil)
      (pss_one (ps_ret (pe_fn C_ir_cheapest (hr.mono (by decide)) rfl (pa_cons (pv 0) (pa_cons (pe_ix ix_list (pv 2) pe_int (fun _ _ => rfl)) pa_nil))))))), ?_⟩
    walk_at "rd"
    refine q_ite (fun e17 => ?_) (fun e17 => ?_)
    · have en : n = 17 := by omega
      subst en
      have hl : ns.length = 0 := (Option.some.inj ha).symm
      obtain rfl := len0 hl
      walk_at "rd"
      exact ⟨a, r, fp, [], rfl, rfl, O, wx.wf, k⟩
    walk_at "rd"
    refine q_ite (fun e18 => ?_) (fun e18 => ?_)
    · have en : n = 18 := by omega
      subst en
      have hl : ns.length = 0 := (Option.some.inj ha).symm
      obtain rfl := len0 hl
      walk_at "rd"
      exact ⟨a, r, fp, [], rfl, rfl, O, wx, k⟩
    walk_at "rd"
    refine q_ite (fun e19 => ?_) (fun e19 => ?_)
    · have en : n = 19 := by omega
      subst en
      have hl : ns.length = 0 := (Option.some.inj ha).symm
      obtain rfl := len0 hl
      walk_at "rd"
      exact ⟨a, r, fp, [], rfl, rfl, O, wx.wf, k⟩
    have en : n = 20 := by omega
    subst en
    have hl : ns.length = 1 := (Option.some.inj ha).symm
    obtain ⟨x, rfl⟩ := len1 hl
    walk_at "rd"
    refine q_ix (j := 0) (SqL.of hg) rfl rfl ?_
    walk_at "rd"
    exact ⟨a, r, fp, [x], rfl, rfl, O, wx.wf, k⟩
abbrev s_ask_sessions : Stmt := top 103
theorem sc_ask_sessions : FnScope ["rink", "number", "given"] ["rink", "number", "given"] (defScope s_ask_sessions) := ⟨rfl, rfl, rfl, by decide +kernel, rfl, by decide +kernel, by decide +kernel⟩
theorem ok_ask_sessions (F : Df K mg "ask_sessions" s_ask_sessions ["rink", "number", "given"]) (T : Txt K mg c) (C_ir_would : Cal P w K mg base 4 "ir_would" ["rink", "asks"] (spM c gWould 1)) (C_ir_best : Cal P w K mg base 5 "ir_best" ["rink"] (spM c gBest 0)) (C_ir_who : Cal P w K mg base 1 "ir_who" ["rink", "minute"] (spM c gWho 1)) (C_ir_look : Cal P w K mg base 1 "ir_look" ["rink", "k"] (spM c gLook 1)) : Cal P w K mg base 6 "ask_sessions" ["rink", "number", "given"] (spDi c 21 24) := by
  refine F.ok sc_ask_sessions (fun vs H Q E h => ?_) (fun f cdv A outer s H vs Q E hr h => ?_)
  · obtain ⟨a, r, fp, n, gl, ns, rfl, _⟩ := h
    rfl
  · obtain ⟨a, r, fp, n, gl, ns, rfl, O, wx, hg, h1, h2, ha, k⟩ := h
    refine ⟨_, pss_cons (ps_if (pt_cmpR op_eq (pv 1) pe_int (nomark _)) (pss_one (ps_ret (pe_fn C_ir_would (hr.mono (by decide)) rfl (pa_cons (pv 0) (pa_cons (pe_ix ix_list (pv 2) pe_int (fun _ _ => rfl)) pa_nil))))) pss_nil)
      (pss_cons (ps_if (pt_cmpR op_eq (pv 1) pe_int (nomark _)) (pss_one (ps_ret (pe_fn C_ir_best (hr.mono (by decide)) rfl (pa_cons (pv 0) pa_nil)))) pss_nil)
      (pss_cons (ps_if (pt_cmpR op_eq (pv 1) pe_int (nomark _)) (pss_one (ps_ret (pe_fn C_ir_who (hr.mono (by decide)) rfl (pa_cons (pv 0) (pa_cons (pe_ix ix_list (pv 2) pe_int (fun _ _ => rfl)) pa_nil))))) pss_nil)
      (pss_one (ps_ret (pe_fn C_ir_look (hr.mono (by decide)) rfl (pa_cons (pv 0) (pa_cons (pe_ix ix_list (pv 2) pe_int (fun _ _ => rfl)) pa_nil))))))), ?_⟩
    walk_at "rd"
    refine q_ite (fun e21 => ?_) (fun e21 => ?_)
    · have en : n = 21 := by omega
      subst en
      have hl : ns.length = 1 := (Option.some.inj ha).symm
      obtain ⟨x, rfl⟩ := len1 hl
      walk_at "rd"
      refine q_ix (j := 0) (SqL.of hg) rfl rfl ?_
      walk_at "rd"
      exact ⟨a, r, fp, [x], rfl, rfl, O, wx.wf, k⟩
    walk_at "rd"
    refine q_ite (fun e22 => ?_) (fun e22 => ?_)
    · have en : n = 22 := by omega
      subst en
      have hl : ns.length = 0 := (Option.some.inj ha).symm
      obtain rfl := len0 hl
      walk_at "rd"
      exact ⟨a, r, fp, [], rfl, rfl, O, wx.wf, k⟩
    walk_at "rd"
    refine q_ite (fun e23 => ?_) (fun e23 => ?_)
    · have en : n = 23 := by omega
      subst en
      have hl : ns.length = 1 := (Option.some.inj ha).symm
      obtain ⟨x, rfl⟩ := len1 hl
      walk_at "rd"
      refine q_ix (j := 0) (SqL.of hg) rfl rfl ?_
      walk_at "rd"
      exact ⟨a, r, fp, [x], rfl, rfl, O, wx.wf, k⟩
    have en : n = 24 := by omega
    subst en
    have hl : ns.length = 1 := (Option.some.inj ha).symm
    obtain ⟨x, rfl⟩ := len1 hl
    walk_at "rd"
    refine q_ix (j := 0) (SqL.of hg) rfl rfl ?_
    walk_at "rd"
    exact ⟨a, r, fp, [x], rfl, rfl, O, wx.wf, k⟩
abbrev s_ask_skates : Stmt := top 104
theorem sc_ask_skates : FnScope ["rink", "number", "given"] ["rink", "number", "given"] (defScope s_ask_skates) := ⟨rfl, rfl, rfl, by decide +kernel, rfl, by decide +kernel, by decide +kernel⟩
theorem ok_ask_skates (F : Df K mg "ask_skates" s_ask_skates ["rink", "number", "given"]) (T : Txt K mg c) (C_ir_size : Cal P w K mg base 2 "ir_size" ["rink", "k"] (spM c gSize 1)) (C_ir_nearest : Cal P w K mg base 2 "ir_nearest" ["rink", "k"] (spM c gNearest 1)) : Cal P w K mg base 3 "ask_skates" ["rink", "number", "given"] (spDi c 25 26) := by
  refine F.ok sc_ask_skates (fun vs H Q E h => ?_) (fun f cdv A outer s H vs Q E hr h => ?_)
  · obtain ⟨a, r, fp, n, gl, ns, rfl, _⟩ := h
    rfl
  · obtain ⟨a, r, fp, n, gl, ns, rfl, O, wx, hg, h1, h2, ha, k⟩ := h
    refine ⟨_, pss_cons (ps_if (pt_cmpR op_eq (pv 1) pe_int (nomark _)) (pss_one (ps_ret (pe_fn C_ir_size (hr.mono (by decide)) rfl (pa_cons (pv 0) (pa_cons (pe_ix ix_list (pv 2) pe_int (fun _ _ => rfl)) pa_nil))))) pss_nil)
      (pss_one (ps_ret (pe_fn C_ir_nearest (hr.mono (by decide)) rfl (pa_cons (pv 0) (pa_cons (pe_ix ix_list (pv 2) pe_int (fun _ _ => rfl)) pa_nil))))), ?_⟩
    walk_at "rd"
    refine q_ite (fun e25 => ?_) (fun e25 => ?_)
    · have en : n = 25 := by omega
      subst en
      have hl : ns.length = 1 := (Option.some.inj ha).symm
      obtain ⟨x, rfl⟩ := len1 hl
      walk_at "rd"
      refine q_ix (j := 0) (SqL.of hg) rfl rfl ?_
      walk_at "rd"
      exact ⟨a, r, fp, [x], rfl, rfl, O, wx.wf, k⟩
    have en : n = 26 := by omega
    subst en
    have hl : ns.length = 1 := (Option.some.inj ha).symm
    obtain ⟨x, rfl⟩ := len1 hl
    walk_at "rd"
    refine q_ix (j := 0) (SqL.of hg) rfl rfl ?_
    walk_at "rd"
    exact ⟨a, r, fp, [x], rfl, rfl, O, wx.wf, k⟩
abbrev s_ask_accounts : Stmt := top 105
theorem sc_ask_accounts : FnScope ["rink", "number"] ["rink", "number"] (defScope s_ask_accounts) := ⟨rfl, rfl, rfl, by decide +kernel, rfl, by decide +kernel, by decide +kernel⟩
theorem ok_ask_accounts (F : Df K mg "ask_accounts" s_ask_accounts ["rink", "number"]) (T : Txt K mg c) (C_ir_ice : Cal P w K mg base 1 "ir_ice" ["rink"] (spM c gIce 0)) (C_ir_power : Cal P w K mg base 2 "ir_power" ["rink"] (spM c gPower 0)) (C_ir_water : Cal P w K mg base 1 "ir_water" ["rink"] (spM c gWater 0)) (C_ir_money : Cal P w K mg base 1 "ir_money" ["rink"] (spM c gMoney 0)) : Cal P w K mg base 3 "ask_accounts" ["rink", "number"] (spDi0 c 27 30) := by
  refine F.ok sc_ask_accounts (fun vs H Q E h => ?_) (fun f cdv A outer s H vs Q E hr h => ?_)
  · obtain ⟨a, r, fp, n, rfl, _⟩ := h
    rfl
  · obtain ⟨a, r, fp, n, rfl, O, wx, h1, h2, k⟩ := h
    refine ⟨_, pss_cons (ps_if (pt_cmpR op_eq (pv 1) pe_int (nomark _)) (pss_one (ps_ret (pe_fn C_ir_ice (hr.mono (by decide)) rfl (pa_cons (pv 0) pa_nil)))) pss_nil)
      (pss_cons (ps_if (pt_cmpR op_eq (pv 1) pe_int (nomark _)) (pss_one (ps_ret (pe_fn C_ir_power (hr.mono (by decide)) rfl (pa_cons (pv 0) pa_nil)))) pss_nil)
      (pss_cons (ps_if (pt_cmpR op_eq (pv 1) pe_int (nomark _)) (pss_one (ps_ret (pe_fn C_ir_water (hr.mono (by decide)) rfl (pa_cons (pv 0) pa_nil)))) pss_nil)
      (pss_one (ps_ret (pe_fn C_ir_money (hr.mono (by decide)) rfl (pa_cons (pv 0) pa_nil)))))), ?_⟩
    walk_at "rd"
    refine q_ite (fun e27 => ?_) (fun e27 => ?_)
    · have en : n = 27 := by omega
      subst en
      walk_at "rd"
      exact ⟨a, r, fp, [], rfl, rfl, O, wx.wf, k⟩
    walk_at "rd"
    refine q_ite (fun e28 => ?_) (fun e28 => ?_)
    · have en : n = 28 := by omega
      subst en
      walk_at "rd"
      exact ⟨a, r, fp, [], rfl, rfl, O, wx.wf, k⟩
    walk_at "rd"
    refine q_ite (fun e29 => ?_) (fun e29 => ?_)
    · have en : n = 29 := by omega
      subst en
      walk_at "rd"
      exact ⟨a, r, fp, [], rfl, rfl, O, wx.wf, k⟩
    have en : n = 30 := by omega
    subst en
    walk_at "rd"
    exact ⟨a, r, fp, [], rfl, rfl, O, wx.wf, k⟩
abbrev s_change_rink : Stmt := top 101
theorem sc_change_rink : FnScope ["rink", "number", "given"] ["rink", "number", "given"] (defScope s_change_rink) := ⟨rfl, rfl, rfl, by decide +kernel, rfl, by decide +kernel, by decide +kernel⟩
theorem ok_change_rink (F : Df K mg "change_rink" s_change_rink ["rink", "number", "given"]) (T : Txt K mg c) (C_change_ice : Cal P w K mg base 5 "change_ice" ["rink", "number", "given"] (spDi c 1 8)) (C_change_skates : Cal P w K mg base 3 "change_skates" ["rink", "number", "given"] (spDi c 9 12)) (C_change_sessions : Cal P w K mg base 6 "change_sessions" ["rink", "number", "given"] (spDi c 13 16)) : Cal P w K mg base 7 "change_rink" ["rink", "number", "given"] (spDi c 1 16) := by
  refine F.ok sc_change_rink (fun vs H Q E h => ?_) (fun f cdv A outer s H vs Q E hr h => ?_)
  · obtain ⟨a, r, fp, n, gl, ns, rfl, _⟩ := h
    rfl
  · obtain ⟨a, r, fp, n, gl, ns, rfl, O, wx, hg, h1, h2, ha, k⟩ := h
    refine ⟨_, pss_cons (ps_if (pt_cmpR op_le (pv 1) pe_int (nomark _)) (pss_one (ps_ret (pe_fn C_change_ice (hr.mono (by decide)) rfl (pa_cons (pv 0) (pa_cons (pv 1) (pa_cons (pv 2) pa_nil)))))) pss_nil)
      (pss_cons (ps_if (pt_cmpR op_le (pv 1) pe_int (nomark _)) (pss_one (ps_ret (pe_fn C_change_skates (hr.mono (by decide)) rfl (pa_cons (pv 0) (pa_cons (pv 1) (pa_cons (pv 2) pa_nil)))))) pss_nil)
      (pss_one (ps_ret (pe_fn C_change_sessions (hr.mono (by decide)) rfl (pa_cons (pv 0) (pa_cons (pv 1) (pa_cons (pv 2) pa_nil))))))), ?_⟩
    walk_at "rd"
    refine q_ite (fun e8 => ?_) (fun e8 => ?_)
    · walk_at "rd"
      exact ⟨a, r, fp, n, gl, ns, rfl, O, wx, hg, by omega, by omega, ha, k⟩
    walk_at "rd"
    refine q_ite (fun e12 => ?_) (fun e12 => ?_)
    · walk_at "rd"
      exact ⟨a, r, fp, n, gl, ns, rfl, O, wx, hg, by omega, by omega, ha, k⟩
    walk_at "rd"
    exact ⟨a, r, fp, n, gl, ns, rfl, O, wx, hg, by omega, by omega, ha, k⟩
abbrev s_ask_rink : Stmt := top 106
theorem sc_ask_rink : FnScope ["rink", "number", "given"] ["rink", "number", "given"] (defScope s_ask_rink) := ⟨rfl, rfl, rfl, by decide +kernel, rfl, by decide +kernel, by decide +kernel⟩
theorem ok_ask_rink (F : Df K mg "ask_rink" s_ask_rink ["rink", "number", "given"]) (T : Txt K mg c) (C_ask_ice : Cal P w K mg base 4 "ask_ice" ["rink", "number", "given"] (spDi c 17 20)) (C_ask_sessions : Cal P w K mg base 6 "ask_sessions" ["rink", "number", "given"] (spDi c 21 24)) (C_ask_skates : Cal P w K mg base 3 "ask_skates" ["rink", "number", "given"] (spDi c 25 26)) (C_ask_accounts : Cal P w K mg base 3 "ask_accounts" ["rink", "number"] (spDi0 c 27 30)) : Cal P w K mg base 7 "ask_rink" ["rink", "number", "given"] (spDi c 17 30) := by
  refine F.ok sc_ask_rink (fun vs H Q E h => ?_) (fun f cdv A outer s H vs Q E hr h => ?_)
  · obtain ⟨a, r, fp, n, gl, ns, rfl, _⟩ := h
    rfl
  · obtain ⟨a, r, fp, n, gl, ns, rfl, O, wx, hg, h1, h2, ha, k⟩ := h
    refine ⟨_, pss_cons (ps_if (pt_cmpR op_le (pv 1) pe_int (nomark _)) (pss_one (ps_ret (pe_fn C_ask_ice (hr.mono (by decide)) rfl (pa_cons (pv 0) (pa_cons (pv 1) (pa_cons (pv 2) pa_nil)))))) pss_nil)
      (pss_cons (ps_if (pt_cmpR op_le (pv 1) pe_int (nomark _)) (pss_one (ps_ret (pe_fn C_ask_sessions (hr.mono (by decide)) rfl (pa_cons (pv 0) (pa_cons (pv 1) (pa_cons (pv 2) pa_nil)))))) pss_nil)
      (pss_cons (ps_if (pt_cmpR op_le (pv 1) pe_int (nomark _)) (pss_one (ps_ret (pe_fn C_ask_skates (hr.mono (by decide)) rfl (pa_cons (pv 0) (pa_cons (pv 1) (pa_cons (pv 2) pa_nil)))))) pss_nil)
      (pss_one (ps_ret (pe_fn C_ask_accounts (hr.mono (by decide)) rfl (pa_cons (pv 0) (pa_cons (pv 1) pa_nil))))))), ?_⟩
    walk_at "rd"
    refine q_ite (fun e20 => ?_) (fun e20 => ?_)
    · walk_at "rd"
      exact ⟨a, r, fp, n, gl, ns, rfl, O, wx, hg, by omega, by omega, ha, k⟩
    walk_at "rd"
    refine q_ite (fun e24 => ?_) (fun e24 => ?_)
    · walk_at "rd"
      exact ⟨a, r, fp, n, gl, ns, rfl, O, wx, hg, by omega, by omega, ha, k⟩
    walk_at "rd"
    refine q_ite (fun e26 => ?_) (fun e26 => ?_)
    · walk_at "rd"
      exact ⟨a, r, fp, n, gl, ns, rfl, O, wx, hg, by omega, by omega, ha, k⟩
    walk_at "rd"
    have hn : ns = [] := by
      have h27 : n = 27 ∨ n = 28 ∨ n = 29 ∨ n = 30 := by omega
      rcases h27 with rfl | rfl | rfl | rfl <;> exact len0 (Option.some.inj ha).symm
    subst hn
    exact ⟨a, r, fp, n, rfl, O, wx, by omega, by omega, k⟩
end
end Ir
set_option Elab.async false
set_option maxRecDepth 100000
set_option maxHeartbeats 2000000
namespace Ir
open PySem PySem.Spec PyProof.Rows L2
local macro_rules | `(tactic| walk_at "rd1") => `(tactic| with_reducible first
  | refine q_seq ?_ | refine q_next ?_ | refine q_if ?_ | refine q_test ?_ | refine q_testB ?_ | refine q_op ?_ | refine q_c ?_ | refine q_i0 ?_ | refine q_eq ?_ | refine q_ne ?_ | refine q_bl ?_ | refine q_ret ?_ | refine q_lst ?_ | refine q_tup ?_ | refine q_cons ?_ | refine q_nil ?_
  | refine q_and ?_ | refine q_or ?_ | refine q_not ?_ | refine q_andV ?_ | refine q_orV ?_ | refine q_set ?_ | refine q_drop ?_ | refine q_call ?_ | refine q_cb ?_ | refine q_make ?_ | refine q_forR ?_ | refine q_forL ?_ | refine q_forE ?_ | refine q_gname ?_ | refine q_bm ?_ | refine q_add ?_ | refine q_sub ?_ | refine q_fld ?_ | refine q_sfld ?_ | refine q_saug ?_ | refine q_ifE ?_ | refine q_notV ?_ | refine q_sl ?_ | refine q_part ?_ | refine q_int ?_ | refine q_yes ?_ | refine q_bm0 ?_)
set_option hygiene false in
local macro_rules | `(tactic| walk_at "rd") => `(tactic| repeat (first | walk_at "rd1" | refine q_var rfl ?_ | refine q_R T hi rfl ?_ | refine q_D T hd rfl ?_ | dsimp only | rw [if_pos (rfl : true = true)] | rw [if_neg Bool.false_ne_true]))
local macro_rules | `(tactic| walk_at "ifs") => `(tactic| repeat (first | rw [if_pos (by omega)] | rw [if_neg (by omega)]))
local macro_rules | `(tactic| walk_at "to") => `(tactic| repeat (first | walk_at "rd1" | dsimp only))
section
variable {P : Program} {w : World} {K : PySem.W.Frag} {mg : Str → Option Value} {base : Heap} {c : Cl}
/-- a call on the desk by its number -/
def spCall (c : Cl) (lo hi : Nat) : Sp := fun vs H Q _ => ∃ (d : Addr) (D : Km424.Desk) (F : List Addr) (n : Nat) (gl : Addr) (ns : List Nat) (call : Km424.Call), vs = [.ref d, .int (n : Nat), .ref gl] ∧ OwnD c H d D F ∧ Wd D ∧ H gl = some (.lst (ns.map fun n : Nat => V.int n)) ∧ lo ≤ n ∧ n ≤ hi ∧ mkCall n ns = some call ∧ Is n ns call ∧ argN[n]? = some ns.length ∧ FinD c H d (actL D call) F Q
abbrev s_change_desk : Stmt := top 107
theorem sc_change_desk : FnScope ["desk", "number", "given", "before", "answer"] ["desk", "number", "given"] (defScope s_change_desk) := ⟨rfl, rfl, rfl, by decide +kernel, rfl, by decide +kernel, by decide +kernel⟩
theorem ok_change_desk (F : Df K mg "change_desk" s_change_desk ["desk", "number", "given"]) (T : Txt K mg c) (C_copy_of_rink : Cal P w K mg base 5 "copy_of_rink" ["rink"] (spCR c)) (C_change_rink : Cal P w K mg base 7 "change_rink" ["rink", "number", "given"] (spDi c 1 16)) (C_note_change : Cal P w K mg base 1 "note_change" ["desk", "before"] (spNote c)) :
    Cal P w K mg base 8 "change_desk" ["desk", "number", "given"] (spCall c 1 16) := by
  refine F.ok sc_change_desk (fun vs H Q E h => ?_) (fun f cdv A outer s H vs Q E hr h => ?_)
  · obtain ⟨d, D, F, n, gl, ns, call, rfl, _⟩ := h
    rfl
  · obtain ⟨d, D, F, n, gl, ns, call, rfl, ⟨a, le, ll, fp, es, ls, kk, rfl⟩, wd, hg, h1, h2, hm, ht, ha, k⟩ := h
    refine ⟨_, pss_cons (ps_set (i := 3) sc_change_desk.nd rfl (Or.inl rfl) (pe_fn C_copy_of_rink (hr.mono (by decide)) rfl (pa_cons (pe_fld (pv 0) rfl) pa_nil)))
      (pss_cons (ps_set (i := 4) sc_change_desk.nd rfl (Or.inl rfl) (pe_fn C_change_rink (hr.mono (by decide)) rfl (pa_cons (pe_fld (pv 0) rfl) (pa_cons (pv 1) (pa_cons (pv 2) pa_nil)))))
      (pss_cons (ps_if (pt_cmpR op_ge (pe_ix ix_list (pv 4) pe_int (fun _ _ => rfl)) pe_int (nomark _)) (pss_one (ps_expr (pe_fn C_note_change (hr.mono (by decide)) rfl (pa_cons (pv 0) (pa_cons (pv 3) pa_nil))))) pss_nil)
      (pss_one (ps_ret (pv 4))))), ?_⟩
    obtain ⟨dx, hd⟩ := kk.ins
    walk_at "rd"
    refine ⟨a, D.now, fp, rfl, kk.now, wd.now.wf, fun H1 z fz s1 Oz frz => ?_⟩
    have kk1 := kk.same s1
    have hd := s1 _ _ hd
    walk_at "rd"
    refine ⟨a, D.now, fp, n, gl, ns, rfl, kk1.now, wd.now, s1 _ _ hg, h1, h2, ha, ?_⟩
    intro H2 p fp' O2 F2 sub2 np pf hp
    obtain ⟨⟨ea, zz, l, el, q1, q2⟩, wx'⟩ := chg_all ht h1 h2 D wd.now
    have K2 := kk1.moved O2 F2 sub2
    have hp' := hp
    rw [el] at hp
    have Fa : ∀ b o, H b = some o → b ∉ fpD d le ll fp es ls → H2 b = some o := fun b o e n => F2 b o (s1 b o e) fun m => n (by simp [m])
    walk_at "rd"
    refine q_ix (j := 0) (SqL.of hp) rfl rfl ?_
    walk_at "rd"
    refine q_ite (fun e => ?_) (fun e => ?_)
    · have fzn : ∀ b, b ∈ fz → b ∉ fpD d le ll fp es ls := fun b m n => by
        obtain ⟨o, ho⟩ := kk.some_of n
        rw [frz b m] at ho
        cases ho
      have Oz2 := Oz.keep (H' := H2) fun b o m e => F2 b o e fun n => fzn b m (by simp [n])
      have apz : ∀ b, b ∈ fz → b ∉ fpD d le ll fp' es ls := fun b m n => by
        rcases kk1.sub sub2 b n with n | n
        · exact fzn b m n
        · obtain ⟨o, ho⟩ := Oz.some_of m
          rw [n] at ho
          cases ho
      have h30 : es.length ≤ 30 := by
        have := wd.len
        rw [kk.past, List.length_reverse, List.length_map] at this
        omega
      walk_at "rd"
      refine ⟨d, _, a, le, ll, fp', es, ls, z, D.now, fz, rfl, K2, h30, Oz2, apz, fun H3 ll' es' K3 F3 nl mE => ?_⟩
      have er : (Km424.act D call).1 = ⟨(gAll n D.now ns).1, (D.now :: D.past).take 30, []⟩ := q1 e
      have pd : p ≠ d := fun q => by rw [q, hd] at np; cases np
      have ple : p ≠ le := fun q => by rw [q, kk1.lE] at np; cases np
      walk_at "rd"
      refine k H3 p _ ⟨a, le, ll', fp', es', [], by show Dk c H3 d (Km424.act D call).1 a le ll' fp' es' []; rw [er]; exact K3, rfl⟩ (fun b o e n => F3 b o (Fa b o e n) fun m => n ?_) (fun b m => ?_) (s1.free np) (fun m => ?_) ?_
      · simp only [List.mem_cons, List.not_mem_nil, or_false] at m
        rcases m with rfl | rfl <;> simp
      · have no : H1 b = none → H b = none := fun e => s1.free e
        simp only [List.mem_cons, List.mem_append, List.flatMap_nil, List.not_mem_nil, or_false] at m ⊢
        rcases m with m | m | m | m | m
        · exact .inl (.inl m)
        · exact .inl (.inr (.inl m))
        · subst m
          by_cases mf : b ∈ fp
          · exact .inl (.inr (.inr (.inr (.inl mf))))
          · exact .inr (no (F2.none nl mf))
        · rcases sub2 b m with m | m
          · exact .inl (.inr (.inr (.inr (.inl m))))
          · exact .inr (no m)
        · rcases mE b m with m | m
          · exact .inl (.inr (.inr (.inr (.inr (.inl m)))))
          · exact .inr (frz b m)
      · simp only [List.mem_cons, List.mem_append, List.flatMap_nil, List.not_mem_nil, or_false] at m
        rcases m with m | m | m | m | m
        · exact pd m
        · exact ple m
        · rw [← m, hp] at nl; cases nl
        · exact pf m
        · rcases mE p m with m | m
          · obtain ⟨e, he, m⟩ := mem_fpE m
            obtain ⟨o, ho⟩ := (kk1.E e he).some_of m
            rw [np] at ho
            cases ho
          · obtain ⟨o, ho⟩ := Oz.some_of m
            rw [np] at ho
            cases ho
      · have := F3 p _ hp' (by simp [pd, ple])
        rw [this, ← ea]
        rfl
    · obtain ⟨er, ed⟩ := q2 (by omega)
      walk_at "rd"
      rw [er] at K2
      refine k H2 p _ ⟨a, le, ll, fp', es, ls, by show Dk c H2 d (Km424.act D call).1 a le ll fp' es ls; rw [ed]; exact K2, rfl⟩ Fa (fun b m => ?_) (s1.free np) (fun m => ?_) ?_
      · rcases kk1.sub sub2 b m with m | m
        · exact .inl m
        · exact .inr (s1.free m)
      · obtain ⟨o, ho⟩ := K2.some_of m
        simp only [List.mem_cons, List.mem_append] at m
        have no : ∀ o', H1 p = some o' → False := fun o' q => by rw [np] at q; cases q
        rcases m with rfl | rfl | rfl | m | m | m
        · exact no _ hd
        · exact no _ kk1.lE
        · exact no _ kk1.lL
        · exact pf m
        · obtain ⟨e, he, m⟩ := mem_fpE m
          obtain ⟨o, ho⟩ := (kk1.E e he).some_of m
          exact no _ ho
        · obtain ⟨e, he, m⟩ := mem_fpE m
          obtain ⟨o, ho⟩ := (kk1.L e he).some_of m
          exact no _ ho
      · rw [hp', ← ea]
        rfl
abbrev s_call_desk : Stmt := top 108
theorem sc_call_desk : FnScope ["desk", "number", "given"] ["desk", "number", "given"] (defScope s_call_desk) := ⟨rfl, rfl, rfl, by decide +kernel, rfl, by decide +kernel, by decide +kernel⟩
theorem ok_call_desk (F : Df K mg "call_desk" s_call_desk ["desk", "number", "given"]) (T : Txt K mg c) (C_ir_start : Cal P w K mg base 5 "ir_start" ["desk", "base", "each", "least", "room"] (spD c startOf 4)) (C_change_desk : Cal P w K mg base 8 "change_desk" ["desk", "number", "given"] (spCall c 1 16)) (C_ask_rink : Cal P w K mg base 7 "ask_rink" ["rink", "number", "given"] (spDi c 17 30))
    (C_ir_back : Cal P w K mg base 1 "ir_back" ["desk"] (spD c (fun _ => .back) 0)) (C_ir_again : Cal P w K mg base 1 "ir_again" ["desk"] (spD c (fun _ => .again) 0)) (C_ir_state : Cal P w K mg base 2 "ir_state" ["desk"] (spD c (fun _ => .state) 0)) :
    Cal P w K mg base 9 "call_desk" ["desk", "number", "given"] (spCall c 0 33) := by
  refine F.ok sc_call_desk (fun vs H Q E h => ?_) (fun f cdv A outer s H vs Q E hr h => ?_)
  · obtain ⟨d, D, F, n, gl, ns, call, rfl, _⟩ := h
    rfl
  · obtain ⟨d, D, F, n, gl, ns, call, rfl, O, wd, hg, h1, h2, hm, ht, ha, k⟩ := h
    refine ⟨_, pss_cons (ps_if (pt_cmpR op_eq (pv 1) pe_int (nomark _)) (pss_one (ps_ret (pe_fn C_ir_start (hr.mono (by decide)) rfl (pa_cons (pv 0) (pa_cons (pe_ix ix_list (pv 2) pe_int (fun _ _ => rfl)) (pa_cons (pe_ix ix_list (pv 2) pe_int (fun _ _ => rfl)) (pa_cons (pe_ix ix_list (pv 2) pe_int (fun _ _ => rfl)) (pa_cons (pe_ix ix_list (pv 2) pe_int (fun _ _ => rfl)) pa_nil)))))))) pss_nil)
      (pss_cons (ps_if (pt_cmpR op_le (pv 1) pe_int (nomark _)) (pss_one (ps_ret (pe_fn C_change_desk (hr.mono (by decide)) rfl (pa_cons (pv 0) (pa_cons (pv 1) (pa_cons (pv 2) pa_nil)))))) pss_nil)
      (pss_cons (ps_if (pt_cmpR op_le (pv 1) pe_int (nomark _)) (pss_one (ps_ret (pe_fn C_ask_rink (hr.mono (by decide)) rfl (pa_cons (pe_fld (pv 0) rfl) (pa_cons (pv 1) (pa_cons (pv 2) pa_nil)))))) pss_nil)
      (pss_cons (ps_if (pt_cmpR op_eq (pv 1) pe_int (nomark _)) (pss_one (ps_ret (pe_fn C_ir_back (hr.mono (by decide)) rfl (pa_cons (pv 0) pa_nil)))) pss_nil)
      (pss_cons (ps_if (pt_cmpR op_eq (pv 1) pe_int (nomark _)) (pss_one (ps_ret (pe_fn C_ir_again (hr.mono (by decide)) rfl (pa_cons (pv 0) pa_nil)))) pss_nil)
      (pss_one (ps_ret (pe_fn C_ir_state (hr.mono (by decide)) rfl (pa_cons (pv 0) pa_nil)))))))), ?_⟩
    walk_at "rd"
    refine q_ite (fun e0 => ?_) (fun e0 => ?_)
    · have en : n = 0 := by omega
      subst en
      obtain ⟨x, y, z, u, rfl⟩ := len4 (Option.some.inj ha).symm
      obtain rfl := Option.some.inj hm
      walk_at "rd"
      refine q_ix (j := 0) (SqL.of hg) rfl rfl ?_
      walk_at "rd"
      refine q_ix (j := 1) (SqL.of hg) rfl rfl ?_
      walk_at "rd"
      refine q_ix (j := 2) (SqL.of hg) rfl rfl ?_
      walk_at "rd"
      refine q_ix (j := 3) (SqL.of hg) rfl rfl ?_
      walk_at "rd"
      exact ⟨d, D, F, [x, y, z, u], rfl, rfl, O, wd, k⟩
    walk_at "rd"
    refine q_ite (fun e1 => ?_) (fun e1 => ?_)
    · walk_at "rd"
      exact ⟨d, D, F, n, gl, ns, call, rfl, O, wd, hg, by omega, by omega, hm, ht, ha, k⟩
    walk_at "rd"
    refine q_ite (fun e2 => ?_) (fun e2 => ?_)
    · obtain ⟨a, le, ll, fp, es, ls, kk, rfl⟩ := O
      obtain ⟨dx, hd⟩ := kk.ins
      walk_at "rd"
      refine ⟨a, D.now, fp, n, gl, ns, rfl, kk.now, wd.now, hg, by omega, by omega, ha, fun H2 p fp' O2 F2 sub2 np pf hp => ?_⟩
      obtain ⟨q1, q2⟩ := ask_all ht (by omega) (by omega) D wd.now
      rw [q2] at O2 hp
      have K2 := kk.moved O2 F2 sub2
      have ed : (Km424.act D call).1 = D := congrArg Prod.fst q1
      refine k H2 p _ ⟨a, le, ll, fp', es, ls, by show Dk c H2 d (Km424.act D call).1 a le ll fp' es ls; rw [ed]; exact K2, rfl⟩ (F2.mono fun b m => by simp [m]) (kk.sub sub2) np (fun m => ?_) hp
      simp only [List.mem_cons, List.mem_append] at m
      have no : ∀ o', H p = some o' → False := fun o' q => by rw [np] at q; cases q
      rcases m with rfl | rfl | rfl | m | m | m
      · exact no _ hd
      · exact no _ kk.lE
      · exact no _ kk.lL
      · exact pf m
      · obtain ⟨e, he, m⟩ := mem_fpE m
        obtain ⟨o, ho⟩ := (kk.E e he).some_of m
        exact no _ ho
      · obtain ⟨e, he, m⟩ := mem_fpE m
        obtain ⟨o, ho⟩ := (kk.L e he).some_of m
        exact no _ ho
    walk_at "rd"
    refine q_ite (fun e3 => ?_) (fun e3 => ?_)
    · have en : n = 31 := by omega
      subst en
      obtain rfl := len0 (Option.some.inj ha).symm
      obtain rfl := Option.some.inj hm
      walk_at "rd"
      exact ⟨d, D, F, [], rfl, rfl, O, wd, k⟩
    walk_at "rd"
    refine q_ite (fun e4 => ?_) (fun e4 => ?_)
    · have en : n = 32 := by omega
      subst en
      obtain rfl := len0 (Option.some.inj ha).symm
      obtain rfl := Option.some.inj hm
      walk_at "rd"
      exact ⟨d, D, F, [], rfl, rfl, O, wd, k⟩
    have en : n = 33 := by omega
    subst en
    obtain rfl := len0 (Option.some.inj ha).symm
    obtain rfl := Option.some.inj hm
    walk_at "rd"
    exact ⟨d, D, F, [], rfl, rfl, O, wd, k⟩
end
/-! ### the whole list of calls -/
theorem OwnD.some_of {c : Cl} {H : Hp} {d : Addr} {D : Km424.Desk} {F : List Addr} (O : OwnD c H d D F) {b : Addr} (m : b ∈ F) : ∃ o, H b = some o := by
  obtain ⟨a, le, ll, fp, es, ls, kk, rfl⟩ := O
  exact kk.some_of m
theorem OwnD.keep {c : Cl} {H H' : Hp} {d : Addr} {D : Km424.Desk} {F : List Addr} (O : OwnD c H d D F) (h : ∀ b o, b ∈ F → H b = some o → H' b = some o) : OwnD c H' d D F := by
  obtain ⟨a, le, ll, fp, es, ls, kk, rfl⟩ := O
  exact ⟨_, _, _, _, _, _, kk.keep h, rfl⟩
theorem OwnD.notin {c : Cl} {H : Hp} {d : Addr} {D : Km424.Desk} {F : List Addr} (O : OwnD c H d D F) {p : Addr} (h : H p = none) : p ∉ F := fun m => by
  obtain ⟨o, e⟩ := O.some_of m
  rw [h] at e
  cases e
theorem cut_args (pre args post : List Int) (n : Int) : cutV ((pre ++ (n :: args ++ post)).map V.int) (some ((pre.length : Nat) + 1 : Int)) (some ((pre.length : Nat) + 1 + (args.length : Nat) : Int)) = args.map V.int := by
  have e1 : ((pre.length : Nat) : Int) + 1 = ((pre.length + 1 : Nat) : Int) := by omega
  have e2 : ((pre.length + 1 : Nat) : Int) + (args.length : Nat) = ((pre.length + 1 + args.length : Nat) : Int) := by omega
  unfold cutV
  rw [e1, e2, HT.sIx_nat, HT.sIx_nat]
  have hl : ((pre ++ (n :: args ++ post)).map V.int).length = pre.length + 1 + args.length + post.length := by simp; omega
  rw [hl, Nat.min_eq_left (by omega), Nat.min_eq_left (by omega)]
  have e3 : pre.length + 1 + args.length - (pre.length + 1) = args.length := by omega
  rw [e3, List.map_append, List.cons_append, List.map_cons, List.map_append]
  have e4 : (pre.map V.int ++ V.int n :: (args.map V.int ++ post.map V.int)).drop (pre.length + 1) = args.map V.int ++ post.map V.int := by
    rw [show pre.map V.int ++ V.int n :: (args.map V.int ++ post.map V.int) = (pre.map V.int ++ [V.int n]) ++ (args.map V.int ++ post.map V.int) by simp]
    exact List.drop_left' (by simp)
  rw [e4, List.take_append_of_le_length (by rw [List.length_map]; exact Nat.le_refl _)]
  exact List.take_of_length_le (by rw [List.length_map]; exact Nat.le_refl _)
section
variable {P : Program} {w : World} {K : PySem.W.Frag} {mg : Str → Option Value} {base : Heap} {c : Cl}
def spAns (K : PySem.W.Frag) : Sp := fun vs H Q _ => ∃ (a : Addr) (ns : List Int), vs = [.ref a] ∧ SqL K H a (ns.map V.int) ∧ PyKm424.answers_asked ns = true ∧ ∀ (H' : Hp) (p : Addr), H' p = some (.lst ((PyKm424.answers ns).map V.int)) → Q (.ref p) H'
abbrev s_answers : Stmt := top 109
theorem sc_answers : FnScope ["calls", "desk", "told", "at", "number", "behind", "answer"] ["calls"] (defScope s_answers) := ⟨rfl, rfl, rfl, by decide +kernel, rfl, by decide +kernel, by decide +kernel⟩
theorem ok_answers {fa : Addr} {fd : FuncData} (F : Fun K "answers" "answers" s_answers fa fd) (T : Txt K mg c) (C_Desk : Kls P w K mg base 5 "Desk" c.cD ["self"] (spDk c)) (C_call_desk : Cal P w K mg base 9 "call_desk" ["desk", "number", "given"] (spCall c 0 33)) : FnOk P w K mg base CX0 10 fa fd ["calls"] (spAns K) := by
  refine F.ok sc_answers (fun vs H Q E h => ?_) (fun cdv A outer s H vs Q E hr h => ?_)
  · obtain ⟨a, ns, rfl, _⟩ := h
    rfl
  · obtain ⟨a, ns, rfl, hS, hask, k⟩ := h
    obtain ⟨cs, el, h1000, ok, ea⟩ := asked_is hask
    refine ⟨_, pss_cons (ps_set (i := 1) sc_answers.nd rfl (Or.inl rfl) (pe_mk0 C_Desk (hr.mono (by decide)) rfl))
      (pss_cons (ps_set (i := 2) sc_answers.nd rfl (Or.inl rfl) (pe_lst pa_nil))
      (pss_cons (ps_set (i := 3) sc_answers.nd rfl (Or.inl rfl) pe_int)
      (pss_cons (ps_while PassesOwn.never (pt_cmpR op_lt (pv 3) (pe_callB call_len_seq (by rfl) T.b_len PySem.boot_len (pa_cons (pv 0) pa_nil)) (nomark _)) (pss_cons (ps_set (i := 4) sc_answers.nd rfl (Or.inl rfl) (pe_ix ix_list (pv 0) (pv 3) (fun _ _ => rfl)))
        (pss_cons (ps_set (i := 5) sc_answers.nd rfl (Or.inl rfl) (pe_op op_add (pe_op op_add (pv 3) pe_int) (pe_ix ix_tup (pe_tupc rfl T.c_GIVEN) (pv 4) (fun _ _ => rfl))))
        (pss_cons (ps_set (i := 6) sc_answers.nd rfl (Or.inl rfl) (pe_fn C_call_desk (hr.mono (by decide)) rfl (pa_cons (pv 1) (pa_cons (pv 4) (pa_cons (pe_slice sl_list (pv 0) (po_some (pe_op op_add (pv 3) pe_int)) (po_some (pv 5))) pa_nil)))))
        (pss_cons (ps_expr (pe_bm PySem.F.plainAttrs_list PySem.F.slot_list_append PySem.F.type_list_append mt_append (pv 2) (pa_cons (pe_callB call_len_seq (by rfl) T.b_len PySem.boot_len (pa_cons (pv 6) pa_nil)) pa_nil)))
        (pss_cons (ps_expr (pe_bm PySem.F.plainAttrs_list PySem.F.slot_list_extend PySem.F.type_list_extend mt_extend (pv 2) (pa_cons (pv 6) pa_nil)))
        (pss_one (ps_set (i := 3) sc_answers.nd rfl (Or.inl rfl) (pv 5)))))))))
      (pss_one (ps_ret (pv 2)))))), ?_⟩
    walk_at "rd"
    intro d d0 n0 m0 e0
    refine ⟨d, d0, rfl, upd_same, fun H1 F0 O1 F1 fr1 => ⟨rfl, ?_⟩⟩
    have s1 : Same H H1 := fun b o e => by
      refine F1.at1 ?_ (ne_of_none e n0)
      rw [upd_ne (ne_of_none e n0), upd_ne (ne_of_none e m0)]
      exact e
    have fr : ∀ b, b ∈ F0 → H b = none := fun b m => by
      rcases fr1 b m with rfl | h
      · exact n0
      · by_cases e : b = d
        · rw [e]; exact n0
        · rw [upd_ne e] at h
          by_cases e2 : b = d0
          · rw [e2]; exact m0
          · rw [upd_ne e2] at h
            exact h
    walk_at "rd"
    refine ⟨Nat.zero_le _, fun tl ntl => ?_⟩
    have tlF := O1.notin ntl
    have ntl0 : H tl = none := s1.free ntl
    have s2 : Same H1 (upd H1 tl (.lst [])) := Same.new ntl
    have htl : upd H1 tl (.lst []) tl = some (.lst []) := upd_same
    generalize upd H1 tl (.lst []) = H2 at s2 htl ⊢
    have O2 := O1.keep fun b o _ e => s2 b o e
    walk_at "rd"
    refine ⟨fun m σ H' => ∃ (done rest : List Cll) (D : Km424.Desk) (F : List Addr) (out : List Int) (v4 v5 v6 : Option V), cs = done ++ rest ∧ m = rest.length ∧ σ = [some (.ref a), some (.ref d), some (.ref tl), some (.int (((done.flatMap Cll.flat).length : Nat) : Int)), v4, v5, v6] ∧
      Same H H' ∧ OwnD c H' d D F ∧ (∀ b, b ∈ F → H b = none) ∧ Wd D ∧ tl ∉ F ∧ H' tl = some (.lst (out.map V.int)) ∧ out.length ≤ 7 * done.length ∧ out ++ outs D rest = outs (Km424.fresh 0 0 1 1) cs,
      ⟨_, [], cs, _, F0, [], none, none, none, rfl, rfl, rfl, s1.trans s2, O2, fr, wd_fresh, tlF, htl, Nat.zero_le _, rfl⟩, ?_⟩
    rintro m σ H' ⟨done, rest, D, F, out, v4, v5, v6, ec, rfl, rfl, s3, O3, fr3, wd, tlF3, htl3, hol, eo⟩
    have hS3 := s3.seq hS
    walk_at "rd"
    refine q_len hS3 ?_
    walk_at "rd"
    have hns : ns = done.flatMap Cll.flat ++ rest.flatMap Cll.flat := by rw [el, ec, List.flatMap_append]
    have hnl : (ns.map V.int).length = (done.flatMap Cll.flat).length + (rest.flatMap Cll.flat).length := by rw [List.length_map, hns, List.length_append]
    rw [hnl]
    cases rest with
    | nil =>
      refine q_ite (fun e => absurd e (by simp)) (fun _ => ?_)
      walk_at "rd"
      refine k H' tl ?_
      have eo : out = outs (Km424.fresh 0 0 1 1) cs := by simpa [outs] using eo
      rw [htl3, ea, eo]
    | cons cl rest =>
      have ok1 : cl.Ok := ok cl (by rw [ec]; simp)
      have hfl : cl.flat = (cl.num : Int) :: cl.args.map fun x : Nat => (x : Int) := rfl
      refine q_ite (fun _ => ?_) (fun e => absurd (show ((done.flatMap Cll.flat).length : Int) < (((done.flatMap Cll.flat).length + ((cl :: rest).flatMap Cll.flat).length : Nat) : Int) by
        rw [List.flatMap_cons, hfl]
        simp
        omega) e)
      rw [List.flatMap_cons, hfl] at hns
      generalize hpre : done.flatMap Cll.flat = pre at hns hnl ⊢
      generalize hpost : rest.flatMap Cll.flat = post at hns
      refine ⟨fun σ' H'' => ∃ (done rest' : List Cll) (D : Km424.Desk) (F : List Addr) (out : List Int) (v4 v5 v6 : Option V), cs = done ++ rest' ∧ rest.length = rest'.length ∧ σ' = [some (.ref a), some (.ref d), some (.ref tl), some (.int (((done.flatMap Cll.flat).length : Nat) : Int)), v4, v5, v6] ∧
        Same H H'' ∧ OwnD c H'' d D F ∧ (∀ b, b ∈ F → H b = none) ∧ Wd D ∧ tl ∉ F ∧ H'' tl = some (.lst (out.map V.int)) ∧ out.length ≤ 7 * done.length ∧ out ++ outs D rest' = outs (Km424.fresh 0 0 1 1) cs, fun σ' H'' h => ⟨rest.length, by simp, h⟩, ?_⟩
      walk_at "rd"
      refine q_ix (j := pre.length) hS3 rfl (v := .int (cl.num : Int)) (by rw [List.getElem?_map, hns]; simp) ?_
      walk_at "rd"
      have hga : (argN.map fun n : Nat => V.int (n : Int))[cl.num]? = some (.int (cl.args.length : Nat)) := by rw [List.getElem?_map, ok1.len]; rfl
      refine q_ixT (j := cl.num) (T.t_GIVEN H') rfl hga ?_
      walk_at "rd"
      refine ⟨a, _, rfl, hS3, fun gl ngl => ?_⟩
      have ecut : cutV (ns.map V.int) (some (((pre.length : Nat) : Int) + 1)) (some (((pre.length : Nat) : Int) + 1 + ((cl.args.length : Nat) : Int))) = cl.args.map fun n : Nat => V.int n := by
        rw [hns]
        have := cut_args pre (cl.args.map fun x : Nat => (x : Int)) post (cl.num : Int)
        rw [List.length_map, List.map_map] at this
        exact this
      rw [ecut]
      have s4 : Same H' (upd H' gl (.lst (cl.args.map fun n : Nat => V.int n))) := Same.new ngl
      have hgl : upd H' gl (.lst (cl.args.map fun n : Nat => V.int n)) gl = some (.lst (cl.args.map fun n : Nat => V.int n)) := upd_same
      generalize upd H' gl (.lst (cl.args.map fun n : Nat => V.int n)) = H4 at s4 hgl ⊢
      have O4 := O3.keep fun b o _ e => s4 b o e
      have htl4 := s4 _ _ htl3
      walk_at "rd"
      refine ⟨d, D, F, cl.num, gl, cl.args, cl.call, rfl, O4, wd, hgl, Nat.zero_le _, by have := ok1.num; omega, ok1.is, ok1.it, ok1.len, fun H5 p F5 O5 Fr5 sub5 np5 pF5 hp5 => ?_⟩
      have htl5 := Fr5 _ _ htl4 tlF3
      have ptl : p ≠ tl := fun q => by rw [q, htl4] at np5; cases np5
      have tlF5 : tl ∉ F5 := fun m => by
        rcases sub5 tl m with m | m
        · exact tlF3 m
        · rw [htl4] at m; cases m
      have hal := ans_len D cl.call
      generalize han : ansOf (Km424.act D cl.call).2 = ans at hal
      have hp5 : H5 p = some (.lst (ans.map V.int)) := by rw [← han]; exact hp5
      have hdl : done.length + 1 ≤ 1000 := by
        rw [ec] at h1000
        simp at h1000
        omega
      walk_at "rd"
      refine ⟨.inl ⟨rfl, _, SqL.of htl5⟩, ?_⟩
      walk_at "rd"
      refine q_len (SqL.of hp5) ?_
      walk_at "rd"
      rw [List.length_map]
      refine ⟨tl, _, _, rfl, rfl, htl5, ?_, ?_⟩
      · rw [List.length_map]
        exact Nat.lt_of_le_of_lt (show out.length ≤ 7000 by omega) (by decide)
      have em : (out.map V.int) ++ [V.int (ans.length : Nat)] = (out ++ [((ans.length : Nat) : Int)]).map V.int := by rw [List.map_append]; rfl
      rw [em]
      have htl6 : upd H5 tl (.lst ((out ++ [((ans.length : Nat) : Int)]).map V.int)) tl = some (.lst ((out ++ [((ans.length : Nat) : Int)]).map V.int)) := upd_same
      have hp6 : upd H5 tl (.lst ((out ++ [((ans.length : Nat) : Int)]).map V.int)) p = some (.lst (ans.map V.int)) := by rw [upd_ne ptl]; exact hp5
      have k6 : ∀ b, b ≠ tl → upd H5 tl (.lst ((out ++ [((ans.length : Nat) : Int)]).map V.int)) b = H5 b := fun b hb => upd_ne hb
      generalize upd H5 tl (.lst ((out ++ [((ans.length : Nat) : Int)]).map V.int)) = H6 at htl6 hp6 k6 ⊢
      walk_at "rd"
      refine ⟨.inl ⟨rfl, _, SqL.of htl6⟩, ?_⟩
      walk_at "rd"
      refine ⟨tl, p, _, _, rfl, rfl, htl6, hp6, ?_, ?_⟩
      · rw [List.length_map, List.length_map, List.length_append, List.length_singleton]
        exact Nat.le_trans (show out.length + 1 + ans.length ≤ 7000 by omega) (by decide)
      have em2 : ((out ++ [((ans.length : Nat) : Int)]).map V.int) ++ ans.map V.int = (out ++ (((ans.length : Nat) : Int) :: ans)).map V.int := by simp
      rw [em2]
      have htl7 : upd H6 tl (.lst ((out ++ (((ans.length : Nat) : Int) :: ans)).map V.int)) tl = some (.lst ((out ++ (((ans.length : Nat) : Int) :: ans)).map V.int)) := upd_same
      have k7 : ∀ b, b ≠ tl → upd H6 tl (.lst ((out ++ (((ans.length : Nat) : Int) :: ans)).map V.int)) b = H5 b := fun b hb => (upd_ne hb).trans (k6 b hb)
      generalize upd H6 tl (.lst ((out ++ (((ans.length : Nat) : Int) :: ans)).map V.int)) = H7 at htl7 k7 ⊢
      walk_at "rd"
      have hlen : ((done ++ [cl]).flatMap Cll.flat).length = pre.length + 1 + cl.args.length := by
        rw [List.flatMap_append, hpre, List.length_append]
        simp [hfl]
        omega
      refine ⟨done ++ [cl], rest, (Km424.act D cl.call).1, F5, out ++ (((ans.length : Nat) : Int) :: ans), some (.int (cl.num : Int)), some (.int (((pre.length : Nat) : Int) + 1 + ((cl.args.length : Nat) : Int))), some (.ref p), by rw [ec]; simp, rfl, ?_, fun b o e => ?_, O5.keep fun b o m e => (k7 b fun q => tlF5 (q ▸ m)).trans e, fun b m => ?_, wd_act ok1.it wd, tlF5, htl7, ?_, ?_⟩
      · have ei : ((pre.length + 1 + cl.args.length : Nat) : Int) = ((pre.length : Nat) : Int) + 1 + ((cl.args.length : Nat) : Int) := by omega
        rw [hlen, ei]
        rfl
      · have nb : b ∉ F := fun m => by rw [fr3 b m] at e; cases e
        rw [k7 b (ne_of_none e ntl0)]
        exact Fr5 b o (s4 _ _ (s3 _ _ e)) nb
      · rcases sub5 b m with m | m
        · exact fr3 b m
        · exact (s3.trans s4).free m
      · rw [List.length_append, List.length_cons, List.length_append, List.length_singleton]
        omega
      · rw [← eo, outs, han, List.append_assoc]
end
end Ir
set_option Elab.async false
set_option maxRecDepth 100000
set_option maxHeartbeats 2000000
namespace Ir
open PySem PySem.Spec PyProof.Rows L2
local macro_rules | `(tactic| walk_at "rd1") => `(tactic| with_reducible first
  | refine q_seq ?_ | refine q_next ?_ | refine q_if ?_ | refine q_test ?_ | refine q_testB ?_ | refine q_op ?_ | refine q_c ?_ | refine q_i0 ?_ | refine q_eq ?_ | refine q_ne ?_ | refine q_bl ?_ | refine q_ret ?_ | refine q_lst ?_ | refine q_tup ?_ | refine q_cons ?_ | refine q_nil ?_
  | refine q_and ?_ | refine q_or ?_ | refine q_not ?_ | refine q_andV ?_ | refine q_orV ?_ | refine q_set ?_ | refine q_drop ?_ | refine q_call ?_ | refine q_cb ?_ | refine q_make ?_ | refine q_forR ?_ | refine q_forL ?_ | refine q_forE ?_ | refine q_gname ?_ | refine q_bm ?_ | refine q_add ?_ | refine q_sub ?_ | refine q_fld ?_ | refine q_sfld ?_ | refine q_saug ?_ | refine q_ifE ?_ | refine q_notV ?_ | refine q_sl ?_ | refine q_part ?_ | refine q_int ?_ | refine q_yes ?_ | refine q_bm0 ?_)
set_option hygiene false in
local macro_rules | `(tactic| walk_at "rd") => `(tactic| repeat (first | walk_at "rd1" | refine q_var rfl ?_ | refine q_R T hi rfl ?_ | refine q_D T hd rfl ?_ | dsimp only | rw [if_pos (rfl : true = true)] | rw [if_neg Bool.false_ne_true]))
local macro_rules | `(tactic| walk_at "ifs") => `(tactic| repeat (first | rw [if_pos (by omega)] | rw [if_neg (by omega)]))
local macro_rules | `(tactic| walk_at "to") => `(tactic| repeat (first | walk_at "rd1" | dsimp only))
section
variable {P : Program} {w : World} {K : PySem.W.Frag} {mg : Str → Option Value} {base : Heap} {c : Cl}
theorem all_ok {fa : Addr} {fd : FuncData} (T : Txt K mg c) (FA : Fun K "answers" "answers" (top 109) fa fd)
    (D_pairs_in_all : Df K mg "pairs_in_all" (top 12) ["pairs"])
    (D_ir_pairs : Df K mg "ir_pairs" (top 13) ["rink", "k", "n"])
    (D_ir_hire : Df K mg "ir_hire" (top 14) ["rink", "k"])
    (D_ir_bring : Df K mg "ir_bring" (top 15) ["rink", "k", "blunt"])
    (D_ir_sharpen : Df K mg "ir_sharpen" (top 16) ["rink", "k", "n"])
    (D_nearest_size : Df K mg "nearest_size" (top 17) ["sizes", "k"])
    (D_ir_size : Df K mg "ir_size" (top 18) ["rink", "k"])
    (D_ir_nearest : Df K mg "ir_nearest" (top 19) ["rink", "k"])
    (K_Machine : Dm K mg "Machine" c.cM "Machine.__init__" (inClass (top 22) 0) ["self", "cold", "cost"])
    (K_Pairs : Dm K mg "Pairs" c.cP "Pairs.__init__" (inClass (top 23) 0) ["self"])
    (K_Session : Dm K mg "Session" c.cS "Session.__init__" (inClass (top 24) 0) ["self", "begin", "end", "fee"])
    (K_Rink : Dm K mg "Rink" c.cR "Rink.__init__" (inClass (top 25) 0) ["self", "base", "each", "least", "room"])
    (D_copy_of_machine : Df K mg "copy_of_machine" (top 26) ["machine"])
    (D_copy_of_pairs : Df K mg "copy_of_pairs" (top 27) ["pairs"])
    (D_copy_of_session : Df K mg "copy_of_session" (top 28) ["session"])
    (D_copy_of_rink : Df K mg "copy_of_rink" (top 29) ["rink"])
    (K_Desk : Dm K mg "Desk" c.cD "Desk.__init__" (inClass (top 36) 0) ["self"])
    (D_note_change : Df K mg "note_change" (top 37) ["desk", "before"])
    (D_ir_start : Df K mg "ir_start" (top 38) ["desk", "base", "each", "least", "room"])
    (D_ir_back : Df K mg "ir_back" (top 39) ["desk"])
    (D_ir_again : Df K mg "ir_again" (top 40) ["desk"])
    (D_ir_state : Df K mg "ir_state" (top 41) ["desk"])
    (D_cold_of : Df K mg "cold_of" (top 49) ["rink"])
    (D_cost_of : Df K mg "cost_of" (top 50) ["rink"])
    (D_heat_for : Df K mg "heat_for" (top 51) ["rink", "skaters"])
    (D_is_hard : Df K mg "is_hard" (top 52) ["rink"])
    (D_ir_machine : Df K mg "ir_machine" (top 53) ["rink", "cold", "cost"])
    (D_ir_run : Df K mg "ir_run" (top 54) ["rink", "k", "on"])
    (D_ir_flood : Df K mg "ir_flood" (top 55) ["rink", "n"])
    (D_ir_shave : Df K mg "ir_shave" (top 56) ["rink", "n"])
    (D_ir_drain : Df K mg "ir_drain" (top 57) ["rink", "n"])
    (D_freeze_or_melt : Df K mg "freeze_or_melt" (top 58) ["rink", "cold"])
    (D_send_all_off : Df K mg "send_all_off" (top 59) ["rink"])
    (D_pass_minute : Df K mg "pass_minute" (top 60) ["rink", "cold", "cost"])
    (D_ir_minutes : Df K mg "ir_minutes" (top 61) ["rink", "n"])
    (D_ir_go : Df K mg "ir_go" (top 62) ["rink", "n"])
    (D_ir_off : Df K mg "ir_off" (top 63) ["rink", "n"])
    (D_minutes_till_hard : Df K mg "minutes_till_hard" (top 67) ["rink"])
    (D_cheapest_machines : Df K mg "cheapest_machines" (top 68) ["machines", "heat"])
    (D_ir_hard : Df K mg "ir_hard" (top 69) ["rink"])
    (D_ir_soon : Df K mg "ir_soon" (top 70) ["rink"])
    (D_ir_bears : Df K mg "ir_bears" (top 71) ["rink"])
    (D_ir_cheapest : Df K mg "ir_cheapest" (top 72) ["rink", "n"])
    (D_ir_ice : Df K mg "ir_ice" (top 73) ["rink"])
    (D_ir_power : Df K mg "ir_power" (top 74) ["rink"])
    (D_ir_water : Df K mg "ir_water" (top 75) ["rink"])
    (D_ir_money : Df K mg "ir_money" (top 76) ["rink"])
    (D_two_fit : Df K mg "two_fit" (top 82) ["one", "other", "gap"])
    (D_earlier_that_clash : Df K mg "earlier_that_clash" (top 83) ["sessions", "k", "gap"])
    (D_days_that_fit : Df K mg "days_that_fit" (top 84) ["sessions", "gap"])
    (D_fits : Df K mg "fits" (top 85) ["sessions", "gap", "bits"])
    (D_fees_of : Df K mg "fees_of" (top 86) ["sessions", "bits"])
    (D_best_day : Df K mg "best_day" (top 87) ["sessions", "gap"])
    (D_ir_gap : Df K mg "ir_gap" (top 88) ["rink", "n"])
    (D_ir_ask : Df K mg "ir_ask" (top 89) ["rink", "begin", "end", "fee"])
    (D_ir_book : Df K mg "ir_book" (top 90) ["rink"])
    (D_ir_drop : Df K mg "ir_drop" (top 91) ["rink", "k"])
    (D_ir_would : Df K mg "ir_would" (top 92) ["rink", "asks"])
    (D_ir_best : Df K mg "ir_best" (top 93) ["rink"])
    (D_ir_who : Df K mg "ir_who" (top 94) ["rink", "minute"])
    (D_ir_look : Df K mg "ir_look" (top 95) ["rink", "k"])
    (D_change_ice : Df K mg "change_ice" (top 98) ["rink", "number", "given"])
    (D_change_skates : Df K mg "change_skates" (top 99) ["rink", "number", "given"])
    (D_change_sessions : Df K mg "change_sessions" (top 100) ["rink", "number", "given"])
    (D_change_rink : Df K mg "change_rink" (top 101) ["rink", "number", "given"])
    (D_ask_ice : Df K mg "ask_ice" (top 102) ["rink", "number", "given"])
    (D_ask_sessions : Df K mg "ask_sessions" (top 103) ["rink", "number", "given"])
    (D_ask_skates : Df K mg "ask_skates" (top 104) ["rink", "number", "given"])
    (D_ask_accounts : Df K mg "ask_accounts" (top 105) ["rink", "number"])
    (D_ask_rink : Df K mg "ask_rink" (top 106) ["rink", "number", "given"])
    (D_change_desk : Df K mg "change_desk" (top 107) ["desk", "number", "given"])
    (D_call_desk : Df K mg "call_desk" (top 108) ["desk", "number", "given"]) : FnOk P w K mg base CX0 10 fa fd ["calls"] (spAns K) := by
  have C_cold_of := ok_cold_of (P := P) (w := w) (base := base) D_cold_of T 
  have C_cost_of := ok_cost_of (P := P) (w := w) (base := base) D_cost_of T 
  have C_heat_for := ok_heat_for (P := P) (w := w) (base := base) D_heat_for T 
  have C_is_hard := ok_is_hard (P := P) (w := w) (base := base) D_is_hard T 
  have C_ir_flood := ok_ir_flood (P := P) (w := w) (base := base) D_ir_flood T 
  have C_ir_shave := ok_ir_shave (P := P) (w := w) (base := base) D_ir_shave T 
  have C_ir_drain := ok_ir_drain (P := P) (w := w) (base := base) D_ir_drain T 
  have C_ir_off := ok_ir_off (P := P) (w := w) (base := base) D_ir_off T 
  have C_Machine := ok_Machine (P := P) (w := w) (base := base) K_Machine T 
  have C_Pairs := ok_Pairs (P := P) (w := w) (base := base) K_Pairs T 
  have C_Session := ok_Session (P := P) (w := w) (base := base) K_Session T 
  have C_ir_machine := ok_ir_machine (P := P) (w := w) (base := base) D_ir_machine T C_Machine
  have C_ir_run := ok_ir_run (P := P) (w := w) (base := base) D_ir_run T C_cold_of
  have C_freeze_or_melt := ok_freeze_or_melt (P := P) (w := w) (base := base) D_freeze_or_melt T C_heat_for
  have C_send_all_off := ok_send_all_off (P := P) (w := w) (base := base) D_send_all_off T 
  have C_pass_minute := ok_pass_minute (P := P) (w := w) (base := base) D_pass_minute T C_freeze_or_melt C_is_hard C_send_all_off
  have C_ir_minutes := ok_ir_minutes (P := P) (w := w) (base := base) D_ir_minutes T C_cold_of C_cost_of C_pass_minute
  have C_ir_go := ok_ir_go (P := P) (w := w) (base := base) D_ir_go T C_is_hard
  have C_pairs_in_all := ok_pairs_in_all (P := P) (w := w) (base := base) D_pairs_in_all T 
  have C_ir_pairs := ok_ir_pairs (P := P) (w := w) (base := base) D_ir_pairs T C_pairs_in_all
  have C_ir_hire := ok_ir_hire (P := P) (w := w) (base := base) D_ir_hire T 
  have C_ir_bring := ok_ir_bring (P := P) (w := w) (base := base) D_ir_bring T 
  have C_ir_sharpen := ok_ir_sharpen (P := P) (w := w) (base := base) D_ir_sharpen T 
  have C_two_fit := ok_two_fit (P := P) (w := w) (base := base) D_two_fit T 
  have C_earlier_that_clash := ok_earlier_that_clash (P := P) (w := w) (base := base) D_earlier_that_clash T C_two_fit
  have C_days_that_fit := ok_days_that_fit (P := P) (w := w) (base := base) D_days_that_fit T C_earlier_that_clash
  have C_best_day := ok_best_day (P := P) (w := w) (base := base) D_best_day T C_days_that_fit
  have C_ir_gap := ok_ir_gap (P := P) (w := w) (base := base) D_ir_gap T 
  have C_ir_ask := ok_ir_ask (P := P) (w := w) (base := base) D_ir_ask T C_Session
  have C_ir_drop := ok_ir_drop (P := P) (w := w) (base := base) D_ir_drop T 
  have C_ir_book := ok_ir_book (P := P) (w := w) (base := base) D_ir_book T C_best_day
  have C_minutes_till_hard := ok_minutes_till_hard (P := P) (w := w) (base := base) D_minutes_till_hard T C_is_hard C_cold_of C_heat_for
  have C_ir_soon := ok_ir_soon (P := P) (w := w) (base := base) D_ir_soon T C_minutes_till_hard
  have C_ir_hard := ok_ir_hard (P := P) (w := w) (base := base) D_ir_hard T C_is_hard
  have C_ir_bears := ok_ir_bears (P := P) (w := w) (base := base) D_ir_bears T C_cold_of
  have C_ir_ice := ok_ir_ice (P := P) (w := w) (base := base) D_ir_ice T 
  have C_ir_water := ok_ir_water (P := P) (w := w) (base := base) D_ir_water T 
  have C_ir_power := ok_ir_power (P := P) (w := w) (base := base) D_ir_power T C_cold_of C_cost_of C_heat_for
  have C_ir_money := ok_ir_money (P := P) (w := w) (base := base) D_ir_money T 
  have C_cheapest_machines := ok_cheapest_machines (P := P) (w := w) (base := base) D_cheapest_machines T 
  have C_ir_cheapest := ok_ir_cheapest (P := P) (w := w) (base := base) D_ir_cheapest T C_heat_for C_cheapest_machines
  have C_fits := ok_fits (P := P) (w := w) (base := base) D_fits T C_earlier_that_clash
  have C_fees_of := ok_fees_of (P := P) (w := w) (base := base) D_fees_of T 
  have C_ir_would := ok_ir_would (P := P) (w := w) (base := base) D_ir_would T C_fits C_fees_of
  have C_ir_best := ok_ir_best (P := P) (w := w) (base := base) D_ir_best T C_best_day
  have C_ir_look := ok_ir_look (P := P) (w := w) (base := base) D_ir_look T 
  have C_ir_who := ok_ir_who (P := P) (w := w) (base := base) D_ir_who T 
  have C_nearest_size := ok_nearest_size (P := P) (w := w) (base := base) D_nearest_size T 
  have C_ir_nearest := ok_ir_nearest (P := P) (w := w) (base := base) D_ir_nearest T C_nearest_size
  have C_ir_size := ok_ir_size (P := P) (w := w) (base := base) D_ir_size T C_pairs_in_all
  have C_Rink := ok_Rink (P := P) (w := w) (base := base) K_Rink T C_Pairs
  have C_copy_of_machine := ok_copy_of_machine (P := P) (w := w) (base := base) D_copy_of_machine T C_Machine
  have C_copy_of_pairs := ok_copy_of_pairs (P := P) (w := w) (base := base) D_copy_of_pairs T C_Pairs
  have C_copy_of_session := ok_copy_of_session (P := P) (w := w) (base := base) D_copy_of_session T C_Session
  have C_copy_of_rink := ok_copy_of_rink (P := P) (w := w) (base := base) D_copy_of_rink T C_Rink C_copy_of_machine C_copy_of_pairs C_copy_of_session
  have C_Desk := ok_Desk (P := P) (w := w) (base := base) K_Desk T C_Rink
  have C_note_change := ok_note_change (P := P) (w := w) (base := base) D_note_change T 
  have C_ir_back := ok_ir_back (P := P) (w := w) (base := base) D_ir_back T 
  have C_ir_again := ok_ir_again (P := P) (w := w) (base := base) D_ir_again T 
  have C_ir_state := ok_ir_state (P := P) (w := w) (base := base) D_ir_state T C_pairs_in_all
  have C_ir_start := ok_ir_start (P := P) (w := w) (base := base) D_ir_start T C_Rink
  have C_change_ice := ok_change_ice (P := P) (w := w) (base := base) D_change_ice T C_ir_machine C_ir_run C_ir_flood C_ir_shave C_ir_drain C_ir_minutes C_ir_go C_ir_off
  have C_change_skates := ok_change_skates (P := P) (w := w) (base := base) D_change_skates T C_ir_pairs C_ir_hire C_ir_bring C_ir_sharpen
  have C_change_sessions := ok_change_sessions (P := P) (w := w) (base := base) D_change_sessions T C_ir_gap C_ir_ask C_ir_book C_ir_drop
  have C_ask_ice := ok_ask_ice (P := P) (w := w) (base := base) D_ask_ice T C_ir_hard C_ir_soon C_ir_bears C_ir_cheapest
  have C_ask_sessions := ok_ask_sessions (P := P) (w := w) (base := base) D_ask_sessions T C_ir_would C_ir_best C_ir_who C_ir_look
  have C_ask_skates := ok_ask_skates (P := P) (w := w) (base := base) D_ask_skates T C_ir_size C_ir_nearest
  have C_ask_accounts := ok_ask_accounts (P := P) (w := w) (base := base) D_ask_accounts T C_ir_ice C_ir_power C_ir_water C_ir_money
  have C_change_rink := ok_change_rink (P := P) (w := w) (base := base) D_change_rink T C_change_ice C_change_skates C_change_sessions
  have C_ask_rink := ok_ask_rink (P := P) (w := w) (base := base) D_ask_rink T C_ask_ice C_ask_sessions C_ask_skates C_ask_accounts
  have C_change_desk := ok_change_desk (P := P) (w := w) (base := base) D_change_desk T C_copy_of_rink C_change_rink C_note_change
  have C_call_desk := ok_call_desk (P := P) (w := w) (base := base) D_call_desk T C_ir_start C_change_desk C_ask_rink C_ir_back C_ir_again C_ir_state
  exact ok_answers FA T C_Desk C_call_desk
end
theorem ans_mk {P : Program} {w : World} {K : PySem.W.Frag} {h : Heap} {mg : Str → Option Value} {fa f : Addr} {oc : Value} {od an : Option Addr} {osl : Array (Option Value)} {kV doc pm cdv ct : Value} (X : K.In h) (G : h.Ns mainGlobals mg) (hfa : mg "answers" = some (.ref fa))
    (a : PySem.W.nsIn K mainGlobals "answers" = some (some (.ref f))) (l : K.lookup f = some ⟨oc, od, .func (PySem.W.fnOf "answers" "answers" (defArgs (top 109)) (defBody (top 109)) (defScope (top 109)) .none kV doc pm an cdv ct), osl⟩) (cd : PySem.W.codeIn K cdv "answers" = true) (k : PySem.W.keepIn K (.ref f) = true)
    (H : ∀ (fd : FuncData), Fun K "answers" "answers" (top 109) f fd → ∀ base : Heap, FnOk P w K mg base CX0 10 f fd ["calls"] (spAns K)) :
    ∃ fd : FuncData, (∀ (s : Shared) (us : List Value), us.length = (["calls"] : List Str).length → BindsTo s fd ⟨us, []⟩ ((["calls"] : List Str).zip us)) ∧ ∀ base : Heap, K.In base → base.Ns mainGlobals mg → FnOk P w K mg base CX0 10 fa fd ["calls"] (spAns K) := by
  have e := hfa.symm.trans (PySem.W.mg_of X G a)
  cases e
  exact ⟨PySem.W.fnOf "answers" "answers" (defArgs (top 109)) (defBody (top 109)) (defScope (top 109)) .none kV doc pm an cdv ct, fun s us hu => match us, hu with | [_], _ => .of_eq rfl, fun base _ _ => H _ (fun_mk l cd k) base⟩
end Ir
set_option Elab.async true
def PySem.Challenge.cw_icerink_s01_answers_holds.tw15859712964720623295 : Unit := ()
def PySem.Challenge.cw_icerink_s01_answers_holds.tw1133985110943799640 : Unit := ()
def PySem.Challenge.cw_icerink_s01_answers_holds.tw17342880122908051143 : Unit := ()
def PySem.Challenge.cw_icerink_s01_answers_holds.tw4259554593447476127 : Unit := ()
def PySem.Challenge.cw_icerink_s01_answers_holds.tw16610151357670091088 : Unit := ()
def PySem.Challenge.cw_icerink_s01_answers_holds.tw6316912637091125161 : Unit := ()
def PySem.Challenge.cw_icerink_s01_answers_holds.tw13311868992037784561 : Unit := ()
def PySem.Challenge.cw_icerink_s01_answers_holds.tw9884373201378654722 : Unit := ()
def PySem.Challenge.cw_icerink_s01_answers_holds.tw17601370784577364025 : Unit := ()
def PySem.Challenge.cw_icerink_s01_answers_holds.tw10413879895163332657 : Unit := ()
def PySem.Challenge.cw_icerink_s01_answers_holds.tw1908304045762847908 : Unit := ()
def PySem.Challenge.cw_icerink_s01_answers_holds.tw13017255888663553454 : Unit := ()
def PySem.Challenge.cw_icerink_s01_answers_holds.tw10257527269017247571 : Unit := ()
def PySem.Challenge.cw_icerink_s01_answers_holds.tw16734967869468466625 : Unit := ()
def PySem.Challenge.cw_icerink_s01_answers_holds.tw13502439667770866030 : Unit := ()
def PySem.Challenge.cw_icerink_s01_answers_holds.tw16813607200187372816 : Unit := ()
def PySem.Challenge.cw_icerink_s01_answers_holds.tw2842303066941240748 : Unit := ()
def PySem.Challenge.cw_icerink_s01_answers_holds.tw4724831384283832129 : Unit := ()
def PySem.Challenge.cw_icerink_s01_answers_holds.tw8214331997393460223 : Unit := ()
def PySem.Challenge.cw_icerink_s01_answers_holds.tw1590137101057757197 : Unit := ()
def PySem.Challenge.cw_icerink_s01_answers_holds.tw15984896708015854649 : Unit := ()
def PySem.Challenge.cw_icerink_s01_answers_holds.tw8039817572333326660 : Unit := ()
def PySem.Challenge.cw_icerink_s01_answers_holds.tw815191938842451315 : Unit := ()
def PySem.Challenge.cw_icerink_s01_answers_holds.tw5684971312815901331 : Unit := ()
def PySem.Challenge.cw_icerink_s01_answers_holds.tw14582883027522489744 : Unit := ()
def PySem.Challenge.cw_icerink_s01_answers_holds.tw10868042315977286519 : Unit := ()
def PySem.Challenge.cw_icerink_s01_answers_holds.tw16239364913363201497 : Unit := ()
def PySem.Challenge.cw_icerink_s01_answers_holds.tw1642959576499506904 : Unit := ()
def PySem.Challenge.cw_icerink_s01_answers_holds.tw4244208155590895389 : Unit := ()
def PySem.Challenge.cw_icerink_s01_answers_holds.tw8956552782595188019 : Unit := ()
def PySem.Challenge.cw_icerink_s01_answers_holds.tw11999075390272692805 : Unit := ()
def PySem.Challenge.cw_icerink_s01_answers_holds.tw11799006741403395189 : Unit := ()
def PySem.Challenge.cw_icerink_s01_answers_holds.tw7316660632299797590 : Unit := ()
def PySem.Challenge.cw_icerink_s01_answers_holds.tw15474838776802800935 : Unit := ()
def PySem.Challenge.cw_icerink_s01_answers_holds.tw5682792491708791874 : Unit := ()
def PySem.Challenge.cw_icerink_s01_answers_holds.tw4719565792443460035 : Unit := ()
def PySem.Challenge.cw_icerink_s01_answers_holds.tw2093504683043643048 : Unit := ()
def PySem.Challenge.cw_icerink_s01_answers_holds.tw580708991651601272 : Unit := ()
open PySem PySem.W PyProof.Rows
set_option maxRecDepth 100000 in
set_option maxHeartbeats 0 in
theorem PySem.Challenge.cw_icerink_s01_answers_holds : PySem.Challenge.rw_icerink_s01_answers.Holds := by
  w_on; k_headS; (case hw => exact ⟨[.list [.int 0, .int 0, .int 0, .int 1, .int 1]], by decide +kernel, by decide +kernel⟩)
  k_fillS
  refine L2.walk_specK (r := PySem.Challenge.rw_icerink_s01_answers) (k := 10) (CX := L2.CX0) (ps := ["calls"]) (sp := Ir.spAns) (by decide +kernel) rfl rfl ⟨rfl, by decide, by decide⟩ (fun w h Y => PySem.W.kIn_of Y) ?F ?S (fun _ _ _ _ z => z)
  case F =>
    intro w mg fa h Y KX G hmg
    have K_Machine : ∃ C, PySem.W.nsIn (Ir.KOf KX) mainGlobals "Machine" = some (some (.ref C)) ∧ Ir.Dm (Ir.KOf KX) mg "Machine" C "Machine.__init__" (L2.inClass (Ir.top 22) 0) ["self", "cold", "cost"] ∧ L2.Cls (Ir.KOf KX) C ∧ (∀ x ∈ Ir.mN, L2.NoAttr (Ir.KOf KX) C x) := by
      dsimp only [Ir.KOf]
      refine' Ir.dm_mk (fs := Ir.mN) KX G ?a_Machine ?mk_Machine ?i_Machine ?fn_Machine ?kc_Machine ?l_Machine ?c_Machine ?k_Machine ?pg_Machine ?hd_Machine ?po_Machine ?sa_Machine ?nf_Machine ?b_Machine
      (case a_Machine => k_is); (case mk_Machine => k_is); (case i_Machine => k_is); (case fn_Machine => k_is); (case kc_Machine => k_is); (case l_Machine => k_is); (case c_Machine => k_is); (case k_Machine => k_is); (case pg_Machine => k_is); (case hd_Machine => k_is); (case po_Machine => k_is); (case sa_Machine => k_is)
      (case nf_Machine => simp only [Ir.mN, List.forall_mem_cons, List.not_mem_nil, false_implies, implies_true, and_true]; refine' ⟨?_, ?_, ?_⟩; all_goals k_is)
      exact fun _ _ _ _ _ _ us hl => match us, hl with | [_, _, _], _ => rfl
    have K_Pairs : ∃ C, PySem.W.nsIn (Ir.KOf KX) mainGlobals "Pairs" = some (some (.ref C)) ∧ Ir.Dm (Ir.KOf KX) mg "Pairs" C "Pairs.__init__" (L2.inClass (Ir.top 23) 0) ["self"] ∧ L2.Cls (Ir.KOf KX) C ∧ (∀ x ∈ Ir.pN, L2.NoAttr (Ir.KOf KX) C x) := by
      dsimp only [Ir.KOf]
      refine' Ir.dm_mk (fs := Ir.pN) KX G ?a_Pairs ?mk_Pairs ?i_Pairs ?fn_Pairs ?kc_Pairs ?l_Pairs ?c_Pairs ?k_Pairs ?pg_Pairs ?hd_Pairs ?po_Pairs ?sa_Pairs ?nf_Pairs ?b_Pairs
      (case a_Pairs => k_is); (case mk_Pairs => k_is); (case i_Pairs => k_is); (case fn_Pairs => k_is); (case kc_Pairs => k_is); (case l_Pairs => k_is); (case c_Pairs => k_is); (case k_Pairs => k_is); (case pg_Pairs => k_is); (case hd_Pairs => k_is); (case po_Pairs => k_is); (case sa_Pairs => k_is)
      (case nf_Pairs => simp only [Ir.pN, List.forall_mem_cons, List.not_mem_nil, false_implies, implies_true, and_true]; refine' ⟨?_, ?_, ?_⟩; all_goals k_is)
      exact fun _ _ _ _ _ _ us hl => match us, hl with | [_], _ => rfl
    have K_Session : ∃ C, PySem.W.nsIn (Ir.KOf KX) mainGlobals "Session" = some (some (.ref C)) ∧ Ir.Dm (Ir.KOf KX) mg "Session" C "Session.__init__" (L2.inClass (Ir.top 24) 0) ["self", "begin", "end", "fee"] ∧ L2.Cls (Ir.KOf KX) C ∧ (∀ x ∈ Ir.sN, L2.NoAttr (Ir.KOf KX) C x) := by
      dsimp only [Ir.KOf]
      refine' Ir.dm_mk (fs := Ir.sN) KX G ?a_Session ?mk_Session ?i_Session ?fn_Session ?kc_Session ?l_Session ?c_Session ?k_Session ?pg_Session ?hd_Session ?po_Session ?sa_Session ?nf_Session ?b_Session
      (case a_Session => k_is); (case mk_Session => k_is); (case i_Session => k_is); (case fn_Session => k_is); (case kc_Session => k_is); (case l_Session => k_is); (case c_Session => k_is); (case k_Session => k_is); (case pg_Session => k_is); (case hd_Session => k_is); (case po_Session => k_is); (case sa_Session => k_is)
      (case nf_Session => simp only [Ir.sN, List.forall_mem_cons, List.not_mem_nil, false_implies, implies_true, and_true]; refine' ⟨?_, ?_, ?_, ?_⟩; all_goals k_is)
      exact fun _ _ _ _ _ _ us hl => match us, hl with | [_, _, _, _], _ => rfl
    have K_Rink : ∃ C, PySem.W.nsIn (Ir.KOf KX) mainGlobals "Rink" = some (some (.ref C)) ∧ Ir.Dm (Ir.KOf KX) mg "Rink" C "Rink.__init__" (L2.inClass (Ir.top 25) 0) ["self", "base", "each", "least", "room"] ∧ L2.Cls (Ir.KOf KX) C ∧ (∀ x ∈ Ir.rN, L2.NoAttr (Ir.KOf KX) C x) := by
      dsimp only [Ir.KOf]
      refine' Ir.dm_mk (fs := Ir.rN) KX G ?a_Rink ?mk_Rink ?i_Rink ?fn_Rink ?kc_Rink ?l_Rink ?c_Rink ?k_Rink ?pg_Rink ?hd_Rink ?po_Rink ?sa_Rink ?nf_Rink ?b_Rink
      (case a_Rink => k_is); (case mk_Rink => k_is); (case i_Rink => k_is); (case fn_Rink => k_is); (case kc_Rink => k_is); (case l_Rink => k_is); (case c_Rink => k_is); (case k_Rink => k_is); (case pg_Rink => k_is); (case hd_Rink => k_is); (case po_Rink => k_is); (case sa_Rink => k_is)
      (case nf_Rink => simp only [Ir.rN, List.forall_mem_cons, List.not_mem_nil, false_implies, implies_true, and_true]; refine' ⟨?_, ?_, ?_, ?_, ?_, ?_, ?_, ?_, ?_, ?_, ?_, ?_, ?_, ?_, ?_, ?_, ?_⟩; all_goals k_is)
      exact fun _ _ _ _ _ _ us hl => match us, hl with | [_, _, _, _, _], _ => rfl
    have K_Desk : ∃ C, PySem.W.nsIn (Ir.KOf KX) mainGlobals "Desk" = some (some (.ref C)) ∧ Ir.Dm (Ir.KOf KX) mg "Desk" C "Desk.__init__" (L2.inClass (Ir.top 36) 0) ["self"] ∧ L2.Cls (Ir.KOf KX) C ∧ (∀ x ∈ Ir.dN, L2.NoAttr (Ir.KOf KX) C x) := by
      dsimp only [Ir.KOf]
      refine' Ir.dm_mk (fs := Ir.dN) KX G ?a_Desk ?mk_Desk ?i_Desk ?fn_Desk ?kc_Desk ?l_Desk ?c_Desk ?k_Desk ?pg_Desk ?hd_Desk ?po_Desk ?sa_Desk ?nf_Desk ?b_Desk
      (case a_Desk => k_is); (case mk_Desk => k_is); (case i_Desk => k_is); (case fn_Desk => k_is); (case kc_Desk => k_is); (case l_Desk => k_is); (case c_Desk => k_is); (case k_Desk => k_is); (case pg_Desk => k_is); (case hd_Desk => k_is); (case po_Desk => k_is); (case sa_Desk => k_is)
      (case nf_Desk => simp only [Ir.dN, List.forall_mem_cons, List.not_mem_nil, false_implies, implies_true, and_true]; refine' ⟨?_, ?_, ?_⟩; all_goals k_is)
      exact fun _ _ _ _ _ _ us hl => match us, hl with | [_], _ => rfl
    have c_NOT_THERE : ∃ t, mg "NOT_THERE" = some (.int (-2) t) := by
      refine' Ir.num_mk (K := Ir.KOf KX) KX G ?a_NOT_THERE
      (case a_NOT_THERE => (try dsimp only [Ir.KOf]); k_is)
    have c_NONE_SUCH : ∃ t, mg "NONE_SUCH" = some (.int (-6) t) := by
      refine' Ir.num_mk (K := Ir.KOf KX) KX G ?a_NONE_SUCH
      (case a_NONE_SUCH => (try dsimp only [Ir.KOf]); k_is)
    have c_TOO_FEW : ∃ t, mg "TOO_FEW" = some (.int (-12) t) := by
      refine' Ir.num_mk (K := Ir.KOf KX) KX G ?a_TOO_FEW
      (case a_TOO_FEW => (try dsimp only [Ir.KOf]); k_is)
    have c_NOT_HARD : ∃ t, mg "NOT_HARD" = some (.int (-13) t) := by
      refine' Ir.num_mk (K := Ir.KOf KX) KX G ?a_NOT_HARD
      (case a_NOT_HARD => (try dsimp only [Ir.KOf]); k_is)
    have c_IN_USE : ∃ t, mg "IN_USE" = some (.int (-16) t) := by
      refine' Ir.num_mk (K := Ir.KOf KX) KX G ?a_IN_USE
      (case a_IN_USE => (try dsimp only [Ir.KOf]); k_is)
    have c_ALREADY_SO : ∃ t, mg "ALREADY_SO" = some (.int (-17) t) := by
      refine' Ir.num_mk (K := Ir.KOf KX) KX G ?a_ALREADY_SO
      (case a_ALREADY_SO => (try dsimp only [Ir.KOf]); k_is)
    have c_NOT_AS_TOLD : ∃ t, mg "NOT_AS_TOLD" = some (.int (-22) t) := by
      refine' Ir.num_mk (K := Ir.KOf KX) KX G ?a_NOT_AS_TOLD
      (case a_NOT_AS_TOLD => (try dsimp only [Ir.KOf]); k_is)
    have c_NO_ROOM : ∃ t, mg "NO_ROOM" = some (.int (-28) t) := by
      refine' Ir.num_mk (K := Ir.KOf KX) KX G ?a_NO_ROOM
      (case a_NO_ROOM => (try dsimp only [Ir.KOf]); k_is)
    have c_OUT_OF_REACH : ∃ t, mg "OUT_OF_REACH" = some (.int (-33) t) := by
      refine' Ir.num_mk (K := Ir.KOf KX) KX G ?a_OUT_OF_REACH
      (case a_OUT_OF_REACH => (try dsimp only [Ir.KOf]); k_is)
    have c_TOO_LATE : ∃ t, mg "TOO_LATE" = some (.int (-75) t) := by
      refine' Ir.num_mk (K := Ir.KOf KX) KX G ?a_TOO_LATE
      (case a_TOO_LATE => (try dsimp only [Ir.KOf]); k_is)
    have c_MOST_PAIRS : ∃ t, mg "MOST_PAIRS" = some (.int 100 t) := by
      refine' Ir.num_mk (K := Ir.KOf KX) KX G ?a_MOST_PAIRS
      (case a_MOST_PAIRS => (try dsimp only [Ir.KOf]); k_is)
    have D_pairs_in_all : Ir.Df (Ir.KOf KX) mg "pairs_in_all" (Ir.top 12) ["pairs"] := by
      dsimp only [Ir.KOf]
      refine' Ir.df_mk KX G ?a_pairs_in_all ?l_pairs_in_all ?c_pairs_in_all ?k_pairs_in_all ?b_pairs_in_all
      (case a_pairs_in_all => k_is); (case l_pairs_in_all => k_is); (case c_pairs_in_all => k_is); (case k_pairs_in_all => k_is)
      exact fun _ _ _ _ _ _ us hl => match us, hl with | [_], _ => rfl
    have D_ir_pairs : Ir.Df (Ir.KOf KX) mg "ir_pairs" (Ir.top 13) ["rink", "k", "n"] := by
      dsimp only [Ir.KOf]
      refine' Ir.df_mk KX G ?a_ir_pairs ?l_ir_pairs ?c_ir_pairs ?k_ir_pairs ?b_ir_pairs
      (case a_ir_pairs => k_is); (case l_ir_pairs => k_is); (case c_ir_pairs => k_is); (case k_ir_pairs => k_is)
      exact fun _ _ _ _ _ _ us hl => match us, hl with | [_, _, _], _ => rfl
    have D_ir_hire : Ir.Df (Ir.KOf KX) mg "ir_hire" (Ir.top 14) ["rink", "k"] := by
      dsimp only [Ir.KOf]
      refine' Ir.df_mk KX G ?a_ir_hire ?l_ir_hire ?c_ir_hire ?k_ir_hire ?b_ir_hire
      (case a_ir_hire => k_is); (case l_ir_hire => k_is); (case c_ir_hire => k_is); (case k_ir_hire => k_is)
      exact fun _ _ _ _ _ _ us hl => match us, hl with | [_, _], _ => rfl
    have D_ir_bring : Ir.Df (Ir.KOf KX) mg "ir_bring" (Ir.top 15) ["rink", "k", "blunt"] := by
      dsimp only [Ir.KOf]
      refine' Ir.df_mk KX G ?a_ir_bring ?l_ir_bring ?c_ir_bring ?k_ir_bring ?b_ir_bring
      (case a_ir_bring => k_is); (case l_ir_bring => k_is); (case c_ir_bring => k_is); (case k_ir_bring => k_is)
      exact fun _ _ _ _ _ _ us hl => match us, hl with | [_, _, _], _ => rfl
    have D_ir_sharpen : Ir.Df (Ir.KOf KX) mg "ir_sharpen" (Ir.top 16) ["rink", "k", "n"] := by
      dsimp only [Ir.KOf]
      refine' Ir.df_mk KX G ?a_ir_sharpen ?l_ir_sharpen ?c_ir_sharpen ?k_ir_sharpen ?b_ir_sharpen
      (case a_ir_sharpen => k_is); (case l_ir_sharpen => k_is); (case c_ir_sharpen => k_is); (case k_ir_sharpen => k_is)
      exact fun _ _ _ _ _ _ us hl => match us, hl with | [_, _, _], _ => rfl
    have D_nearest_size : Ir.Df (Ir.KOf KX) mg "nearest_size" (Ir.top 17) ["sizes", "k"] := by
      dsimp only [Ir.KOf]
      refine' Ir.df_mk KX G ?a_nearest_size ?l_nearest_size ?c_nearest_size ?k_nearest_size ?b_nearest_size
      (case a_nearest_size => k_is); (case l_nearest_size => k_is); (case c_nearest_size => k_is); (case k_nearest_size => k_is)
      exact fun _ _ _ _ _ _ us hl => match us, hl with | [_, _], _ => rfl
    have D_ir_size : Ir.Df (Ir.KOf KX) mg "ir_size" (Ir.top 18) ["rink", "k"] := by
      dsimp only [Ir.KOf]
      refine' Ir.df_mk KX G ?a_ir_size ?l_ir_size ?c_ir_size ?k_ir_size ?b_ir_size
      (case a_ir_size => k_is); (case l_ir_size => k_is); (case c_ir_size => k_is); (case k_ir_size => k_is)
      exact fun _ _ _ _ _ _ us hl => match us, hl with | [_, _], _ => rfl
    have D_ir_nearest : Ir.Df (Ir.KOf KX) mg "ir_nearest" (Ir.top 19) ["rink", "k"] := by
      dsimp only [Ir.KOf]
      refine' Ir.df_mk KX G ?a_ir_nearest ?l_ir_nearest ?c_ir_nearest ?k_ir_nearest ?b_ir_nearest
      (case a_ir_nearest => k_is); (case l_ir_nearest => k_is); (case c_ir_nearest => k_is); (case k_ir_nearest => k_is)
      exact fun _ _ _ _ _ _ us hl => match us, hl with | [_, _], _ => rfl
    have c_SIZES : ∃ t, mg "SIZES" = some (.int 10 t) := by
      refine' Ir.num_mk (K := Ir.KOf KX) KX G ?a_SIZES
      (case a_SIZES => (try dsimp only [Ir.KOf]); k_is)
    have D_copy_of_machine : Ir.Df (Ir.KOf KX) mg "copy_of_machine" (Ir.top 26) ["machine"] := by
      dsimp only [Ir.KOf]
      refine' Ir.df_mk KX G ?a_copy_of_machine ?l_copy_of_machine ?c_copy_of_machine ?k_copy_of_machine ?b_copy_of_machine
      (case a_copy_of_machine => k_is); (case l_copy_of_machine => k_is); (case c_copy_of_machine => k_is); (case k_copy_of_machine => k_is)
      exact fun _ _ _ _ _ _ us hl => match us, hl with | [_], _ => rfl
    have D_copy_of_pairs : Ir.Df (Ir.KOf KX) mg "copy_of_pairs" (Ir.top 27) ["pairs"] := by
      dsimp only [Ir.KOf]
      refine' Ir.df_mk KX G ?a_copy_of_pairs ?l_copy_of_pairs ?c_copy_of_pairs ?k_copy_of_pairs ?b_copy_of_pairs
      (case a_copy_of_pairs => k_is); (case l_copy_of_pairs => k_is); (case c_copy_of_pairs => k_is); (case k_copy_of_pairs => k_is)
      exact fun _ _ _ _ _ _ us hl => match us, hl with | [_], _ => rfl
    have D_copy_of_session : Ir.Df (Ir.KOf KX) mg "copy_of_session" (Ir.top 28) ["session"] := by
      dsimp only [Ir.KOf]
      refine' Ir.df_mk KX G ?a_copy_of_session ?l_copy_of_session ?c_copy_of_session ?k_copy_of_session ?b_copy_of_session
      (case a_copy_of_session => k_is); (case l_copy_of_session => k_is); (case c_copy_of_session => k_is); (case k_copy_of_session => k_is)
      exact fun _ _ _ _ _ _ us hl => match us, hl with | [_], _ => rfl
    have D_copy_of_rink : Ir.Df (Ir.KOf KX) mg "copy_of_rink" (Ir.top 29) ["rink"] := by
      dsimp only [Ir.KOf]
      refine' Ir.df_mk KX G ?a_copy_of_rink ?l_copy_of_rink ?c_copy_of_rink ?k_copy_of_rink ?b_copy_of_rink
      (case a_copy_of_rink => k_is); (case l_copy_of_rink => k_is); (case c_copy_of_rink => k_is); (case k_copy_of_rink => k_is)
      exact fun _ _ _ _ _ _ us hl => match us, hl with | [_], _ => rfl
    have c_MOST_BASE : ∃ t, mg "MOST_BASE" = some (.int 1000 t) := by
      refine' Ir.num_mk (K := Ir.KOf KX) KX G ?a_MOST_BASE
      (case a_MOST_BASE => (try dsimp only [Ir.KOf]); k_is)
    have c_MOST_EACH : ∃ t, mg "MOST_EACH" = some (.int 100 t) := by
      refine' Ir.num_mk (K := Ir.KOf KX) KX G ?a_MOST_EACH
      (case a_MOST_EACH => (try dsimp only [Ir.KOf]); k_is)
    have c_MOST_LEAST : ∃ t, mg "MOST_LEAST" = some (.int 100000 t) := by
      refine' Ir.num_mk (K := Ir.KOf KX) KX G ?a_MOST_LEAST
      (case a_MOST_LEAST => (try dsimp only [Ir.KOf]); k_is)
    have c_MOST_ROOM : ∃ t, mg "MOST_ROOM" = some (.int 500 t) := by
      refine' Ir.num_mk (K := Ir.KOf KX) KX G ?a_MOST_ROOM
      (case a_MOST_ROOM => (try dsimp only [Ir.KOf]); k_is)
    have c_MOST_BACK : ∃ t, mg "MOST_BACK" = some (.int 30 t) := by
      refine' Ir.num_mk (K := Ir.KOf KX) KX G ?a_MOST_BACK
      (case a_MOST_BACK => (try dsimp only [Ir.KOf]); k_is)
    have D_note_change : Ir.Df (Ir.KOf KX) mg "note_change" (Ir.top 37) ["desk", "before"] := by
      dsimp only [Ir.KOf]
      refine' Ir.df_mk KX G ?a_note_change ?l_note_change ?c_note_change ?k_note_change ?b_note_change
      (case a_note_change => k_is); (case l_note_change => k_is); (case c_note_change => k_is); (case k_note_change => k_is)
      exact fun _ _ _ _ _ _ us hl => match us, hl with | [_, _], _ => rfl
    have D_ir_start : Ir.Df (Ir.KOf KX) mg "ir_start" (Ir.top 38) ["desk", "base", "each", "least", "room"] := by
      dsimp only [Ir.KOf]
      refine' Ir.df_mk KX G ?a_ir_start ?l_ir_start ?c_ir_start ?k_ir_start ?b_ir_start
      (case a_ir_start => k_is); (case l_ir_start => k_is); (case c_ir_start => k_is); (case k_ir_start => k_is)
      exact fun _ _ _ _ _ _ us hl => match us, hl with | [_, _, _, _, _], _ => rfl
    have D_ir_back : Ir.Df (Ir.KOf KX) mg "ir_back" (Ir.top 39) ["desk"] := by
      dsimp only [Ir.KOf]
      refine' Ir.df_mk KX G ?a_ir_back ?l_ir_back ?c_ir_back ?k_ir_back ?b_ir_back
      (case a_ir_back => k_is); (case l_ir_back => k_is); (case c_ir_back => k_is); (case k_ir_back => k_is)
      exact fun _ _ _ _ _ _ us hl => match us, hl with | [_], _ => rfl
    have D_ir_again : Ir.Df (Ir.KOf KX) mg "ir_again" (Ir.top 40) ["desk"] := by
      dsimp only [Ir.KOf]
      refine' Ir.df_mk KX G ?a_ir_again ?l_ir_again ?c_ir_again ?k_ir_again ?b_ir_again
      (case a_ir_again => k_is); (case l_ir_again => k_is); (case c_ir_again => k_is); (case k_ir_again => k_is)
      exact fun _ _ _ _ _ _ us hl => match us, hl with | [_], _ => rfl
    have D_ir_state : Ir.Df (Ir.KOf KX) mg "ir_state" (Ir.top 41) ["desk"] := by
      dsimp only [Ir.KOf]
      refine' Ir.df_mk KX G ?a_ir_state ?l_ir_state ?c_ir_state ?k_ir_state ?b_ir_state
      (case a_ir_state => k_is); (case l_ir_state => k_is); (case c_ir_state => k_is); (case k_ir_state => k_is)
      exact fun _ _ _ _ _ _ us hl => match us, hl with | [_], _ => rfl
    have c_MOST_MACHINES : ∃ t, mg "MOST_MACHINES" = some (.int 6 t) := by
      refine' Ir.num_mk (K := Ir.KOf KX) KX G ?a_MOST_MACHINES
      (case a_MOST_MACHINES => (try dsimp only [Ir.KOf]); k_is)
    have c_MOST_COLD : ∃ t, mg "MOST_COLD" = some (.int 5000 t) := by
      refine' Ir.num_mk (K := Ir.KOf KX) KX G ?a_MOST_COLD
      (case a_MOST_COLD => (try dsimp only [Ir.KOf]); k_is)
    have c_MOST_COST : ∃ t, mg "MOST_COST" = some (.int 1000 t) := by
      refine' Ir.num_mk (K := Ir.KOf KX) KX G ?a_MOST_COST
      (case a_MOST_COST => (try dsimp only [Ir.KOf]); k_is)
    have c_MOST_LAID : ∃ t, mg "MOST_LAID" = some (.int 1000000 t) := by
      refine' Ir.num_mk (K := Ir.KOf KX) KX G ?a_MOST_LAID
      (case a_MOST_LAID => (try dsimp only [Ir.KOf]); k_is)
    have c_MOST_MINUTES : ∃ t, mg "MOST_MINUTES" = some (.int 1440 t) := by
      refine' Ir.num_mk (K := Ir.KOf KX) KX G ?a_MOST_MINUTES
      (case a_MOST_MINUTES => (try dsimp only [Ir.KOf]); k_is)
    have c_LAST_MINUTE : ∃ t, mg "LAST_MINUTE" = some (.int 50000 t) := by
      refine' Ir.num_mk (K := Ir.KOf KX) KX G ?a_LAST_MINUTE
      (case a_LAST_MINUTE => (try dsimp only [Ir.KOf]); k_is)
    have D_cold_of : Ir.Df (Ir.KOf KX) mg "cold_of" (Ir.top 49) ["rink"] := by
      dsimp only [Ir.KOf]
      refine' Ir.df_mk KX G ?a_cold_of ?l_cold_of ?c_cold_of ?k_cold_of ?b_cold_of
      (case a_cold_of => k_is); (case l_cold_of => k_is); (case c_cold_of => k_is); (case k_cold_of => k_is)
      exact fun _ _ _ _ _ _ us hl => match us, hl with | [_], _ => rfl
    have D_cost_of : Ir.Df (Ir.KOf KX) mg "cost_of" (Ir.top 50) ["rink"] := by
      dsimp only [Ir.KOf]
      refine' Ir.df_mk KX G ?a_cost_of ?l_cost_of ?c_cost_of ?k_cost_of ?b_cost_of
      (case a_cost_of => k_is); (case l_cost_of => k_is); (case c_cost_of => k_is); (case k_cost_of => k_is)
      exact fun _ _ _ _ _ _ us hl => match us, hl with | [_], _ => rfl
    have D_heat_for : Ir.Df (Ir.KOf KX) mg "heat_for" (Ir.top 51) ["rink", "skaters"] := by
      dsimp only [Ir.KOf]
      refine' Ir.df_mk KX G ?a_heat_for ?l_heat_for ?c_heat_for ?k_heat_for ?b_heat_for
      (case a_heat_for => k_is); (case l_heat_for => k_is); (case c_heat_for => k_is); (case k_heat_for => k_is)
      exact fun _ _ _ _ _ _ us hl => match us, hl with | [_, _], _ => rfl
    have D_is_hard : Ir.Df (Ir.KOf KX) mg "is_hard" (Ir.top 52) ["rink"] := by
      dsimp only [Ir.KOf]
      refine' Ir.df_mk KX G ?a_is_hard ?l_is_hard ?c_is_hard ?k_is_hard ?b_is_hard
      (case a_is_hard => k_is); (case l_is_hard => k_is); (case c_is_hard => k_is); (case k_is_hard => k_is)
      exact fun _ _ _ _ _ _ us hl => match us, hl with | [_], _ => rfl
    have D_ir_machine : Ir.Df (Ir.KOf KX) mg "ir_machine" (Ir.top 53) ["rink", "cold", "cost"] := by
      dsimp only [Ir.KOf]
      refine' Ir.df_mk KX G ?a_ir_machine ?l_ir_machine ?c_ir_machine ?k_ir_machine ?b_ir_machine
      (case a_ir_machine => k_is); (case l_ir_machine => k_is); (case c_ir_machine => k_is); (case k_ir_machine => k_is)
      exact fun _ _ _ _ _ _ us hl => match us, hl with | [_, _, _], _ => rfl
    have D_ir_run : Ir.Df (Ir.KOf KX) mg "ir_run" (Ir.top 54) ["rink", "k", "on"] := by
      dsimp only [Ir.KOf]
      refine' Ir.df_mk KX G ?a_ir_run ?l_ir_run ?c_ir_run ?k_ir_run ?b_ir_run
      (case a_ir_run => k_is); (case l_ir_run => k_is); (case c_ir_run => k_is); (case k_ir_run => k_is)
      exact fun _ _ _ _ _ _ us hl => match us, hl with | [_, _, _], _ => rfl
    have D_ir_flood : Ir.Df (Ir.KOf KX) mg "ir_flood" (Ir.top 55) ["rink", "n"] := by
      dsimp only [Ir.KOf]
      refine' Ir.df_mk KX G ?a_ir_flood ?l_ir_flood ?c_ir_flood ?k_ir_flood ?b_ir_flood
      (case a_ir_flood => k_is); (case l_ir_flood => k_is); (case c_ir_flood => k_is); (case k_ir_flood => k_is)
      exact fun _ _ _ _ _ _ us hl => match us, hl with | [_, _], _ => rfl
    have D_ir_shave : Ir.Df (Ir.KOf KX) mg "ir_shave" (Ir.top 56) ["rink", "n"] := by
      dsimp only [Ir.KOf]
      refine' Ir.df_mk KX G ?a_ir_shave ?l_ir_shave ?c_ir_shave ?k_ir_shave ?b_ir_shave
      (case a_ir_shave => k_is); (case l_ir_shave => k_is); (case c_ir_shave => k_is); (case k_ir_shave => k_is)
      exact fun _ _ _ _ _ _ us hl => match us, hl with | [_, _], _ => rfl
    have D_ir_drain : Ir.Df (Ir.KOf KX) mg "ir_drain" (Ir.top 57) ["rink", "n"] := by
      dsimp only [Ir.KOf]
      refine' Ir.df_mk KX G ?a_ir_drain ?l_ir_drain ?c_ir_drain ?k_ir_drain ?b_ir_drain
      (case a_ir_drain => k_is); (case l_ir_drain => k_is); (case c_ir_drain => k_is); (case k_ir_drain => k_is)
      exact fun _ _ _ _ _ _ us hl => match us, hl with | [_, _], _ => rfl
    have D_freeze_or_melt : Ir.Df (Ir.KOf KX) mg "freeze_or_melt" (Ir.top 58) ["rink", "cold"] := by
      dsimp only [Ir.KOf]
      refine' Ir.df_mk KX G ?a_freeze_or_melt ?l_freeze_or_melt ?c_freeze_or_melt ?k_freeze_or_melt ?b_freeze_or_melt
      (case a_freeze_or_melt => k_is); (case l_freeze_or_melt => k_is); (case c_freeze_or_melt => k_is); (case k_freeze_or_melt => k_is)
      exact fun _ _ _ _ _ _ us hl => match us, hl with | [_, _], _ => rfl
    have D_send_all_off : Ir.Df (Ir.KOf KX) mg "send_all_off" (Ir.top 59) ["rink"] := by
      dsimp only [Ir.KOf]
      refine' Ir.df_mk KX G ?a_send_all_off ?l_send_all_off ?c_send_all_off ?k_send_all_off ?b_send_all_off
      (case a_send_all_off => k_is); (case l_send_all_off => k_is); (case c_send_all_off => k_is); (case k_send_all_off => k_is)
      exact fun _ _ _ _ _ _ us hl => match us, hl with | [_], _ => rfl
    have D_pass_minute : Ir.Df (Ir.KOf KX) mg "pass_minute" (Ir.top 60) ["rink", "cold", "cost"] := by
      dsimp only [Ir.KOf]
      refine' Ir.df_mk KX G ?a_pass_minute ?l_pass_minute ?c_pass_minute ?k_pass_minute ?b_pass_minute
      (case a_pass_minute => k_is); (case l_pass_minute => k_is); (case c_pass_minute => k_is); (case k_pass_minute => k_is)
      exact fun _ _ _ _ _ _ us hl => match us, hl with | [_, _, _], _ => rfl
    have D_ir_minutes : Ir.Df (Ir.KOf KX) mg "ir_minutes" (Ir.top 61) ["rink", "n"] := by
      dsimp only [Ir.KOf]
      refine' Ir.df_mk KX G ?a_ir_minutes ?l_ir_minutes ?c_ir_minutes ?k_ir_minutes ?b_ir_minutes
      (case a_ir_minutes => k_is); (case l_ir_minutes => k_is); (case c_ir_minutes => k_is); (case k_ir_minutes => k_is)
      exact fun _ _ _ _ _ _ us hl => match us, hl with | [_, _], _ => rfl
    have D_ir_go : Ir.Df (Ir.KOf KX) mg "ir_go" (Ir.top 62) ["rink", "n"] := by
      dsimp only [Ir.KOf]
      refine' Ir.df_mk KX G ?a_ir_go ?l_ir_go ?c_ir_go ?k_ir_go ?b_ir_go
      (case a_ir_go => k_is); (case l_ir_go => k_is); (case c_ir_go => k_is); (case k_ir_go => k_is)
      exact fun _ _ _ _ _ _ us hl => match us, hl with | [_, _], _ => rfl
    have D_ir_off : Ir.Df (Ir.KOf KX) mg "ir_off" (Ir.top 63) ["rink", "n"] := by
      dsimp only [Ir.KOf]
      refine' Ir.df_mk KX G ?a_ir_off ?l_ir_off ?c_ir_off ?k_ir_off ?b_ir_off
      (case a_ir_off => k_is); (case l_ir_off => k_is); (case c_ir_off => k_is); (case k_ir_off => k_is)
      exact fun _ _ _ _ _ _ us hl => match us, hl with | [_, _], _ => rfl
    have c_MOST_MINUTES_AHEAD : ∃ t, mg "MOST_MINUTES_AHEAD" = some (.int 1440 t) := by
      refine' Ir.num_mk (K := Ir.KOf KX) KX G ?a_MOST_MINUTES_AHEAD
      (case a_MOST_MINUTES_AHEAD => (try dsimp only [Ir.KOf]); k_is)
    have c_MOST_SKATERS : ∃ t, mg "MOST_SKATERS" = some (.int 500 t) := by
      refine' Ir.num_mk (K := Ir.KOf KX) KX G ?a_MOST_SKATERS
      (case a_MOST_SKATERS => (try dsimp only [Ir.KOf]); k_is)
    have D_minutes_till_hard : Ir.Df (Ir.KOf KX) mg "minutes_till_hard" (Ir.top 67) ["rink"] := by
      dsimp only [Ir.KOf]
      refine' Ir.df_mk KX G ?a_minutes_till_hard ?l_minutes_till_hard ?c_minutes_till_hard ?k_minutes_till_hard ?b_minutes_till_hard
      (case a_minutes_till_hard => k_is); (case l_minutes_till_hard => k_is); (case c_minutes_till_hard => k_is); (case k_minutes_till_hard => k_is)
      exact fun _ _ _ _ _ _ us hl => match us, hl with | [_], _ => rfl
    have D_cheapest_machines : Ir.Df (Ir.KOf KX) mg "cheapest_machines" (Ir.top 68) ["machines", "heat"] := by
      dsimp only [Ir.KOf]
      refine' Ir.df_mk KX G ?a_cheapest_machines ?l_cheapest_machines ?c_cheapest_machines ?k_cheapest_machines ?b_cheapest_machines
      (case a_cheapest_machines => k_is); (case l_cheapest_machines => k_is); (case c_cheapest_machines => k_is); (case k_cheapest_machines => k_is)
      exact fun _ _ _ _ _ _ us hl => match us, hl with | [_, _], _ => rfl
    have D_ir_hard : Ir.Df (Ir.KOf KX) mg "ir_hard" (Ir.top 69) ["rink"] := by
      dsimp only [Ir.KOf]
      refine' Ir.df_mk KX G ?a_ir_hard ?l_ir_hard ?c_ir_hard ?k_ir_hard ?b_ir_hard
      (case a_ir_hard => k_is); (case l_ir_hard => k_is); (case c_ir_hard => k_is); (case k_ir_hard => k_is)
      exact fun _ _ _ _ _ _ us hl => match us, hl with | [_], _ => rfl
    have D_ir_soon : Ir.Df (Ir.KOf KX) mg "ir_soon" (Ir.top 70) ["rink"] := by
      dsimp only [Ir.KOf]
      refine' Ir.df_mk KX G ?a_ir_soon ?l_ir_soon ?c_ir_soon ?k_ir_soon ?b_ir_soon
      (case a_ir_soon => k_is); (case l_ir_soon => k_is); (case c_ir_soon => k_is); (case k_ir_soon => k_is)
      exact fun _ _ _ _ _ _ us hl => match us, hl with | [_], _ => rfl
    have D_ir_bears : Ir.Df (Ir.KOf KX) mg "ir_bears" (Ir.top 71) ["rink"] := by
      dsimp only [Ir.KOf]
      refine' Ir.df_mk KX G ?a_ir_bears ?l_ir_bears ?c_ir_bears ?k_ir_bears ?b_ir_bears
      (case a_ir_bears => k_is); (case l_ir_bears => k_is); (case c_ir_bears => k_is); (case k_ir_bears => k_is)
      exact fun _ _ _ _ _ _ us hl => match us, hl with | [_], _ => rfl
    have D_ir_cheapest : Ir.Df (Ir.KOf KX) mg "ir_cheapest" (Ir.top 72) ["rink", "n"] := by
      dsimp only [Ir.KOf]
      refine' Ir.df_mk KX G ?a_ir_cheapest ?l_ir_cheapest ?c_ir_cheapest ?k_ir_cheapest ?b_ir_cheapest
      (case a_ir_cheapest => k_is); (case l_ir_cheapest => k_is); (case c_ir_cheapest => k_is); (case k_ir_cheapest => k_is)
      exact fun _ _ _ _ _ _ us hl => match us, hl with | [_, _], _ => rfl
    have D_ir_ice : Ir.Df (Ir.KOf KX) mg "ir_ice" (Ir.top 73) ["rink"] := by
      dsimp only [Ir.KOf]
      refine' Ir.df_mk KX G ?a_ir_ice ?l_ir_ice ?c_ir_ice ?k_ir_ice ?b_ir_ice
      (case a_ir_ice => k_is); (case l_ir_ice => k_is); (case c_ir_ice => k_is); (case k_ir_ice => k_is)
      exact fun _ _ _ _ _ _ us hl => match us, hl with | [_], _ => rfl
    have D_ir_power : Ir.Df (Ir.KOf KX) mg "ir_power" (Ir.top 74) ["rink"] := by
      dsimp only [Ir.KOf]
      refine' Ir.df_mk KX G ?a_ir_power ?l_ir_power ?c_ir_power ?k_ir_power ?b_ir_power
      (case a_ir_power => k_is); (case l_ir_power => k_is); (case c_ir_power => k_is); (case k_ir_power => k_is)
      exact fun _ _ _ _ _ _ us hl => match us, hl with | [_], _ => rfl
    have D_ir_water : Ir.Df (Ir.KOf KX) mg "ir_water" (Ir.top 75) ["rink"] := by
      dsimp only [Ir.KOf]
      refine' Ir.df_mk KX G ?a_ir_water ?l_ir_water ?c_ir_water ?k_ir_water ?b_ir_water
      (case a_ir_water => k_is); (case l_ir_water => k_is); (case c_ir_water => k_is); (case k_ir_water => k_is)
      exact fun _ _ _ _ _ _ us hl => match us, hl with | [_], _ => rfl
    have D_ir_money : Ir.Df (Ir.KOf KX) mg "ir_money" (Ir.top 76) ["rink"] := by
      dsimp only [Ir.KOf]
      refine' Ir.df_mk KX G ?a_ir_money ?l_ir_money ?c_ir_money ?k_ir_money ?b_ir_money
      (case a_ir_money => k_is); (case l_ir_money => k_is); (case c_ir_money => k_is); (case k_ir_money => k_is)
      exact fun _ _ _ _ _ _ us hl => match us, hl with | [_], _ => rfl
    have c_MOST_SESSIONS : ∃ t, mg "MOST_SESSIONS" = some (.int 8 t) := by
      refine' Ir.num_mk (K := Ir.KOf KX) KX G ?a_MOST_SESSIONS
      (case a_MOST_SESSIONS => (try dsimp only [Ir.KOf]); k_is)
    have c_MOST_GAP : ∃ t, mg "MOST_GAP" = some (.int 120 t) := by
      refine' Ir.num_mk (K := Ir.KOf KX) KX G ?a_MOST_GAP
      (case a_MOST_GAP => (try dsimp only [Ir.KOf]); k_is)
    have c_MOST_FEE : ∃ t, mg "MOST_FEE" = some (.int 100000 t) := by
      refine' Ir.num_mk (K := Ir.KOf KX) KX G ?a_MOST_FEE
      (case a_MOST_FEE => (try dsimp only [Ir.KOf]); k_is)
    have c_DAY_END : ∃ t, mg "DAY_END" = some (.int 1440 t) := by
      refine' Ir.num_mk (K := Ir.KOf KX) KX G ?a_DAY_END
      (case a_DAY_END => (try dsimp only [Ir.KOf]); k_is)
    have D_two_fit : Ir.Df (Ir.KOf KX) mg "two_fit" (Ir.top 82) ["one", "other", "gap"] := by
      dsimp only [Ir.KOf]
      refine' Ir.df_mk KX G ?a_two_fit ?l_two_fit ?c_two_fit ?k_two_fit ?b_two_fit
      (case a_two_fit => k_is); (case l_two_fit => k_is); (case c_two_fit => k_is); (case k_two_fit => k_is)
      exact fun _ _ _ _ _ _ us hl => match us, hl with | [_, _, _], _ => rfl
    have D_earlier_that_clash : Ir.Df (Ir.KOf KX) mg "earlier_that_clash" (Ir.top 83) ["sessions", "k", "gap"] := by
      dsimp only [Ir.KOf]
      refine' Ir.df_mk KX G ?a_earlier_that_clash ?l_earlier_that_clash ?c_earlier_that_clash ?k_earlier_that_clash ?b_earlier_that_clash
      (case a_earlier_that_clash => k_is); (case l_earlier_that_clash => k_is); (case c_earlier_that_clash => k_is); (case k_earlier_that_clash => k_is)
      exact fun _ _ _ _ _ _ us hl => match us, hl with | [_, _, _], _ => rfl
    have D_days_that_fit : Ir.Df (Ir.KOf KX) mg "days_that_fit" (Ir.top 84) ["sessions", "gap"] := by
      dsimp only [Ir.KOf]
      refine' Ir.df_mk KX G ?a_days_that_fit ?l_days_that_fit ?c_days_that_fit ?k_days_that_fit ?b_days_that_fit
      (case a_days_that_fit => k_is); (case l_days_that_fit => k_is); (case c_days_that_fit => k_is); (case k_days_that_fit => k_is)
      exact fun _ _ _ _ _ _ us hl => match us, hl with | [_, _], _ => rfl
    have D_fits : Ir.Df (Ir.KOf KX) mg "fits" (Ir.top 85) ["sessions", "gap", "bits"] := by
      dsimp only [Ir.KOf]
      refine' Ir.df_mk KX G ?a_fits ?l_fits ?c_fits ?k_fits ?b_fits
      (case a_fits => k_is); (case l_fits => k_is); (case c_fits => k_is); (case k_fits => k_is)
      exact fun _ _ _ _ _ _ us hl => match us, hl with | [_, _, _], _ => rfl
    have D_fees_of : Ir.Df (Ir.KOf KX) mg "fees_of" (Ir.top 86) ["sessions", "bits"] := by
      dsimp only [Ir.KOf]
      refine' Ir.df_mk KX G ?a_fees_of ?l_fees_of ?c_fees_of ?k_fees_of ?b_fees_of
      (case a_fees_of => k_is); (case l_fees_of => k_is); (case c_fees_of => k_is); (case k_fees_of => k_is)
      exact fun _ _ _ _ _ _ us hl => match us, hl with | [_, _], _ => rfl
    have D_best_day : Ir.Df (Ir.KOf KX) mg "best_day" (Ir.top 87) ["sessions", "gap"] := by
      dsimp only [Ir.KOf]
      refine' Ir.df_mk KX G ?a_best_day ?l_best_day ?c_best_day ?k_best_day ?b_best_day
      (case a_best_day => k_is); (case l_best_day => k_is); (case c_best_day => k_is); (case k_best_day => k_is)
      exact fun _ _ _ _ _ _ us hl => match us, hl with | [_, _], _ => rfl
    have D_ir_gap : Ir.Df (Ir.KOf KX) mg "ir_gap" (Ir.top 88) ["rink", "n"] := by
      dsimp only [Ir.KOf]
      refine' Ir.df_mk KX G ?a_ir_gap ?l_ir_gap ?c_ir_gap ?k_ir_gap ?b_ir_gap
      (case a_ir_gap => k_is); (case l_ir_gap => k_is); (case c_ir_gap => k_is); (case k_ir_gap => k_is)
      exact fun _ _ _ _ _ _ us hl => match us, hl with | [_, _], _ => rfl
    have D_ir_ask : Ir.Df (Ir.KOf KX) mg "ir_ask" (Ir.top 89) ["rink", "begin", "end", "fee"] := by
      dsimp only [Ir.KOf]
      refine' Ir.df_mk KX G ?a_ir_ask ?l_ir_ask ?c_ir_ask ?k_ir_ask ?b_ir_ask
      (case a_ir_ask => k_is); (case l_ir_ask => k_is); (case c_ir_ask => k_is); (case k_ir_ask => k_is)
      exact fun _ _ _ _ _ _ us hl => match us, hl with | [_, _, _, _], _ => rfl
    have D_ir_book : Ir.Df (Ir.KOf KX) mg "ir_book" (Ir.top 90) ["rink"] := by
      dsimp only [Ir.KOf]
      refine' Ir.df_mk KX G ?a_ir_book ?l_ir_book ?c_ir_book ?k_ir_book ?b_ir_book
      (case a_ir_book => k_is); (case l_ir_book => k_is); (case c_ir_book => k_is); (case k_ir_book => k_is)
      exact fun _ _ _ _ _ _ us hl => match us, hl with | [_], _ => rfl
    have D_ir_drop : Ir.Df (Ir.KOf KX) mg "ir_drop" (Ir.top 91) ["rink", "k"] := by
      dsimp only [Ir.KOf]
      refine' Ir.df_mk KX G ?a_ir_drop ?l_ir_drop ?c_ir_drop ?k_ir_drop ?b_ir_drop
      (case a_ir_drop => k_is); (case l_ir_drop => k_is); (case c_ir_drop => k_is); (case k_ir_drop => k_is)
      exact fun _ _ _ _ _ _ us hl => match us, hl with | [_, _], _ => rfl
    have D_ir_would : Ir.Df (Ir.KOf KX) mg "ir_would" (Ir.top 92) ["rink", "asks"] := by
      dsimp only [Ir.KOf]
      refine' Ir.df_mk KX G ?a_ir_would ?l_ir_would ?c_ir_would ?k_ir_would ?b_ir_would
      (case a_ir_would => k_is); (case l_ir_would => k_is); (case c_ir_would => k_is); (case k_ir_would => k_is)
      exact fun _ _ _ _ _ _ us hl => match us, hl with | [_, _], _ => rfl
    have D_ir_best : Ir.Df (Ir.KOf KX) mg "ir_best" (Ir.top 93) ["rink"] := by
      dsimp only [Ir.KOf]
      refine' Ir.df_mk KX G ?a_ir_best ?l_ir_best ?c_ir_best ?k_ir_best ?b_ir_best
      (case a_ir_best => k_is); (case l_ir_best => k_is); (case c_ir_best => k_is); (case k_ir_best => k_is)
      exact fun _ _ _ _ _ _ us hl => match us, hl with | [_], _ => rfl
    have D_ir_who : Ir.Df (Ir.KOf KX) mg "ir_who" (Ir.top 94) ["rink", "minute"] := by
      dsimp only [Ir.KOf]
      refine' Ir.df_mk KX G ?a_ir_who ?l_ir_who ?c_ir_who ?k_ir_who ?b_ir_who
      (case a_ir_who => k_is); (case l_ir_who => k_is); (case c_ir_who => k_is); (case k_ir_who => k_is)
      exact fun _ _ _ _ _ _ us hl => match us, hl with | [_, _], _ => rfl
    have D_ir_look : Ir.Df (Ir.KOf KX) mg "ir_look" (Ir.top 95) ["rink", "k"] := by
      dsimp only [Ir.KOf]
      refine' Ir.df_mk KX G ?a_ir_look ?l_ir_look ?c_ir_look ?k_ir_look ?b_ir_look
      (case a_ir_look => k_is); (case l_ir_look => k_is); (case c_ir_look => k_is); (case k_ir_look => k_is)
      exact fun _ _ _ _ _ _ us hl => match us, hl with | [_, _], _ => rfl
    have D_change_ice : Ir.Df (Ir.KOf KX) mg "change_ice" (Ir.top 98) ["rink", "number", "given"] := by
      dsimp only [Ir.KOf]
      refine' Ir.df_mk KX G ?a_change_ice ?l_change_ice ?c_change_ice ?k_change_ice ?b_change_ice
      (case a_change_ice => k_is); (case l_change_ice => k_is); (case c_change_ice => k_is); (case k_change_ice => k_is)
      exact fun _ _ _ _ _ _ us hl => match us, hl with | [_, _, _], _ => rfl
    have D_change_skates : Ir.Df (Ir.KOf KX) mg "change_skates" (Ir.top 99) ["rink", "number", "given"] := by
      dsimp only [Ir.KOf]
      refine' Ir.df_mk KX G ?a_change_skates ?l_change_skates ?c_change_skates ?k_change_skates ?b_change_skates
      (case a_change_skates => k_is); (case l_change_skates => k_is); (case c_change_skates => k_is); (case k_change_skates => k_is)
      exact fun _ _ _ _ _ _ us hl => match us, hl with | [_, _, _], _ => rfl
    have D_change_sessions : Ir.Df (Ir.KOf KX) mg "change_sessions" (Ir.top 100) ["rink", "number", "given"] := by
      dsimp only [Ir.KOf]
      refine' Ir.df_mk KX G ?a_change_sessions ?l_change_sessions ?c_change_sessions ?k_change_sessions ?b_change_sessions
      (case a_change_sessions => k_is); (case l_change_sessions => k_is); (case c_change_sessions => k_is); (case k_change_sessions => k_is)
      exact fun _ _ _ _ _ _ us hl => match us, hl with | [_, _, _], _ => rfl
    have D_change_rink : Ir.Df (Ir.KOf KX) mg "change_rink" (Ir.top 101) ["rink", "number", "given"] := by
      dsimp only [Ir.KOf]
      refine' Ir.df_mk KX G ?a_change_rink ?l_change_rink ?c_change_rink ?k_change_rink ?b_change_rink
      (case a_change_rink => k_is); (case l_change_rink => k_is); (case c_change_rink => k_is); (case k_change_rink => k_is)
      exact fun _ _ _ _ _ _ us hl => match us, hl with | [_, _, _], _ => rfl
    have D_ask_ice : Ir.Df (Ir.KOf KX) mg "ask_ice" (Ir.top 102) ["rink", "number", "given"] := by
      dsimp only [Ir.KOf]
      refine' Ir.df_mk KX G ?a_ask_ice ?l_ask_ice ?c_ask_ice ?k_ask_ice ?b_ask_ice
      (case a_ask_ice => k_is); (case l_ask_ice => k_is); (case c_ask_ice => k_is); (case k_ask_ice => k_is)
      exact fun _ _ _ _ _ _ us hl => match us, hl with | [_, _, _], _ => rfl
    have D_ask_sessions : Ir.Df (Ir.KOf KX) mg "ask_sessions" (Ir.top 103) ["rink", "number", "given"] := by
      dsimp only [Ir.KOf]
      refine' Ir.df_mk KX G ?a_ask_sessions ?l_ask_sessions ?c_ask_sessions ?k_ask_sessions ?b_ask_sessions
      (case a_ask_sessions => k_is); (case l_ask_sessions => k_is); (case c_ask_sessions => k_is); (case k_ask_sessions => k_is)
      exact fun _ _ _ _ _ _ us hl => match us, hl with | [_, _, _], _ => rfl
    have D_ask_skates : Ir.Df (Ir.KOf KX) mg "ask_skates" (Ir.top 104) ["rink", "number", "given"] := by
      dsimp only [Ir.KOf]
      refine' Ir.df_mk KX G ?a_ask_skates ?l_ask_skates ?c_ask_skates ?k_ask_skates ?b_ask_skates
      (case a_ask_skates => k_is); (case l_ask_skates => k_is); (case c_ask_skates => k_is); (case k_ask_skates => k_is)
      exact fun _ _ _ _ _ _ us hl => match us, hl with | [_, _, _], _ => rfl
    have D_ask_accounts : Ir.Df (Ir.KOf KX) mg "ask_accounts" (Ir.top 105) ["rink", "number"] := by
      dsimp only [Ir.KOf]
      refine' Ir.df_mk KX G ?a_ask_accounts ?l_ask_accounts ?c_ask_accounts ?k_ask_accounts ?b_ask_accounts
      (case a_ask_accounts => k_is); (case l_ask_accounts => k_is); (case c_ask_accounts => k_is); (case k_ask_accounts => k_is)
      exact fun _ _ _ _ _ _ us hl => match us, hl with | [_, _], _ => rfl
    have D_ask_rink : Ir.Df (Ir.KOf KX) mg "ask_rink" (Ir.top 106) ["rink", "number", "given"] := by
      dsimp only [Ir.KOf]
      refine' Ir.df_mk KX G ?a_ask_rink ?l_ask_rink ?c_ask_rink ?k_ask_rink ?b_ask_rink
      (case a_ask_rink => k_is); (case l_ask_rink => k_is); (case c_ask_rink => k_is); (case k_ask_rink => k_is)
      exact fun _ _ _ _ _ _ us hl => match us, hl with | [_, _, _], _ => rfl
    have D_change_desk : Ir.Df (Ir.KOf KX) mg "change_desk" (Ir.top 107) ["desk", "number", "given"] := by
      dsimp only [Ir.KOf]
      refine' Ir.df_mk KX G ?a_change_desk ?l_change_desk ?c_change_desk ?k_change_desk ?b_change_desk
      (case a_change_desk => k_is); (case l_change_desk => k_is); (case c_change_desk => k_is); (case k_change_desk => k_is)
      exact fun _ _ _ _ _ _ us hl => match us, hl with | [_, _, _], _ => rfl
    have D_call_desk : Ir.Df (Ir.KOf KX) mg "call_desk" (Ir.top 108) ["desk", "number", "given"] := by
      dsimp only [Ir.KOf]
      refine' Ir.df_mk KX G ?a_call_desk ?l_call_desk ?c_call_desk ?k_call_desk ?b_call_desk
      (case a_call_desk => k_is); (case l_call_desk => k_is); (case c_call_desk => k_is); (case k_call_desk => k_is)
      exact fun _ _ _ _ _ _ us hl => match us, hl with | [_, _, _], _ => rfl
    have b_abs : mg "abs" = none := by
      refine' PySem.W.mg_none_of (K := Ir.KOf KX) KX G ?a_abs
      (case a_abs => (try dsimp only [Ir.KOf]); k_is)
    have b_any : mg "any" = none := by
      refine' PySem.W.mg_none_of (K := Ir.KOf KX) KX G ?a_any
      (case a_any => (try dsimp only [Ir.KOf]); k_is)
    have b_enumerate : mg "enumerate" = none := by
      refine' PySem.W.mg_none_of (K := Ir.KOf KX) KX G ?a_enumerate
      (case a_enumerate => (try dsimp only [Ir.KOf]); k_is)
    have b_len : mg "len" = none := by
      refine' PySem.W.mg_none_of (K := Ir.KOf KX) KX G ?a_len
      (case a_len => (try dsimp only [Ir.KOf]); k_is)
    have b_min : mg "min" = none := by
      refine' PySem.W.mg_none_of (K := Ir.KOf KX) KX G ?a_min
      (case a_min => (try dsimp only [Ir.KOf]); k_is)
    have b_range : mg "range" = none := by
      refine' PySem.W.mg_none_of (K := Ir.KOf KX) KX G ?a_range
      (case a_range => (try dsimp only [Ir.KOf]); k_is)
    have b_sum : mg "sum" = none := by
      refine' PySem.W.mg_none_of (K := Ir.KOf KX) KX G ?a_sum
      (case a_sum => (try dsimp only [Ir.KOf]); k_is)
    have g_GIVEN : ∃ g, mg "GIVEN" = some (.ref g) ∧ ∀ H : L2.Hp, L2.SqT (Ir.KOf KX) H g (Ir.argN.map fun n : Nat => L2.V.int (n : Int)) := by
      dsimp only [Ir.KOf]
      refine' Ir.giv_mk KX G ?a_GIVEN ?l_GIVEN ?v_GIVEN
      (case a_GIVEN => k_is); (case l_GIVEN => k_is)
      exact ⟨by decide +kernel, Ir.vals_ints _ _ (by decide +kernel)⟩
    obtain ⟨cR, aR, K_Rink, clR, fR⟩ := K_Rink
    obtain ⟨cM, aM, K_Machine, clM, fM⟩ := K_Machine
    obtain ⟨cP, aP, K_Pairs, clP, fP⟩ := K_Pairs
    obtain ⟨cS, aS, K_Session, clS, fS⟩ := K_Session
    obtain ⟨cD, aD, K_Desk, clD, fD⟩ := K_Desk
    obtain ⟨gv, m_GIVEN, t_GIVEN⟩ := g_GIVEN
    have T : Ir.Txt (Ir.KOf KX) mg ⟨cR, cM, cP, cS, cD, gv⟩ := { clR := clR, clM := clM, clP := clP, clS := clS, clD := clD, fR := fR, fM := fM, fP := fP, fS := fS, fD := fD, c_NOT_THERE := c_NOT_THERE, c_NONE_SUCH := c_NONE_SUCH, c_TOO_FEW := c_TOO_FEW, c_NOT_HARD := c_NOT_HARD, c_IN_USE := c_IN_USE, c_ALREADY_SO := c_ALREADY_SO, c_NOT_AS_TOLD := c_NOT_AS_TOLD, c_NO_ROOM := c_NO_ROOM, c_OUT_OF_REACH := c_OUT_OF_REACH, c_TOO_LATE := c_TOO_LATE, c_MOST_PAIRS := c_MOST_PAIRS, c_SIZES := c_SIZES, c_MOST_BASE := c_MOST_BASE, c_MOST_EACH := c_MOST_EACH, c_MOST_LEAST := c_MOST_LEAST, c_MOST_ROOM := c_MOST_ROOM, c_MOST_BACK := c_MOST_BACK, c_MOST_MACHINES := c_MOST_MACHINES, c_MOST_COLD := c_MOST_COLD, c_MOST_COST := c_MOST_COST, c_MOST_LAID := c_MOST_LAID, c_MOST_MINUTES := c_MOST_MINUTES, c_LAST_MINUTE := c_LAST_MINUTE, c_MOST_MINUTES_AHEAD := c_MOST_MINUTES_AHEAD, c_MOST_SKATERS := c_MOST_SKATERS, c_MOST_SESSIONS := c_MOST_SESSIONS, c_MOST_GAP := c_MOST_GAP, c_MOST_FEE := c_MOST_FEE, c_DAY_END := c_DAY_END, c_GIVEN := m_GIVEN, t_GIVEN := t_GIVEN, b_abs := b_abs, b_any := b_any, b_enumerate := b_enumerate, b_len := b_len, b_min := b_min, b_range := b_range, b_sum := b_sum }
    refine' Ir.ans_mk KX G hmg ?a_answers ?l_answers ?c_answers ?k_answers ?H_answers
    (case a_answers => k_is); (case l_answers => k_is); (case c_answers => k_is); (case k_answers => k_is)
    exact fun fd FA base => Ir.all_ok T FA D_pairs_in_all D_ir_pairs D_ir_hire D_ir_bring D_ir_sharpen D_nearest_size D_ir_size D_ir_nearest K_Machine K_Pairs K_Session K_Rink D_copy_of_machine D_copy_of_pairs D_copy_of_session D_copy_of_rink K_Desk D_note_change D_ir_start D_ir_back D_ir_again D_ir_state D_cold_of D_cost_of D_heat_for D_is_hard D_ir_machine D_ir_run D_ir_flood D_ir_shave D_ir_drain D_freeze_or_melt D_send_all_off D_pass_minute D_ir_minutes D_ir_go D_ir_off D_minutes_till_hard D_cheapest_machines D_ir_hard D_ir_soon D_ir_bears D_ir_cheapest D_ir_ice D_ir_power D_ir_water D_ir_money D_two_fit D_earlier_that_clash D_days_that_fit D_fits D_fees_of D_best_day D_ir_gap D_ir_ask D_ir_book D_ir_drop D_ir_would D_ir_best D_ir_who D_ir_look D_change_ice D_change_skates D_change_sessions D_change_rink D_ask_ice D_ask_sessions D_ask_skates D_ask_accounts D_ask_rink D_change_desk D_call_desk
  case S =>
    intro K H xs a hO hwi hask hx
    cases hx with
    | cons h1 h2 =>
      cases h2
      cases h1 with
      | lst hs ha =>
        have e := L2.ints_dw a.1 _ ha
        subst e
        exact ⟨_, a.1, rfl, hs, hask, fun H' p hp => .lst (L2.SqL.of hp) (L2.dw_ints _)⟩
