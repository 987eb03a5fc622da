import PyProof.Rows.All
import Wide.All
import OpenK.AllK
import Wide.FinOn
import Lean
import PyProof.EqAt
import PyProof.EqKinds
import PyProof.TupleCall
import PyProof.ZipIter
import PySem.Challenge.RW_lineswitch_k34_whole_what_is_left
set_option Elab.async false
set_option linter.all false
set_option maxRecDepth 100000

namespace L2
open PySem PySem.Spec PyProof.Rows

/-- a key: an int or a str -/
abbrev Key := Sum Int Str
def keyIs : Key → Value → Bool
  | .inl k, v => Value.isInt k v
  | .inr x, v => Value.isStrOf x v
def keyH (w : World) : Key → Int
  | .inl k => hashInt k
  | .inr x => hashStr w x
theorem keyIs_shape : ∀ {k : Key} {v : Value}, keyIs k v = true → (∃ i t, k = Sum.inl i ∧ v = Value.int i t) ∨ (∃ x t, k = Sum.inr x ∧ v = Value.str x t)
  | .inl i, v, h => by
    obtain ⟨t, e⟩ := Value.isInt_shape (k := i) (v := v) h
    exact .inl ⟨i, t, rfl, e⟩
  | .inr x, v, h => by
    obtain ⟨t, e⟩ := Value.isStrOf_shape (x := x) (v := v) h
    exact .inr ⟨x, t, rfl, e⟩
theorem key_ll (a b : Int) : decide ((Sum.inl a : Key) = Sum.inl b) = (a == b) := by
  by_cases e : a = b
  · subst e; simp
  · have h : ¬ (Sum.inl a : Key) = Sum.inl b := fun q => e (Sum.inl.inj q)
    rw [decide_eq_false h]
    exact (beq_eq_false_iff_ne.mpr e).symm
theorem key_rr (a b : Str) : decide ((Sum.inr a : Key) = Sum.inr b) = decide (a = b) := by
  by_cases e : a = b
  · subst e; simp
  · have h : ¬ (Sum.inr a : Key) = Sum.inr b := fun q => e (Sum.inr.inj q)
    rw [decide_eq_false h, decide_eq_false e]
theorem key_lr (a : Int) (b : Str) : decide ((Sum.inl a : Key) = Sum.inr b) = false := decide_eq_false (fun q => nomatch q)
theorem key_rl (a : Str) (b : Int) : decide ((Sum.inr a : Key) = Sum.inl b) = false := decide_eq_false (fun q => nomatch q)

def mixKind (prog : Program) (w : World) : PySem.KeyKind prog w Key where
  is := keyIs
  hash := keyH w
  inj := fun v a b ha hb => by
    rcases keyIs_shape ha with ⟨i, t, rfl, rfl⟩ | ⟨x, t, rfl, rfl⟩
    · rcases keyIs_shape hb with ⟨j, u, rfl, e⟩ | ⟨y, u, rfl, e⟩
      · injection e with e1 _; rw [e1]
      · exact nomatch e
    · rcases keyIs_shape hb with ⟨j, u, rfl, e⟩ | ⟨y, u, rfl, e⟩
      · exact nomatch e
      · injection e with e1 _; rw [e1]
  byValue := fun k v h => by
    rcases keyIs_shape h with ⟨i, t, rfl, rfl⟩ | ⟨x, t, rfl, rfl⟩ <;> rfl
  pyHash := fun hv h => by
    rcases keyIs_shape hv with ⟨i, t, rfl, rfl⟩ | ⟨x, t, rfl, rfl⟩
    · exact wpAny_pyHash_int h
    · exact wpAny_pyHash_str h
  eqBool := fun hu hv h => by
    rcases keyIs_shape hu with ⟨i, t, rfl, rfl⟩ | ⟨x, t, rfl, rfl⟩
    · rcases keyIs_shape hv with ⟨j, u, rfl, rfl⟩ | ⟨y, u, rfl, rfl⟩
      · rw [key_ll] at h; exact wpAny_eqBool_int h
      · rw [key_lr] at h; exact SeqAt.EqAt.int_str i t y u _ _ _ _ h
    · rcases keyIs_shape hv with ⟨j, u, rfl, rfl⟩ | ⟨y, u, rfl, rfl⟩
      · rw [key_rl] at h; exact SeqAt.EqAt.str_int x t j u _ _ _ _ h
      · rw [key_rr] at h; exact wpAny_eqBool_str h
  «strs» := fun k x t v h => by
    rcases keyIs_shape h with ⟨i, u, rfl, e⟩ | ⟨y, u, rfl, e⟩
    · exact nomatch e
    · injection e with e1 _
      subst e1
      cases v <;> rfl

end L2

namespace L2
open PySem PySem.Spec PyProof.Rows

/-- a value, without the heap -/
inductive V where
  | non | bl (b : Bool) | int (i : Int) | str (x : Str) | byt (b : Array UInt8) | flt (b : UInt64) | ref (a : Addr) | ty (n : String)
  deriving DecidableEq

def RelV : V → Value → Prop
  | .non, u => u = Value.none
  | .bl b, u => u = Value.bool b
  | .int i, u => ∃ t, u = Value.int i t
  | .str x, u => ∃ t, u = Value.str x t
  | .byt b, u => ∃ t, u = Value.bytes b t
  | .flt b, u => ∃ t, u = Value.float b t
  | .ref a, u => u = Value.ref a
  | .ty n, u => u = Value.type n

abbrev Vals : List V → List Value → Prop := Paired RelV
theorem Vals.length {xs : List V} {us : List Value} (r : Vals xs us) : xs.length = us.length := Paired.length r
theorem Vals.get : ∀ {xs : List V} {us : List Value} {i : Nat} {x : V}, Vals xs us → xs[i]? = some x → ∃ u, us[i]? = some u ∧ RelV x u
  | _, _, _, _, .nil, e => by simp at e
  | _, _, 0, _, .cons r _, e => by simp at e; subst e; exact ⟨_, rfl, r⟩
  | _, _, i + 1, x, .cons _ t, e => by
    obtain ⟨u, h1, h2⟩ := Vals.get (i := i) (x := x) t (by simpa using e)
    exact ⟨u, by simpa using h1, h2⟩
theorem Vals.set {x : V} {u : Value} (r : RelV x u) : ∀ {xs : List V} {us : List Value} (i : Nat), Vals xs us → Vals (xs.set i x) (us.set i u)
  | _, _, _, .nil => .nil
  | _, _, 0, .cons _ t => .cons r t
  | _, _, i + 1, .cons q t => .cons q (Vals.set r i t)
theorem Vals.append : ∀ {xs ys : List V} {us ws : List Value}, Vals xs us → Vals ys ws → Vals (xs ++ ys) (us ++ ws)
  | _, _, _, _, .nil, s => s
  | _, _, _, _, .cons r t, s => .cons r (Vals.append t s)
theorem Vals.take : ∀ {xs : List V} {us : List Value} (n : Nat), Vals xs us → Vals (xs.take n) (us.take n)
  | _, _, 0, _ => .nil
  | _, _, _ + 1, .nil => .nil
  | _, _, n + 1, .cons r t => .cons r (Vals.take n t)
theorem Vals.drop : ∀ {xs : List V} {us : List Value} (n : Nat), Vals xs us → Vals (xs.drop n) (us.drop n)
  | _, _, 0, r => r
  | _, _, _ + 1, .nil => .nil
  | _, _, n + 1, .cons _ t => Vals.drop n t
def RelO : Option V → Option Value → Prop
  | some v, some u => RelV v u
  | none, none => True
  | _, _ => False
def KV {κ : Type} : List (κ × V) → List (κ × Value) → Prop := Paired fun (p : κ × V) (q : κ × Value) => p.1 = q.1 ∧ RelV p.2 q.2

/-- a key of a dict (00_mix): an int or a text -/
def kV : Key → V
  | .inl i => .int i
  | .inr x => .str x

/-- what stands at a tracked address -/
inductive HO where
  /-- a list -/
  | lst (xs : List V)
  /-- a tuple (never changes) -/
  | tup (xs : List V)
  /-- a dict whose keys are ints and texts; one whose keys are tuples of ints and texts (the empty one is both) -/
  | dK (kvs : List (Key × V)) | dT (kvs : List (List Key × V))
  /-- a set of ints: its members, its size -/
  | set (S : Int → Bool) (n : Nat)
  /-- an instance of the class at C, its dict at dx, its attributes -/
  | ins (C dx : Addr) (fs : List (Str × V))
  /-- the dict of the instance at x -/
  | own (x : Addr)
  /-- the dict of an exception -/
  | xd (fs : List (Str × V))
  /-- a bound method, f of x -/
  | met (f x : Addr)
  /-- a range object lo, lo + 1, .. below hi -/
  | rng (lo hi : Int)
  /-- a thing that is known to the object (the script; a dict while a loop walks it): read, never written while it is so -/
  | frz (o : Obj) (u : HO)
  /-- a code object's table -/
  | tbl (ps : Array Value)
  /-- any other thing, by what is true of its one object (a def of one's own: SetO a S n := HO.ext fun h => ..) -/
  | ext (φ : Heap → Prop)

abbrev Hp := Addr → Option HO
def upd (H : Hp) (a : Addr) (o : HO) : Hp := fun b => if b = a then some o else H b
theorem upd_same {H : Hp} {a : Addr} {o : HO} : upd H a o a = some o := by unfold upd; rw [if_pos rfl]
theorem upd_ne {H : Hp} {a b : Addr} {o : HO} (h : b ≠ a) : upd H a o b = H b := by unfold upd; rw [if_neg h]
theorem ne_of_none {H : Hp} {a b : Addr} {o : HO} (h : H a = some o) (h' : H b = none) : a ≠ b := by
  intro e; subst e; rw [h] at h'; cases h'

section
variable (P : Program) (w : World)
def ObjOk (H : Hp) (h : Heap) (a : Addr) : HO → Prop
  | .lst xs => xs.length ≤ sizeLine ∧ ∃ (its : List Value) (n : Nat), Vals xs its ∧ h.get? a = some { cls := .type "list", data := .seq its.toArray n }
  | .tup xs => xs.length ≤ sizeLine ∧ ∃ its : List Value, Vals xs its ∧ IsTup h a its.toArray
  | .dK kvs => kvs.length ≤ sizeLine ∧ (a == sysModules) = false ∧ ∃ vs, KV kvs vs ∧ h.DictOf (mixKind P w) a vs
  | .dT kvs => kvs.length ≤ sizeLine ∧ (a == sysModules) = false ∧ ∃ xs : List (List Key × Addr × Value),
      Paired (fun (p : List Key × V) (q : List Key × Addr × Value) => p.1 = q.1 ∧ H q.2.1 = some (.tup (p.1.map kV)) ∧ RelV p.2 q.2.2) kvs xs ∧
      ∃ o es ep, h.get? a = some o ∧ o.ExactDict ∧ o.data = .dict es ep ∧ es.toList = xs.map (entryOfKey (tupleKind (mixKind P w))) ∧ (xs.map (·.1)).Nodup
  | .set S n => h.SetOf (intKind P w) a S n
  | .ins C dx fs => H dx = some (.own a) ∧ fs.length ≤ 1000 ∧ dx ≠ a ∧ h.get? a = some (PySem.W.instObj C dx) ∧
      ∃ mA, h.Ns1 dx mA ∧ (∀ f, RelO (fs.lookup f) (mA f)) ∧ PySem.Within mA (fs.map (·.1))
  | .own _ => ∃ o, h.get? a = some o
  | .xd fs => ∃ mA, h.Ns1 a mA ∧ ∀ f, RelO (fs.lookup f) (mA f)
  | .rng lo hi => ∃ t u v, h.get? a = some { cls := .type "range", data := .fields #[.int lo t, .int hi u, .int 1 v] }
  | .frz o u => h.get? a = some o ∧ ObjOk H h a u
  | .tbl ps => h.get? a = some { cls := .none, data := .fields ps }
  | .met f x => h.get? a = some (PySem.W.methodObj (.ref f) (.ref x))
  | .ext φ => φ h ∧ (∃ o, h.get? a = some o) ∧ ∀ h1 h2 : Heap, φ h1 → (∀ o, h1.get? a = some o → h2.get? a = some o) → φ h2
/-- the abstract heap is held -/
def HOk (H : Hp) (h : Heap) : Prop := ∀ a o, H a = some o → ObjOk P w H h a o
end

section
variable {P : Program} {w : World} {H H' : Hp} {h h' : Heap} {a : Addr} {o : HO}
theorem ObjOk.lt (x : ObjOk P w H h a o) : a < h.objs.size := by
  cases o with
  | lst xs => obtain ⟨_, _, _, _, e⟩ := x; exact Heap.lt_size e
  | tup xs => obtain ⟨_, _, _, p⟩ := x; exact p.lt
  | dK kvs => obtain ⟨_, _, _, _, o, _, _, e, _⟩ := x; exact Heap.lt_size e
  | dT kvs => obtain ⟨_, _, _, _, o, _, _, e, _⟩ := x; exact Heap.lt_size e
  | set S n => obtain ⟨o, _, _, _, e, _⟩ := x; exact Heap.lt_size e
  | ins C dx fs => obtain ⟨_, _, _, e, _⟩ := x; exact Heap.lt_size e
  | own y => obtain ⟨_, e⟩ := x; exact Heap.lt_size e
  | xd fs => obtain ⟨_, ⟨_, _, _, e, _⟩, _⟩ := x; exact Heap.lt_size e
  | rng lo hi => obtain ⟨_, _, _, e⟩ := x; exact Heap.lt_size e
  | frz ob u => obtain ⟨e, _⟩ := x; exact Heap.lt_size e
  | tbl ps => exact Heap.lt_size (show h.get? a = some _ from x)
  | met f y => exact Heap.lt_size (show h.get? a = some _ from x)
  | ext φ => obtain ⟨_, ⟨_, e⟩, _⟩ := x; exact Heap.lt_size e
theorem Paired.mapP {α β : Type} {F G : α → β → Prop} : ∀ {l₁ : List α} {l₂ : List β}, Paired F l₁ l₂ → (∀ a b, F a b → G a b) → Paired G l₁ l₂
  | _, _, .nil, _ => .nil
  | _, _, .cons r t, f => .cons (f _ _ r) (Paired.mapP t f)
/-- what an object's description leans on: its own object, its own dict, the tuples -/
theorem ObjOk.stay (x : ObjOk P w H h a o) (k : ∀ b u, (b = a ∨ H b = some (.own a)) → h.get? b = some u → h'.get? b = some u)
    (ho : ∀ b, H b = some (.own a) → H' b = some (.own a)) (ht : ∀ b xs, H b = some (.tup xs) → H' b = some (.tup xs)) : ObjOk P w H' h' a o := by
  induction o with
  | lst xs => obtain ⟨z, its, n, r, e⟩ := x; exact ⟨z, its, n, r, k _ _ (.inl rfl) e⟩
  | tup xs => obtain ⟨z, its, r, ob, e, c⟩ := x; exact ⟨z, its, r, ob, k _ _ (.inl rfl) e, c⟩
  | dK kvs => obtain ⟨z, y, vs, r, ob, es, ep, e, c⟩ := x; exact ⟨z, y, vs, r, ob, es, ep, k _ _ (.inl rfl) e, c⟩
  | dT kvs =>
    obtain ⟨z, y, xs, r, ob, es, ep, e, c⟩ := x
    exact ⟨z, y, xs, Paired.mapP r fun p q z => ⟨z.1, ht _ _ z.2.1, z.2.2⟩, ob, es, ep, k _ _ (.inl rfl) e, c⟩
  | set S n => obtain ⟨ob, es, ep, t, e, c⟩ := x; exact ⟨ob, es, ep, t, k _ _ (.inl rfl) e, c⟩
  | ins C dx fs =>
    obtain ⟨d, z, ne, e, mA, ⟨od, es, ep, e2, c⟩, r⟩ := x
    exact ⟨ho _ d, z, ne, k _ _ (.inl rfl) e, mA, ⟨od, es, ep, k _ _ (.inr d) e2, c⟩, r⟩
  | own y => obtain ⟨ob, e⟩ := x; exact ⟨ob, k _ _ (.inl rfl) e⟩
  | xd fs => obtain ⟨mA, ⟨od, es, ep, e, c⟩, r⟩ := x; exact ⟨mA, ⟨od, es, ep, k _ _ (.inl rfl) e, c⟩, r⟩
  | rng lo hi => obtain ⟨t, u, v, e⟩ := x; exact ⟨t, u, v, k _ _ (.inl rfl) e⟩
  | frz ob u ih => obtain ⟨e, q⟩ := x; exact ⟨k _ _ (.inl rfl) e, ih q⟩
  | tbl ps =>
    have e : h.get? a = some { cls := .none, data := .fields ps } := x
    show h'.get? a = some { cls := .none, data := .fields ps }
    exact k a _ (.inl rfl) e
  | met f y =>
    have e : h.get? a = some (PySem.W.methodObj (.ref f) (.ref y)) := x
    show h'.get? a = some (PySem.W.methodObj (.ref f) (.ref y))
    exact k a _ (.inl rfl) e
  | ext φ => obtain ⟨p, ⟨o, e⟩, st⟩ := x; exact ⟨st _ _ p fun o q => k _ _ (.inl rfl) q, ⟨o, k _ _ (.inl rfl) e⟩, st⟩
theorem HOk.lt (x : HOk P w H h) (e : H a = some o) : a < h.objs.size := (x a o e).lt
theorem HOk.fresh (x : HOk P w H h) (e : h.objs.size ≤ a) : H a = none := by
  cases q : H a with
  | none => rfl
  | some u => exact absurd (Nat.lt_of_lt_of_le (x.lt q) e) (Nat.lt_irrefl _)
/-- every object of the heap is kept -/
theorem HOk.kept (x : HOk P w H h) (k : ∀ b u, h.get? b = some u → h'.get? b = some u) : HOk P w H h' := fun a o e =>
  (x a o e).stay (fun b u _ q => k b u q) (fun _ q => q) fun _ _ q => q
/-- a new object is laid and tracked -/
theorem HOk.laid (x : HOk P w H h) (k : ∀ b u, h.get? b = some u → h'.get? b = some u) (hp : h.objs.size ≤ a) (new : ObjOk P w (upd H a o) h' a o) : HOk P w (upd H a o) h' := fun b u e => by
  have hn := x.fresh hp
  by_cases hb : b = a
  · subst hb; rw [upd_same] at e; cases e; exact new
  · rw [upd_ne hb] at e
    exact (x b u e).stay (fun c v _ q => k c v q) (fun c q => by rw [upd_ne (ne_of_none q hn)]; exact q) fun c xs q => by rw [upd_ne (ne_of_none q hn)]; exact q
end

/-- what may be read as u: it is u, or a known u -/
def Rd (H : Hp) (a : Addr) (u : HO) : Prop := H a = some u ∨ ∃ o, H a = some (.frz o u)
theorem Rd.of {H : Hp} {a : Addr} {u : HO} (h : H a = some u) : Rd H a u := .inl h
theorem Rd.ok {P : Program} {w : World} {H : Hp} {h : Heap} {a : Addr} {u : HO} (r : Rd H a u) (x : HOk P w H h) : ObjOk P w H h a u := by
  rcases r with r | ⟨o, r⟩
  · exact x a u r
  · obtain ⟨_, q⟩ := x a _ r
    exact q
/-- what may be written -/
def Mut : Option HO → Prop
  | some (.lst _) => True
  | some (.dK _) => True
  | some (.dT _) => True
  | some (.set _ _) => True
  | some (.ins _ _ _) => True
  | some (.ext _) => True
  | _ => False
section
variable {P : Program} {w : World} {H : Hp} {h h' : Heap} {x e : Addr} {o' : HO}
/-- the object at e is changed: x itself, or the dict of the instance x -/
theorem HOk.write (ok : HOk P w H h) (mu : Mut (H x)) (he : e = x ∨ H e = some (.own x)) (k : ∀ b u, b ≠ e → h.get? b = some u → h'.get? b = some u) (heo : ∃ u, h'.get? e = some u)
    (new : ObjOk P w (upd H x o') h' x o') : HOk P w (upd H x o') h' := fun b u q => by
  have nown : ∀ c y, H c = some (.own y) → c ≠ x := fun c y r z => by subst z; rw [r] at mu; exact mu
  have ntup : ∀ c xs, H c = some (.tup xs) → c ≠ x := fun c xs r z => by subst z; rw [r] at mu; exact mu
  by_cases hb : b = x
  · subst hb; rw [upd_same] at q; cases q; exact new
  · rw [upd_ne hb] at q
    by_cases hbe : b = e
    · have q' : H b = some (.own x) := by
        rcases he with z | z
        · exact absurd (hbe.trans z) hb
        · rw [hbe]; exact z
      rw [q] at q'; cases q'
      obtain ⟨v, hv⟩ := heo
      exact ⟨v, by rw [hbe]; exact hv⟩
    · refine (ok b u q).stay (fun c v hc r => k c v ?_ r) (fun c r => by rw [upd_ne (nown c b r)]; exact r) fun c xs r => by rw [upd_ne (ntup c xs r)]; exact r
      rcases hc with rfl | hc
      · exact hbe
      · rintro rfl
        rcases he with z | z
        · exact nown c b hc z
        · rw [hc] at z; cases z; exact hb rfl
end


structure Un (fs ex : List Addr) (H H' : Hp) (h h' : Heap) : Prop where
  keep : ∀ b o, h.get? b = some o → H b = none → b ∉ fs → b ∉ ex → h'.get? b = some o
  slot : ∀ b o, h.get? b = some o → H b = none → b ∈ fs → b ∉ ex → ∃ sl, h'.get? b = some { o with slots := sl }
  free : ∀ b o, h.get? b = some o → H b = none → b ∉ ex → H' b = none
  there : ∀ b o, h.get? b = some o → b ∉ ex → ∃ o', h'.get? b = some o'
  tups : ∀ b xs, H b = some (.tup xs) → H' b = some (.tup xs)
  frzs : ∀ b o u, H b = some (.frz o u) → H' b = some (.frz o u)
  tbls : ∀ b ps, H b = some (.tbl ps) → ∃ more, H' b = some (.tbl (ps ++ more))
section
variable {fs fs' ex ex' : List Addr} {H H1 H2 : Hp} {h h1 h2 h' : Heap} {a x e : Addr} {o : HO}
theorem Un.any (u : Un fs ex H H1 h h1) {b : Addr} {ob : Obj} (q : h.get? b = some ob) (n : H b = none) (hx : b ∉ ex) : ∃ sl, h1.get? b = some { ob with slots := sl } := by
  by_cases hb : b ∈ fs
  · exact u.slot b ob q n hb hx
  · exact ⟨ob.slots, u.keep b ob q n hb hx⟩
theorem Un.trans (a : Un fs ex H H1 h h1) (b : Un fs ex H1 H2 h1 h2) : Un fs ex H H2 h h2 where
  keep := fun c ob q n hc hx => b.keep c ob (a.keep c ob q n hc hx) (a.free c ob q n hx) hc hx
  slot := fun c ob q n hc hx => by
    obtain ⟨sl, e1⟩ := a.slot c ob q n hc hx
    obtain ⟨sl', e2⟩ := b.slot c _ e1 (a.free c ob q n hx) hc hx
    exact ⟨sl', e2⟩
  free := fun c ob q n hx => by
    obtain ⟨o', e1⟩ := a.there c ob q hx
    exact b.free c o' e1 (a.free c ob q n hx) hx
  there := fun c ob q hx => by
    obtain ⟨o', e1⟩ := a.there c ob q hx
    exact b.there c o' e1 hx
  tups := fun c xs q => b.tups c xs (a.tups c xs q)
  frzs := fun c ob xs q => b.frzs c ob xs (a.frzs c ob xs q)
  tbls := fun c ps q => by
    obtain ⟨m1, e1⟩ := a.tbls c ps q
    obtain ⟨m2, e2⟩ := b.tbls c _ e1
    exact ⟨m1 ++ m2, by rw [e2, Array.append_assoc]⟩
theorem Un.kept (k : ∀ b u, h.get? b = some u → h'.get? b = some u) : Un fs ex H H h h' :=
  ⟨fun b ob q _ _ _ => k b ob q, fun b ob q _ _ _ => ⟨ob.slots, k b ob q⟩, fun _ _ _ n _ => n, fun b ob q _ => ⟨ob, k b ob q⟩, fun _ _ q => q, fun _ _ _ q => q, fun _ ps q => ⟨#[], by rw [q]; simp⟩⟩
theorem Un.refl : Un fs ex H H h h := Un.kept fun _ _ q => q
theorem Un.laid (k : ∀ b u, h.get? b = some u → h'.get? b = some u) (hp : h.objs.size ≤ a) (hn : H a = none) : Un fs ex H (upd H a o) h h' where
  keep := fun b u q _ _ _ => k b u q
  slot := fun b u q _ _ _ => ⟨u.slots, k b u q⟩
  free := fun b u q n _ => by rw [upd_ne (Nat.ne_of_lt (Nat.lt_of_lt_of_le (Heap.lt_size q) hp))]; exact n
  there := fun b u q _ => ⟨u, k b u q⟩
  tups := fun b xs q => by rw [upd_ne (ne_of_none q hn)]; exact q
  frzs := fun b u xs q => by rw [upd_ne (ne_of_none q hn)]; exact q
  tbls := fun b ps q => ⟨#[], by rw [upd_ne (ne_of_none q hn), q]; simp⟩
theorem Un.write (mu : Mut (H x)) (he : e = x ∨ H e = some (.own x)) (k : ∀ b u, b ≠ e → h.get? b = some u → h'.get? b = some u) (heo : ∃ u, h'.get? e = some u) : Un fs ex H (upd H x o) h h' := by
  have hx : ∀ b, H b = none → b ≠ x := fun b n z => by subst z; rw [n] at mu; exact mu
  have hb : ∀ b, H b = none → b ≠ e := fun b n z => by
    subst z
    rcases he with r | r
    · exact hx b n r
    · rw [n] at r; cases r
  have hm : ∀ b u, H b = some u → ¬ Mut (some u) → b ≠ x := fun b u q nm z => by subst z; rw [q] at mu; exact nm mu
  refine ⟨fun b u q n _ _ => k b u (hb b n) q, fun b u q n _ _ => ⟨u.slots, k b u (hb b n) q⟩, fun b u q n _ => by rw [upd_ne (hx b n)]; exact n, fun b u q _ => ?_,
    fun b xs q => by rw [upd_ne (hm b _ q fun z => z)]; exact q, fun b u xs q => by rw [upd_ne (hm b _ q fun z => z)]; exact q, fun b ps q => ⟨#[], by rw [upd_ne (hm b _ q fun z => z), q]; simp⟩⟩
  by_cases hbe : b = e
  · subst hbe; exact heo
  · exact ⟨u, k b u hbe q⟩
theorem Un.mono (u : Un fs ex H H1 h h1) (hs : ∀ b ∈ fs, b ∈ fs') (hx : ∀ b ∈ ex, b ∈ ex') : Un fs' ex' H H1 h h1 :=
  ⟨fun b ob q n hb he => u.keep b ob q n (fun z => hb (hs b z)) fun z => he (hx b z), fun _ _ q n _ he => u.any q n fun z => he (hx _ z), fun b ob q n he => u.free b ob q n fun z => he (hx b z), fun b ob q he => u.there b ob q fun z => he (hx b z), u.tups, u.frzs, u.tbls⟩
end


def trk (h : Heap) (H : Hp) : List Addr := (List.range h.objs.size).filter fun a => (H a).isSome
def hidT (h : Heap) (H : Hp) : Heap := PySem.W.hideAll h (trk h H)
theorem hidT_size (h : Heap) (H : Hp) : (hidT h H).objs.size = h.objs.size := PySem.W.hideAll_size _ _
theorem hidT_get {h : Heap} {H : Hp} {b : Addr} {o : Obj} (e : h.get? b = some o) (n : H b = none) : (hidT h H).get? b = some o :=
  PySem.W.hideAll_get _ e fun hm => by
    have q : (H b).isSome = true := (List.mem_filter.mp hm).2
    rw [n] at q; simp at q
theorem of_hidT {h : Heap} {H : Hp} {b : Addr} {o : Obj} (e : (hidT h H).get? b = some o) : h.get? b = some o ∧ H b = none := by
  have e' : h.get? b = some o := PySem.W.of_hideAll (trk h H) e
  refine ⟨e', ?_⟩
  cases q : H b with
  | none => rfl
  | some x =>
    have hm : b ∈ trk h H := List.mem_filter.mpr ⟨List.mem_range.mpr (Heap.lt_size e'), by simp [q]⟩
    have z : (hidT h H).get? b = none := PySem.W.hideAll_none (trk h H) hm
    rw [z] at e; cases e


def allNews (g h : Heap) (L : Addr) : List (Addr × Obj) := (List.range h.objs.size).filterMap fun a => if a = L ∨ (g.get? a).isSome = true then none else (h.get? a).map fun o => (a, o)
def rest (g h : Heap) (L d : Addr) : List (Addr × Obj) := (allNews g h L).filter fun p => decide (p.1 ≠ d)
end L2

namespace L2
open PySem PySem.Spec PyProof.Rows

/-- the module's facts, over the base: the heap at the law's entry without what is tracked there -/
structure Mod (K : PySem.W.Frag) (mg : Str → Option Value) (base : Heap) : Prop where
  kin : K.In base
  glob : base.Ns mainGlobals mg
  blt : ∃ mb, base.Ns builtinsNs mb ∧ ∀ x : Str, x ≠ "__name__" → mb x = bootBuiltins x
  nolimit : base.NoLimit

/-- the context: a def's body (or a comprehension's block) running. base: fixed through the whole law; s₀, H₀: the entry; outer: the frames whose slots others may change (a def's callers); stack: all frames that run;
   ex: iterators that were made ahead of the entry and are walked here (a comprehension's); fn: the names whose cells were made at the entry (a def: all; a comprehension's block: its own); calm: not within an except suite; pn: pins that every state bears; xe: what is wanted of an exception that leaves the code -/
structure Cx where
  prog : Program
  w : World
  K : PySem.W.Frag
  mg : Str → Option Value
  base : Heap
  A : Around
  N : List Str
  s₀ : Shared
  H₀ : Hp
  env : Env
  outer : List Env
  stack : List Env
  ex : List Addr
  fn : Str → Bool
  calm : Bool
  pn : List (Addr × Obj)
  xe : Value → Shared → Prop
/-- the callers' frames -/
def frs (l : List Env) : List Addr := l.filterMap (·.frame)
abbrev Cx.fs (X : Cx) : List Addr := frs X.outer

def Vis (sc : Scope) (x : Str) : Prop := sc.names.lookup x = some .local ∨ sc.names.lookup x = some .cell ∨ sc.names.lookup x = some .free
def Loc (sc : Scope) (x : Str) : Prop := sc.names.lookup x = some .local ∨ sc.names.lookup x = some .cell
def Look (env : Env) (h : Heap) (m : Str → Option Value) (x : Str) (u : Value) : Prop :=
  (env.kindOf x = some .local ∧ m x = some u) ∨ ((env.kindOf x = some .cell ∨ env.kindOf x = some .free) ∧ ∃ c, env.cells.lookup x = some c ∧ h.IsCell c (some u))

structure Cx.Ok (X : Cx) : Prop where
  mod : Mod X.K X.mg X.base
  kind : X.env.scope.kind = .function
  glob : X.env.globals = mainGlobals
  blt : X.env.builtins = builtinsNs
  above : X.s₀.heap.objs.size ≤ X.env.locals
  inj : ∀ x y c, X.env.cells.lookup x = some c → X.env.cells.lookup y = some c → x = y
  has : ∀ x, (X.env.kindOf x = some .cell ∨ X.env.kindOf x = some .free) → ∃ c, X.env.cells.lookup x = some c
  cab : ∀ x c, X.fn x = true → X.env.cells.lookup x = some c → X.s₀.heap.objs.size ≤ c
  hd : X.calm = true → X.A.handled = none
  frames : X.A.frames = some X.stack
  stk : X.stack = X.outer ∨ (X.stack = X.env :: X.outer ∧ X.env.frame = some X.env.locals)
  exf : ∀ b ∈ X.ex, b ≠ X.env.locals ∧ ∀ x c, X.env.cells.lookup x = some c → c ≠ b
  bs : ∀ b o, X.base.get? b = some o → X.s₀.heap.get? b = some o ∧ X.H₀ b = none
  bsz : X.base.objs.size ≤ X.s₀.heap.objs.size
  noex : ∀ b o, X.base.get? b = some o → b ∉ X.ex
  exfs : ∀ b ∈ X.ex, b ∉ X.fs
  funs : X.s₀.heap.FunFrames X.base X.outer
  frf : ∀ b ∈ X.fs, X.H₀ b = none

structure Inv (X : Cx) (pins : List (Addr × Obj)) (σ : List (Option V)) (H : Hp) (s : Shared) : Prop where
  ok : X.Ok
  os : s.os = X.s₀.os
  bare : AllBare s.gens
  base : Un X.fs X.ex X.H₀ H X.s₀.heap s.heap
  loc : ∃ m, s.heap.Ns X.env.locals m ∧ ∀ (i : Nat) (x : Str) (v : V), X.N[i]? = some x → σ[i]? = some (some v) → Vis X.env.scope x → ∃ u, RelV v u ∧ Look X.env s.heap m x u
  cell : ∀ x c, X.env.cells.lookup x = some c → ∃ v, s.heap.IsCell c v
  free : H X.env.locals = none
  freeC : ∀ x c, X.env.cells.lookup x = some c → H c = none
  pin : ∀ p ∈ X.pn ++ pins, s.heap.get? p.1 = some p.2 ∧ H p.1 = none ∧ p.1 ≠ X.env.locals ∧ p.1 ∉ X.fs ∧ ∀ v, p.2.data ≠ .cell v
  hok : HOk X.prog X.w H s.heap
  len : σ.length = X.N.length

section
variable {X : Cx} {pins : List (Addr × Obj)} {σ : List (Option V)} {H H' : Hp} {s : Shared} {h' : Heap}

theorem Cx.Ok.nofr (ok : X.Ok) {b : Addr} {o : Obj} (e : X.base.get? b = some o) : b ∉ X.fs := fun hb => by
  have := (ok.funs.mem hb).1
  rw [e] at this; cases this
theorem Inv.bs (I : Inv X pins σ H s) : ∀ b o, X.base.get? b = some o → s.heap.get? b = some o ∧ H b = none := fun b o e =>
  ⟨I.base.keep b o (I.ok.bs b o e).1 (I.ok.bs b o e).2 (I.ok.nofr e) (I.ok.noex b o e), I.base.free b o (I.ok.bs b o e).1 (I.ok.bs b o e).2 (I.ok.noex b o e)⟩
theorem Inv.bk (I : Inv X pins σ H s) : ∀ b o, X.base.get? b = some o → s.heap.get? b = some o := fun b o e => (I.bs b o e).1
theorem Inv.mod (I : Inv X pins σ H s) : Mod X.K X.mg X.base := I.ok.mod
theorem Inv.kIn (I : Inv X pins σ H s) : X.K.In s.heap := I.ok.mod.kin.keeps I.bk
theorem Inv.nolimit (I : Inv X pins σ H s) : s.heap.NoLimit := I.ok.mod.nolimit.keeps I.bk
/-- the frame over the base: for OpenK's rules (K.In X.base is I.mod.kin) -/
theorem Inv.fr (I : Inv X pins σ H s) : ∃ m, Fr X.base X.env.locals s.heap m :=
  let ⟨m, hn, _⟩ := I.loc
  ⟨m, hn, I.bk, Nat.le_trans I.ok.bsz I.ok.above⟩
theorem Inv.lt (I : Inv X pins σ H s) : X.env.locals < s.heap.objs.size := let ⟨_, hn, _⟩ := I.loc; hn.lt
theorem Inv.sz (I : Inv X pins σ H s) : X.s₀.heap.objs.size ≤ s.heap.objs.size := Nat.le_trans I.ok.above (Nat.le_of_lt I.lt)
theorem Inv.nofs (I : Inv X pins σ H s) {a : Addr} (h : s.heap.objs.size ≤ a) : a ∉ X.fs := fun hb => by
  obtain ⟨_, o, ho, _⟩ := I.ok.funs.mem hb
  exact absurd (Nat.lt_of_lt_of_le (Heap.lt_size ho) (Nat.le_trans I.sz h)) (Nat.lt_irrefl _)
theorem Inv.cne (I : Inv X pins σ H s) : ∀ x c, X.env.cells.lookup x = some c → c ≠ X.env.locals := fun x c e z => by
  obtain ⟨v, o, ho, hd⟩ := I.cell x c e
  obtain ⟨m, ⟨o', es, ep, ho', hd', _⟩, _⟩ := I.loc
  rw [z, ho'] at ho; cases ho; rw [hd'] at hd; cases hd
theorem Inv.funs (I : Inv X pins σ H s) : s.heap.FunFrames X.base X.outer := by
  have all : ∀ (l : List Env), (∀ b ∈ frs l, b ∈ X.fs) → X.s₀.heap.FunFrames X.base l → s.heap.FunFrames X.base l := by
    intro l
    induction l with
    | nil => intro _ _; trivial
    | cons env r ih =>
      intro hs hl
      obtain ⟨hk, ⟨L, o, hf, hn, ho, hd⟩, hr⟩ := hl
      have hL : L ∈ X.fs := hs L (by unfold frs; rw [List.filterMap_cons, hf]; exact List.mem_cons_self)
      obtain ⟨sl, e⟩ := I.base.slot L o ho (I.ok.frf L hL) hL fun z => I.ok.exfs L z hL
      exact ⟨hk, ⟨L, _, hf, hn, e, hd⟩, ih (fun b hb => hs b (by unfold frs; rw [List.filterMap_cons, hf]; exact List.mem_cons_of_mem _ hb)) hr⟩
  exact all X.outer (fun _ hb => hb) I.ok.funs

/-- the frames that run, for a call -/
theorem Inv.stack (I : Inv X pins σ H s) : s.heap.FunFrames X.base X.stack := by
  rcases I.ok.stk with e | ⟨e, hf⟩
  · rw [e]; exact I.funs
  · rw [e]
    obtain ⟨m, hn, _⟩ := I.loc
    refine .cons (by rw [I.ok.kind]; decide) hf hn ?_ I.funs
    exact Heap.get?_none_of_le (Nat.le_trans I.ok.bsz I.ok.above)
theorem Inv.stkSub (I : Inv X pins σ H s) : ∀ b ∈ frs X.stack, b ∈ X.env.locals :: X.fs := fun b hb => by
  rcases I.ok.stk with e | ⟨e, hf⟩
  · rw [e] at hb; exact List.mem_cons_of_mem _ hb
  · rw [e] at hb
    unfold frs at hb
    rw [List.filterMap_cons, hf] at hb
    exact hb
theorem Inv.stkFree (I : Inv X pins σ H s) : ∀ b ∈ frs X.stack, H b = none := fun b hb => by
  rcases List.mem_cons.mp (I.stkSub b hb) with e | hb
  · rw [e]; exact I.free
  · obtain ⟨_, o, ho, _⟩ := I.ok.funs.mem hb
    exact I.base.free b o ho (I.ok.frf b hb) fun z => I.ok.exfs b z hb

/-- THE STEP: the untracked objects but the frame and the records at ch are kept (the callers' frames up to slots), the frame's map is kept, the new abstract heap is held -/
theorem Inv.step {g' : Array GenState} {t' : Nat} {d' : Drawn} {ch : List Addr} (I : Inv X pins σ H s)
    (hch : ∀ b ∈ ch, (b ∈ X.ex ∨ X.s₀.heap.objs.size ≤ b) ∧ b ≠ X.env.locals ∧ (∀ x c, X.env.cells.lookup x = some c → c ≠ b) ∧ ∀ p ∈ X.pn ++ pins, p.1 ≠ b)
    (keep : ∀ b o, b ≠ X.env.locals → b ∉ X.fs → b ∉ ch → s.heap.get? b = some o → H b = none → h'.get? b = some o)
    (slot : ∀ b o, b ≠ X.env.locals → b ∈ X.fs → b ∉ ch → s.heap.get? b = some o → H b = none → ∃ sl, h'.get? b = some { o with slots := sl }) (free : ∀ b o, b ∉ ch → s.heap.get? b = some o → H b = none → H' b = none)
    (there : ∀ b o, b ∉ ch → s.heap.get? b = some o → ∃ o', h'.get? b = some o')
    (tups : ∀ b xs, H b = some (.tup xs) → H' b = some (.tup xs)) (frzs : ∀ b o u, H b = some (.frz o u) → H' b = some (.frz o u)) (tbls : ∀ b ps, H b = some (.tbl ps) → ∃ more, H' b = some (.tbl (ps ++ more)))
    (ns : ∀ m, s.heap.Ns X.env.locals m → h'.Ns X.env.locals m) (hok : HOk X.prog X.w H' h') (hg : AllBare g') :
    Inv X pins σ H' { s with heap := h', gens := g', drawn := d', toks := t' } := by
  have neL : ∀ b o, X.s₀.heap.get? b = some o → b ≠ X.env.locals := fun b o e => Nat.ne_of_lt (Nat.lt_of_lt_of_le (Heap.lt_size e) I.ok.above)
  have neC : ∀ b o, X.s₀.heap.get? b = some o → b ∉ X.ex → b ∉ ch := fun b o e hx hb => by
    rcases (hch b hb).1 with z | z
    · exact hx z
    · exact absurd (Nat.lt_of_lt_of_le (Heap.lt_size e) z) (Nat.lt_irrefl _)
  have cellK : ∀ x c, X.env.cells.lookup x = some c → ∀ v, s.heap.IsCell c v → h'.IsCell c v := fun x c e v ⟨o, ho, hd⟩ => by
    have nch : c ∉ ch := fun z => (hch c z).2.2.1 x c e rfl
    by_cases hc : c ∈ X.fs
    · obtain ⟨sl, q⟩ := slot c o (I.cne x c e) hc nch ho (I.freeC x c e)
      exact ⟨_, q, hd⟩
    · exact ⟨o, keep c o (I.cne x c e) hc nch ho (I.freeC x c e), hd⟩
  refine ⟨I.ok, I.os, hg, ⟨fun b o e n hb hx => ?_, fun b o e n hb hx => ?_, fun b o e n hx => ?_, fun b o e hx => ?_, fun b xs e => tups b xs (I.base.tups b xs e), fun b o xs e => frzs b o xs (I.base.frzs b o xs e), fun b ps e => ?_⟩, ?_, fun x c e => ?_, ?_, fun x c e => ?_, fun p hp => ?_, hok, I.len⟩
  · exact keep b o (neL b o e) hb (neC b o e hx) (I.base.keep b o e n hb hx) (I.base.free b o e n hx)
  · obtain ⟨sl, e1⟩ := I.base.slot b o e n hb hx
    obtain ⟨sl', e2⟩ := slot b _ (neL b o e) hb (neC b o e hx) e1 (I.base.free b o e n hx)
    exact ⟨sl', e2⟩
  · obtain ⟨o', e1⟩ := I.base.there b o e hx
    exact free b o' (neC b o e hx) e1 (I.base.free b o e n hx)
  · obtain ⟨o', e1⟩ := I.base.there b o e hx
    exact there b o' (neC b o e hx) e1
  · obtain ⟨m1, e1⟩ := I.base.tbls b ps e
    obtain ⟨m2, e2⟩ := tbls b _ e1
    exact ⟨m1 ++ m2, by rw [e2, Array.append_assoc]⟩
  · obtain ⟨m, hn, hl⟩ := I.loc
    refine ⟨m, ns m hn, fun i x v e1 e2 e3 => ?_⟩
    obtain ⟨u, r, l⟩ := hl i x v e1 e2 e3
    refine ⟨u, r, ?_⟩
    rcases l with l | ⟨k, c, e, z⟩
    · exact .inl l
    · exact .inr ⟨k, c, e, cellK x c e _ z⟩
  · obtain ⟨v, z⟩ := I.cell x c e
    exact ⟨v, cellK x c e v z⟩
  · obtain ⟨m, ⟨o, _, _, ho, _⟩, _⟩ := I.loc
    exact free _ o (fun z => (hch _ z).2.1 rfl) ho I.free
  · obtain ⟨v, o, ho, hd⟩ := I.cell x c e
    exact free c o (fun z => (hch c z).2.2.1 x c e rfl) ho (I.freeC x c e)
  · obtain ⟨e, n, ne, nf, d⟩ := I.pin p hp
    have nch : p.1 ∉ ch := fun z => (hch p.1 z).2.2.2 p hp rfl
    exact ⟨keep p.1 p.2 ne nf nch e n, free p.1 p.2 nch e n, ne, nf, d⟩
/-- .. where the frame's own object is kept too -/
theorem Inv.un {t' : Nat} (I : Inv X pins σ H s) (u : Un X.fs [] H H' s.heap h') (hok : HOk X.prog X.w H' h') : Inv X pins σ H' { s with heap := h', toks := t' } := by
  obtain ⟨m, ⟨o, es, ep, ho, r⟩, _⟩ := id I.loc
  obtain ⟨sl, hL⟩ := u.any ho I.free (by simp)
  exact I.step (g' := s.gens) (d' := s.drawn) (ch := []) (fun _ z => nomatch z) (fun b o _ hb _ e n => u.keep b o e n hb (by simp)) (fun b o _ hb _ e n => u.slot b o e n hb (by simp)) (fun b o _ e n => u.free b o e n (by simp)) (fun b o _ e => u.there b o e (by simp)) u.tups u.frzs u.tbls (fun m' hm => by
    obtain ⟨o', es', ep', ho', r'⟩ := hm
    rw [ho] at ho'; cases ho'
    exact ⟨_, es', ep', hL, r'⟩) hok I.bare
/-- behind a call (or a comprehension's block): the slots of this frame may have changed too, the records at ch may have turned -/
theorem Inv.call {g' : Array GenState} {t' : Nat} {d' : Drawn} {ch : List Addr} (I : Inv X pins σ H s) (u : Un (frs X.stack) ch H H' s.heap h') (hok : HOk X.prog X.w H' h') (hg : AllBare g')
    (hch : ∀ b ∈ ch, (b ∈ X.ex ∨ X.s₀.heap.objs.size ≤ b) ∧ b ≠ X.env.locals ∧ (∀ x c, X.env.cells.lookup x = some c → c ≠ b) ∧ ∀ p ∈ X.pn ++ pins, p.1 ≠ b) :
    Inv X pins σ H' { s with heap := h', gens := g', drawn := d', toks := t' } := by
  obtain ⟨m, ⟨o, es, ep, ho, r⟩, _⟩ := id I.loc
  obtain ⟨sl, hL⟩ := u.any ho I.free fun z => (hch _ z).2.1 rfl
  exact I.step (ch := ch) hch (fun b o hL hb hc e n => u.keep b o e n (fun z => (List.mem_cons.mp (I.stkSub b z)).elim hL hb) hc) (fun b o _ _ hc e n => u.any e n hc) (fun b o hc e n => u.free b o e n hc) (fun b o hc e => u.there b o e hc) u.tups u.frzs u.tbls (fun m' hm => by
    obtain ⟨o', es', ep', ho', r'⟩ := hm
    rw [ho] at ho'; cases ho'
    exact ⟨_, es', ep', hL, r'⟩) hok hg
/-- an untracked record of ours (an iterator) has turned -/
theorem Inv.turned {t' : Nat} {it : Addr} (I : Inv X pins σ H s) (k : ∀ b o, b ≠ it → s.heap.get? b = some o → h'.get? b = some o) (hn : H it = none) (hL : it ≠ X.env.locals)
    (h1 : it ∈ X.ex ∨ X.s₀.heap.objs.size ≤ it) (h2 : ∀ x c, X.env.cells.lookup x = some c → c ≠ it) (h3 : ∀ p ∈ X.pn ++ pins, p.1 ≠ it) : Inv X pins σ H { s with heap := h', toks := t' } := by
  have nit : ∀ b u, H b = some u → b ≠ it := fun b u e z => by rw [z, hn] at e; cases e
  refine I.step (g' := s.gens) (d' := s.drawn) (ch := [it]) (fun b hb => ?_) (fun b o _ _ hc e _ => k b o (fun z => hc (by simp [z])) e) (fun b o _ _ hc e _ => ⟨o.slots, k b o (fun z => hc (by simp [z])) e⟩) (fun _ _ _ _ n => n)
    (fun b o hc e => ⟨o, k b o (fun z => hc (by simp [z])) e⟩) (fun _ _ e => e) (fun _ _ _ e => e) (fun b ps e => ⟨#[], by rw [e]; simp⟩) (fun m hm => ?_) (fun b u e => ?_) I.bare
  · have e : b = it := by simpa using hb
    subst e
    exact ⟨h1, hL, h2, h3⟩
  · obtain ⟨o, es, ep, ho, r⟩ := hm
    exact ⟨o, es, ep, k _ o (Ne.symm hL) ho, r⟩
  · refine (I.hok b u e).stay (fun c v hc q => k c v ?_ q) (fun _ q => q) fun _ _ q => q
    rcases hc with z | z
    · rw [z]; exact nit b u e
    · exact nit c _ z
theorem Inv.tok (I : Inv X pins σ H s) (t : Nat) : Inv X pins σ H { s with toks := t } := I.un (h' := s.heap) (t' := t) Un.refl I.hok
/-- all objects kept -/
theorem Inv.kept {t' : Nat} (I : Inv X pins σ H s) (k : ∀ b u, s.heap.get? b = some u → h'.get? b = some u) : Inv X pins σ H { s with heap := h', toks := t' } := I.un (Un.kept k) (I.hok.kept k)
/-- a new object laid and tracked -/
theorem Inv.laid {a : Addr} {o : HO} {t' : Nat} (I : Inv X pins σ H s) (k : ∀ b u, s.heap.get? b = some u → h'.get? b = some u) (hp : s.heap.objs.size ≤ a) (new : ObjOk X.prog X.w (upd H a o) h' a o) :
    Inv X pins σ (upd H a o) { s with heap := h', toks := t' } := I.un (Un.laid k hp (I.hok.fresh hp)) (I.hok.laid k hp new)
/-- an object written -/
theorem Inv.write {x e : Addr} {o : HO} {t' : Nat} (I : Inv X pins σ H s) (mu : Mut (H x)) (he : e = x ∨ H e = some (.own x)) (k : ∀ b u, b ≠ e → s.heap.get? b = some u → h'.get? b = some u) (heo : ∃ u, h'.get? e = some u)
    (new : ObjOk X.prog X.w (upd H x o) h' x o) : Inv X pins σ (upd H x o) { s with heap := h', toks := t' } := I.un (Un.write mu he k heo) (I.hok.write mu he k heo new)
/-- forgetting slots, pins -/
theorem Inv.weak {σ' : List (Option V)} (I : Inv X pins σ H s) (hl : σ'.length = σ.length) (w : ∀ (i : Nat) v, σ'[i]? = some (some v) → σ[i]? = some (some v)) : Inv X pins σ' H s :=
  ⟨I.ok, I.os, I.bare, I.base, let ⟨m, hn, hl'⟩ := I.loc; ⟨m, hn, fun i x v e1 e2 e3 => hl' i x v e1 (w i v e2) e3⟩, I.cell, I.free, I.freeC, I.pin, I.hok, hl.trans I.len⟩
theorem Inv.pins_of {pins' : List (Addr × Obj)} (I : Inv X pins σ H s) (h : ∀ p ∈ pins', s.heap.get? p.1 = some p.2 ∧ H p.1 = none ∧ p.1 ≠ X.env.locals ∧ p.1 ∉ X.fs ∧ ∀ v, p.2.data ≠ .cell v) : Inv X pins' σ H s :=
  ⟨I.ok, I.os, I.bare, I.base, I.loc, I.cell, I.free, I.freeC, fun p hp => (List.mem_append.mp hp).elim (fun z => I.pin p (List.mem_append_left _ z)) (h p), I.hok, I.len⟩

theorem nodup_ix {N : List Str} (hN : N.Nodup) {i j : Nat} {x : Str} (a : N[i]? = some x) (b : N[j]? = some x) : i = j := by
  obtain ⟨h1, e1⟩ := List.getElem?_eq_some_iff.mp a
  obtain ⟨h2, e2⟩ := List.getElem?_eq_some_iff.mp b
  exact (List.getElem_inj hN).mp (e1.trans e2.symm)

/-- a name is stored; what changed -/
theorem store_ok2 {M : Model} {A : Around} {E : Value → Shared → Prop} {i : Nat} {x : Str} {v : V} {u : Value} {Q : Unit → Shared → Prop} (I : Inv X pins σ H s) (hN : X.N.Nodup) (hi : X.N[i]? = some x) (hx : Loc X.env.scope x) (r : RelV v u)
    (h : ∀ s', Inv X pins (σ.set i (some v)) H s' → (∃ a, Heap.SameBut a s.heap s'.heap ∧ (a = X.env.locals ∨ X.env.cells.lookup x = some a)) → Q () s') (hf : X.fn x = true ∨ X.env.scope.names.lookup x = some .local := by first | exact .inl rfl | exact .inr rfl | assumption) : wpAny M A (storeName X.env x u) Q E s := by
  obtain ⟨m, hn, hl⟩ := id I.loc
  have hcls : (X.env.scope.kind == .class || (X.env.scope.kind == .module && X.env.locals != X.env.globals)) = false := by rw [I.ok.kind]; rfl
  have hiσ : i < σ.length := by rw [I.len]; exact (List.getElem?_eq_some_iff.mp hi).1
  have cne := I.cne
  have tracked : ∀ {a : Addr} {h' : Heap}, (∃ o, s.heap.get? a = some o ∧ H a = none) → Heap.SameBut a s.heap h' → HOk X.prog X.w H h' := fun {a h'} ha hs b ob e => by
    obtain ⟨_, _, hfree⟩ := ha
    refine (I.hok b ob e).stay (fun c w' hc q => (hs.2 c ?_).trans q) (fun _ q => q) fun _ _ q => q
    rintro rfl
    rcases hc with rfl | hc
    · rw [hfree] at e; cases e
    · rw [hfree] at hc; cases hc
  rcases hx with hk | hk
  · refine wpAny_storeName_local hk hn (fun h' hn' hs => ?_) hcls
    obtain ⟨oL, _, _, hoL, _⟩ := id hn
    refine h _ ⟨I.ok, I.os, I.bare, ⟨fun b o e n hb hx => ?_, fun b o e n hb hx => ?_, I.base.free, fun b o e hx => ?_, I.base.tups, I.base.frzs, I.base.tbls⟩, ⟨_, hn', fun j y v' e1 e2 e3 => ?_⟩, fun y c e => ?_, I.free, I.freeC, fun p hp => ?_, tracked ⟨oL, hoL, I.free⟩ hs, by simpa using I.len⟩ ⟨_, hs, .inl rfl⟩
    · exact (hs.2 b (Nat.ne_of_lt (Nat.lt_of_lt_of_le (Heap.lt_size e) I.ok.above))).trans (I.base.keep b o e n hb hx)
    · obtain ⟨sl, e1⟩ := I.base.slot b o e n hb hx
      exact ⟨sl, (hs.2 b (Nat.ne_of_lt (Nat.lt_of_lt_of_le (Heap.lt_size e) I.ok.above))).trans e1⟩
    · obtain ⟨o', e1⟩ := I.base.there b o e hx
      exact ⟨o', (hs.2 b (Nat.ne_of_lt (Nat.lt_of_lt_of_le (Heap.lt_size e) I.ok.above))).trans e1⟩
    · by_cases hj : j = i
      · subst hj
        rw [hi] at e1; cases e1
        rw [List.getElem?_set_self hiσ] at e2
        cases e2
        exact ⟨u, r, .inl ⟨hk, by simp⟩⟩
      · rw [List.getElem?_set_ne (Ne.symm hj)] at e2
        obtain ⟨u', r', q⟩ := hl j y v' e1 e2 e3
        refine ⟨u', r', ?_⟩
        rcases q with ⟨k, e⟩ | ⟨k, c, e, z⟩
        · refine .inl ⟨k, ?_⟩
          have : y ≠ x := fun e => hj (nodup_ix hN e1 (e ▸ hi))
          simp [this, e]
        · exact .inr ⟨k, c, e, z.sameBut hs (cne y c e)⟩
    · obtain ⟨w', z⟩ := I.cell y c e
      exact ⟨w', z.sameBut hs (cne y c e)⟩
    · obtain ⟨e, n, ne, nf, d⟩ := I.pin p hp
      exact ⟨(hs.2 p.1 ne).trans e, n, ne, nf, d⟩
  · have hfn : X.fn x = true := by
      rcases hf with z | z
      · exact z
      · rw [z] at hk; cases hk
    obtain ⟨c, hc⟩ := I.ok.has x (.inl hk)
    obtain ⟨w', z⟩ := I.cell x c hc
    refine wpAny_storeName_cell I.ok.kind hk hc z (fun h' hc' hs => ?_)
    obtain ⟨oc, hoc, hocd⟩ := id z
    refine h { s with heap := h' } ⟨I.ok, I.os, I.bare, ⟨fun b o e n hb hx => ?_, fun b o e n hb hx => ?_, I.base.free, fun b o e hx => ?_, I.base.tups, I.base.frzs, I.base.tbls⟩, ⟨m, hn.sameBut hs (Ne.symm (cne x c hc)), fun j y v' e1 e2 e3 => ?_⟩, fun y c' e => ?_, I.free, I.freeC, fun p hp => ?_, tracked ⟨oc, hoc, I.freeC x c hc⟩ hs, by simpa using I.len⟩ ⟨c, hs, .inr hc⟩
    · exact (hs.2 b (Nat.ne_of_lt (Nat.lt_of_lt_of_le (Heap.lt_size e) (I.ok.cab x c hfn hc)))).trans (I.base.keep b o e n hb hx)
    · obtain ⟨sl, e1⟩ := I.base.slot b o e n hb hx
      exact ⟨sl, (hs.2 b (Nat.ne_of_lt (Nat.lt_of_lt_of_le (Heap.lt_size e) (I.ok.cab x c hfn hc)))).trans e1⟩
    · obtain ⟨o', e1⟩ := I.base.there b o e hx
      exact ⟨o', (hs.2 b (Nat.ne_of_lt (Nat.lt_of_lt_of_le (Heap.lt_size e) (I.ok.cab x c hfn hc)))).trans e1⟩
    · by_cases hj : j = i
      · subst hj
        rw [hi] at e1; cases e1
        rw [List.getElem?_set_self hiσ] at e2
        cases e2
        exact ⟨u, r, .inr ⟨.inl hk, c, hc, hc'⟩⟩
      · rw [List.getElem?_set_ne (Ne.symm hj)] at e2
        obtain ⟨u', r', q⟩ := hl j y v' e1 e2 e3
        refine ⟨u', r', ?_⟩
        rcases q with q | ⟨k, c', e, z'⟩
        · exact .inl q
        · refine .inr ⟨k, c', e, z'.sameBut hs ?_⟩
          rintro rfl
          exact hj (nodup_ix hN e1 (I.ok.inj _ _ _ e hc ▸ hi))
    · by_cases hcc : c' = c
      · subst hcc; exact ⟨_, hc'⟩
      · obtain ⟨w2, z2⟩ := I.cell y c' e
        exact ⟨w2, z2.sameBut hs hcc⟩
    · obtain ⟨e, n, ne, nf, d⟩ := I.pin p hp
      refine ⟨(hs.2 p.1 ?_).trans e, n, ne, nf, d⟩
      intro q
      rw [q, hoc] at e
      have q' : oc = p.2 := Option.some.inj e
      exact d w' (by rw [← q']; exact hocd)
theorem store_ok {M : Model} {A : Around} {E : Value → Shared → Prop} {i : Nat} {x : Str} {v : V} {u : Value} {Q : Unit → Shared → Prop} (I : Inv X pins σ H s) (hN : X.N.Nodup) (hi : X.N[i]? = some x) (hx : Loc X.env.scope x) (r : RelV v u)
    (h : ∀ s', Inv X pins (σ.set i (some v)) H s' → Q () s') (hf : X.fn x = true ∨ X.env.scope.names.lookup x = some .local := by first | exact .inl rfl | exact .inr rfl | assumption) : wpAny M A (storeName X.env x u) Q E s :=
  store_ok2 I hN hi hx r (fun s' I' _ => h s' I') hf
/-- behind a call or a block, the state as it is -/
theorem Inv.call' {s' : Shared} {ch : List Addr} (I : Inv X pins σ H s) (ho : s'.os = s.os) (u : Un (frs X.stack) ch H H' s.heap s'.heap) (hok : HOk X.prog X.w H' s'.heap) (hg : AllBare s'.gens)
    (hch : ∀ b ∈ ch, (b ∈ X.ex ∨ X.s₀.heap.objs.size ≤ b) ∧ b ≠ X.env.locals ∧ (∀ x c, X.env.cells.lookup x = some c → c ≠ b) ∧ ∀ p ∈ X.pn ++ pins, p.1 ≠ b) : Inv X pins σ H' s' := by
  obtain ⟨h', g', d', t', o'⟩ := s'
  have e : o' = s.os := ho
  subst e
  exact I.call (g' := g') (t' := t') (d' := d') u hok hg hch
end


/-- an exception: its class, its own dict's address (where it has one), the abstract heap behind it -/
abbrev XK := Value → Option Addr → Hp → Prop
abbrev St := List (Option V)
abbrev VK := V → Hp → Prop
/-- an expression's reading; a test's; an argument list's -/
abbrev TE := St → Hp → VK → Prop
abbrev TT := St → Hp → (Bool → Hp → Prop) → Prop
abbrev TA := St → Hp → (List V → Hp → Prop) → Prop
/-- what is wanted behind a statement -/
structure Ends where
  nx : St → Hp → Prop
  rt : VK
  bk : St → Hp → Prop := fun _ _ => False
  ct : St → Hp → Prop := fun _ _ => False
abbrev TS := Ends → St → Hp → Prop

def EP (X : Cx) (pins : List (Addr × Obj)) (σ : St) (Q : VK) (u : Value) (s' : Shared) : Prop := ∃ v H', Inv X pins σ H' s' ∧ RelV v u ∧ Q v H'
def TP (X : Cx) (pins : List (Addr × Obj)) (σ : St) (Q : Bool → Hp → Prop) (b : Bool) (s' : Shared) : Prop := ∃ H', Inv X pins σ H' s' ∧ Q b H'
def AP (X : Cx) (pins : List (Addr × Obj)) (σ : St) (Q : List V → Hp → Prop) (us : List Value) (s' : Shared) : Prop := ∃ vs H', Inv X pins σ H' s' ∧ Vals vs us ∧ Q vs H'
def SP (X : Cx) (pins : List (Addr × Obj)) (D : Ends) (f : Flow) (s' : Shared) : Prop :=
  match f with
  | .next => ∃ σ' H', Inv X pins σ' H' s' ∧ D.nx σ' H'
  | .brk => ∃ σ' H', Inv X pins σ' H' s' ∧ D.bk σ' H'
  | .cont => ∃ σ' H', Inv X pins σ' H' s' ∧ D.ct σ' H'
  | .ret u => ∃ v σ' H', Inv X pins σ' H' s' ∧ RelV v u ∧ D.rt v H'

def PE (X : Cx) (e : Expr) (t : TE) : Prop :=
  ∀ (pins : List (Addr × Obj)) (s : Shared) (σ : St) (H : Hp) (Q : VK), Inv X pins σ H s → t σ H Q → wpAny (model X.prog X.w) X.A (eval e X.env) (EP X pins σ Q) X.xe s
def PT (X : Cx) (e : Expr) (t : TT) : Prop :=
  ∀ (pins : List (Addr × Obj)) (s : Shared) (σ : St) (H : Hp) (Q : Bool → Hp → Prop), Inv X pins σ H s → t σ H Q → wpAny (model X.prog X.w) X.A (isTrue e X.env (eval e X.env)) (TP X pins σ Q) X.xe s
/-- a test whatever its 'whole' is (and, or) -/
def PW (X : Cx) (e : Expr) (t : TT) : Prop :=
  ∀ (whole : Sem Value) (pins : List (Addr × Obj)) (s : Shared) (σ : St) (H : Hp) (Q : Bool → Hp → Prop), Inv X pins σ H s → t σ H Q → wpAny (model X.prog X.w) X.A (isTrue e X.env whole) (TP X pins σ Q) X.xe s
theorem PW.pt {X : Cx} {e : Expr} {t : TT} (h : PW X e t) : PT X e t := h _
/-- an argument list (no star), from the left -/
def PA (X : Cx) (es : List Expr) (t : TA) : Prop :=
  ∀ (pos : Pos) (pins : List (Addr × Obj)) (s : Shared) (σ : St) (H : Hp) (Q : List V → Hp → Prop), Inv X pins σ H s → t σ H Q → wpAny (model X.prog X.w) X.A (spliced (backTo pos (starEach es X.env))) (AP X pins σ Q) X.xe s
def PS (X : Cx) (st : Stmt) (t : TS) : Prop :=
  ∀ (pins : List (Addr × Obj)) (s : Shared) (σ : St) (H : Hp) (D : Ends), Inv X pins σ H s → t D σ H → wpAny (model X.prog X.w) X.A (exec st X.env) (SP X pins D) X.xe s
def PSs (X : Cx) (st : List Stmt) (t : TS) : Prop :=
  ∀ (pins : List (Addr × Obj)) (s : Shared) (σ : St) (H : Hp) (D : Ends), Inv X pins σ H s → t D σ H → wpAny (model X.prog X.w) X.A (execs st X.env) (SP X pins D) X.xe s
/-- weaken the end -/
theorem thn {α : Type} {t : Sem α} {Q Q' : α → Shared → Prop} {M : Model} {A : Around} {E : Value → Shared → Prop} {s : Shared} (h : wpAny M A t Q E s) (hQ : ∀ a s, Q a s → Q' a s) : wpAny M A t Q' E s := wpAny_mono h hQ fun _ _ x => x
end L2

namespace L2
open PySem PySem.Spec PyProof.Rows
section
variable {X : Cx}

def tVar (i : Nat) : TE := fun σ H Q => ∃ v, σ[i]? = some (some v) ∧ Q v H
def tC (v : V) : TE := fun _ H Q => Q v H
theorem pe_var {i : Nat} {x : Str} {pos : Pos} (hN : X.N[i]? = some x) (hv : Vis X.env.scope x) (hd : (x == ("__debug__" : Str)) = false := by decide) (hcd : (x == ("__classdict__" : Str)) = false := by decide) : PE X (.Name x pos) (tVar i) := by
  intro pins s σ H Q I h
  obtain ⟨v, e, h⟩ := h
  obtain ⟨m, hn, hl⟩ := I.loc
  obtain ⟨u, r, l⟩ := hl i x v hN e hv
  have fin : EP X pins σ Q u s := ⟨v, H, I, r, h⟩
  rcases l with ⟨hk, hm⟩ | ⟨hk, c, hc, hcell⟩
  · exact wpAny_Name (wpAny_loadName_local I.ok.kind hk hn hm fin) hd
  · rcases hk with hk | hk
    · exact wpAny_Name (wpAny_loadName_cell I.ok.kind hk hc hcell fin) hd
    · exact wpAny_Name (wpAny_loadName_free I.ok.kind hk hc hcell fin hcd) hd
theorem pe_int {i j pos} : PE X (.Constant (.int i) j pos) (tC (.int i)) := fun _ _ _ H _ I h => wpAny_Constant_int ⟨.int i, H, I.tok _, ⟨_, rfl⟩, h⟩
theorem pe_bl {b j pos} : PE X (.Constant (.bool b) j pos) (tC (.bl b)) := fun _ _ _ H _ I h => Constant_bool ⟨.bl b, H, I, rfl, h⟩
/-- a global name of the def -/
def Gl (X : Cx) (x : Str) : Prop := X.env.kindOf x = some .globalImplicit
theorem ld_glob {E : Value → Shared → Prop} {pins : List (Addr × Obj)} {s : Shared} {σ : St} {H : Hp} {x : Str} {u : Value} {pos : Pos} {Q : Value → Shared → Prop} (I : Inv X pins σ H s) (hg : Gl X x) (hm : X.mg x = some u) (h : Q u s)
    (hd : (x == ("__debug__" : Str)) = false := by decide) : wpAny (model X.prog X.w) X.A (eval (.Name x pos) X.env) Q E s :=
  Calls.Name_function_global I.ok.kind hg (Calls.loadGlobal_global (by rw [I.ok.glob]; exact I.mod.glob.keeps I.bk) hm h) hd
theorem ld_blt {E : Value → Shared → Prop} {pins : List (Addr × Obj)} {s : Shared} {σ : St} {H : Hp} {x : Str} {u : Value} {pos : Pos} {Q : Value → Shared → Prop} (I : Inv X pins σ H s) (hg : Gl X x) (hm : X.mg x = none) (hv : bootBuiltins x = some u) (h : Q u s)
    (hn : x ≠ "__name__" := by decide) (hd : (x == ("__debug__" : Str)) = false := by decide) : wpAny (model X.prog X.w) X.A (eval (.Name x pos) X.env) Q E s := by
  obtain ⟨mb, h1, h2⟩ := I.mod.blt
  exact Calls.Name_function_global I.ok.kind hg (Calls.loadGlobal_builtin (by rw [I.ok.glob]; exact I.mod.glob.keeps I.bk) hm (by rw [I.ok.blt]; exact h1.keeps I.bk) ((h2 x hn).trans hv) h) hd
/-- a module's constant, a class, a function, as a value -/
theorem pe_glob {x : Str} {v : V} {u : Value} {pos : Pos} (hg : Gl X x) (hm : X.mg x = some u) (r : RelV v u) (hd : (x == ("__debug__" : Str)) = false := by decide) : PE X (.Name x pos) (tC v) :=
  fun _ _ _ H _ I h => ld_glob I hg hm ⟨v, H, I, r, h⟩ hd
theorem pe_bltn {x : Str} {v : V} {u : Value} {pos : Pos} (hg : Gl X x) (hm : X.mg x = none) (hv : bootBuiltins x = some u) (r : RelV v u) (hn : x ≠ "__name__" := by decide) (hd : (x == ("__debug__" : Str)) = false := by decide) : PE X (.Name x pos) (tC v) :=
  fun _ _ _ H _ I h => ld_blt I hg hm hv ⟨v, H, I, r, h⟩ hn hd


/-- two ints -/
def t2I (ta tb : TE) (k : Int → Int → Hp → Prop) : St → Hp → Prop := fun σ H => ta σ H fun x H1 => tb σ H1 fun y H2 => ∃ i j, x = .int i ∧ y = .int j ∧ k i j H2
def tAdd (ta tb : TE) : TE := fun σ H Q => t2I ta tb (fun i j H2 => Q (.int (i + j)) H2) σ H
def tSub (ta tb : TE) : TE := fun σ H Q => t2I ta tb (fun i j H2 => Q (.int (i - j)) H2) σ H
/-- the left factor below 2^64 -/
def tMul (ta tb : TE) : TE := fun σ H Q => t2I ta tb (fun i j H2 => (-(2 ^ 64) < i ∧ i < 2 ^ 64) ∧ Q (.int (i * j)) H2) σ H
variable {a b : Expr} {ta tb : TE} {pos : Pos}
def PC (X : Cx) (op : CmpOp) (a b : Expr) (t : TE) : Prop :=
  ∀ (pins : List (Addr × Obj)) (s : Shared) (σ : St) (H : Hp) (Q : VK), Inv X pins σ H s → t σ H Q →
    wpAny (model X.prog X.w) X.A (eval a X.env) (fun v s₁ => wpAny (model X.prog X.w) X.A (eval b X.env) (fun u s₂ => wpAny (model X.prog X.w) X.A (compareOp op v u) (EP X pins σ Q) X.xe s₂) X.xe s₁) X.xe s
def tCmp (p : Int → Int → Bool) (ta tb : TE) : TE := fun σ H Q => t2I ta tb (fun i j H2 => Q (.bl (p i j)) H2) σ H
abbrev tLt : TE → TE → TE := tCmp fun i j => decide (i < j)
abbrev tLe : TE → TE → TE := tCmp fun i j => decide (i ≤ j)
abbrev tGt : TE → TE → TE := tCmp fun i j => decide (j < i)
abbrev tGe : TE → TE → TE := tCmp fun i j => decide (j ≤ i)
abbrev tEqI : TE → TE → TE := tCmp fun i j => decide (i = j)
abbrev tNeI : TE → TE → TE := tCmp fun i j => !decide (i = j)
/-- is None -/
def tIsN (ta : TE) : TE := fun σ H Q => ta σ H fun x H1 => Q (.bl (decide (x = .non))) H1
def tNotN (ta : TE) : TE := fun σ H Q => ta σ H fun x H1 => Q (.bl (!decide (x = .non))) H1
/-- a comparison as a value, as a test -/
def tB (t : TE) : TT := fun σ H Q => t σ H fun x H1 => ∃ c, x = .bl c ∧ Q c H1
variable {tA tB' : TT} {rest : List Expr}
def tAnd (t u : TT) : TT := fun σ H Q => t σ H fun c H1 => if c = true then u σ H1 Q else Q false H1
def tOr (t u : TT) : TT := fun σ H Q => t σ H fun c H1 => if c = true then Q true H1 else u σ H1 Q
def tNot (t : TT) : TT := fun σ H Q => t σ H fun c H1 => Q (!c) H1
theorem pw_or1 (ha : PT X a tA) : PW X (.BoolOp .Or [a] pos) tA := by
  intro wh pins s σ H Q I h
  refine isTrue_or (thn (ha pins s σ H Q I h) fun c s1 e => ?_)
  cases c with
  | false => exact isTrue_or_nil e
  | true => exact e
theorem pw_or (ha : PT X a tA) (hb : PW X (.BoolOp .Or (b :: rest) pos) tB') : PW X (.BoolOp .Or (a :: b :: rest) pos) (tOr tA tB') := by
  intro wh pins s σ H Q I h
  refine isTrue_or (thn (ha pins s σ H _ I h) fun c s1 ⟨H1, I1, q1⟩ => ?_)
  cases c with
  | true => exact ⟨H1, I1, q1⟩
  | false => exact hb wh pins s1 σ H1 Q I1 q1
theorem pt_not (ha : PT X a tA) : PT X (.UnaryOp .Not a pos) (tNot tA) := by
  intro pins s σ H Q I h
  exact isTrue_not (ha pins s σ H (fun c H1 => Q (!c) H1) I h)
/-- .. as values (bools) -/
def tAndV (ta tb : TE) : TE := fun σ H Q => ta σ H fun x H1 => ∃ c, x = .bl c ∧ if c = true then tb σ H1 Q else Q (.bl false) H1
def tOrV (ta tb : TE) : TE := fun σ H Q => ta σ H fun x H1 => ∃ c, x = .bl c ∧ if c = true then Q (.bl true) H1 else tb σ H1 Q
def tNotV (ta : TE) : TE := fun σ H Q => ta σ H fun x H1 => ∃ c, x = .bl c ∧ Q (.bl (!c)) H1
theorem pe_one {op} {t : TE} (h : PE X a t) : PE X (.BoolOp op [a] pos) t := fun pins s σ H Q I hw => BoolOp_one (h pins s σ H Q I hw)
theorem pe_and (ha : PE X a ta) (hb : PE X (.BoolOp .And (b :: rest) pos) tb) : PE X (.BoolOp .And (a :: b :: rest) pos) (tAndV ta tb) := by
  intro pins s σ H Q I h
  refine BoolOp_and (thn (ha pins s σ H _ I h) fun v s1 ⟨x, H1, I1, r1, q1⟩ => ?_)
  obtain ⟨c, rfl, q1⟩ := q1
  cases r1
  refine wpAny_truthy_bool ?_
  cases c with
  | true => exact hb pins s1 σ H1 Q I1 q1
  | false => exact ⟨.bl false, H1, I1, rfl, q1⟩
theorem pe_not (ha : PE X a ta) : PE X (.UnaryOp .Not a pos) (tNotV ta) := by
  intro pins s σ H Q I h
  refine UnaryOp_ (thn (ha pins s σ H _ I h) fun v s1 ⟨x, H1, I1, r1, q1⟩ => ?_)
  obtain ⟨c, rfl, q1⟩ := q1
  cases r1
  exact not_of (wpAny_truthy_bool ⟨.bl (!c), H1, I1, rfl, q1⟩)
/-- a if t else b -/
def tIf (t : TT) (ta tb : TE) : TE := fun σ H Q => t σ H fun c H1 => if c = true then ta σ H1 Q else tb σ H1 Q
theorem pe_ifExp {c : Expr} (hc : PT X c tA) (ha : PE X a ta) (hb : PE X b tb) : PE X (.IfExp c a b pos) (tIf tA ta tb) := by
  intro pins s σ H Q I h
  refine wpAny_IfExp (thn (hc pins s σ H _ I h) fun d s1 ⟨H1, I1, q1⟩ => ?_)
  cases d with
  | true => exact ha pins s1 σ H1 Q I1 q1
  | false => exact hb pins s1 σ H1 Q I1 q1
end
end L2

namespace L2
open PySem PySem.Spec PyProof.Rows


def SqL (K : PySem.W.Frag) (H : Hp) (a : Addr) (xs : List V) : Prop :=
  Rd H a (.lst xs) ∨
    ∃ (o : Obj) (its : Array Value) (n : Nat), K.lookup a = some o ∧ o.cls = .type "list" ∧ o.dict = none ∧ o.data = .seq its n ∧ its.size ≤ sizeLine ∧ Vals xs its.toList
def SqT (K : PySem.W.Frag) (H : Hp) (a : Addr) (xs : List V) : Prop :=
  Rd H a (.tup xs) ∨
    ∃ (o : Obj) (its : Array Value) (n : Nat), K.lookup a = some o ∧ o.cls = .type "tuple" ∧ o.data = .seq its n ∧ its.size ≤ sizeLine ∧ Vals xs its.toList
def absV : Value → Option V
  | .none => some .non
  | .bool b => some (.bl b)
  | .int i _ => some (.int i)
  | .str x _ => some (.str x)
  | .bytes b _ => some (.byt b)
  | .float b _ => some (.flt b)
  | .ref a => some (.ref a)
  | .type n => some (.ty n)
  | _ => none
theorem RelV.abs {x : V} {u : Value} (r : RelV x u) : absV u = some x := by
  cases x with
  | non => cases r; rfl
  | bl _ => cases r; rfl
  | int _ => obtain ⟨t, rfl⟩ := r; rfl
  | str _ => obtain ⟨t, rfl⟩ := r; rfl
  | byt _ => obtain ⟨t, rfl⟩ := r; rfl
  | flt _ => obtain ⟨t, rfl⟩ := r; rfl
  | ref _ => cases r; rfl
  | ty _ => cases r; rfl
theorem RelV.inj {x y : V} {u : Value} (r : RelV x u) (q : RelV y u) : x = y := Option.some.inj (r.abs.symm.trans q.abs)
theorem Vals.inj : ∀ {xs ys : List V} {us : List Value}, Vals xs us → Vals ys us → xs = ys
  | _, _, _, .nil, .nil => rfl
  | _, _, _, .cons r t, .cons r' t' => by rw [r.inj r', Vals.inj t t']
section
variable {X : Cx} {pins : List (Addr × Obj)} {σ : St} {H : Hp} {s : Shared} {a : Addr} {xs ys : List V}
theorem SqL.of {K : PySem.W.Frag} (h : H a = some (.lst xs)) : SqL K H a xs := .inl (.inl h)
theorem SqT.of {K : PySem.W.Frag} (h : H a = some (.tup xs)) : SqT K H a xs := .inl (.inl h)
theorem Inv.list (I : Inv X pins σ H s) (h : SqL X.K H a xs) : ∃ its : List Value, Vals xs its ∧ PlainL s.heap a its.toArray ∧ xs.length ≤ sizeLine := by
  rcases h with h | ⟨o, its, n, hk, hc, hd, hs, hz, r⟩
  · obtain ⟨z, its, n, r, e⟩ := h.ok I.hok
    exact ⟨its, r, ⟨_, n, e, rfl, rfl, rfl⟩, z⟩
  · refine ⟨its.toList, r, ⟨o, n, I.kIn a o hk, hc, hd, by simpa using hs⟩, ?_⟩
    have e := r.length
    simp only [Array.length_toList] at e
    omega
theorem Inv.tuple (I : Inv X pins σ H s) (h : SqT X.K H a xs) : ∃ its : List Value, Vals xs its ∧ IsTup s.heap a its.toArray ∧ xs.length ≤ sizeLine := by
  rcases h with h | ⟨o, its, n, hk, hc, hs, hz, r⟩
  · obtain ⟨z, its, r, p⟩ := h.ok I.hok
    exact ⟨its, r, p, z⟩
  · refine ⟨its.toList, r, ⟨o, I.kIn a o hk, hc, n, by simpa using hs⟩, ?_⟩
    have e := r.length
    simp only [Array.length_toList] at e
    omega
theorem Inv.list_inj (I : Inv X pins σ H s) (h : SqL X.K H a xs) (h' : SqL X.K H a ys) : xs = ys := by
  obtain ⟨its, r, ⟨o, n, e, _, _, d⟩, _⟩ := I.list h
  obtain ⟨its', r', ⟨o', n', e', _, _, d'⟩, _⟩ := I.list h'
  rw [e] at e'; cases e'
  rw [d] at d'
  injection d' with d1 _
  have : its = its' := by simpa using congrArg Array.toList d1
  subst this
  exact r.inj r'
theorem Inv.tuple_inj (I : Inv X pins σ H s) (h : SqT X.K H a xs) (h' : SqT X.K H a ys) : xs = ys := by
  obtain ⟨its, r, ⟨o, e, _, n, d⟩, _⟩ := I.tuple h
  obtain ⟨its', r', ⟨o', e', _, n', d'⟩, _⟩ := I.tuple h'
  rw [e] at e'; cases e'
  rw [d] at d'
  injection d' with d1 _
  have : its = its' := by simpa using congrArg Array.toList d1
  subst this
  exact r.inj r'
end


abbrev Cx.wish (X : Cx) (E : Value → Shared → Prop) : Cx := { X with xe := E }
/-- no exception leaves -/
abbrev Cx.nox (X : Cx) : Cx := X.wish fun _ _ => False
theorem Cx.Ok.wish {X : Cx} (ok : X.Ok) (E : Value → Shared → Prop) : (X.wish E).Ok :=
  ⟨ok.mod, ok.kind, ok.glob, ok.blt, ok.above, ok.inj, ok.has, ok.cab, ok.hd, ok.frames, ok.stk, ok.exf, ok.bs, ok.bsz, ok.noex, ok.exfs, ok.funs, ok.frf⟩
theorem Cx.Ok.unwish {X : Cx} {E : Value → Shared → Prop} (ok : (X.wish E).Ok) : X.Ok :=
  ⟨ok.mod, ok.kind, ok.glob, ok.blt, ok.above, ok.inj, ok.has, ok.cab, ok.hd, ok.frames, ok.stk, ok.exf, ok.bs, ok.bsz, ok.noex, ok.exfs, ok.funs, ok.frf⟩
section
variable {X : Cx} {pins : List (Addr × Obj)} {σ : St} {H : Hp} {s : Shared} {E : Value → Shared → Prop}
theorem Inv.wish (I : Inv X pins σ H s) (E : Value → Shared → Prop) : Inv (X.wish E) pins σ H s := ⟨I.ok.wish E, I.os, I.bare, I.base, I.loc, I.cell, I.free, I.freeC, I.pin, I.hok, I.len⟩
theorem Inv.unwish (I : Inv (X.wish E) pins σ H s) : Inv X pins σ H s := ⟨I.ok.unwish, I.os, I.bare, I.base, I.loc, I.cell, I.free, I.freeC, I.pin, I.hok, I.len⟩
theorem SP.unwish {D : Ends} {f : Flow} {s' : Shared} (h : SP (X.wish E) pins D f s') : SP X pins D f s' := by
  cases f with
  | next => obtain ⟨σ', H', I, q⟩ := h; exact ⟨σ', H', I.unwish, q⟩
  | brk => obtain ⟨σ', H', I, q⟩ := h; exact ⟨σ', H', I.unwish, q⟩
  | cont => obtain ⟨σ', H', I, q⟩ := h; exact ⟨σ', H', I.unwish, q⟩
  | ret u => obtain ⟨v, σ', H', I, r, q⟩ := h; exact ⟨v, σ', H', I.unwish, r, q⟩
theorem PE.nox {e : Expr} {t : TE} (h : PE X.nox e t) : PE X e t := fun pins s σ H Q I hw =>
  wpAny_mono (h pins s σ H Q (I.wish _) hw) (fun _ _ ⟨v, H', I', r, q⟩ => ⟨v, H', I'.unwish, r, q⟩) fun _ _ z => False.elim z
theorem PT.nox {e : Expr} {t : TT} (h : PT X.nox e t) : PT X e t := fun pins s σ H Q I hw =>
  wpAny_mono (h pins s σ H Q (I.wish _) hw) (fun _ _ ⟨H', I', q⟩ => ⟨H', I'.unwish, q⟩) fun _ _ z => False.elim z
theorem PSs.nox {st : List Stmt} {t : TS} (h : PSs X.nox st t) : PSs X st t := fun pins s σ H D I hw =>
  wpAny_mono (h pins s σ H D (I.wish _) hw) (fun _ _ q => q.unwish) fun _ _ z => False.elim z
end


section
variable {X : Cx} {st : Stmt} {rest : List Stmt} {t u : TS} {e : Expr} {te : TE} {pos : Pos}
def tNext : TS := fun D σ H => D.nx σ H
def tSeq (t u : TS) : TS := fun D σ H => t { D with nx := u D } σ H
theorem pss_nil : PSs X [] tNext := fun _ _ σ H _ I h => wpAny_execs_nil ⟨σ, H, I, h⟩
theorem pss_cons (h1 : PS X st t) (h2 : PSs X rest u) : PSs X (st :: rest) (tSeq t u) := by
  intro pins s σ H D I h
  refine wpAny_execs_cons (thn (h1 pins s σ H { D with nx := u D } I h) fun f s1 q => ?_)
  cases f with
  | next =>
    obtain ⟨σ', H', I', q⟩ := q
    exact h2 pins s1 σ' H' D I' q
  | ret v => exact q
  | brk => exact q
  | cont => exact q
theorem pss_one (h1 : PS X st t) : PSs X [st] t := by
  intro pins s σ H D I h
  refine wpAny_execs_cons (thn (h1 pins s σ H D I h) fun f s1 q => ?_)
  cases f with
  | next => exact wpAny_execs_nil q
  | ret v => exact q
  | brk => exact q
  | cont => exact q
def tBreak : TS := fun D σ H => D.bk σ H
def tCont : TS := fun D σ H => D.ct σ H
/-- in a def's body nothing is shown -/
theorem Inv.quiet {pins : List (Addr × Obj)} {σ : St} {H : Hp} {s : Shared} (I : Inv X pins σ H s) : interactive X.env = false := by simp [interactive, I.ok.kind]
/-- an expression whose value is dropped -/
def tDrop (te : TE) : TS := fun D σ H => te σ H fun _ H1 => D.nx σ H1
theorem ps_expr (he : PE X e te) (hs : swapsWith e none pos.line X.env = pure false := by rfl) : PS X (.Expr e pos) (tDrop te) := by
  intro pins s σ H D I h
  exact wpAny_Expr_any (thn (he pins s σ H _ I h) fun v s1 ⟨x, H1, I1, r1, q1⟩ => ⟨σ, H1, I1, q1⟩) I.quiet hs
def tRet (te : TE) : TS := fun D σ H => te σ H D.rt
theorem ps_ret (he : PE X e te) : PS X (.Return (some e) pos) (tRet te) := by
  intro pins s σ H D I h
  exact wpAny_Return_some (thn (he pins s σ H _ I h) fun v s1 ⟨x, H1, I1, r1, q1⟩ => ⟨x, σ, H1, I1, r1, q1⟩)
def tRetN : TS := fun D _ H => D.rt .non H
def tIfS (c : TT) (t u : TS) : TS := fun D σ H => c σ H fun b H1 => if b = true then t D σ H1 else u D σ H1
theorem ps_if {c : Expr} {a b : List Stmt} {tc : TT} (hc : PT X c tc) (ha : PSs X a t) (hb : PSs X b u) : PS X (.If c a b pos) (tIfS tc t u) := by
  intro pins s σ H D I h
  refine wpAny_If (thn (hc pins s σ H _ I h) fun d s1 ⟨H1, I1, q1⟩ => ?_)
  cases d with
  | true => exact ha pins s1 σ H1 D I1 q1
  | false => exact hb pins s1 σ H1 D I1 q1
/-- code that the proof never comes to -/
def tNever : TS := fun _ _ _ => False
theorem ps_never : PS X st tNever := fun _ _ _ _ _ _ h => h.elim
end


abbrev TG := V → St → Hp → (St → Hp → Prop) → Prop
abbrev TGs := List V → St → Hp → (St → Hp → Prop) → Prop
def PG (X : Cx) (target : Expr) (t : TG) : Prop :=
  ∀ (pins : List (Addr × Obj)) (s : Shared) (σ : St) (H : Hp) (v : V) (u : Value) (Q : St → Hp → Prop), Inv X pins σ H s → RelV v u → t v σ H Q →
    wpAny (model X.prog X.w) X.A (assign target X.env u) (fun _ s' => ∃ σ' H', Inv X pins σ' H' s' ∧ Q σ' H') X.xe s
/-- several targets, one after another -/
def PGs (X : Cx) (ts : List Expr) (t : TGs) : Prop :=
  ∀ (pins : List (Addr × Obj)) (s : Shared) (σ : St) (H : Hp) (vs : List V) (us : List Value) (Q : St → Hp → Prop), Inv X pins σ H s → Vals vs us → t vs σ H Q →
    wpAny (model X.prog X.w) X.A (assignInOrder ((assignEach ts X.env).map (·.2)) us) (fun _ s' => ∃ σ' H', Inv X pins σ' H' s' ∧ Q σ' H') X.xe s
/-- o[i] = v, by values -/
abbrev TSet := V → V → V → Hp → (Hp → Prop) → Prop
def PSet (X : Cx) (t : TSet) : Prop :=
  ∀ (pins : List (Addr × Obj)) (s : Shared) (σ : St) (H : Hp) (o i v : V) (ov iv u : Value) (Q : Hp → Prop), Inv X pins σ H s → RelV o ov → RelV i iv → RelV v u → t o i v H Q →
    wpAny (model X.prog X.w) X.A (setItem ov iv u) (fun _ s' => ∃ H', Inv X pins σ H' s' ∧ Q H') X.xe s
/-- a op= b, by values -/
abbrev TIp := V → V → Hp → VK → Prop
def PIp (X : Cx) (op : Operator) (t : TIp) : Prop :=
  ∀ (pins : List (Addr × Obj)) (s : Shared) (σ : St) (H : Hp) (x y : V) (v u : Value) (Q : VK), Inv X pins σ H s → RelV x v → RelV y u → t x y H Q →
    wpAny (model X.prog X.w) X.A (inplaceOp op v u) (EP X pins σ Q) X.xe s
section
variable {X : Cx} {pos : Pos}
def gName (i : Nat) : TG := fun v σ H Q => Q (σ.set i (some v)) H
theorem pg_name {i : Nat} {x : Str} (hN : X.N.Nodup) (hi : X.N[i]? = some x) (hx : Loc X.env.scope x) (hf : X.fn x = true ∨ X.env.scope.names.lookup x = some .local := by first | exact .inl rfl | exact .inr rfl | assumption) : PG X (.Name x pos) (gName i) := by
  intro pins s σ H v u Q I r h
  exact wpAny_assign_Name (store_ok I hN hi hx r (fun s' I' => ⟨_, H, I', h⟩) hf)
def gNil : TGs := fun vs σ H Q => vs = [] ∧ Q σ H
def gCons (t : TG) (u : TGs) : TGs := fun vs σ H Q => ∃ v r, vs = v :: r ∧ t v σ H fun σ' H' => u r σ' H' Q
theorem pgs_nil : PGs X [] gNil := by
  intro pins s σ H vs us Q I r h
  obtain ⟨e, h⟩ := h
  subst e
  cases r
  exact assignInOrder_nil ⟨σ, H, I, h⟩
theorem pgs_cons {e : Expr} {es : List Expr} {t : TG} {u : TGs} (h1 : PG X e t) (h2 : PGs X es u)
    (hs : (assignEach (e :: es) X.env).map (·.2) = assign e X.env :: (assignEach es X.env).map (·.2) := by rfl) : PGs X (e :: es) (gCons t u) := by
  intro pins s σ H vs us Q I r h
  obtain ⟨v, vr, e1, h⟩ := h
  subst e1
  cases r with
  | cons r rr =>
    rw [hs]
    refine assignInOrder_cons (thn (h1 pins s σ H _ _ _ I r h) fun _ s1 ⟨σ1, H1, I1, q1⟩ => ?_)
    exact h2 pins s1 σ1 H1 _ _ Q I1 rr q1
/-- (a, b, ..) = a tuple of that length -/
def gTup (K : PySem.W.Frag) (n : Nat) (t : TGs) : TG := fun v σ H Q => ∃ a xs, v = .ref a ∧ SqT K H a xs ∧ xs.length = n ∧ t xs σ H Q
theorem pg_tup {es : List Expr} {k : Nat} {t : TGs} {n : Nat} (hc : X.calm = true) (h : PGs X es t)
    (hn : (assignEach es X.env).length = n := by rfl) (hst : (assignEach es X.env).findIdx? (·.1) = none := by rfl) : PG X (.Tuple es k pos) (gTup X.K n t) := by
  intro pins s σ H v u Q I r hw
  obtain ⟨a, xs, e1, hq, hl, hw⟩ := hw
  subst e1
  cases r
  obtain ⟨its, rv, ht, hz⟩ := I.tuple hq
  refine assign_Tuple_tuple (I.ok.hd hc) ht (by simp [hn, ← hl, rv.length]) hst fun h' hx => ?_
  have I1 : Inv X pins σ H { s with heap := h' } := I.kept (t' := s.toks) fun b o e => hx b o (Nat.ne_of_lt (Heap.lt_size e)) e
  exact h pins _ σ H xs _ Q I1 (by simpa using rv) hw
/-- o[i] = .. -/
def gSub (to ti : TE) (t : TSet) : TG := fun v σ H Q => to σ H fun o H1 => ti σ H1 fun i H2 => t o i v H2 fun H3 => Q σ H3
theorem pg_sub {o i : Expr} {to ti : TE} {t : TSet} (ho : PE X o to) (hi : PE X i ti) (hs : PSet X t)
    (ha : ∀ v, assign (.Subscript o i pos) X.env v = (do
      let ov ← holding [v] (eval o X.env)
      let iv ← holding [v, ov] (eval i X.env)
      standAt pos
      holding [v, ov, iv] (setItem ov iv v)
      release [v, ov, iv] []) := by intro _; rfl) : PG X (.Subscript o i pos) (gSub to ti t) := by
  intro pins s σ H v u Q I r h
  rw [ha]
  refine wpAny_bind (wpAny_holding (thn (ho pins s σ H _ I h) fun ov s1 ⟨x, H1, I1, r1, q1⟩ => ?_))
  refine wpAny_bind (wpAny_holding (thn (hi pins s1 σ H1 _ I1 q1) fun iv s2 ⟨y, H2, I2, r2, q2⟩ => ?_))
  refine wpAny_bind (wpAny_standAt (wpAny_bind (wpAny_holding (thn (hs pins s2 σ H2 x y v ov iv u _ I2 r1 r2 r q2) fun _ s3 ⟨H3, I3, q3⟩ => ?_))))
  exact wpAny_release ⟨σ, H3, I3, q3⟩
/-- target = value -/
def tAsg (te : TE) (g : TG) : TS := fun D σ H => te σ H fun x H1 => g x σ H1 D.nx
theorem ps_asg {tg e : Expr} {te : TE} {g : TG} (he : PE X e te) (hg : PG X tg g) (hs : swapsWithSole [tg] e pos.line X.env = pure false := by rfl) (hw : swappedStores [tg] e X.env = pure none := by rfl)
    (h1 : (assignEach [tg] X.env).map (·.2) = [assign tg X.env] := by rfl) : PS X (.Assign [tg] e pos) (tAsg te g) := by
  intro pins s σ H D I h
  refine wpAny_Assign_stores (thn (he pins s σ H _ I h) fun v s1 ⟨x, H1, I1, r1, q1⟩ => ?_) hs hw
  rw [h1]
  exact thn (hg pins s1 σ H1 x v _ I1 r1 q1) fun _ s2 q => q
/-- name = value -/
theorem ps_set {i : Nat} {x : Str} {e : Expr} {te : TE} {pos' : Pos} (hN : X.N.Nodup) (hi : X.N[i]? = some x) (hx : Loc X.env.scope x) (he : PE X e te) (hs : swapsWith e (some (.Name x pos')) pos.line X.env = pure false := by rfl) (hf : X.fn x = true ∨ X.env.scope.names.lookup x = some .local := by first | exact .inl rfl | exact .inr rfl | assumption) :
    PS X (.Assign [.Name x pos'] e pos) (tAsg te (gName i)) := by
  intro pins s σ H D I h
  refine wpAny_Assign_Name (thn (he pins s σ H _ I h) fun v s1 ⟨y, H1, I1, r1, q1⟩ => ?_) hs
  exact store_ok I1 hN hi hx r1 (fun s2 I2 => ⟨_, H1, I2, q1⟩) hf
/-- a, b = x, y with plain local names: stored from the right; the pair itself is not tracked (the opening rows as in PyProof/Rows/TupAssign.lean:23) -/
def tPar (i j : Nat) (ta : TA) : TS := fun D σ H => ta σ H fun vs H1 => ∃ v w, vs = [v, w] ∧ D.nx ((σ.set i (some v)).set j (some w)) H1
theorem ps_par {i j : Nat} {x y : Str} {a b : Expr} {ta : TA} {px py pt : Pos} {kt k2 pt2} (hc : X.calm = true) (hN : X.N.Nodup) (hi : X.N[i]? = some x) (hj : X.N[j]? = some y) (hij : i ≠ j)
    (hx : X.env.scope.names.lookup x = some .local) (hy : X.env.scope.names.lookup y = some .local) (ha : PA X [a, b] ta)
    (hw : swappedStores [.Tuple [.Name x px, .Name y py] kt pt] (.Tuple [a, b] k2 pt2) X.env = pure (some [x, y]))
    (hs : swapsWithSole [.Tuple [.Name x px, .Name y py] kt pt] (.Tuple [a, b] k2 pt2) pos.line X.env = pure false := by rfl) :
    PS X (.Assign [.Tuple [.Name x px, .Name y py] kt pt] (.Tuple [a, b] k2 pt2) pos) (tPar i j ta) := by
  intro pins s σ H D I h
  rw [exec_Assign_arm]
  refine wpAny_bind (wpAny_standAt ?_)
  rw [hs]
  refine wpAny_bind (wpAny_pure ?_)
  rw [if_neg (by decide)]
  refine wpAny_bind (Tuple_ (thn (ha _ pins s σ H _ I h) fun us s1 ⟨vs, H1, I1, r1, q1⟩ => ?_))
  obtain ⟨v, w, e1, q1⟩ := q1
  subst e1
  obtain ⟨u1, u2, rfl, rv, rw'⟩ : ∃ u1 u2, us = [u1, u2] ∧ RelV v u1 ∧ RelV w u2 := by
    cases r1 with
    | cons p q =>
      cases q with
      | cons p' q' =>
        cases q'
        exact ⟨_, _, rfl, p, p'⟩
  refine wpAny_newObj_type ?_ (by show 2 ≤ sizeLine; decide)
  have I2 : Inv X pins σ H1 { s1 with heap := s1.heap.push { cls := .type "tuple", data := .seq [u1, u2].toArray } } := I1.kept (t' := s1.toks) fun b o e => Heap.get?_push_of_some _ e
  rw [hw]
  refine wpAny_bind (wpAny_pure ?_)
  show wpAny (model X.prog X.w) X.A (do rule "assign.swapped-stores"; let items ← unpackItems (.ref s1.heap.objs.size) 2 none; assignInOrder [fun v => bindName X.env y v, fun v => bindName X.env x v] items.reverse; pure Flow.next) _ _ _
  refine wpAny_bind (wpAny_rule (wpAny_bind (unpackItems_tuple (items := #[u1, u2]) (I.ok.hd hc) (IsTup.new s1.heap _) fun h' hx' => ?_)))
  have I3 := I2.kept (h' := h') (t' := s1.toks) fun b o e => hx' b o (Nat.ne_of_lt (Heap.lt_size e)) e
  show wpAny _ _ (assignInOrder [fun v => bindName X.env y v, fun v => bindName X.env x v] [u2, u1] >>= fun _ => pure Flow.next) _ _ _
  refine wpAny_bind (assignInOrder_cons (wpAny_bindName (store_ok I3 hN hj (.inl hy) rw' (fun s2 I4 => ?_) (.inr hy))))
  refine assignInOrder_cons (wpAny_bindName (store_ok I4 hN hi (.inl hx) rv (fun s3 I5 => assignInOrder_nil (wpAny_pure ?_)) (.inr hx)))
  rw [List.set_comm _ _ (Ne.symm hij)] at I5
  exact ⟨_, H1, I5, q1⟩
/-- name op= e -/
def tAug (i : Nat) (te : TE) (ti : TIp) : TS := fun D σ H => ∃ x, σ[i]? = some (some x) ∧ te σ H fun y H1 => ti x y H1 fun z H2 => D.nx (σ.set i (some z)) H2
/-- o[i] op= e -/
def tAugS (to ti te : TE) (tget : V → V → Hp → VK → Prop) (tip : TIp) (tset : TSet) : TS := fun D σ H => to σ H fun o H1 => ti σ H1 fun i H2 => tget o i H2 fun x H3 => te σ H3 fun y H4 => tip x y H4 fun z H5 => tset o i z H5 fun H6 => D.nx σ H6
/-- o[i], by values -/
def PGet (X : Cx) (t : V → V → Hp → VK → Prop) : Prop :=
  ∀ (pins : List (Addr × Obj)) (s : Shared) (σ : St) (H : Hp) (o i : V) (ov iv : Value) (Q : VK), Inv X pins σ H s → RelV o ov → RelV i iv → t o i H Q →
    wpAny (model X.prog X.w) X.A (getItem ov iv) (EP X pins σ Q) X.xe s
theorem ps_augS {o i e : Expr} {to ti te : TE} {tget : V → V → Hp → VK → Prop} {tip : TIp} {tset : TSet} {op : Operator} {tpos : Pos} (ho : PE X o to) (hi : PE X i ti) (hg : PGet X tget) (he : PE X e te) (hp : PIp X op tip) (hs : PSet X tset)
    (ha : ∀ ov iv new, augStore i ov iv new = (do holding [new, ov, iv] (setItem ov iv new); release [new, ov, iv] []; pure .next) := by intros; rfl) : PS X (.AugAssign (.Subscript o i tpos) op e pos) (tAugS to ti te tget tip tset) := by
  intro pins s σ H D I h
  refine wpAny_AugAssign_SubscriptAny (thn (ho pins s σ H _ I h) fun ov s1 ⟨x1, H1, I1, r1, q1⟩ => ?_) ha
  refine thn (hi pins s1 σ H1 _ I1 q1) fun iv s2 ⟨x2, H2, I2, r2, q2⟩ => ?_
  refine thn (hg pins s2 σ H2 x1 x2 ov iv _ I2 r1 r2 q2) fun old s3 ⟨x3, H3, I3, r3, q3⟩ => ?_
  refine thn (he pins s3 σ H3 _ I3 q3) fun v s4 ⟨x4, H4, I4, r4, q4⟩ => ?_
  refine thn (hp pins s4 σ H4 x3 x4 old v _ I4 r3 r4 q4) fun new s5 ⟨x5, H5, I5, r5, q5⟩ => ?_
  exact thn (hs pins s5 σ H5 x1 x2 x5 ov iv new _ I5 r1 r2 r5 q5) fun _ s6 ⟨H6, I6, q6⟩ => ⟨σ, H6, I6, q6⟩
/-- ints -/
def ipI (f : Int → Int → Int) : TIp := fun x y H Q => ∃ i j, x = .int i ∧ y = .int j ∧ Q (.int (f i j)) H
theorem ip_add : PIp X .Add (ipI fun i j => i + j) := by
  intro pins s σ H x y v u Q I r1 r2 h
  obtain ⟨i, j, e1, e2, q⟩ := h
  subst e1; subst e2
  obtain ⟨t, rfl⟩ := r1
  obtain ⟨t', rfl⟩ := r2
  exact iadd_int ⟨.int _, H, I.tok _, ⟨_, rfl⟩, q⟩
end


section
variable {X : Cx} {pos : Pos}
/-- the invariant W with its measure -/
def tWhile (c : TT) (tb : TS) : TS := fun D σ H => ∃ W : Nat → St → Hp → Prop, (∃ m, W m σ H) ∧ ∀ m σ H, W m σ H →
  c σ H fun b H1 => if b = true then ∃ N : St → Hp → Prop, (∀ σ' H', N σ' H' → ∃ m', m' < m ∧ W m' σ' H') ∧ tb { D with nx := N, ct := N, bk := D.nx } σ H1 else D.nx σ H1
end


/-- at turn i: it yields x (the heap may grow), or it stops -/
structure It where
  go : Nat → Hp → Prop
  yld : Nat → Hp → V → Hp → Prop
  stop : Nat → Hp → Prop
/-- the iterator's own objects may turn: they are not the frame's, not pinned, younger than the entry (or a comprehension's own) -/
def FpOk (X : Cx) (pins : List (Addr × Obj)) (H : Hp) (b : Addr) : Prop :=
  H b = none ∧ b ≠ X.env.locals ∧ b ∉ X.fs ∧ (b ∈ X.ex ∨ X.s₀.heap.objs.size ≤ b) ∧ (∀ x c, X.env.cells.lookup x = some c → c ≠ b) ∧ ∀ p ∈ X.pn ++ pins, p.1 ≠ b
theorem Inv.fpOk {X : Cx} {pins : List (Addr × Obj)} {σ : St} {H H' : Hp} {s : Shared} {b : Addr} (I : Inv X pins σ H s) (hb : s.heap.objs.size ≤ b) (hn : H' b = none) : FpOk X pins H' b := by
  refine ⟨hn, Nat.ne_of_gt (Nat.lt_of_lt_of_le I.lt hb), I.nofs hb, .inr (Nat.le_trans I.sz hb), fun x c e z => ?_, fun p hp z => ?_⟩
  · obtain ⟨v, q⟩ := I.cell x c e
    exact absurd (Nat.lt_of_lt_of_le q.lt (by rw [z]; exact hb)) (Nat.lt_irrefl _)
  · exact absurd (Nat.lt_of_lt_of_le (Heap.lt_size (I.pin p hp).1) (by rw [z]; exact hb)) (Nat.lt_irrefl _)
structure Turn (P : Program) (w : World) (K : PySem.W.Frag) (tg : Expr) (J : It) (fp : List Addr) (it : Addr) (tn : Nat → Heap → Prop) : Prop where
  mem : it ∈ fp
  obj : ∀ i h, tn i h → ∀ b ∈ fp, ∃ o, h.get? b = some o ∧ ∀ v, o.data ≠ .cell v
  keep : ∀ i h h', tn i h → (∀ b ∈ fp, ∀ o, h.get? b = some o → h'.get? b = some o) → tn i h'
  item : ∀ (X : Cx), X.prog = P → X.w = w → X.K = K → X.calm = true → ∀ (i : Nat) (pins : List (Addr × Obj)) (s : Shared) (σ : St) (H : Hp) (E : Value → Shared → Prop), Inv X pins σ H s → (∀ b ∈ fp, FpOk X pins H b) → tn i s.heap → J.go i H →
    wpAny (model P w) X.A (pyNext (.ref it)) (fun r s1 => ∃ u, r = some u ∧
      wpAny (model P w) X.A (letOwnedTupleGo tg (.ref it) u) (fun _ s2 => ∃ x H', Inv X pins σ H' s2 ∧ RelV x u ∧ J.yld i H x H' ∧ tn (i + 1) s2.heap ∧ ∀ b ∈ fp, H' b = none) E s1) E s
  done : ∀ (X : Cx), X.prog = P → X.w = w → X.K = K → X.calm = true → ∀ (i : Nat) (pins : List (Addr × Obj)) (s : Shared) (σ : St) (H : Hp) (E : Value → Shared → Prop), Inv X pins σ H s → (∀ b ∈ fp, FpOk X pins H b) → tn i s.heap → J.stop i H →
    wpAny (model P w) X.A (pyNext (.ref it)) (fun r s1 => r = none ∧ Inv X pins σ H s1) E s
  self : ∀ (A : Around) (i : Nat) (s : Shared) (Q : Value → Shared → Prop) (E : Value → Shared → Prop), tn i s.heap → Q (.ref it) s → wpAny (model P w) A (pyIter (.ref it)) Q E s
abbrev TI := St → Hp → (It → Hp → Prop) → Prop
/-- an iterator has come -/
def PIE (X : Cx) (pins : List (Addr × Obj)) (σ : St) (tg : Expr) (R : It → Hp → Prop) (itv : Value) (s2 : Shared) : Prop :=
  ∃ (it : Addr) (fp : List Addr) (tn : Nat → Heap → Prop) (J : It) (H' : Hp), itv = .ref it ∧ Inv X pins σ H' s2 ∧ Turn X.prog X.w X.K tg J fp it tn ∧ tn 0 s2.heap ∧ (∀ b ∈ fp, FpOk X pins H' b) ∧ R J H'
def PI (X : Cx) (tg iter : Expr) (wi : TI) : Prop :=
  ∀ (pins : List (Addr × Obj)) (s : Shared) (σ : St) (H : Hp) (R : It → Hp → Prop), Inv X pins σ H s → wi σ H R →
    wpAny (model X.prog X.w) X.A (eval iter X.env) (fun v s1 => wpAny (model X.prog X.w) X.A (pyIter v) (PIE X pins σ tg R) X.xe s1) X.xe s

/-- the step ahead of the store is nothing for an iterator that keeps no tuple -/
theorem go_of {M : Model} {A : Around} {E : Value → Shared → Prop} {s : Shared} {tg : Expr} {it : Addr} {u : Value} {o : Obj} {n : String} {vs : Array Value} {Q : Unit → Shared → Prop} (ho : s.heap.get? it = some o) (hc : o.cls = .type n) (hd : o.data = .fields vs)
    (hn : ["enumerate", "zip", "dict_itemiterator", "dict_reverseitemiterator", "odict_iterator", "itertools.zip_longest", "itertools.pairwise"].contains n = false) (hQ : Q () s) : wpAny M A (letOwnedTupleGo tg (.ref it) u) Q E s := by
  unfold letOwnedTupleGo
  cases tg <;> first
    | exact wpAny_pure hQ
    | (cases u <;> first
        | exact wpAny_pure hQ
        | (refine wpAny_bind (wpAny_load ho ?_)
           rw [hc, hd]
           show wpAny M A (if (["enumerate", "zip", "dict_itemiterator", "dict_reverseitemiterator", "odict_iterator", "itertools.zip_longest", "itertools.pairwise"].contains n && vs[0]? == some (rawInt _)) = true then _ else _) Q E s
           rw [if_neg (by intro h; rw [hn, Bool.false_and] at h; cases h)]
           exact wpAny_pure hQ))

/-- the list at a, as it stands at each turn (a loop may append to it) -/
def Itl (K : PySem.W.Frag) (a : Addr) : It :=
  ⟨fun i H => ∃ xs x, SqL K H a xs ∧ xs[i]? = some x, fun i H x H' => H' = H ∧ ∀ xs, SqL K H a xs → xs[i]? = some x, fun i H => ∃ xs, SqL K H a xs ∧ xs.length ≤ i⟩
def Itt (K : PySem.W.Frag) (a : Addr) : It :=
  ⟨fun i H => ∃ xs x, SqT K H a xs ∧ xs[i]? = some x, fun i H x H' => H' = H ∧ ∀ xs, SqT K H a xs → xs[i]? = some x, fun i H => ∃ xs, SqT K H a xs ∧ xs.length ≤ i⟩
/-- lo, lo + 1, .. (n of them) -/
def Itr (lo : Int) (n : Nat) : It := ⟨fun i _ => i < n, fun i H x H' => H' = H ∧ x = .int (lo + i), fun i _ => n ≤ i⟩
theorem turn_list {P : Program} {w : World} {K : PySem.W.Frag} {tg : Expr} (a it : Addr) : Turn P w K tg (Itl K a) [it] it (fun i h => h.IsListIter it a i) where
  mem := by simp
  obj := fun i h st b hb => by
    have e : b = it := by simpa using hb
    subst e
    obtain ⟨o, e, c, d⟩ := st
    exact ⟨o, e, fun v z => by rw [d] at z; cases z⟩
  keep := fun i h h' st k => st.at fun o e => k it (by simp) o e
  item := by
    intro X hP hw hK hc i pins s σ H E I hf st hg
    subst hP hw hK
    obtain ⟨xs, x, hq, hx⟩ := hg
    obtain ⟨its, rv, p, hz⟩ := I.list hq
    obtain ⟨u, hu, ru⟩ := rv.get hx
    obtain ⟨f0, f1, f2, f3, f4, f5⟩ := hf it (by simp)
    refine wpAny_pyNext_list_item st p.isList (x := u) (by simpa using hu) fun h' st' sb => ?_
    have I1 : Inv X pins σ H { s with heap := h' } := I.turned (t' := s.toks) (fun b o hb e => (sb.2 b hb).trans e) f0 f1 f3 f4 f5
    obtain ⟨o, e, c, d⟩ := id st'
    exact ⟨u, rfl, go_of (s := { s with heap := h' }) e c d (by decide) ⟨x, H, I1, ru, ⟨rfl, fun ys hy => by rw [I.list_inj hy hq]; exact hx⟩, st', fun b hb => (hf b hb).1⟩⟩
  done := by
    intro X hP hw hK hc i pins s σ H E I hf st hg
    subst hP hw hK
    obtain ⟨xs, hq, hx⟩ := hg
    obtain ⟨its, rv, p, hz⟩ := I.list hq
    obtain ⟨f0, f1, f2, f3, f4, f5⟩ := hf it (by simp)
    have hl := rv.length
    exact wpAny_pyNext_list_end (I.ok.hd hc) st p.isList (by simp; omega) fun h' eb => ⟨rfl, I.turned (t' := s.toks) (fun b o hb e => eb b o hb e) f0 f1 f3 f4 f5⟩
  self := fun _ _ _ _ _ st h => wpAny_pyIter_listiter st h
theorem turn_tuple {P : Program} {w : World} {K : PySem.W.Frag} {tg : Expr} (a it : Addr) : Turn P w K tg (Itt K a) [it] it (fun i h => h.IsTupleIter it a i) where
  mem := by simp
  obj := fun i h st b hb => by
    have e : b = it := by simpa using hb
    subst e
    obtain ⟨o, e, c, d⟩ := st
    exact ⟨o, e, fun v z => by rw [d] at z; cases z⟩
  keep := fun i h h' st k => st.at fun o e => k it (by simp) o e
  item := by
    intro X hP hw hK hc i pins s σ H E I hf st hg
    subst hP hw hK
    obtain ⟨xs, x, hq, hx⟩ := hg
    obtain ⟨its, rv, p, hz⟩ := I.tuple hq
    obtain ⟨u, hu, ru⟩ := rv.get hx
    obtain ⟨f0, f1, f2, f3, f4, f5⟩ := hf it (by simp)
    refine wpAny_pyNext_tuple_item st (show s.heap.IsTuple a its.toArray from p) (x := u) (by simpa using hu) fun h' st' sb => ?_
    have I1 : Inv X pins σ H { s with heap := h' } := I.turned (t' := s.toks) (fun b o hb e => (sb.2 b hb).trans e) f0 f1 f3 f4 f5
    obtain ⟨o, e, c, d⟩ := id st'
    exact ⟨u, rfl, go_of (s := { s with heap := h' }) e c d (by decide) ⟨x, H, I1, ru, ⟨rfl, fun ys hy => by rw [I.tuple_inj hy hq]; exact hx⟩, st', fun b hb => (hf b hb).1⟩⟩
  done := by
    intro X hP hw hK hc i pins s σ H E I hf st hg
    subst hP hw hK
    obtain ⟨xs, hq, hx⟩ := hg
    obtain ⟨its, rv, p, hz⟩ := I.tuple hq
    obtain ⟨f0, f1, f2, f3, f4, f5⟩ := hf it (by simp)
    have hl := rv.length
    exact wpAny_pyNext_tuple_end (I.ok.hd hc) st (show s.heap.IsTuple a its.toArray from p) (by simp; omega) fun h' eb => ⟨rfl, I.turned (t' := s.toks) (fun b o hb e => eb b o hb e) f0 f1 f3 f4 f5⟩
  self := fun _ _ _ _ _ st h => wpAny_pyIter_tupleiter st h
theorem turn_range {P : Program} {w : World} {K : PySem.W.Frag} {tg : Expr} (it : Addr) (lo : Int) (n : Nat) : Turn P w K tg (Itr lo n) [it] it (fun i h => IsRangeIter h it (lo + (i : Nat) * 1) ((n : Int) - (i : Nat)) 1) where
  mem := by simp
  obj := fun i h st b hb => by
    have e : b = it := by simpa using hb
    subst e
    exact ⟨_, st, fun v z => by
      have z' : Data.fields _ = Data.cell v := z
      cases z'⟩
  keep := fun i h h' st k => k it (by simp) _ st
  item := by
    intro X hP hw hK hc i pins s σ H E I hf st hg
    subst hP hw hK
    obtain ⟨f0, f1, f2, f3, f4, f5⟩ := hf it (by simp)
    have W := Walks.range (prog := X.prog) (w := X.w) (I.ok.hd hc) it lo 1 n
    refine W.item i s _ _ hg st fun v h' tk hv st' kk => ?_
    obtain ⟨t, rfl⟩ := hv
    have I1 : Inv X pins σ H { s with heap := h', toks := tk } := I.turned (fun b o hb e => kk b o (by simpa using hb) e) f0 f1 f3 f4 f5
    refine ⟨_, rfl, go_of (s := { s with heap := h', toks := tk }) (n := "range_iterator") st' rfl rfl (by decide) ⟨.int (lo + i), H, I1, ⟨t, ?_⟩, ⟨rfl, rfl⟩, st', fun b hb => (hf b hb).1⟩⟩
    rw [Int.mul_one]
  done := by
    intro X hP hw hK hc i pins s σ H E I hf st hg
    subst hP hw hK
    obtain ⟨f0, f1, f2, f3, f4, f5⟩ := hf it (by simp)
    exact wpAny_pyNext_range_end (I.ok.hd hc) st (by have : n ≤ i := hg; omega) fun h' eb => ⟨rfl, I.turned (t' := s.toks) (fun b o hb e => eb b o hb e) f0 f1 f3 f4 f5⟩
  self := fun _ _ _ _ _ st h => wpAny_pyIter_rangeiter st h
end L2

namespace L2
open PySem PySem.Spec PyProof.Rows
section
variable {X : Cx} {tg : Expr}
def iList (K : PySem.W.Frag) (tl : TE) : TI := fun σ H R => tl σ H fun x H1 => ∃ a, x = .ref a ∧ (∃ xs, SqL K H1 a xs) ∧ R (Itl K a) H1
def iTup (K : PySem.W.Frag) (tl : TE) : TI := fun σ H R => tl σ H fun x H1 => ∃ a, x = .ref a ∧ (∃ xs, SqT K H1 a xs) ∧ R (Itt K a) H1
/-- a range object just made, walked -/
theorem range_it {pins : List (Addr × Obj)} {σ : St} {H : Hp} {s : Shared} {R : It → Hp → Prop} {E : Value → Shared → Prop} {lo hi : Int} {t u v : Tok} {tk : Nat} (I : Inv X pins σ H s) (h1 : -(2 ^ 62) ≤ lo) (h2 : lo < 2 ^ 62) (h3 : -(2 ^ 62) ≤ hi) (h4 : hi < 2 ^ 62)
    (q : R (Itr lo (hi - lo).toNat) H) : wpAny (model X.prog X.w) X.A (pyIter (.ref s.heap.objs.size)) (PIE X pins σ tg R) E { s with heap := s.heap.push { cls := .type "range", data := .fields #[.int lo t, .int hi u, .int 1 v] }, toks := tk } := by
  refine wpAny_pyIter_range (IsRange.new ..) (small_one h1 h2 h3 h4) ?_
  have I1 : Inv X pins σ H { s with heap := s.heap.push { cls := .type "range", data := .fields #[.int lo t, .int hi u, .int 1 v] }, toks := tk } := I.kept fun b o e => Heap.get?_push_of_some _ e
  refine ⟨(s.heap.push { cls := .type "range", data := .fields #[.int lo t, .int hi u, .int 1 v] }).objs.size, [(s.heap.push { cls := .type "range", data := .fields #[.int lo t, .int hi u, .int 1 v] }).objs.size], _, _, H, rfl,
    I1.kept (t' := tk) fun b o e => Heap.get?_push_of_some _ e, turn_range _ lo (hi - lo).toNat, ?_, fun b hb => ?_, q⟩
  · have e1 : lo + ((0 : Nat) : Int) * 1 = lo := by simp
    have e2 : (((hi - lo).toNat : Nat) : Int) - ((0 : Nat) : Int) = Builtin.Range.rangeSize lo hi 1 := by rw [rangeSize_one]; split <;> omega
    show IsRangeIter _ _ (lo + ((0 : Nat) : Int) * 1) ((((hi - lo).toNat : Nat) : Int) - ((0 : Nat) : Int)) 1
    rw [e1, e2]
    exact Heap.get?_push_size _ rfl
  · have e : b = (s.heap.push { cls := .type "range", data := .fields #[.int lo t, .int hi u, .int 1 v] }).objs.size := by simpa using hb
    subst e
    exact I1.fpOk (Nat.le_refl _) (I1.hok.fresh (Nat.le_refl _))
def iRng1 (ta : TA) : TI := fun σ H R => ta σ H fun vs H1 => ∃ j : Int, vs = [.int j] ∧ -(2 ^ 62) ≤ j ∧ j < 2 ^ 62 ∧ R (Itr 0 j.toNat) H1
def iRng2 (ta : TA) : TI := fun σ H R => ta σ H fun vs H1 => ∃ i j : Int, vs = [.int i, .int j] ∧ (-(2 ^ 62) ≤ i ∧ i < 2 ^ 62 ∧ -(2 ^ 62) ≤ j ∧ j < 2 ^ 62) ∧ R (Itr i (j - i).toNat) H1
theorem pi_range1 {a : Expr} {ta : TA} {p pos : Pos} (hg : Gl X "range") (hm : X.mg "range" = none) (ha : PA X [a] ta) (hs : starEach [a] X.env = [(false, eval a X.env)] := by rfl) : PI X tg (.Call (.Name "range" p) [a] [] pos) (iRng1 ta) := by
  intro pins s σ H R I h
  refine Call_ (ld_blt I hg hm boot_range (PyProof.Rows.callWith_type1 (thn (ha pos pins s σ H _ I h) fun us s1 ⟨vs, H1, I1, r1, q1⟩ => ?_) hs rfl))
  obtain ⟨j, e, q1, q2, q⟩ := q1
  subst e
  cases r1 with
  | cons r rr =>
    cases rr
    obtain ⟨t, rfl⟩ := r
    exact call_range_1 (range_it I1 (by omega) (by omega) q1 q2 (by simpa using q))
theorem pi_range2 {a b : Expr} {ta : TA} {p pos : Pos} (hg : Gl X "range") (hm : X.mg "range" = none) (ha : PA X [a, b] ta) (hs : starEach [a, b] X.env = [(false, eval a X.env), (false, eval b X.env)] := by rfl) (hs2 : starEach [b] X.env = [(false, eval b X.env)] := by rfl) :
    PI X tg (.Call (.Name "range" p) [a, b] [] pos) (iRng2 ta) := by
  intro pins s σ H R I h
  refine Call_ (ld_blt I hg hm boot_range (PyProof.Rows.callWith_type1 (thn (ha pos pins s σ H _ I h) fun us s1 ⟨vs, H1, I1, r1, q1⟩ => ?_) (by rw [hs, hs2]) (by rw [hs2]; rfl)))
  obtain ⟨i, j, e, ⟨q1, q2, q3, q4⟩, q⟩ := q1
  subst e
  cases r1 with
  | cons r rr =>
    cases rr with
    | cons r' rr =>
      cases rr
      obtain ⟨t, rfl⟩ := r
      obtain ⟨t', rfl⟩ := r'
      exact call_range_2 (range_it I1 q1 q2 q3 q4 q)


/-- W: the invariant by the turn and a measure; N: what the body is to reach -/
def tFor (wi : TI) (g : TG) (tb : TS) : TS := fun D σ H => wi σ H fun J H1 => ∃ W : Nat → Nat → St → Hp → Prop, (∃ m, W 0 m σ H1) ∧ ∀ i m σ H, W i m σ H →
  (J.stop i H ∧ D.nx σ H) ∨ (J.go i H ∧ ∃ N : St → Hp → Prop, (∀ σ' H', N σ' H' → ∃ m', m' < m ∧ W (i + 1) m' σ' H') ∧ ∀ x H', J.yld i H x H' → g x σ H' fun σ2 H2 => tb { D with nx := N, ct := N, bk := D.nx } σ2 H2)
/-- the records at fp as they stand -/
def pinsAt (fp : List Addr) (h : Heap) : List (Addr × Obj) := fp.filterMap fun b => (h.get? b).map fun o => (b, o)
theorem mem_pinsAt {fp : List Addr} {h : Heap} {b : Addr} {o : Obj} (hb : b ∈ fp) (e : h.get? b = some o) : (b, o) ∈ pinsAt fp h := List.mem_filterMap.mpr ⟨b, hb, by rw [e]; rfl⟩
theorem of_pinsAt {fp : List Addr} {h : Heap} {p : Addr × Obj} (hp : p ∈ pinsAt fp h) : p.1 ∈ fp ∧ h.get? p.1 = some p.2 := by
  obtain ⟨b, hb, e⟩ := List.mem_filterMap.mp hp
  cases q : h.get? b with
  | none => rw [q] at e; cases e
  | some o =>
    rw [q] at e
    have e' : (b, o) = p := Option.some.inj e
    subst e'
    exact ⟨hb, q⟩
theorem Inv.pinned {pins : List (Addr × Obj)} {σ : St} {H : Hp} {s : Shared} {fp : List Addr} (I : Inv X pins σ H s) (hf : ∀ b ∈ fp, FpOk X pins H b) (ho : ∀ b ∈ fp, ∃ o, s.heap.get? b = some o ∧ ∀ v, o.data ≠ .cell v) : Inv X (pins ++ pinsAt fp s.heap) σ H s :=
  I.pins_of fun p hp => (List.mem_append.mp hp).elim (fun z => I.pin p (List.mem_append_right _ z)) fun z => by
    obtain ⟨hb, e⟩ := of_pinsAt z
    obtain ⟨f0, f1, f2, _⟩ := hf p.1 hb
    obtain ⟨o, e', d⟩ := ho p.1 hb
    rw [e] at e'; cases e'
    exact ⟨e, f0, f1, f2, d⟩
theorem Inv.unpinned {pins pl : List (Addr × Obj)} {σ : St} {H : Hp} {s : Shared} (I : Inv X (pins ++ pl) σ H s) : Inv X pins σ H s := I.pins_of fun p hp => I.pin p (List.mem_append_right _ (List.mem_append_left _ hp))
theorem ps_for {iter : Expr} {body : List Stmt} {wi : TI} {g : TG} {tb : TS} {pos : Pos} (hp : PassesOwn (model X.prog X.w) X.A X.env X.xe) (hc : X.calm = true) (hi : PI X tg iter wi) (hg : PG X tg g) (hb : PSs X body tb)
    (hs : ∀ x, foldedSetIterable iter X.env x = pure x := by intro _; rfl) : PS X (.For tg iter body [] pos) (tFor wi g tb) := by
  intro pins s σ H D I h
  refine wpAny_For (thn (hi pins s σ H _ I h) fun v s1 h1 => thn h1 fun itv s2 h2 => ?_) hs
  obtain ⟨it, fp, tn, J, H2, e, I2, T, st2, f2, W, ⟨m0, w0⟩, turn⟩ := h2
  subst e
  -- what stays true of the iterator's objects through the loop
  have stat : ∀ {H' : Hp}, (∀ b ∈ fp, H' b = none) → ∀ b ∈ fp, FpOk X pins H' b := fun hn b hb => ⟨hn b hb, (f2 b hb).2⟩
  refine codeAny_forLoop_any (fun n s' => ∃ i σ' H', Inv X pins σ' H' s' ∧ tn i s'.heap ∧ (∀ b ∈ fp, H' b = none) ∧ W i n σ' H') ?_ m0 ⟨0, σ, H2, I2, st2, fun b hb => (f2 b hb).1, w0⟩
  rintro n s3 ⟨i, σ3, H3, I3, st3, fr3, w3⟩
  rcases turn i n σ3 H3 w3 with ⟨stop, qn⟩ | ⟨go, N, hN, step⟩
  · refine wpAny_passesOwn hp (thn (T.done X rfl rfl rfl hc i pins s3 σ3 H3 X.xe I3 (stat fr3) st3 stop) fun r s4 ⟨hr, I4⟩ => ?_)
    subst hr
    exact wpAny_execs_nil ⟨σ3, H3, I4, qn⟩
  · refine wpAny_passesOwn hp (thn (T.item X rfl rfl rfl hc i pins s3 σ3 H3 X.xe I3 (stat fr3) st3 go) fun r s4 ⟨u, hr, h4⟩ => ?_)
    subst hr
    refine wpAny_passesOwn hp (thn h4 fun _ s5 ⟨x, H5, I5, r5, y5, st5, fr5⟩ => ?_)
    have I5' := I5.pinned (stat fr5) (T.obj _ _ st5)
    refine wpAny_passesOwn hp (thn (hg _ s5 σ3 H5 x u _ I5' r5 (step x H5 y5)) fun _ s6 ⟨σ6, H6, I6, q6⟩ => ?_)
    refine wpAny_passesOwn hp (thn (hb _ s6 σ6 H6 _ I6 q6) fun f s7 q7 => ?_)
    have again : ∀ {σ7 : St} {H7 : Hp}, Inv X (pins ++ pinsAt fp s5.heap) σ7 H7 s7 → N σ7 H7 → ∃ m, m < n ∧ ∃ i σ' H', Inv X pins σ' H' s7 ∧ tn i s7.heap ∧ (∀ b ∈ fp, H' b = none) ∧ W i m σ' H' := fun {σ7 H7} I7 n7 => by
      obtain ⟨m', hm, w7⟩ := hN σ7 H7 n7
      refine ⟨m', hm, i + 1, σ7, H7, I7.unpinned, T.keep _ _ _ st5 fun b hb o e => (I7.pin (b, o) (List.mem_append_right _ (List.mem_append_right _ (mem_pinsAt hb e)))).1, fun b hb => ?_, w7⟩
      obtain ⟨o, e, d⟩ := T.obj _ _ st5 b hb
      exact (I7.pin (b, o) (List.mem_append_right _ (List.mem_append_right _ (mem_pinsAt hb e)))).2.1
    cases f with
    | next => obtain ⟨σ7, H7, I7, n7⟩ := q7; exact again I7 n7
    | cont => obtain ⟨σ7, H7, I7, n7⟩ := q7; exact again I7 n7
    | brk => obtain ⟨σ7, H7, I7, q7⟩ := q7; exact ⟨σ7, H7, I7.unpinned, q7⟩
    | ret v => obtain ⟨x7, σ7, H7, I7, r7, q7⟩ := q7; exact ⟨x7, σ7, H7, I7.unpinned, r7, q7⟩
end


end L2

namespace L2
open PySem PySem.Spec PyProof.Rows

abbrev R2 := V → V → Hp → VK → Prop
/-- a two-place operation on values: f is binaryOp op, inplaceOp op or compareOp op -/
def OpR (X : Cx) (f : Value → Value → Sem Value) (r : R2) : Prop :=
  ∀ (pins : List (Addr × Obj)) (s : Shared) (σ : St) (H : Hp) (x y : V) (v u : Value) (Q : VK), Inv X pins σ H s → RelV x v → RelV y u → r x y H Q →
    wpAny (model X.prog X.w) X.A (f v u) (EP X pins σ Q) X.xe s
/-- a one-place operation -/
def UnR (X : Cx) (f : Value → Sem Value) (r : V → Hp → VK → Prop) : Prop :=
  ∀ (pins : List (Addr × Obj)) (s : Shared) (σ : St) (H : Hp) (x : V) (v : Value) (Q : VK), Inv X pins σ H s → RelV x v → r x H Q →
    wpAny (model X.prog X.w) X.A (f v) (EP X pins σ Q) X.xe s
/-- a call of a value that is known (a builtin, a type) with values -/
def CallR (X : Cx) (f : Value) (r : List V → Hp → VK → Prop) : Prop :=
  ∀ (pins : List (Addr × Obj)) (s : Shared) (σ : St) (H : Hp) (xs : List V) (us : List Value) (Q : VK), Inv X pins σ H s → Vals xs us → r xs H Q →
    wpAny (model X.prog X.w) X.A (call f us) (EP X pins σ Q) X.xe s
/-- a value's truth -/
def TruR (X : Cx) (r : V → Hp → (Bool → Hp → Prop) → Prop) : Prop :=
  ∀ (pins : List (Addr × Obj)) (s : Shared) (σ : St) (H : Hp) (x : V) (v : Value) (Q : Bool → Hp → Prop), Inv X pins σ H s → RelV x v → r x H Q →
    wpAny (model X.prog X.w) X.A (truthy v) (TP X pins σ Q) X.xe s

def tOp (r : R2) (ta tb : TE) : TE := fun σ H Q => ta σ H fun x H1 => tb σ H1 fun y H2 => r x y H2 Q
def tUn (r : V → Hp → VK → Prop) (ta : TE) : TE := fun σ H Q => ta σ H fun x H1 => r x H1 Q
/-- ints in, under C, and a value out -/
def rI (C : Int → Int → Prop) (g : Int → Int → V) : R2 := fun x y H Q => ∃ i j, x = .int i ∧ y = .int j ∧ C i j ∧ Q (g i j) H
def rI0 (g : Int → Int → V) : R2 := fun x y H Q => ∃ i j, x = .int i ∧ y = .int j ∧ Q (g i j) H
def rU (g : Int → V) : V → Hp → VK → Prop := fun x H Q => ∃ i, x = .int i ∧ Q (g i) H

section
variable {X : Cx} {a b c : Expr} {ta tb tc : TE} {pos : Pos}

theorem binT (ha : PE X a ta) (hb : PE X b tb) {pins : List (Addr × Obj)} {s : Shared} {σ : St} {H : Hp} {R : V → V → Hp → Prop} (I : Inv X pins σ H s)
    (h : ta σ H fun x H1 => tb σ H1 fun y H2 => R x y H2) {Q : Value → Shared → Prop} {f : Value → Value → Sem Value}
    (hf : ∀ v u s2 x y H2, Inv X pins σ H2 s2 → RelV x v → RelV y u → R x y H2 → wpAny (model X.prog X.w) X.A (f v u) Q X.xe s2) :
    wpAny (model X.prog X.w) X.A (eval a X.env) (fun v s₁ => wpAny (model X.prog X.w) X.A (eval b X.env) (fun u s₂ => wpAny (model X.prog X.w) X.A (f v u) Q X.xe s₂) X.xe s₁) X.xe s := by
  refine thn (ha pins s σ H _ I h) fun v s1 ⟨x, H1, I1, r1, q1⟩ => ?_
  refine thn (hb pins s1 σ H1 _ I1 q1) fun u s2 ⟨y, H2, I2, r2, q2⟩ => ?_
  exact hf v u s2 x y H2 I2 r1 r2 q2

theorem pe_op {op : Operator} {r : R2} (ho : OpR X (binaryOp op) r) (ha : PE X a ta) (hb : PE X b tb) : PE X (.BinOp a op b pos) (tOp r ta tb) := by
  intro pins s σ H Q I h
  exact wpAny_BinOp (binT ha hb I h fun v u s2 x y H2 I2 rx ry q => ho pins s2 σ H2 x y v u Q I2 rx ry q)
theorem pe_un {op : UnaryOp} {r : V → Hp → VK → Prop} (ho : UnR X (unaryOp op) r) (ha : PE X a ta) : PE X (.UnaryOp op a pos) (tUn r ta) := by
  intro pins s σ H Q I h
  exact UnaryOp_ (thn (ha pins s σ H _ I h) fun v s1 ⟨x, H1, I1, r1, q1⟩ => ho pins s1 σ H1 x v Q I1 r1 q1)
theorem opI {f : Value → Value → Sem Value} {C : Int → Int → Prop} {g : Int → Int → Int}
    (rule : ∀ (i j : Int) (t u : Tok) (s : Shared) (Q : Value → Shared → Prop) (E : Value → Shared → Prop), C i j → Q (.int (g i j) s.toks) { s with toks := s.toks + 1 } → wpAny (model X.prog X.w) X.A (f (.int i t) (.int j u)) Q E s) :
    OpR X f (rI C fun i j => .int (g i j)) := by
  intro pins s σ H x y v u Q I rx ry h
  obtain ⟨i, j, rfl, rfl, hc, q⟩ := h
  obtain ⟨t, rfl⟩ := rx
  obtain ⟨t', rfl⟩ := ry
  exact rule i j t t' s _ _ hc ⟨.int (g i j), H, I.tok _, ⟨_, rfl⟩, q⟩
theorem opI0 {f : Value → Value → Sem Value} {g : Int → Int → Int}
    (rule : ∀ (i j : Int) (t u : Tok) (s : Shared) (Q : Value → Shared → Prop) (E : Value → Shared → Prop), Q (.int (g i j) s.toks) { s with toks := s.toks + 1 } → wpAny (model X.prog X.w) X.A (f (.int i t) (.int j u)) Q E s) :
    OpR X f (rI0 fun i j => .int (g i j)) := by
  intro pins s σ H x y v u Q I rx ry h
  obtain ⟨i, j, rfl, rfl, q⟩ := h
  obtain ⟨t, rfl⟩ := rx
  obtain ⟨t', rfl⟩ := ry
  exact rule i j t t' s _ _ ⟨.int (g i j), H, I.tok _, ⟨_, rfl⟩, q⟩
theorem opB0 {f : Value → Value → Sem Value} {g : Int → Int → Bool}
    (rule : ∀ (i j : Int) (t u : Tok) (s : Shared) (Q : Value → Shared → Prop) (E : Value → Shared → Prop), Q (.bool (g i j)) s → wpAny (model X.prog X.w) X.A (f (.int i t) (.int j u)) Q E s) :
    OpR X f (rI0 fun i j => .bl (g i j)) := by
  intro pins s σ H x y v u Q I rx ry h
  obtain ⟨i, j, rfl, rfl, q⟩ := h
  obtain ⟨t, rfl⟩ := rx
  obtain ⟨t', rfl⟩ := ry
  exact rule i j t t' s _ _ ⟨.bl (g i j), H, I, rfl, q⟩

def CDiv (i j : Int) : Prop := 0 < j ∧ j < 1073741824
def CDivN (i j : Int) : Prop := j ≠ 0 ∧ j.natAbs < 1073741824
def CPow (i j : Int) : Prop := 0 ≤ j ∧ j ≤ 1000000 ∧ i.natAbs < 2 ^ 64
def CMul (i j : Int) : Prop := (-(2 ^ 64) < i ∧ i < 2 ^ 64) ∨ (-(2 ^ 64) < j ∧ j < 2 ^ 64)
theorem CMul.ok {i j : Int} (h : CMul i j) : IntMulOk i j := by
  rcases h with ⟨h1, h2⟩ | ⟨h1, h2⟩
  · exact .of_left (intBits_le_64 h1 h2)
  · exact .of_right (intBits_le_64 h1 h2)
theorem op_add : OpR X (binaryOp .Add) (rI0 fun i j => .int (i + j)) := opI0 fun _ _ _ _ _ _ _ q => add_int q
theorem op_sub : OpR X (binaryOp .Sub) (rI0 fun i j => .int (i - j)) := opI0 fun _ _ _ _ _ _ _ q => sub_int q
/-- % by a positive divisor of any size -/
theorem op_mod : OpR X (binaryOp .Mod) (rI (fun _ j => 0 < j) fun i j => .int (i % j)) := opI fun i j _ _ _ _ _ hc q => by
  have h1 : (0 : Int) < j := hc
  exact mod_int' (by omega) (by rw [Int.fmod_eq_emod_of_nonneg i (by omega)]; exact q)
theorem op_shl : OpR X (binaryOp .LShift) (rI CPow fun i j => .int (i * 2 ^ j.toNat)) := opI fun _ _ _ _ _ _ _ hc q => lshift_int_small hc.1 hc.2.1 hc.2.2 q
theorem unI {f : Value → Sem Value} {g : Int → Int}
    (rule : ∀ (i : Int) (t : Tok) (s : Shared) (Q : Value → Shared → Prop) (E : Value → Shared → Prop), Q (.int (g i) s.toks) { s with toks := s.toks + 1 } → wpAny (model X.prog X.w) X.A (f (.int i t)) Q E s) :
    UnR X f (rU fun i => .int (g i)) := by
  intro pins s σ H x v Q I rx h
  obtain ⟨i, rfl, q⟩ := h
  obtain ⟨t, rfl⟩ := rx
  exact rule i t s _ _ ⟨.int (g i), H, I.tok _, ⟨_, rfl⟩, q⟩
theorem un_neg : UnR X (unaryOp .USub) (rU fun i => .int (-i)) := unI fun _ _ _ _ _ q => neg_int q
end


/-- the scalars that == tells apart as data does -/
def scal : V → V → Bool
  | .non, .non => true | .non, .int _ => true | .int _, .non => true | .non, .bl _ => true | .bl _, .non => true | .non, .str _ => true | .str _, .non => true
  | .int _, .int _ => true | .bl _, .bl _ => true | .str _, .str _ => true | .byt _, .byt _ => true
  | .int _, .str _ => true | .str _, .int _ => true | .bl _, .str _ => true | .str _, .bl _ => true
  | _, _ => false
def rEq : R2 := fun x y H Q => scal x y = true ∧ Q (.bl (decide (x = y))) H
def rNe : R2 := fun x y H Q => scal x y = true ∧ Q (.bl (!decide (x = y))) H

section
variable {X : Cx} {a b c : Expr} {ta tb tc : TE} {pos : Pos}
theorem fin_bl {pins : List (Addr × Obj)} {σ : St} {H : Hp} {s : Shared} {Q : VK} {k k' : Bool} (I : Inv X pins σ H s) (q : Q (.bl k) H) (e : k = k') : EP X pins σ Q (.bool k') s := by
  subst e
  exact ⟨.bl k, H, I, rfl, q⟩
theorem op_lt : OpR X (compareOp .Lt) (rI0 fun i j => .bl (decide (i < j))) := opB0 fun _ _ _ _ _ _ _ q => lt_int q
theorem op_le : OpR X (compareOp .LtE) (rI0 fun i j => .bl (decide (i ≤ j))) := opB0 fun _ _ _ _ _ _ _ q => le_int q
theorem op_gt : OpR X (compareOp .Gt) (rI0 fun i j => .bl (decide (j < i))) := opB0 fun _ _ _ _ _ _ _ q => gt_int q
theorem op_notN : OpR X (compareOp .IsNot) (fun x y H Q => y = .non ∧ Q (.bl (!decide (x = .non))) H) := by
  intro pins s σ H x y v u Q I rx ry h
  obtain ⟨rfl, q⟩ := h
  cases ry
  refine isnot_none_gen (fin_bl I q ?_)
  cases x <;> first
    | (cases rx; rfl)
    | (obtain ⟨t, rfl⟩ := rx; rfl)

/-- is, is not of two objects that are tracked lists or instances -/
def isObj : HO → Bool
  | .lst _ => true
  | .ins _ _ _ => true
  | _ => false
/-- two rules for one operation: by cases -/
theorem OpR.or {f : Value → Value → Sem Value} {r r' : R2} (h : OpR X f r) (h' : OpR X f r') : OpR X f (fun x y H Q => r x y H Q ∨ r' x y H Q) := by
  intro pins s σ H x y v u Q I rx ry q
  rcases q with q | q
  · exact h pins s σ H x y v u Q I rx ry q
  · exact h' pins s σ H x y v u Q I rx ry q

theorem nomark (b : Expr) {op : CmpOp} (h : op ≠ .In := by decide) (h2 : op ≠ .NotIn := by decide) : behindInMarks op b = false := by
  have e1 : (op == CmpOp.In) = false := by cases op <;> first | rfl | exact absurd rfl h
  have e2 : (op == CmpOp.NotIn) = false := by cases op <;> first | rfl | exact absurd rfl h2
  cases b <;> simp [behindInMarks, e1, e2]
/-- a comparison as a value; hm: nomark b, or (for in, not in) by with_unfolding_all rfl -/
theorem pe_cmpR {op : CmpOp} {r : R2} (ho : OpR X (compareOp op) r) (ha : PE X a ta) (hb : PE X b tb) (hm : behindInMarks op b = false) : PE X (.Compare a [op] [b] pos) (tOp r ta tb) := by
  intro pins s σ H Q I h
  exact wpAny_Compare1 (binT ha hb I h fun v u s2 x y H2 I2 rx ry q => ho pins s2 σ H2 x y v u Q I2 rx ry q) hm
/-- a reading of a value as a test -/
def tTest (t : TE) : TT := fun σ H Q => t σ H fun x H' => ∃ k, x = .bl k ∧ Q k H'
theorem pt_cmpR {op : CmpOp} {r : R2} (ho : OpR X (compareOp op) r) (ha : PE X a ta) (hb : PE X b tb) (hm : behindInMarks op b = false) : PT X (.Compare a [op] [b] pos) (tTest (tOp r ta tb)) := by
  intro pins s σ H Q I h
  refine wpAny_isTrue_Compare1 (thn (ha pins s σ H _ I h) fun v s1 ⟨x, H1, I1, r1, q1⟩ => thn (hb pins s1 σ H1 _ I1 q1) fun u s2 ⟨y, H2, I2, r2, q2⟩ =>
    thn (ho pins s2 σ H2 x y v u _ I2 r1 r2 q2) fun c s3 ⟨z, H3, I3, r3, k, e, q3⟩ => ?_) hm
  subst e
  cases r3
  exact wpAny_truthy_bool ⟨H3, I3, q3⟩
/-- a op1 b op2 c -/
def tChain (r r' : R2) (ta tb tc : TE) : TE := fun σ H Q => ta σ H fun x H1 => tb σ H1 fun y H2 => r x y H2 fun z H3 => ∃ k, z = .bl k ∧
  (if k = true then tc σ H3 fun w' H4 => r' y w' H4 Q else Q (.bl false) H3)
theorem pe_chain {op op' : CmpOp} {r r' : R2} (ho : OpR X (compareOp op) r) (ho' : OpR X (compareOp op') r') (ha : PE X a ta) (hb : PE X b tb) (hc : PE X c tc)
    (hm : lastMarks [op, op'] [b, c] = false := by with_unfolding_all rfl) : PE X (.Compare a [op, op'] [b, c] pos) (tChain r r' ta tb tc) := by
  intro pins s σ H Q I h
  refine Compare_chain (thn (ha pins s σ H _ I h) fun v s1 ⟨x, H1, I1, r1, q1⟩ => chain_link (thn (hb pins s1 σ H1 _ I1 q1) fun u s2 ⟨y, H2, I2, r2, q2⟩ =>
    thn (ho pins s2 σ H2 x y v u _ I2 r1 r2 q2) fun d s3 ⟨z, H3, I3, r3, k, e, q3⟩ => ?_)) hm
  subst e
  cases r3
  refine wpAny_truthy_bool ?_
  cases k with
  | false => exact ite_ff ⟨.bl false, H3, I3, rfl, q3⟩
  | true => exact ite_tt (chain_last (thn (hc pins s3 σ H3 _ I3 q3) fun w' s4 ⟨z', H4, I4, r4, q4⟩ => ho' pins s4 σ H4 y z' u w' Q I4 r2 r4 q4))
theorem pt_chain {op op' : CmpOp} {r r' : R2} (ho : OpR X (compareOp op) r) (ho' : OpR X (compareOp op') r') (ha : PE X a ta) (hb : PE X b tb) (hc : PE X c tc)
    (hm : lastMarks [op, op'] [b, c] = false := by with_unfolding_all rfl) : PT X (.Compare a [op, op'] [b, c] pos) (tTest (tChain r r' ta tb tc)) := by
  intro pins s σ H Q I h
  refine isTrue_chain (thn (ha pins s σ H _ I h) fun v s1 ⟨x, H1, I1, r1, q1⟩ => test_link (thn (hb pins s1 σ H1 _ I1 q1) fun u s2 ⟨y, H2, I2, r2, q2⟩ =>
    thn (ho pins s2 σ H2 x y v u _ I2 r1 r2 q2) fun d s3 ⟨z, H3, I3, r3, k, e, q3⟩ => ?_)) hm
  subst e
  cases r3
  refine wpAny_truthy_bool ?_
  cases k with
  | false =>
    obtain ⟨k', e', q'⟩ := q3
    cases e'
    exact ite_ff ⟨H3, I3, q'⟩
  | true =>
    refine ite_tt (test_last (thn (hc pins s3 σ H3 _ I3 q3) fun w' s4 ⟨z', H4, I4, r4, q4⟩ => thn (ho' pins s4 σ H4 y z' u w' _ I4 r2 r4 q4) fun d' s5 ⟨z2, H5, I5, r5, k2, e2, q5⟩ => ?_))
    subst e2
    cases r5
    exact wpAny_truthy_bool ⟨H5, I5, q5⟩


/-- a value's truth by the abstract heap -/
def TruV (K : PySem.W.Frag) (x : V) (H : Hp) (k : Bool) : Prop :=
  match x with
  | .non => k = false
  | .bl b => k = b
  | .int i => k = (i != 0)
  | .str y => y.length ≤ sizeLine ∧ k = ((y.length : Int) != 0)
  | .byt y => y.size ≤ sizeLine ∧ k = ((y.size : Int) != 0)
  | .ref p => (∃ xs, SqL K H p xs ∧ k = !xs.isEmpty) ∨ (∃ xs, SqT K H p xs ∧ k = !xs.isEmpty) ∨ ∃ kvs, H p = some (.dK kvs) ∧ k = !kvs.isEmpty
  | _ => False
theorem isEmpty_kv {κ : Type} {kvs : List (κ × V)} {vs : List (κ × Value)} (r : KV kvs vs) : (!vs.isEmpty) = !kvs.isEmpty := by
  cases r <;> rfl
theorem isEmpty_of {xs : List V} {its : List Value} (r : Vals xs its) : (!its.toArray.isEmpty) = !xs.isEmpty := by
  cases r <;> simp
theorem line63 : (sizeLine : Nat) < 2 ^ 63 := by rw [sizeLine_eq]; decide
theorem tru_ok : TruR X (fun x H Q => ∃ k, TruV X.K x H k ∧ Q k H) := by
  intro pins s σ H x v Q I rx h
  obtain ⟨k, e, q⟩ := h
  have hl := line63
  have hs : sizeLine = 16777216 := sizeLine_eq
  cases x with
  | non =>
    cases rx
    have e' : k = false := e
    subst e'
    exact truthy_none ⟨H, I, q⟩
  | bl b =>
    cases rx
    have e' : k = b := e
    subst e'
    exact wpAny_truthy_bool ⟨H, I, q⟩
  | int i =>
    obtain ⟨t, rfl⟩ := rx
    have e' : k = (i != 0) := e
    subst e'
    exact PySem.P.truthy_int ⟨H, I, q⟩
  | str y =>
    obtain ⟨t, rfl⟩ := rx
    obtain ⟨hy, e'⟩ : y.length ≤ sizeLine ∧ k = ((y.length : Int) != 0) := e
    subst e'
    exact PySem.P.truthy_str (by omega) ⟨H, I.tok _, q⟩
  | byt y =>
    obtain ⟨t, rfl⟩ := rx
    obtain ⟨hy, e'⟩ : y.size ≤ sizeLine ∧ k = ((y.size : Int) != 0) := e
    subst e'
    exact PySem.W.truthy_bytes (by omega) ⟨H, I.tok _, q⟩
  | ref p =>
    cases rx
    have e' : (∃ xs, SqL X.K H p xs ∧ k = !xs.isEmpty) ∨ (∃ xs, SqT X.K H p xs ∧ k = !xs.isEmpty) ∨ ∃ kvs, H p = some (.dK kvs) ∧ k = !kvs.isEmpty := e
    rcases e' with ⟨xs, hx, e'⟩ | ⟨xs, hx, e'⟩ | ⟨kvs, hx, e'⟩
    · subst e'
      obtain ⟨its, r, pl, hz⟩ := I.list hx
      have hlen := r.length
      exact wpAny_truthy_list pl.isList (by simp only [List.size_toArray]; omega) ⟨H, I.tok _, by rw [isEmpty_of r]; exact q⟩
    · subst e'
      obtain ⟨its, r, pl, hz⟩ := I.tuple hx
      have hlen := r.length
      exact truthy_tuple pl (by simp only [List.size_toArray]; omega) ⟨H, I.tok _, by rw [isEmpty_of r]; exact q⟩
    · subst e'
      obtain ⟨hz, hS, vs, r, m⟩ : kvs.length ≤ sizeLine ∧ (p == sysModules) = false ∧ ∃ vs, KV kvs vs ∧ s.heap.DictOf (mixKind X.prog X.w) p vs := I.hok p _ hx
      have hlen : kvs.length = vs.length := Paired.length r
      exact wpAny_truthy_dict hS m (by omega) ⟨H, I.tok _, by rw [isEmpty_kv r]; exact q⟩
  | _ => exact (show False from e).elim
/-- any expression whose test is its value's truth (a name, a call, a subscript, a field ..: he by fun _ => rfl) -/
theorem pt_truth (ha : PE X a ta) (he : ∀ whole, isTrue a X.env whole = (do let v ← whole; standAt a.pos; holding [v] (truthy v))) :
    PT X a (fun σ H Q => ta σ H fun x H' => ∃ k, TruV X.K x H' k ∧ Q k H') := by
  intro pins s σ H Q I h
  exact isTrue_plain (thn (ha pins s σ H _ I h) fun v s1 ⟨x, H1, I1, r1, q1⟩ => tru_ok pins s1 σ H1 x v Q I1 r1 q1) (he _)


theorem op_add_str : OpR X (binaryOp .Add) (fun x y H Q => ∃ i j, x = .str i ∧ y = .str j ∧ i.length + j.length ≤ sizeLine ∧ Q (.str (i ++ j)) H) := by
  intro pins s σ H x y v u Q I rx ry h
  obtain ⟨i, j, rfl, rfl, hz, q⟩ := h
  obtain ⟨t, rfl⟩ := rx
  obtain ⟨t', rfl⟩ := ry
  exact add_str (fun t' tk => ⟨.str (i ++ j), H, I.tok _, ⟨_, rfl⟩, q⟩) hz
def PlainIxT (b : Expr) : Prop := ∀ o i, subscripted b false o i = operate [o, i] (getItem o i)
theorem vals1 {x : V} {us : List Value} (r : Vals [x] us) : ∃ u, us = [u] ∧ RelV x u := by
  cases r with
  | cons r1 r2 => cases r2; exact ⟨_, rfl, r1⟩
theorem vals2 {x y : V} {us : List Value} (r : Vals [x, y] us) : ∃ u w', us = [u, w'] ∧ RelV x u ∧ RelV y w' := by
  cases r with
  | cons r1 r2 =>
    cases r2 with
    | cons r3 r4 => cases r4; exact ⟨_, _, rfl, r1, r3⟩
theorem call_max2 (hc : X.calm = true) : CallR X (.builtin "max") (fun xs H Q => ∃ i j, xs = [.int i, .int j] ∧ Q (.int (if j > i then j else i)) H) := by
  intro pins s σ H xs us Q I r h
  obtain ⟨i, j, rfl, q⟩ := h
  obtain ⟨u, w', rfl, ⟨t, rfl⟩, ⟨t', rfl⟩⟩ := vals2 r
  refine max_two_ints (I.ok.hd hc) fun h' tk k => ⟨_, H, I.kept k, ?_, q⟩
  by_cases hj : j > i
  · rw [if_pos hj, if_pos hj]; exact ⟨_, rfl⟩
  · rw [if_neg hj, if_neg hj]; exact ⟨_, rfl⟩
theorem call_min2 (hc : X.calm = true) : CallR X (.builtin "min") (fun xs H Q => ∃ i j, xs = [.int i, .int j] ∧ Q (.int (if j < i then j else i)) H) := by
  intro pins s σ H xs us Q I r h
  obtain ⟨i, j, rfl, q⟩ := h
  obtain ⟨u, w', rfl, ⟨t, rfl⟩, ⟨t', rfl⟩⟩ := vals2 r
  refine min_two_ints (I.ok.hd hc) fun h' tk k => ⟨_, H, I.kept k, ?_, q⟩
  by_cases hj : j < i
  · rw [if_pos hj, if_pos hj]; exact ⟨_, rfl⟩
  · rw [if_neg hj, if_neg hj]; exact ⟨_, rfl⟩
theorem call_int1 : CallR X (.type "int") (fun xs H Q => (∃ i, xs = [.int i] ∧ Q (.int i) H) ∨ ∃ k, xs = [.bl k] ∧ Q (.int (if k then 1 else 0)) H) := by
  intro pins s σ H xs us Q I r h
  rcases h with ⟨i, rfl, q⟩ | ⟨k, rfl, q⟩
  · obtain ⟨u, rfl, t, rfl⟩ := vals1 r
    exact call_int_int ⟨.int i, H, I, ⟨_, rfl⟩, q⟩
  · obtain ⟨u, rfl, r1⟩ := vals1 r
    cases r1
    exact call_int_bool ⟨.int (if k then 1 else 0), H, I.tok _, ⟨_, rfl⟩, q⟩
/-- len of a str, a bytes, a list, a tuple -/
def LenV (K : PySem.W.Frag) (x : V) (H : Hp) (n : Nat) : Prop :=
  match x with
  | .str y => y.length ≤ sizeLine ∧ n = y.length
  | .byt y => y.size ≤ sizeLine ∧ n = y.size
  | .ref p => (∃ xs, SqL K H p xs ∧ n = xs.length) ∨ ∃ xs, SqT K H p xs ∧ n = xs.length
  | _ => False
end
end L2

namespace L2
open PySem PySem.Spec PyProof.Rows


structure ObjM (h : Heap) (x dx C : Addr) (mA : Str → Option Value) : Prop where
  obj : h.get? x = some (PySem.W.instObj C dx)
  ns : h.Ns1 dx mA
  ne : dx ≠ x

theorem lookIn_ns {h : Heap} {dx : Addr} {mA : Str → Option Value} (n : h.Ns1 dx mA) : ∃ od, h.get? dx = some od ∧ ∀ name, PySem.W.lookIn name od = some (mA name) := by
  obtain ⟨o, es, ep, ho, hd, hk, _, hm⟩ := n
  refine ⟨o, ho, fun name => ?_⟩
  have e := hm name
  unfold nsFind findBy at e
  rw [← Array.find?_toList] at e
  unfold PySem.W.lookIn
  rw [hd]
  dsimp only
  split
  · rename_i y q
    rw [q] at e
    exact congrArg some e
  · rename_i q
    rw [q] at e
    have a : es.toList.any (·.refKey) = false := by
      rw [List.any_eq_false]
      intro y hy
      obtain ⟨z, t, hkey⟩ := hk y (Array.mem_toList_iff.mp hy)
      simp [DictEntry.refKey, hkey]
    have a' : ¬ es.toList.any (·.refKey) = true := by rw [a]; exact Bool.false_ne_true
    rw [if_neg a']
    exact congrArg some e

theorem ObjM.look {h : Heap} {x dx C : Addr} {mA : Str → Option Value} (I : ObjM h x dx C mA) : ∃ od, PySem.W.InstAt h x (PySem.W.instObj C dx) C (some od) ∧ ∀ name, PySem.W.lookIn name od = some (mA name) :=
  let ⟨od, ho, hl⟩ := lookIn_ns I.ns
  ⟨od, ⟨I.obj, rfl, rfl, ho⟩, hl⟩

section
variable {prog : Program} {w : World} {A : Around} {E : Value → Shared → Prop} {s : Shared} {K : PySem.W.Frag} {x dx C f : Addr} {mA : Str → Option Value} {name : Str} {v : Value}

end


def putF (f : Str) (v : V) : List (Str × V) → List (Str × V)
  | [] => [(f, v)]
  | (g, x) :: r => if g = f then (g, v) :: r else (g, x) :: putF f v r
section
variable {P : Program} {w : World} {H H' : Hp} {h h' : Heap} {a C dx : Addr} {fs fs' : List (Str × V)}
theorem ins_get (hok : HOk P w H h) (e : H a = some (.ins C dx fs)) : ∃ mA, ObjM h a dx C mA ∧ (∀ f, RelO (fs.lookup f) (mA f)) ∧ PySem.Within mA (fs.map (·.1)) ∧ fs.length ≤ 1000 ∧ H dx = some (.own a) := by
  obtain ⟨d, z, ne, ob, mA, n, r, q⟩ := (show ObjOk P w H h a (.ins C dx fs) from hok a _ e)
  exact ⟨mA, ⟨ob, n, ne⟩, r, q, z, d⟩
end


structure Cls (K : PySem.W.Frag) (C : Addr) : Prop where
  pg : PySem.W.plainGet K C Str.empty = true
  hd : PySem.W.hasDictIn K C = true
  po : PySem.W.plainOver K C = true
  sa : PySem.W.findIn K (.ref C) "__setattr__" = some (some (.builtin "object.__setattr__"))
theorem Cls.get {K : PySem.W.Frag} {C : Addr} (c : Cls K C) (f : Str) : PySem.W.plainGet K C f = true := c.pg
/-- no class of it has the name -/
def NoAttr (K : PySem.W.Frag) (C : Addr) (f : Str) : Prop := PySem.W.findIn K (.ref C) f = some none
/-- a constant of the class -/
structure Con (K : PySem.W.Frag) (C : Addr) (f : Str) (v : V) (u : Value) : Prop where
  at_ : PySem.W.findIn K (.ref C) f = some (some u)
  rel : RelV v u
  get : PySem.W.specialIn K u "__get__" = some none
  cp : PySem.W.copiedNames.contains f = false
/-- a method: a plain def of the class or of one above it -/
structure Meth (K : PySem.W.Frag) (C : Addr) (m : Str) (f : Addr) : Prop where
  at_ : PySem.W.findIn K (.ref C) m = some (some (.ref f))
  fn : PySem.W.isFn K (.ref f) = true
  kp : PySem.W.keepIn K (.ref f) = true

section
variable {X : Cx} {pins : List (Addr × Obj)} {σ : St} {H : Hp} {s : Shared} {a C dx : Addr} {fs : List (Str × V)} {f : Str} {v : V} {A : Around} {E : Value → Shared → Prop}

/-- a new instance, tracked, without attributes -/
theorem Inv.made (I : Inv X pins σ H s) : Inv X pins σ (upd (upd H s.heap.objs.size (.own (s.heap.objs.size + 1))) (s.heap.objs.size + 1) (.ins C s.heap.objs.size []))
    { s with heap := (s.heap.push PySem.W.emptyDict).push (PySem.W.instObj C s.heap.objs.size) } := by
  have e1 : (s.heap.push PySem.W.emptyDict).get? s.heap.objs.size = some PySem.W.emptyDict := Heap.get?_push_size s.heap rfl
  have e2 : ((s.heap.push PySem.W.emptyDict).push (PySem.W.instObj C s.heap.objs.size)).get? (s.heap.objs.size + 1) = some (PySem.W.instObj C s.heap.objs.size) := by
    have := Heap.get?_push_size (s.heap.push PySem.W.emptyDict) (o := PySem.W.instObj C s.heap.objs.size) rfl
    rwa [Heap.size_push] at this
  have e3 : (s.heap.push PySem.W.emptyDict).Ns s.heap.objs.size (fun _ => none) := ⟨PySem.W.emptyDict, #[], _, e1, rfl, (fun e he => absurd he (by simp)), fun _ => rfl⟩
  have I1 := I.laid (a := s.heap.objs.size) (o := .own (s.heap.objs.size + 1)) (h' := s.heap.push PySem.W.emptyDict) (t' := s.toks) (fun b u q => Heap.get?_push_of_some _ q) (Nat.le_refl _) ⟨_, e1⟩
  refine I1.laid (a := s.heap.objs.size + 1) (o := .ins C s.heap.objs.size []) (t' := s.toks) (fun b u q => Heap.get?_push_of_some _ q) (Nat.le_of_eq (Heap.size_push _ _)) ?_
  have ne : s.heap.objs.size ≠ s.heap.objs.size + 1 := Nat.ne_of_lt (Nat.lt_succ_self _)
  refine ⟨by rw [upd_ne ne, upd_same], Nat.zero_le _, ne, e2, fun _ => none, (Heap.Ns1.of_empty e3).at fun o q => Heap.get?_push_of_some _ q, fun _ => True.intro, fun y hy => absurd rfl hy⟩

end


/-- e.f, an attribute of the instance -/
def tFld (K : PySem.W.Frag) (ta : TE) (f : Str) : TE := fun σ H Q => ta σ H fun x H1 => ∃ a C dx fs v, x = .ref a ∧ H1 a = some (.ins C dx fs) ∧ Cls K C ∧ NoAttr K C f ∧ fs.lookup f = some v ∧ Q v H1
/-- e.f, a constant of the class -/
def tCon (K : PySem.W.Frag) (ta : TE) (f : Str) : TE := fun σ H Q => ta σ H fun x H1 => ∃ a C dx fs v u, x = .ref a ∧ H1 a = some (.ins C dx fs) ∧ Cls K C ∧ Con K C f v u ∧ fs.lookup f = none ∧ Q v H1
/-- e.f = value -/
def sFld (K : PySem.W.Frag) (ta tv : TE) (f : Str) : TS := fun D σ H => tv σ H fun y H1 => ta σ H1 fun x H2 => ∃ a C dx fs, x = .ref a ∧ H2 a = some (.ins C dx fs) ∧ Cls K C ∧ NoAttr K C f ∧ fs.length < 1000 ∧
  D.nx σ (upd H2 a (.ins C dx (putF f y fs)))
/-- an augmented operator on two values -/
def InOp (X : Cx) (op : Operator) (rd : V → V → Hp → VK → Prop) : Prop :=
  ∀ (pins : List (Addr × Obj)) (s : Shared) (σ : St) (H : Hp) (x y : V) (u v : Value) (Q : VK), Inv X pins σ H s → RelV x u → RelV y v → rd x y H Q → wpAny (model X.prog X.w) X.A (inplaceOp op u v) (EP X pins σ Q) X.xe s
/-- e.f op= value -/
def sFldAug (K : PySem.W.Frag) (ta tv : TE) (rd : V → V → Hp → VK → Prop) (f : Str) : TS := fun D σ H => ta σ H fun x H1 => ∃ a C dx fs v, x = .ref a ∧ H1 a = some (.ins C dx fs) ∧ Cls K C ∧ NoAttr K C f ∧ fs.lookup f = some v ∧
  tv σ H1 fun y H2 => rd v y H2 fun z H3 => ∃ dx' fs', H3 a = some (.ins C dx' fs') ∧ fs'.length < 1000 ∧ D.nx σ (upd H3 a (.ins C dx' (putF f z fs')))

section
variable {X : Cx} {o e value : Expr} {f : Str} {pos pos' tpos : Pos} {ta tv : TE}
def rAdd : V → V → Hp → VK → Prop := fun x y H Q => ∃ i j, x = .int i ∧ y = .int j ∧ Q (.int (i + j)) H
def rSub : V → V → Hp → VK → Prop := fun x y H Q => ∃ i j, x = .int i ∧ y = .int j ∧ Q (.int (i - j)) H
end


section
variable {X : Cx} {pins : List (Addr × Obj)} {σ : St} {H : Hp} {s : Shared} {A : Around} {E : Value → Shared → Prop} {Q : Value → Shared → Prop} {c : Value} {b : Bool}
/-- the type of a value, as the fragment's deciders take it; for an instance its class -/
inductive TyOf (K : PySem.W.Frag) (H : Hp) : V → Value → Prop where
  | non : TyOf K H .non (.type "NoneType")
  | bl (x : Bool) : TyOf K H (.bl x) (.type "bool")
  | int (i : Int) : TyOf K H (.int i) (.type "int")
  | str (x : Str) : TyOf K H (.str x) (.type "str")
  | flt (x : UInt64) : TyOf K H (.flt x) (.type "float")
  | lst {a : Addr} {xs : List V} (e : H a = some (.lst xs)) : TyOf K H (.ref a) (.type "list")
  | frz {a : Addr} {o : Obj} {xs : List V} (e : H a = some (.frz o (.lst xs))) : TyOf K H (.ref a) (.type "list")
  | tup {a : Addr} {xs : List V} (e : H a = some (.tup xs)) : TyOf K H (.ref a) (.type "tuple")
  | dK {a : Addr} {kvs : List (Key × V)} (e : H a = some (.dK kvs)) : TyOf K H (.ref a) (.type "dict")
  | dT {a : Addr} {kvs : List (List Key × V)} (e : H a = some (.dT kvs)) : TyOf K H (.ref a) (.type "dict")
  | ins {a C dx : Addr} {fs : List (Str × V)} (e : H a = some (.ins C dx fs)) (cl : Cls K C) (ha : PySem.W.findIn K (.ref C) "__class__" = some (some (.builtin "object.__class__")))
      (hn : PySem.W.specialIn K (.builtin "object.__class__") "__get__" = some (some (.builtin "getset_descriptor.__get__"))) (htk : PySem.W.takesIn K (.builtin "object.__class__") = some true)
      (hm : PySem.W.mroIn K C (.type "object") = some true) : TyOf K H (.ref a) (.ref C)
/-- isinstance(x, c) for one class c, a built-in or an own one: kitOne's answer -/
theorem isinst_ok {x : V} {u t : Value} (I : Inv X pins σ H s) (rx : RelV x u) (ty : TyOf X.K H x t) (e : PySem.W.kitOne X.K t c = some b) (h : ∀ tk, Q (.bool b) { s with toks := tk }) :
    wpAny (model X.prog X.w) A (call (.builtin "isinstance") [u, c]) Q E s := by
  cases ty with
  | non => cases (show u = Value.none from rx); exact PySem.W.kia_one PySem.W.kitx_none I.kIn True.intro e (fun z => nomatch z) h
  | bl y => cases (show u = Value.bool y from rx); exact PySem.W.kia_one PySem.W.kitx_bool I.kIn True.intro e (fun z => nomatch z) h
  | int i => obtain ⟨t, q⟩ := (show ∃ t, u = Value.int i t from rx); cases q; exact PySem.W.kia_one PySem.W.kitx_int I.kIn True.intro e (fun z => nomatch z) h
  | str y => obtain ⟨t, q⟩ := (show ∃ t, u = Value.str y t from rx); cases q; exact PySem.W.kia_one PySem.W.kitx_str I.kIn True.intro e (fun z => nomatch z) h
  | flt y => obtain ⟨t, q⟩ := (show ∃ t, u = Value.float y t from rx); cases q; exact PySem.W.kia_one PySem.W.kitx_float I.kIn True.intro e (fun z => nomatch z) h
  | @lst a xs ea =>
    cases (show u = Value.ref a from rx)
    obtain ⟨_, _, n, _, h1⟩ := (show ObjOk X.prog X.w H s.heap a (.lst xs) from I.hok a _ ea)
    exact PySem.W.kia_one PySem.W.kitx_list I.kIn ⟨_, h1, rfl⟩ e (fun z => nomatch z) h
  | @frz a ob xs ea =>
    cases (show u = Value.ref a from rx)
    obtain ⟨_, _, _, n, _, h1⟩ := (show ObjOk X.prog X.w H s.heap a (.frz ob (.lst xs)) from I.hok a _ ea)
    exact PySem.W.kia_one PySem.W.kitx_list I.kIn ⟨_, h1, rfl⟩ e (fun z => nomatch z) h
  | @tup a xs ea =>
    cases (show u = Value.ref a from rx)
    obtain ⟨_, _, _, p⟩ := (show ObjOk X.prog X.w H s.heap a (.tup xs) from I.hok a _ ea)
    obtain ⟨o, h1, h2, _⟩ := p
    exact PySem.W.kia_one PySem.W.kitx_tuple I.kIn ⟨o, h1, h2⟩ e (fun z => nomatch z) h
  | @dK a kvs ea =>
    cases (show u = Value.ref a from rx)
    obtain ⟨_, _, vs, _, p⟩ := (show ObjOk X.prog X.w H s.heap a (.dK kvs) from I.hok a _ ea)
    obtain ⟨o, es, ep, h1, h2, _⟩ := p
    exact PySem.W.kia_one PySem.W.kitx_dict I.kIn ⟨o, h1, h2.1⟩ e (fun z => nomatch z) h
  | @dT a kvs ea =>
    cases (show u = Value.ref a from rx)
    obtain ⟨_, _, xs, _, o, es, ep, h1, h2, _⟩ := (show ObjOk X.prog X.w H s.heap a (.dT kvs) from I.hok a _ ea)
    exact PySem.W.kia_one PySem.W.kitx_dict I.kIn ⟨o, h1, h2.1⟩ e (fun z => nomatch z) h
  | @ins a C dx fs ea cl ha hn htk hm =>
    cases (show u = Value.ref a from rx)
    obtain ⟨mA, O, _⟩ := ins_get I.hok ea
    obtain ⟨od, J, _⟩ := O.look
    exact PySem.W.kia_one (PySem.W.kitx_own (cl.get _) cl.hd ha hn htk hm) I.kIn J e (fun z => nomatch z) h
end
end L2

namespace L2
open PySem PySem.Spec PyProof.Rows


structure Room (k : Nat) (A : Around) : Prop where
  hd : A.handled = none
  dp : A.depth + 3 * k + 5 < recursionLimit
  un : A.units + 16 * k + 200 < cLine
theorem Room.mono {j k : Nat} {A : Around} (r : Room k A) (h : j ≤ k) : Room j A := ⟨r.hd, by have := r.dp; omega, by have := r.un; omega⟩
theorem Room.deeper {k : Nat} {A : Around} (r : Room (k + 1) A) (env : Env) : Room k (A.deeper env) :=
  ⟨r.hd, by have := r.dp; show A.depth + 1 + 3 * k + 5 < _; omega, by have := r.un; show A.units + 3 + 16 * k + 200 < _; omega⟩
theorem Room.in1 {k : Nat} {A : Around} (r : Room (k + 1) A) : Room k A.in1 :=
  ⟨r.hd, by have := r.dp; show A.depth + 3 * k + 5 < _; omega, by have := r.un; show A.units + 1 + 16 * k + 200 < _; omega⟩
theorem Room.depth {k : Nat} {A : Around} (r : Room k A) : A.depth < recursionLimit := by have := r.dp; omega
theorem Room.units {k : Nat} {A : Around} (r : Room k A) : A.units + 64 < cLine := by have := r.un; omega
def tNil : TA := fun _ H Q => Q [] H
def tCons (ta : TE) (tr : TA) : TA := fun σ H Q => ta σ H fun x H1 => tr σ H1 fun xs H2 => Q (x :: xs) H2
section
variable {X : Cx} {e : Expr} {es : List Expr} {te : TE} {t : TA} {pos : Pos}
theorem pa_nil : PA X [] tNil := fun _ _ _ _ H Q I h => Calls.spliced_nil ⟨[], H, I, .nil, h⟩
theorem pa_cons (ha : PE X e te) (hr : PA X es t) (hs : starEach (e :: es) X.env = (false, eval e X.env) :: starEach es X.env := by rfl) : PA X (e :: es) (tCons te t) := by
  intro pos pins s σ H Q I h
  rw [hs]
  show wpAny _ _ (spliced ((false, eval e X.env) :: backTo pos (starEach es X.env))) _ _ s
  refine Calls.spliced_cons (thn (ha pins s σ H _ I h) fun u s1 ⟨x, H1, I1, r1, q1⟩ => ?_)
  exact thn (hr pos pins s1 σ H1 _ I1 q1) fun us s2 ⟨xs, H2, I2, r2, q2⟩ => ⟨x :: xs, H2, I2, .cons r1 r2, q2⟩

/-- a tuple, a list of written items -/
def tTup (t : TA) : TE := fun σ H Q => t σ H fun xs H1 => xs.length ≤ sizeLine ∧ ∀ p, H1 p = none → Q (.ref p) (upd H1 p (.tup xs))
def tLst (t : TA) : TE := fun σ H Q => t σ H fun xs H1 => xs.length ≤ sizeLine ∧ ∀ p, H1 p = none → Q (.ref p) (upd H1 p (.lst xs))
theorem pe_tup {x1} (h : PA X es t) : PE X (.Tuple es x1 pos) (tTup t) := by
  intro pins s σ H Q I hq
  refine wpAny_Tuple_spliced (thn (h pos pins s σ H _ I hq) fun us s1 ⟨xs, H1, I1, r, z, q⟩ => ⟨by rw [← r.length]; exact z, ?_⟩)
  have hf : H1 s1.heap.objs.size = none := I1.hok.fresh (Nat.le_refl _)
  refine ⟨.ref s1.heap.objs.size, upd H1 s1.heap.objs.size (.tup xs), I1.laid (t' := s1.toks) (fun b u e => Heap.get?_push_of_some _ e) (Nat.le_refl _) ?_, rfl, q _ hf⟩
  exact ⟨z, us, r, ⟨_, Heap.get?_push_size _ rfl, rfl, _, rfl⟩⟩
theorem pe_lst (h : PA X es t) : PE X (.List es pos) (tLst t) := by
  intro pins s σ H Q I hq
  refine wpAny_List_spliced (thn (h pos pins s σ H _ I hq) fun us s1 ⟨xs, H1, I1, r, z, q⟩ => ⟨by rw [← r.length]; exact z, ?_⟩)
  have hf : H1 s1.heap.objs.size = none := I1.hok.fresh (Nat.le_refl _)
  refine ⟨.ref s1.heap.objs.size, upd H1 s1.heap.objs.size (.lst xs), I1.laid (t' := s1.toks) (fun b u e => Heap.get?_push_of_some _ e) (Nat.le_refl _) ?_, rfl, q _ hf⟩
  exact ⟨z, us, 0, r, Heap.get?_push_size _ rfl⟩
end


/-- a def's promise: the bound arguments in the parameters' order, the heap, the wanted end, the wanted exception -/
abbrev Sp := List V → Hp → VK → XK → Prop
/-- how an exception lies behind a call (file 08 gives it): the callers' frames, abstract heap and state ahead of the call, the wish, the exception, the state -/
abbrev CXT := List Env → Hp → Shared → XK → Value → Shared → Prop

/-- the state at a call -/
structure Env0 (P : Program) (w : World) (K : PySem.W.Frag) (mg : Str → Option Value) (base : Heap) (A : Around) (outer : List Env) (s : Shared) (H : Hp) : Prop where
  frames : A.frames = some outer
  mod : Mod K mg base
  bs : ∀ b o, base.get? b = some o → s.heap.get? b = some o ∧ H b = none
  bsz : base.objs.size ≤ s.heap.objs.size
  funs : s.heap.FunFrames base outer
  frf : ∀ b ∈ frs outer, H b = none
  hok : HOk P w H s.heap
  bare : AllBare s.gens
/-- a call's end -/
def CE (outer : List Env) (P : Program) (w : World) (H : Hp) (s : Shared) (Q : VK) (u : Value) (s' : Shared) : Prop :=
  ∃ v H', s'.os = s.os ∧ AllBare s'.gens ∧ Un (frs outer) [] H H' s.heap s'.heap ∧ HOk P w H' s'.heap ∧ RelV v u ∧ Q v H'
def CR (CX : CXT) (outer : List Env) (P : Program) (w : World) (H : Hp) (s : Shared) (Q : VK) (E : XK) (r : Result) (s' : Shared) : Prop :=
  match r with
  | .ok (.ret u) => CE outer P w H s Q u s'
  | .ok _ => False
  | .error e => CX outer H s E e s'
structure FnOk (P : Program) (w : World) (K : PySem.W.Frag) (mg : Str → Option Value) (base : Heap) (CX : CXT) (k : Nat) (f : Addr) (fd : FuncData) (ps : List Str) (sp : Sp) : Prop where
  len : ∀ vs H Q E, sp vs H Q E → vs.length = ps.length
  run : ∀ (A : Around) (outer : List Env) (s : Shared) (H : Hp) (args : Args) (us : List Value) (vs : List V) (Q : VK) (E : XK), Room k A → Env0 P w K mg base A outer s H → BindsTo s fd args (ps.zip us) → Vals vs us → sp vs H Q E →
    codeAny (model P w) A (.call (.ref f) args) (CR CX outer P w H s Q E) s
theorem FnOk.mono {P : Program} {w : World} {K : PySem.W.Frag} {mg : Str → Option Value} {base : Heap} {CX : CXT} {j k : Nat} {f : Addr} {fd : FuncData} {ps : List Str} {sp : Sp} (F : FnOk P w K mg base CX j f fd ps sp) (h : j ≤ k) :
    FnOk P w K mg base CX k f fd ps sp := ⟨F.len, fun A outer s H args us vs Q E hr => F.run A outer s H args us vs Q E (hr.mono h)⟩
theorem Env0.in1 {P : Program} {w : World} {K : PySem.W.Frag} {mg : Str → Option Value} {base : Heap} {A : Around} {outer : List Env} {s : Shared} {H : Hp} (e : Env0 P w K mg base A outer s H) :
    Env0 P w K mg base A.in1 outer s H := ⟨e.frames, e.mod, e.bs, e.bsz, e.funs, e.frf, e.hok, e.bare⟩

section
variable {X : Cx} {pins : List (Addr × Obj)} {σ : St} {H : Hp} {s s' : Shared}
/-- from a body: what a callee wants -/
theorem Inv.env0 (I : Inv X pins σ H s) : Env0 X.prog X.w X.K X.mg X.base X.A X.stack s H :=
  ⟨I.ok.frames, I.ok.mod, I.bs, Nat.le_trans I.ok.bsz I.sz, I.stack, I.stkFree, I.hok, I.bare⟩
/-- behind a call -/
theorem Inv.after {Q : VK} {u : Value} (I : Inv X pins σ H s) (h : CE X.stack X.prog X.w H s Q u s') : EP X pins σ Q u s' := by
  obtain ⟨v, H', os, bare, un, hok, r, q⟩ := h
  obtain ⟨hh, g, d, t, os'⟩ := s'
  obtain rfl : os' = s.os := os
  exact ⟨v, H', I.call (h' := hh) (g' := g) (d' := d) (t' := t) (ch := []) un hok bare (fun b z => absurd z (by simp)), r, q⟩
end


/-- f(..): the written arguments, then the defaults dvs; E: what is wanted of an exception -/
def tCall (sp : Sp) (dvs : List V) (E : XK) (t : TA) : TE := fun σ H Q => t σ H fun vs H1 => sp (vs ++ dvs) H1 Q E
/-- o.m(..) of an instance of the class at C -/
def tMeth (C : Addr) (m : Str) (sp : Sp) (dvs : List V) (E : XK) (ta : TE) (t : TA) : TE := fun σ H Q => ta σ H fun x H1 => ∃ a dx fs, x = .ref a ∧ H1 a = some (.ins C dx fs) ∧ fs.lookup m = none ∧
  t σ H1 fun vs H2 => sp (x :: (vs ++ dvs)) H2 Q E
/-- C(..): a new instance and its dict, then __init__ -/
def tMake (C : Addr) (sp : Sp) (dvs : List V) (E : XK) (t : TA) : TE := fun σ H Q => t σ H fun vs H1 => ∀ x dx, H1 x = none → H1 dx = none → dx ≠ x →
  sp (.ref x :: (vs ++ dvs)) (upd (upd H1 dx (.own x)) x (.ins C dx [])) (fun v H2 => v = .non ∧ Q (.ref x) H2) E

/-- how the parameters are bound: us the positional arguments, kw the keywords' values by name, ds the defaults that fill up -/
def Binds (K : PySem.W.Frag) (fd : FuncData) (ps : List Str) (ds : List Value) : Prop :=
  ∀ (s : Shared) (us : List Value), K.In s.heap → (us ++ ds).length = ps.length → BindsTo s fd ⟨us, []⟩ (ps.zip (us ++ ds))
/-- every parameter is given -/
theorem Binds.all {K : PySem.W.Frag} {fd : FuncData} {ps : List Str} (h : ∀ us : List Value, us.length = ps.length → bindArgs fd ⟨us, []⟩ = pure (ps.zip us)) : Binds K fd ps [] := fun s us _ hl => by
  rw [List.append_nil] at hl ⊢
  exact .of_eq (h us hl)

/-- an exception of a callee reaches what this body wants of exceptions -/
def Passes (CX : CXT) (X : Cx) (E : XK) : Prop := ∀ (pins : List (Addr × Obj)) (σ : St) (H : Hp) (s : Shared) (e : Value) (s' : Shared), Inv X pins σ H s → CX X.stack H s E e s' → X.xe e s'

section
variable {X : Cx} {CX : CXT} {k : Nat} {f C : Addr} {fd : FuncData} {ps : List Str} {sp : Sp} {dvs : List V} {ds : List Value} {E : XK} {x m : Str} {p pos apos : Pos} {e o : Expr} {es : List Expr} {ta : TE} {t : TA}

/-- the callee runs -/
theorem run_fn {pins : List (Addr × Obj)} {σ : St} {H : Hp} {s : Shared} {Q : VK} {us : List Value} {vs : List V} (F : FnOk X.prog X.w X.K X.mg X.base CX k f fd ps sp) (hr : Room k X.A) (hb : Binds X.K fd ps ds) (hd : Vals dvs ds) (hx : Passes CX X E)
    (I : Inv X pins σ H s) (r : Vals vs us) (h : sp (vs ++ dvs) H Q E) : wpAny (model X.prog X.w) X.A (call (.ref f) us) (EP X pins σ Q) X.xe s := by
  have r2 : Vals (vs ++ dvs) (us ++ ds) := r.append hd
  have hl : (us ++ ds).length = ps.length := by rw [← r2.length]; exact F.len _ _ _ _ h
  refine wpAny_call (codeAny_mono (F.run X.A X.stack s H ⟨us, []⟩ (us ++ ds) (vs ++ dvs) Q E hr I.env0 (hb s us I.kIn hl) r2 h) fun r s' hq => ?_)
  cases r with
  | error e => exact hx pins σ H s e s' I hq
  | ok fl =>
    cases fl with
    | ret u => exact I.after hq
    | next => exact False.elim hq
    | brk => exact False.elim hq
    | cont => exact False.elim hq

theorem pe_call (F : FnOk X.prog X.w X.K X.mg X.base CX k f fd ps sp) (hr : Room k X.A) (hg : Gl X x) (hm : X.mg x = some (.ref f)) (hk : PySem.W.keepIn X.K (.ref f) = true) (hb : Binds X.K fd ps ds) (hd : Vals dvs ds) (hx : Passes CX X E)
    (ha : PA X (e :: es) t) (hdb : (x == ("__debug__" : Str)) = false := by decide) (he : starEach (e :: es) X.env = (false, eval e X.env) :: starEach es X.env := by rfl) (hpl : (backTo pos (starEach es X.env)).any (·.1) = false := by rfl) :
    PE X (.Call (.Name x p) (e :: es) [] pos) (tCall sp dvs E t) := by
  intro pins s σ H Q I h
  refine wpAny_Call_Name_kw (ld_glob I hg hm ?_ hdb)
  refine PySem.W.callWith_K (h₀ := X.base) I.ok.mod.kin hk (thn (ha pos pins s σ H _ I h) fun us s1 ⟨vs, H1, I1, r, q⟩ => ⟨I1.kIn, ?_⟩) he hpl
  exact run_fn F hr hb hd hx I1 r q
/-- what a class must have to be made -/
structure Mk (K : PySem.W.Frag) (C f : Addr) : Prop where
  makes : PySem.W.makesIn K C = true
  init : PySem.W.findIn K (.ref C) "__init__" = some (some (.ref f))
  fn : PySem.W.isFn K (.ref f) = true
  kp : PySem.W.keepIn K (.ref C) = true

end


/-- the values of the keywords, from the left -/
def PK (X : Cx) (kws : List Keyword) (t : TA) : Prop :=
  ∀ (pos : Pos) (pins : List (Addr × Obj)) (s : Shared) (σ : St) (H : Hp) (Q : List V → Hp → Prop), Inv X pins σ H s → t σ H Q → wpAny (model X.prog X.w) X.A (evalAll ((backToKw pos (keywordEach kws X.env)).map (·.2))) (AP X pins σ Q) X.xe s
section
variable {X : Cx} {CX : CXT} {k : Nat} {f C : Addr} {fd : FuncData} {ps ks : List Str} {sp : Sp} {E : XK} {x m : Str} {p pos apos kpos : Pos} {e o : Expr} {es : List Expr} {kws : List Keyword} {te ta : TE} {t tk : TA} {nm : Option Str}
/-- how a call with keywords binds: g puts the positional values us and the keywords' values ws (names ks) in the parameters' order, defaults among them -/
structure KBinds (K : PySem.W.Frag) (fd : FuncData) (ps ks : List Str) (g : List Value → List Value → List Value) (gV : List V → List V → List V) : Prop where
  to : ∀ (s : Shared) (us ws : List Value), K.In s.heap → (g us ws).length = ps.length → BindsTo s fd ⟨us, ks.zip ws⟩ (ps.zip (g us ws))
  rel : ∀ {vs : List V} {us : List Value} {zs : List V} {ws : List Value}, Vals vs us → Vals zs ws → Vals (gV vs zs) (g us ws)
def tCallK (sp : Sp) (gV : List V → List V → List V) (E : XK) (t tk : TA) : TE := fun σ H Q => t σ H fun vs H1 => tk σ H1 fun zs H2 => sp (gV vs zs) H2 Q E
variable {g : List Value → List Value → List Value} {gV : List V → List V → List V}
end


/-- names: the parameters first -/
structure FnScope (N P : List Str) (sc : Scope) : Prop where
  kind : sc.kind = .function
  co : sc.isCoroutine = false
  gen : sc.isGenerator = false
  nd : N.Nodup
  pre : N.take P.length = P
  par : ∀ x ∈ P, sc.names.lookup x = some .local ∨ sc.names.lookup x = some .cell
  nofree : ∀ y ∈ sc.names, y.2 ≠ .free

theorem bindL_out {kindOf : Str → Option NameKind} {x : Str} : ∀ {binds : List (Str × Value)} {m : Str → Option Value}, (∀ v, (x, v) ∉ binds) → bindL kindOf binds m x = m x
  | [], _, _ => rfl
  | (n, v) :: r, m, h => by
    unfold bindL
    rw [bindL_out fun w hw => h w (List.mem_cons_of_mem _ hw)]
    split
    · have : x ≠ n := by rintro rfl; exact h v List.mem_cons_self
      simp [this]
    · rfl
theorem bindC_out {kindOf : Str → Option NameKind} {x : Str} : ∀ {binds : List (Str × Value)} {m : Str → Option Value}, (∀ v, (x, v) ∉ binds) → bindC kindOf binds m x = m x
  | [], _, _ => rfl
  | (n, v) :: r, m, h => by
    unfold bindC
    rw [bindC_out fun w hw => h w (List.mem_cons_of_mem _ hw)]
    split
    · rfl
    · have : x ≠ n := by rintro rfl; exact h v List.mem_cons_self
      simp [this]
theorem bindL_get {kindOf : Str → Option NameKind} {x : Str} {v : Value} : ∀ {P : List Str} {vs : List Value} {i : Nat} {m : Str → Option Value}, P.Nodup → P[i]? = some x → vs[i]? = some v → kindOf x = some .local →
    bindL kindOf (P.zip vs) m x = some v
  | [], _, _, _, _, h, _, _ => by simp at h
  | _ :: _, [], _, _, _, _, h, _ => by simp at h
  | p :: P, w :: vs, 0, m, nd, h1, h2, hk => by
    simp at h1 h2; subst h1; subst h2
    show bindL kindOf ((p, w) :: P.zip vs) m p = _
    unfold bindL
    rw [bindL_out fun v hv => (List.nodup_cons.mp nd).1 (List.of_mem_zip hv).1, if_pos hk]
    simp
  | p :: P, w :: vs, i + 1, m, nd, h1, h2, hk => by
    show bindL kindOf ((p, w) :: P.zip vs) m x = _
    unfold bindL
    exact bindL_get (i := i) (List.nodup_cons.mp nd).2 (by simpa using h1) (by simpa using h2) hk
theorem bindC_get {kindOf : Str → Option NameKind} {x : Str} {v : Value} : ∀ {P : List Str} {vs : List Value} {i : Nat} {m : Str → Option Value}, P.Nodup → P[i]? = some x → vs[i]? = some v → kindOf x ≠ some .local →
    bindC kindOf (P.zip vs) m x = some v
  | [], _, _, _, _, h, _, _ => by simp at h
  | _ :: _, [], _, _, _, _, h, _ => by simp at h
  | p :: P, w :: vs, 0, m, nd, h1, h2, hk => by
    simp at h1 h2; subst h1; subst h2
    show bindC kindOf ((p, w) :: P.zip vs) m p = _
    unfold bindC
    rw [bindC_out fun v hv => (List.nodup_cons.mp nd).1 (List.of_mem_zip hv).1, if_neg hk]
    simp
  | p :: P, w :: vs, i + 1, m, nd, h1, h2, hk => by
    show bindC kindOf ((p, w) :: P.zip vs) m x = _
    unfold bindC
    exact bindC_get (i := i) (List.nodup_cons.mp nd).2 (by simpa using h1) (by simpa using h2) hk

/-- the names' values at the entry -/
def start (N : List Str) (vs : List V) : St := vs.map some ++ List.replicate (N.length - vs.length) none

/-- the context of a def's body, at its entry; an exception leaves the frame, then lies as CX says -/
def cxOf (CX : CXT) (P : Program) (w : World) (K : PySem.W.Frag) (mg : Str → Option Value) (base : Heap) (N : List Str) (qual : Str) (scope : Scope) (f : Addr) (cd : Value) (A : Around) (outer : List Env) (s : Shared) (H : Hp) (E : XK) : Cx where
  prog := P
  w := w
  K := K
  mg := mg
  base := base
  A := A.deeper (envOfC qual scope s.heap.objs.size f cd)
  N := N
  s₀ := s
  H₀ := H
  env := envOfC qual scope s.heap.objs.size f cd
  outer := outer
  stack := envOfC qual scope s.heap.objs.size f cd :: outer
  ex := []
  calm := true
  fn := fun _ => true
  pn := []
  xe := fun e s' => wpAny (model P w) (A.deeper (envOfC qual scope s.heap.objs.size f cd)) (leaving (envOfC qual scope s.heap.objs.size f cd) e) (fun _ s'' => CX outer H s E e s'') (fun e' s'' => CX outer H s E e' s'') s'

theorem cell_has {sc : Scope} {n : Nat} {x : Str} (h : sc.names.lookup x = some .cell) : ∃ c, (cellsFrom n sc.names []).lookup x = some c := by
  have q := PySem.W.cellsFrom_some sc.names n [] (.inl h)
  exact Option.isSome_iff_exists.mp q

theorem inv_start {CX : CXT} {P : Program} {w : World} {K : PySem.W.Frag} {mg : Str → Option Value} {base : Heap} {N ps : List Str} {qual : Str} {scope : Scope} {f : Addr} {cd : Value} {A : Around} {outer : List Env} {s s1 : Shared} {H : Hp} {E : XK} {us : List Value} {vs : List V}
    (S : FnScope N ps scope) (hd : A.handled = none) (e0 : Env0 P w K mg base A outer s H) (hl : vs.length = ps.length) (r : Vals vs us)
    (x : InCallC s s.heap.objs.size (bindL (envOfC qual scope s.heap.objs.size f cd).kindOf (ps.zip us) fun _ => none) (cellsFrom (s.heap.objs.size + 1) scope.names []) (bindC (envOfC qual scope s.heap.objs.size f cd).kindOf (ps.zip us) fun _ => none) s1) :
    Inv (cxOf CX P w K mg base N qual scope f cd A outer s H E) [] (start N vs) H s1 := by
  have hpl : ps.length ≤ N.length := by have := congrArg List.length S.pre; rw [List.length_take] at this; omega
  obtain ⟨h1, tk, rfl, hk⟩ := x.done
  have noA : ∀ b : Addr, b ∉ (cxOf CX P w K mg base N qual scope f cd A outer s H E).ex := fun b z => absurd (show b ∈ ([] : List Addr) from z) (by simp)
  refine ⟨⟨e0.mod, S.kind, rfl, rfl, Nat.le_refl _, fun y z c h1 h2 => ?_, fun y hy => ?_, fun y c _ h => ?_, fun _ => hd, Around.frames_deeper e0.frames, .inr ⟨rfl, rfl⟩, fun b z => absurd z (noA b), e0.bs, e0.bsz, fun b _ _ => noA b, fun b z => absurd z (noA b), e0.funs, e0.frf⟩,
    rfl, e0.bare, Un.kept hk, ⟨_, x.toInCall.ns, fun i y v h1 h2 h3 => ?_⟩, fun y c h => ⟨_, x.cell y c h⟩, e0.hok.fresh (Nat.le_refl _), fun y c h => ?_, fun p hp => absurd (show p ∈ ([] : List (Addr × Obj)) from hp) (by simp), e0.hok.kept hk, ?_⟩
  · exact name_of_addr x.apart (PySem.mem_of_lookup h1) (PySem.mem_of_lookup h2)
  · have hy : scope.names.lookup y = some .cell ∨ scope.names.lookup y = some .free := hy
    rcases hy with hy | hy
    · exact cell_has hy
    · exact absurd rfl (S.nofree _ (PySem.mem_of_lookup hy))
  · exact Nat.le_of_lt (x.above y c (PySem.mem_of_lookup h))
  · have hi : i < vs.length := by
      unfold start at h2
      by_cases hi : i < vs.length
      · exact hi
      · rw [List.getElem?_append_right (by simpa using hi)] at h2
        rw [List.getElem?_replicate] at h2
        split at h2 <;> cases h2
    have ha : vs[i]? = some v := by
      unfold start at h2
      rw [List.getElem?_append_left (by simpa using hi), List.getElem?_map] at h2
      cases e : vs[i]? with
      | none => rw [e] at h2; cases h2
      | some a => rw [e] at h2; cases h2; rfl
    obtain ⟨u, hu, rv⟩ := r.get ha
    have hp : ps[i]? = some y := by
      rw [← S.pre, List.getElem?_take_of_lt (by omega)]; exact h1
    have ndP : ps.Nodup := by rw [← S.pre]; exact S.nd.sublist (List.take_sublist _ _)
    refine ⟨u, rv, ?_⟩
    rcases S.par y (List.mem_of_getElem? hp) with k | k
    · exact .inl ⟨k, bindL_get ndP hp hu k⟩
    · obtain ⟨c, e⟩ := cell_has (n := s.heap.objs.size + 1) k
      refine .inr ⟨.inl k, c, e, ?_⟩
      have q := x.cell y c e
      rw [bindC_get ndP hp hu (by show scope.names.lookup y ≠ _; rw [k]; decide)] at q
      exact q
  · exact e0.hok.fresh (Nat.le_of_lt (x.above y c (PySem.mem_of_lookup h)))
  · unfold start
    show _ = N.length
    rw [List.length_append, List.length_map, List.length_replicate]
    omega

/-- THE RULE: a def (or a method) of the text, by its body. The body's reading t is chosen for each entry; it is run at the parameters' values -/
theorem fn_of {CX : CXT} {P : Program} {w : World} {K : PySem.W.Frag} {mg : Str → Option Value} {base : Heap} {k : Nat} {f : Addr} {name qual : Str} {params : Arguments} {body : List Stmt} {scope : Scope} {dV kV doc pm cdv ct oc : Value} {an od : Option Addr}
    {osl : Array (Option Value)} {N ps : List Str} {sp : Sp} (lk : K.lookup f = some ⟨oc, od, .func (PySem.W.fnOf name qual params body scope dV kV doc pm an cdv ct), osl⟩) (hcd : PySem.W.codeIn K cdv qual = true) (S : FnScope N ps scope)
    (len : ∀ vs H Q E, sp vs H Q E → vs.length = ps.length)
    (hbody : ∀ (A : Around) (outer : List Env) (s : Shared) (H : Hp) (vs : List V) (Q : VK) (E : XK), Room k (A.deeper (envOfC qual scope s.heap.objs.size f cdv)) → sp vs H Q E →
      ∃ t, PSs (cxOf CX P w K mg base N qual scope f cdv A outer s H E) body t ∧ t { nx := fun _ H' => Q .non H', rt := Q } (start N vs) H) :
    FnOk P w K mg base CX (k + 1) f (PySem.W.fnOf name qual params body scope dV kV doc pm an cdv ct) ps sp := by
  refine ⟨len, fun A outer s H args us vs Q E hr e0 hb r hsp => ?_⟩
  have hl := len _ _ _ _ hsp
  have KX : K.In s.heap := e0.mod.kin.keeps fun b o e => (e0.bs b o e).1
  have lim : s.heap.NoLimit := e0.mod.nolimit.keeps fun b o e => (e0.bs b o e).1
  have hkind : ∀ y ∈ ps.zip us, scope.names.lookup y.1 = some .local ∨ (scope.names.lookup y.1 = some .cell ∧ ((cellsFrom (s.heap.objs.size + 1) scope.names []).lookup y.1).isSome = true) := fun ⟨n, v⟩ hy => by
    rcases S.par n (List.of_mem_zip hy).1 with q | q
    · exact .inl q
    · exact .inr ⟨q, PySem.W.cellsFrom_some _ _ _ (.inl q)⟩
  refine codeAny_call_function hr.depth (KX _ _ lk) rfl S.co S.gen rfl (PySem.W.codeRec_of KX hcd) (hb _ _ _ _ ?_)
  refine wpAny_newFunctionEnv_cells S.kind hkind fun env he s1 x => ?_
  subst he
  refine ⟨lim.keeps x.toInCall.keep, codeAny_func ?_⟩
  obtain ⟨t, ht, hq⟩ := hbody A outer s H vs Q E (hr.deeper _) hsp
  have I : Inv (cxOf CX P w K mg base N qual scope f cdv A outer s H E) [] (start N vs) H s1 := inv_start S hr.hd e0 hl r x
  refine wpAny_mono (ht [] s1 (start N vs) H _ I hq) (fun fl s' hs => ?_) fun e s' hs => hs
  have fin : ∀ {σ' : St} {H' : Hp} {v : V} {u : Value}, Inv (cxOf CX P w K mg base N qual scope f cdv A outer s H E) [] σ' H' s' → RelV v u → Q v H' → CE outer P w H s Q u s' :=
    fun {σ' H' v u} J rv q => ⟨v, H', J.os, J.bare, J.base, J.hok, rv, q⟩
  cases fl with
  | ret u =>
    obtain ⟨v, σ', H', J, rv, q⟩ := hs
    exact fin J rv q
  | next =>
    obtain ⟨σ', H', J, q⟩ := hs
    exact fin (v := V.non) (u := Value.none) J rfl q
  | brk =>
    obtain ⟨_, _, _, q⟩ := hs
    exact False.elim q
  | cont =>
    obtain ⟨_, _, _, q⟩ := hs
    exact False.elim q
end L2

namespace L2
open PySem PySem.Spec PyProof.Rows
section
variable {X : Cx} {x : Str} {p pos : Pos} {e : Expr} {es : List Expr} {t : TA} {id T : String} {r : List V → Hp → VK → Prop}

def tCB (r : List V → Hp → VK → Prop) (t : TA) : TE := fun σ H Q => t σ H fun vs H1 => r vs H1 Q
/-- f(e, ..), f a built-in function -/
theorem pe_callB (hc : CallR X (.builtin id) r) (hg : Gl X x) (hm : X.mg x = none) (hv : bootBuiltins x = some (.builtin id)) (ha : PA X (e :: es) t) (hn : x ≠ "__name__" := by decide) (hdb : (x == ("__debug__" : Str)) = false := by decide)
    (he : starEach (e :: es) X.env = (false, eval e X.env) :: starEach es X.env := by rfl) (hpl : (backTo pos (starEach es X.env)).any (·.1) = false := by rfl) : PE X (.Call (.Name x p) (e :: es) [] pos) (tCB r t) := by
  intro pins s σ H Q I h
  refine wpAny_Call_Name_kw (ld_blt I hg hm hv ?_ hn hdb)
  exact PyProof.Rows.callWith_builtin1 (thn (ha pos pins s σ H _ I h) fun us s1 ⟨vs, H1, I1, r1, q1⟩ => hc pins s1 σ H1 vs us Q I1 r1 q1) he hpl
/-- T(e, ..), T a built-in type -/
theorem pe_callTy (hc : CallR X (.type T) r) (hg : Gl X x) (hm : X.mg x = none) (hv : bootBuiltins x = some (.type T)) (ha : PA X (e :: es) t) (hn : x ≠ "__name__" := by decide) (hdb : (x == ("__debug__" : Str)) = false := by decide)
    (he : starEach (e :: es) X.env = (false, eval e X.env) :: starEach es X.env := by rfl) (hpl : (backTo pos (starEach es X.env)).any (·.1) = false := by rfl) : PE X (.Call (.Name x p) (e :: es) [] pos) (tCB r t) := by
  intro pins s σ H Q I h
  refine wpAny_Call_Name_kw (ld_blt I hg hm hv ?_ hn hdb)
  exact PyProof.Rows.callWith_type1 (thn (ha pos pins s σ H _ I h) fun us s1 ⟨vs, H1, I1, r1, q1⟩ => hc pins s1 σ H1 vs us Q I1 r1 q1) he hpl
end
end L2

namespace HT
open PySem PyProof.Rows

/-- t < u of tuples of ints -/
def lexLt : List Int → List Int → Bool
  | [], [] => false
  | [], _ :: _ => true
  | _ :: _, [] => false
  | x :: xs, y :: ys => if x = y then lexLt xs ys else decide (x < y)
section
open PySem.SeqAt
open PySem.AutoSeq1 (wpAny_loadPart')
open PySem.MeetsSeq PySem.MeetsSeq2 PySem.MeetsSeq3

end

section
variable {prog : Program} {w : World} {A : Around} {E : Value → Shared → Prop} {s : Shared}

/-- t + u, t not empty -/
theorem cat_tup {t b : Addr} {vs ws : List Value} {Q : Value → Shared → Prop} (ht : IsTup s.heap t vs.toArray) (hb : IsTup s.heap b ws.toArray) (hv : vs ≠ [])
    (h1 : ws = [] → Q (.ref t) s) (h2 : ws ≠ [] → Q (.ref s.heap.objs.size) { s with heap := s.heap.push { cls := .type "tuple", data := .seq (vs ++ ws).toArray } })
    (hsz : vs.length + ws.length ≤ sizeLine) : wpAny (model prog w) A (binaryOp .Add (.ref t) (.ref b)) Q E s := by
  obtain ⟨⟨cls, dd, data, sl⟩, ho, hc, n, hd⟩ := id ht
  obtain ⟨⟨cls2, dd2, data2, sl2⟩, ho2, hc2, n2, hd2⟩ := id hb
  simp only at hc hd hc2 hd2
  subst hc hd hc2 hd2
  have e : vs.toArray ++ ws.toArray = (vs ++ ws).toArray := by simp
  by_cases hw : ws = []
  · exact concat_meets ⟨_, ho, rfl⟩ ⟨_, ho2, rfl⟩ noFill_tuple_add seq_tuple_add PySem.F.slot_tuple_add PySem.F.entry_tuple_add (PySem.F.args_tuple_add_2 _ _)
      (tuple_addW1 t b vs.toArray ws.toArray n n2 dd dd2 sl sl2 (by simpa using hv) (by simp [hw])) ⟨ho, ho2, h1 hw⟩
  · refine concat_meets ⟨_, ho, rfl⟩ ⟨_, ho2, rfl⟩ noFill_tuple_add seq_tuple_add PySem.F.slot_tuple_add PySem.F.entry_tuple_add (PySem.F.args_tuple_add_2 _ _)
      (tuple_addW2 t b vs.toArray ws.toArray n n2 dd dd2 sl sl2 (by simpa using hv) (by simpa using hw) (by rw [List.size_toArray, List.size_toArray]; exact hsz)) ⟨ho, ho2, ?_⟩
    rw [e]
    exact h2 hw


/-- a slice's bound as a place among n (d where it is left out) -/
def sIx (n d : Nat) : Option Int → Nat
  | none => d
  | some v => if v < 0 then (v + (n : Int)).toNat else min v.toNat n
theorem sIx_none (n d : Nat) : sIx n d none = d := rfl
theorem sIx_nat (n d k : Nat) : sIx n d (some (k : Int)) = min k n := by
  show (if (k : Int) < 0 then ((k : Int) + (n : Int)).toNat else min (k : Int).toNat n) = min k n
  rw [if_neg (by omega), Int.toNat_natCast]
theorem sIx_le (n d : Nat) (hd : d ≤ n) (o : Option Int) : sIx n d o ≤ n := by
  cases o with
  | none => exact hd
  | some v =>
    show (if v < 0 then (v + (n : Int)).toNat else min v.toNat n) ≤ n
    by_cases hv : v < 0
    · rw [if_pos hv]; omega
    · rw [if_neg hv]; exact Nat.min_le_right _ _
theorem clip_eq (v : Int) (n d : Nat) : (if v < 0 then max (v + (n : Int)) 0 else min v (n : Int)) = ((sIx n d (some v) : Nat) : Int) := by
  show (if v < 0 then max (v + (n : Int)) 0 else min v (n : Int)) = (((if v < 0 then (v + (n : Int)).toNat else min v.toNat n) : Nat) : Int)
  by_cases hv : v < 0
  · simp only [if_pos hv]; omega
  · simp only [if_neg hv]; omega
theorem adjust_gen (lo hi : Option Int) (n : Nat) : Builtin.Slice.sliceAdjust lo hi 1 (n : Int) = (((sIx n 0 lo : Nat) : Int), ((sIx n n hi : Nat) : Int)) := by
  have h1 : ¬ ((1 : Int) < 0) := by omega
  unfold Builtin.Slice.sliceAdjust
  simp only [h1, if_false]
  refine Prod.ext ?_ ?_
  · cases lo with
    | none => rfl
    | some v => exact clip_eq v n 0
  · cases hi with
    | none => rfl
    | some v => exact clip_eq v n n
theorem places_gen (i j : Nat) : Builtin.Slice.slicePlaces (i : Int) (j : Int) 1 = j - i := by
  unfold Builtin.Slice.slicePlaces
  have h1 : (1 : Int) > 0 := by omega
  simp only [h1, if_true, Int.ediv_one]
  split <;> omega
theorem slicePart_ {v : Value} {o : Option Int} {Q : Option Int → Shared → Prop} (p : IsPart v o) (h : Q o s) : wpAny (model prog w) A (Builtin.Slice.slicePartIndex v) Q E s := by
  cases p with
  | none => exact slicePart_none h
  | int i t => exact slicePart_int h
theorem sliceApplied_gen {sl : Addr} {vl vu : Value} {lo hi : Option Int} {n : Nat} {Q : Int × Int × Nat → Shared → Prop} (hs : s.heap.IsSliceOf sl vl vu .none) (pl : IsPart vl lo) (pu : IsPart vu hi)
    (h : Q (((sIx n 0 lo : Nat) : Int), 1, sIx n n hi - sIx n 0 lo) s) : wpAny (model prog w) A (Builtin.Slice.sliceApplied (.ref sl) (pure (n : Int))) Q E s := by
  obtain ⟨os, hos, hcs, hds⟩ := id hs
  unfold Builtin.Slice.sliceApplied Builtin.Slice.sliceFields
  refine wpAny_bind (wpAny_bind (wpAny_field hos hds (x := vl) rfl (wpAny_bind (wpAny_field hos hds (x := vu) rfl (wpAny_bind (wpAny_field hos hds (x := .none) rfl (wpAny_pure ?_)))))))
  refine wpAny_bind (slicePart_none ?_)
  show wpAny _ _ (if ((1 : Int) == 0) = true then _ else _) _ _ s
  rw [if_neg (by decide)]
  refine wpAny_bind (slicePart_ pl (wpAny_bind (slicePart_ pu (wpAny_bind (wpAny_pure ?_)))))
  show wpAny _ _ (match Builtin.Slice.sliceAdjust lo hi 1 (n : Int) with | (lo, hi) => pure (lo, (1 : Int), Builtin.Slice.slicePlaces lo hi 1)) _ _ s
  rw [adjust_gen lo hi n]
  show wpAny _ _ (pure (((sIx n 0 lo : Nat) : Int), (1 : Int), Builtin.Slice.slicePlaces ((sIx n 0 lo : Nat) : Int) ((sIx n n hi : Nat) : Int) 1)) _ _ s
  rw [places_gen]
  exact wpAny_pure h
theorem pick_gen (xs : Array Value) (i k : Nat) : ((List.range k).filterMap fun (m : Nat) => xs[((i : Int) + (m : Int) * 1).toNat]?).toArray = ((xs.toList.drop i).take k).toArray := by
  have e : (fun (m : Nat) => xs[((i : Int) + (m : Int) * 1).toNat]?) = fun m => xs[i + m]? := by
    funext m
    have : ((i : Int) + (m : Int) * 1).toNat = i + m := by omega
    rw [this]
  rw [e]
  have := pick_run xs i k
  rw [List.filterMap_map] at this
  have e2 : ((fun x => xs[x]?) ∘ fun x => i + x) = fun m => xs[i + m]? := rfl
  rw [e2] at this
  rw [this]

theorem getItem_tuple_cut {t sl : Addr} {items : Array Value} {vl vu : Value} {lo hi : Option Int} {Q : Value → Shared → Prop} (ht : IsTup s.heap t items) (hs : s.heap.IsSliceOf sl vl vu .none) (pl : IsPart vl lo) (pu : IsPart vu hi)
    (hw : ¬ (sIx items.size 0 lo = 0 ∧ sIx items.size items.size hi = items.size))
    (h : Q (.ref s.heap.objs.size) { s with heap := s.heap.push { cls := .type "tuple", data := .seq ((items.toList.drop (sIx items.size 0 lo)).take (sIx items.size items.size hi - sIx items.size 0 lo)).toArray } })
    (hsz : items.size ≤ sizeLine) : wpAny (model prog w) A (getItem (.ref t) (.ref sl)) Q E s := by
  have htake : sizeOk (.seq ((items.toList.drop (sIx items.size 0 lo)).take (sIx items.size items.size hi - sIx items.size 0 lo)).toArray) := by
    show ((items.toList.drop (sIx items.size 0 lo)).take (sIx items.size items.size hi - sIx items.size 0 lo)).toArray.size ≤ sizeLine
    rw [List.size_toArray, List.length_take, List.length_drop, Array.length_toList]
    omega
  have hj : sIx items.size items.size hi ≤ items.size := sIx_le _ _ (Nat.le_refl _) hi
  obtain ⟨os, hos, hcs, hds⟩ := id hs
  have hTs : s.TypeIs (.ref sl) "slice" := ⟨os, hos, hcs⟩
  unfold getItem
  try with_reducible refine wpAny_holding ?_
  first | refine wpAny_bind (wpAny_pure ?_) | skip
  refine wpAny_bind (wpAny_sequenceKey ht.typeIs (by decide) ?_)
  refine wpAny_bind (wpAny_callSpecial?_slot (name := Str.ofString "__getitem__") ht.typeIs PyProof.Rows.slot_tuple_getitem
    (wpAny_call_entry PyProof.Rows.slot_tuple_getitem ht.typeIs entry_tuple_getitem ?_ (args_tuple_getitem _ _)))
  show wpAny _ _ (Builtin.Tuple.tupleItemsOf (.ref t) >>= _) _ _ s
  refine wpAny_bind (tupleItemsOf_ ht ?_)
  refine wpAny_bind (wpAny_typeOf hTs ?_)
  rw [if_pos (by decide)]
  refine wpAny_bind (sliceApplied_gen hs pl pu ?_)
  have hno : ¬ ((((sIx items.size 0 lo : Nat) : Int) == 0 && (1 : Int) == 1 && (sIx items.size items.size hi - sIx items.size 0 lo) == items.size) = true) := by
    intro q
    rw [Bool.and_eq_true, Bool.and_eq_true] at q
    have q1 : ((sIx items.size 0 lo : Nat) : Int) = 0 := eq_of_beq q.1.1
    have q2 : sIx items.size items.size hi - sIx items.size 0 lo = items.size := eq_of_beq q.2
    exact hw ⟨by omega, by omega⟩
  show wpAny _ _ (if (((sIx items.size 0 lo : Nat) : Int) == 0 && (1 : Int) == 1 && (sIx items.size items.size hi - sIx items.size 0 lo) == items.size) = true then _ else _) _ _ s
  rw [if_neg hno, pick_gen]
  first
    | exact wpAny_bind (m := Builtin.Tuple.tupleExact _) (wpAny_newObj_type (wpAny_pure ⟨_, rfl, wpAny_pure h⟩) htake)
    | exact wpAny_bind (m := Builtin.Tuple.tupleExact _) (wpAny_newObj_type (wpAny_bind (wpAny_pure (wpAny_pure ⟨_, rfl, wpAny_pure h⟩))) htake)
    | exact wpAny_bind (wpAny_bind (m := Builtin.Tuple.tupleExact _) (wpAny_newObj_type (wpAny_pure (wpAny_pure ⟨_, rfl, wpAny_pure h⟩)) htake))
    | exact wpAny_bind (wpAny_bind (m := Builtin.Tuple.tupleExact _) (wpAny_newObj_type (wpAny_pure ⟨_, rfl, wpAny_pure h⟩) htake))
end
end HT

namespace L2
open PySem PySem.Spec PyProof.Rows


abbrev TO := St → Hp → (Option Int → Hp → Prop) → Prop
/-- a slice's part (left out, or an int) -/
def PO (X : Cx) (e : Option Expr) (t : TO) : Prop :=
  ∀ (pins : List (Addr × Obj)) (s : Shared) (σ : St) (H : Hp) (Q : Option Int → Hp → Prop), Inv X pins σ H s → t σ H Q →
    wpAny (model X.prog X.w) X.A (evalPart e X.env) (fun u s' => ∃ o H', Inv X pins σ H' s' ∧ IsPart u o ∧ Q o H') X.xe s
def tNoPart : TO := fun _ H Q => Q none H
def tPart (t : TE) : TO := fun σ H Q => t σ H fun x H1 => ∃ i, x = .int i ∧ Q (some i) H1

section
variable {X : Cx} {e : Expr} {te : TE} {lo hi : Option Expr} {tl th : TO} {pos p2 : Pos}

theorem po_none : PO X none tNoPart := by
  intro pins s σ H Q I h
  rw [evalPart_none]
  exact wpAny_pure ⟨none, H, I, .none, h⟩
theorem po_some (h : PE X e te) : PO X (some e) (tPart te) := by
  intro pins s σ H Q I hw
  rw [evalPart_some]
  refine thn (h pins s σ H _ I hw) fun u s1 ⟨x, H1, I1, r1, q1⟩ => ?_
  obtain ⟨i, rfl, q⟩ := q1
  obtain ⟨t, rfl⟩ := r1
  exact ⟨some i, H1, I1, .int i t, q⟩

/-- what a slice of a value is, by values: the slice object stands at sl -/
def SlR (X : Cx) (r : V → Option Int → Option Int → Hp → VK → Prop) : Prop :=
  ∀ (pins : List (Addr × Obj)) (s : Shared) (σ : St) (H : Hp) (x : V) (v vl vu : Value) (lo hi : Option Int) (sl : Addr) (Q : VK), Inv X pins σ H s → RelV x v → s.heap.IsSliceOf sl vl vu .none → IsPart vl lo → IsPart vu hi → r x lo hi H Q →
    ∃ T id, typeLookup (.type T) "__getitem__" = pure (some (.builtin id)) ∧ s.TypeIs v T ∧ wpAny (model X.prog X.w) X.A (getItem v (.ref sl)) (EP X pins σ Q) X.xe s
theorem SlR.or {r r' : V → Option Int → Option Int → Hp → VK → Prop} (h : SlR X r) (h' : SlR X r') : SlR X (fun x lo hi H Q => r x lo hi H Q ∨ r' x lo hi H Q) := by
  intro pins s σ H x v vl vu lo hi sl Q I rx hs pl pu q
  rcases q with q | q
  · exact h pins s σ H x v vl vu lo hi sl Q I rx hs pl pu q
  · exact h' pins s σ H x v vl vu lo hi sl Q I rx hs pl pu q
def tSl (r : V → Option Int → Option Int → Hp → VK → Prop) (te : TE) (tl th : TO) : TE := fun σ H Q => te σ H fun x H1 => tl σ H1 fun l H2 => th σ H2 fun u H3 => r x l u H3 Q
/-- a[lo:hi], any a -/
theorem pe_slice {r : V → Option Int → Option Int → Hp → VK → Prop} (hr : SlR X r) (he : PE X e te) (hl : PO X lo tl) (hu : PO X hi th) : PE X (.Subscript e (.Slice lo hi none p2) pos) (tSl r te tl th) := by
  intro pins s σ H Q I h
  refine Subscript_ (thn (he pins s σ H _ I h) fun v s1 ⟨x, H1, I1, r1, q1⟩ => ?_)
  refine wpAny_Slice (thn (hl pins s1 σ H1 _ I1 q1) fun vl s2 ⟨l, H2, I2, pl, q2⟩ => thn (hu pins s2 σ H2 _ I2 q2) fun vu s3 ⟨u, H3, I3, pu, q3⟩ => ?_)
  rw [evalPart_none]
  refine wpAny_pure ?_
  have I4 : Inv X pins σ H3 { s3 with heap := s3.heap.push { cls := .type "slice", data := .fields #[vl, vu, .none] } } := I3.kept (t' := s3.toks) fun b ob q => Heap.get?_push_of_some _ q
  obtain ⟨T, id, hT, ht, hg⟩ := hr pins { s3 with heap := s3.heap.push { cls := .type "slice", data := .fields #[vl, vu, .none] } } σ H3 x v vl vu l u s3.heap.objs.size Q I4 r1 (Heap.IsSliceOf.new ..) pl pu q3
  show wpAny (model X.prog X.w) X.A (subscriptTail e (.Slice lo hi none p2) v (.ref s3.heap.objs.size)) (EP X pins σ Q) X.xe { s3 with heap := s3.heap.push { cls := .type "slice", data := .fields #[vl, vu, .none] } }
  exact tail_any (ops := [.ref s3.heap.objs.size, v]) ht hT hg (by with_unfolding_all rfl)

/-- the items of xs[lo:hi] -/
def cutV (xs : List V) (lo hi : Option Int) : List V := (xs.drop (HT.sIx xs.length 0 lo)).take (HT.sIx xs.length xs.length hi - HT.sIx xs.length 0 lo)
theorem cutV_length (xs : List V) (lo hi : Option Int) : (cutV xs lo hi).length ≤ xs.length := by
  unfold cutV
  rw [List.length_take, List.length_drop]
  omega
/-- t[lo:hi], not the whole of it (the whole would be t itself) -/
def rSlT (K : PySem.W.Frag) : V → Option Int → Option Int → Hp → VK → Prop := fun x lo hi H Q => ∃ a xs, x = .ref a ∧ SqT K H a xs ∧
  ¬ (HT.sIx xs.length 0 lo = 0 ∧ HT.sIx xs.length xs.length hi = xs.length) ∧ ∀ p, H p = none → Q (.ref p) (upd H p (.tup (cutV xs lo hi)))
theorem sl_tup : SlR X (rSlT X.K) := by
  intro pins s σ H x v vl vu lo hi sl Q I rx hs pl pu h
  obtain ⟨a, xs, rfl, hx, hw, q⟩ := h
  cases rx
  obtain ⟨its, r, ht, hz⟩ := I.tuple hx
  have hlen : its.toArray.size = xs.length := by rw [List.size_toArray]; exact r.length.symm
  refine ⟨"tuple", _, PyProof.Rows.slot_tuple_getitem.lookup, ht.typeIs, ?_⟩
  refine HT.getItem_tuple_cut ht hs pl pu (by rw [hlen]; exact hw) ?_ (by rw [hlen]; exact hz)
  rw [hlen]
  refine ⟨.ref s.heap.objs.size, _, I.laid (t' := s.toks) (o := .tup (cutV xs lo hi)) (fun b ob q => Heap.get?_push_of_some _ q) (Nat.le_refl _) ?_, rfl, q _ (I.hok.fresh (Nat.le_refl _))⟩
  exact ⟨Nat.le_trans (cutV_length xs lo hi) hz, _, (r.drop (HT.sIx xs.length 0 lo)).take (HT.sIx xs.length xs.length hi - HT.sIx xs.length 0 lo), IsTup.new _ _⟩


def rLtT (K : PySem.W.Frag) : R2 := fun x y H Q => ∃ a b ns ms, x = .ref a ∧ y = .ref b ∧ SqT K H a (ns.map V.int) ∧ SqT K H b (ms.map V.int) ∧ Q (.bl (HT.lexLt ns ms)) H
/-- t + u, t not empty: u empty gives t itself -/
def rCatT (K : PySem.W.Frag) : R2 := fun x y H Q => ∃ a b xs ys, x = .ref a ∧ y = .ref b ∧ SqT K H a xs ∧ SqT K H b ys ∧ xs ≠ [] ∧ xs.length + ys.length ≤ sizeLine ∧
  (ys = [] → Q (.ref a) H) ∧ (ys ≠ [] → ∀ p, H p = none → Q (.ref p) (upd H p (.tup (xs ++ ys))))
theorem Vals.nil_iff {xs : List V} {us : List Value} (r : Vals xs us) : us = [] ↔ xs = [] := by
  cases r with
  | nil => simp
  | cons _ _ => simp
theorem op_catT : OpR X (binaryOp .Add) (rCatT X.K) := by
  intro pins s σ H x y v u Q I rx ry h
  obtain ⟨a, b, xs, ys, rfl, rfl, ha, hb, hx, hz, q1, q2⟩ := h
  cases rx
  cases ry
  obtain ⟨its, r1, p1, _⟩ := I.tuple ha
  obtain ⟨its2, r2, p2, _⟩ := I.tuple hb
  refine HT.cat_tup p1 p2 (fun z => hx (r1.nil_iff.mp z)) (fun z => ⟨.ref a, H, I, rfl, q1 (r2.nil_iff.mp z)⟩) (fun z => ?_) (by rw [← r1.length, ← r2.length]; exact hz)
  refine ⟨.ref s.heap.objs.size, _, I.laid (t' := s.toks) (o := .tup (xs ++ ys)) (fun b ob q => Heap.get?_push_of_some _ q) (Nat.le_refl _) ?_, rfl, q2 (fun w => z (r2.nil_iff.mpr w)) _ (I.hok.fresh (Nat.le_refl _))⟩
  exact ⟨by rw [List.length_append]; exact hz, _, r1.append r2, IsTup.new _ _⟩
end
end L2

namespace L2
open PySem PySem.Spec PyProof.Rows


/-- the place that an index of any sign means -/
def ixN (n : Nat) (i : Int) : Option Nat := if 0 ≤ i then (if i < n then some i.toNat else none) else if -(n : Int) ≤ i then some (i + n).toNat else none
def atI {α : Type} (xs : List α) (i : Int) : Option α := (ixN xs.length i).bind fun j => xs[j]?
theorem ixN_seq {n : Nat} {i : Int} {j : Nat} (h : ixN n i = some j) : seqIndex? i n = some j ∧ j < n ∧ -(n : Int) ≤ i ∧ i < n := by
  unfold ixN at h
  by_cases h0 : 0 ≤ i
  · rw [if_pos h0] at h
    by_cases h1 : i < n
    · rw [if_pos h1] at h
      have e : i.toNat = j := Option.some.inj h
      exact ⟨by rw [seqIndex_of h0 h1, e], by omega, by omega, h1⟩
    · rw [if_neg h1] at h; cases h
  · rw [if_neg h0] at h
    by_cases h1 : -(n : Int) ≤ i
    · rw [if_pos h1] at h
      have e : (i + n).toNat = j := Option.some.inj h
      exact ⟨by rw [seqIndex_neg (by omega) h1, e], by omega, h1, by omega⟩
    · rw [if_neg h1] at h; cases h
theorem atI_get {α : Type} {xs : List α} {i : Int} {v : α} (h : atI xs i = some v) : ∃ j, seqIndex? i xs.length = some j ∧ xs[j]? = some v ∧ j < xs.length ∧ -(xs.length : Int) ≤ i ∧ i < xs.length := by
  unfold atI at h
  cases e : ixN xs.length i with
  | none => rw [e] at h; cases h
  | some j =>
    rw [e] at h
    obtain ⟨h1, h2, h3, h4⟩ := ixN_seq e
    exact ⟨j, h1, h, h2, h3, h4⟩
/-- what stands as an index of a plain subscript -/
def PlainIx (b : Expr) : Prop := ∀ o i, subscripted b false o i = operate [o, i] (getItem o i)
/-- a subscript by values -/
def IxR (X : Cx) (r : R2) : Prop :=
  ∀ (value slice : Expr) (pins : List (Addr × Obj)) (s : Shared) (σ : St) (H : Hp) (x y : V) (v u : Value) (Q : VK), Inv X pins σ H s → RelV x v → RelV y u → r x y H Q →
    subscripted slice false v u = operate [v, u] (getItem v u) → wpAny (model X.prog X.w) X.A (subscriptTail value slice v u) (EP X pins σ Q) X.xe s
/-- a call of a builtin's method by values: the receiver, the arguments -/
def MtR (X : Cx) (id : String) (r : V → List V → Hp → VK → Prop) : Prop :=
  ∀ (pins : List (Addr × Obj)) (s : Shared) (σ : St) (H : Hp) (x : V) (xs : List V) (v : Value) (us : List Value) (Q : VK), Inv X pins σ H s → RelV x v → Vals xs us → r x xs H Q →
    wpAny (model X.prog X.w) X.A (call (.builtin id) (v :: us)) (EP X pins σ Q) X.xe s
section
variable {X : Cx} {a b : Expr} {ta tb : TE} {pos : Pos}
theorem IxR.or {r r' : R2} (h : IxR X r) (h' : IxR X r') : IxR X (fun x y H Q => r x y H Q ∨ r' x y H Q) := by
  intro value slice pins s σ H x y v u Q I rx ry q hs
  rcases q with q | q
  · exact h value slice pins s σ H x y v u Q I rx ry q hs
  · exact h' value slice pins s σ H x y v u Q I rx ry q hs
theorem MtR.or {id : String} {r r' : V → List V → Hp → VK → Prop} (h : MtR X id r) (h' : MtR X id r') : MtR X id (fun x xs H Q => r x xs H Q ∨ r' x xs H Q) := by
  intro pins s σ H x xs v us Q I rx rs q
  rcases q with q | q
  · exact h pins s σ H x xs v us Q I rx rs q
  · exact h' pins s σ H x xs v us Q I rx rs q
/-- a[b] -/
theorem pe_ix {r : R2} (hr : IxR X r) (ha : PE X a ta) (hb : PE X b tb) (hs : PlainIx b) : PE X (.Subscript a b pos) (tOp r ta tb) := by
  intro pins s σ H Q I h
  exact Subscript_ (binT ha hb I h fun v u s2 x y H2 I2 rx ry q => hr a b pins s2 σ H2 x y v u Q I2 rx ry q (hs _ _))

def rIxL (K : PySem.W.Frag) : R2 := fun x y H Q => ∃ p xs i v, x = .ref p ∧ y = .int i ∧ SqL K H p xs ∧ atI xs i = some v ∧ Q v H
def rIxT (K : PySem.W.Frag) : R2 := fun x y H Q => ∃ p xs i v, x = .ref p ∧ y = .int i ∧ SqT K H p xs ∧ atI xs i = some v ∧ Q v H
def rIxS : R2 := fun x y H Q => ∃ z i c, x = .str z ∧ y = .int i ∧ z.length ≤ sizeLine ∧ atI z.cps.toList i = some c ∧ Q (.str ⟨#[c]⟩) H
theorem ix_list : IxR X (rIxL X.K) := by
  intro value slice pins s σ H x y v u Q I rx ry h hs
  obtain ⟨p, xs, i, z, rfl, rfl, hq, he, q⟩ := h
  cases rx
  obtain ⟨t, rfl⟩ := ry
  obtain ⟨its, r, pl, hz⟩ := I.list hq
  obtain ⟨j, h1, h2, h3, h4, h5⟩ := atI_get he
  obtain ⟨w, ew, rw'⟩ := r.get h2
  have hl := r.length
  have hn := line63
  have fin : EP X pins σ Q w s := ⟨z, H, I, rw', q⟩
  by_cases h0 : 0 ≤ i
  · have hj : i.toNat = j := by
      rw [seqIndex_of h0 h5] at h1
      exact Option.some.inj h1
    exact item_listR pl.isList h0 (by omega) (by rw [hj]; simpa using ew) fin hs
  · have hj : (i + (its.toArray.size : Int)).toNat = j := by
      rw [seqIndex_neg (by omega) h4] at h1
      rw [List.size_toArray, ← hl]
      exact Option.some.inj h1
    exact subscriptTail_builtinR (x := w) pl.isList.typeIs slot_list_getitem.lookup
      (wpAny_getItem_list_neg (Q := fun r s' => r = w ∧ EP X pins σ Q r s') pl.isList (by omega) (by rw [List.size_toArray] <;> omega) (by omega) (by rw [hj]; simpa using ew) ⟨rfl, fin⟩) hs
theorem ix_tup : IxR X (rIxT X.K) := by
  intro value slice pins s σ H x y v u Q I rx ry h hs
  obtain ⟨p, xs, i, z, rfl, rfl, hq, he, q⟩ := h
  cases rx
  obtain ⟨t, rfl⟩ := ry
  obtain ⟨its, r, pl, hz⟩ := I.tuple hq
  obtain ⟨j, h1, h2, h3, h4, h5⟩ := atI_get he
  obtain ⟨w, ew, rw'⟩ := r.get h2
  have hl := r.length
  have hn := line63
  have fin : EP X pins σ Q w s := ⟨z, H, I, rw', q⟩
  exact subscriptTail_builtinR (x := w) pl.typeIs slot_tuple_getitem.lookup
    (getItem_tuple (j := j) (Q := fun r s' => r = w ∧ EP X pins σ Q r s') pl (by omega) (by omega) (by rw [List.size_toArray, ← hl]; exact h1) (by simpa using ew) ⟨rfl, fin⟩) hs
/-- list, tuple or str -/
def rIx (K : PySem.W.Frag) : R2 := fun x y H Q => rIxL K x y H Q ∨ rIxT K x y H Q ∨ rIxS x y H Q
/-- the list's object behind a store -/
theorem mapSeq_set (its : List Value) (n j : Nat) (u : Value) : Obj.mapSeq (·.setIfInBounds j u) { cls := .type "list", data := .seq its.toArray n } = { cls := .type "list", data := .seq (its.set j u).toArray n } := by
  simp [Obj.mapSeq]
theorem Inv.lst {pins : List (Addr × Obj)} {σ : St} {H : Hp} {s : Shared} {p : Addr} {xs : List V} (I : Inv X pins σ H s) (h : H p = some (.lst xs)) :
    ∃ (its : List Value) (n : Nat), Vals xs its ∧ s.heap.get? p = some { cls := .type "list", data := .seq its.toArray n } ∧ xs.length ≤ sizeLine := by
  obtain ⟨z, its, n, r, e⟩ := I.hok p _ h
  exact ⟨its, n, r, e, z⟩
/-- the list at p is written by an update of its object -/
theorem Inv.lstUpd {pins : List (Addr × Obj)} {σ : St} {H : Hp} {s : Shared} {p : Addr} {xs ys : List V} {its its' : List Value} {n n' : Nat} {f : Obj → Obj} (I : Inv X pins σ H s) (h : H p = some (.lst xs))
    (ho : s.heap.get? p = some { cls := .type "list", data := .seq its.toArray n }) (hf : f { cls := .type "list", data := .seq its.toArray n } = { cls := .type "list", data := .seq its'.toArray n' }) (r : Vals ys its') (hz : ys.length ≤ sizeLine) (t : Nat) :
    Inv X pins σ (upd H p (.lst ys)) { s with heap := s.heap.update p f, toks := t } := by
  have e : (s.heap.update p f).get? p = some { cls := .type "list", data := .seq its'.toArray n' } := by
    rw [Heap.get?_update_self f ho (by rw [hf] <;> rfl), hf]
  refine I.write (x := p) (e := p) (by rw [h]; trivial) (.inl rfl) (fun b u hb q => (Heap.get?_update_other _ _ (Ne.symm hb)).trans q) ⟨_, e⟩ ?_
  exact ⟨hz, its', n', r, e⟩
def rSetL : V → V → V → Hp → (Hp → Prop) → Prop := fun o i v H Q => ∃ p xs k j, o = .ref p ∧ i = .int k ∧ H p = some (.lst xs) ∧ ixN xs.length k = some j ∧ Q (upd H p (.lst (xs.set j v)))
theorem set_list : PSet X rSetL := by
  intro pins s σ H o i v ov iv u Q I ro ri rv h
  obtain ⟨p, xs, k, j, rfl, rfl, hp, hj, q⟩ := h
  cases ro
  obtain ⟨t, rfl⟩ := ri
  obtain ⟨its, n, r, ho, hz⟩ := I.lst hp
  obtain ⟨h1, h2, h3, h4⟩ := ixN_seq hj
  have hl := r.length
  have hn := line63
  have I' : Inv X pins σ (upd H p (.lst (xs.set j v))) { s with heap := s.heap.update p (Obj.mapSeq (·.setIfInBounds j u)) } :=
    I.lstUpd hp ho (mapSeq_set its n j u) (r.set rv j) (by rw [List.length_set]; exact hz) s.toks
  by_cases h0 : 0 ≤ k
  · have hk : k.toNat = j := by
      rw [seqIndex_of h0 h4] at h1
      exact Option.some.inj h1
    exact PySem.W.ki_setAt ho h0 (by omega) (by rw [List.size_toArray, ← hl]; exact h4) (by rw [hk]; exact ⟨_, I', q⟩)
  · have hk : (k + (its.toArray.size : Int)).toNat = j := by
      rw [seqIndex_neg (by omega) h3] at h1
      rw [List.size_toArray, ← hl]
      exact Option.some.inj h1
    exact PySem.W.ki_setBack ho (by omega) (by rw [List.size_toArray, ← hl]; exact h3) (by omega) (by rw [hk]; exact ⟨_, I', q⟩)


theorem slice_bounds (lo hi : Option Int) (n : Nat) : (sliceBounds lo hi none n).1 = ((HT.sIx n 0 lo : Nat) : Int) ∧ (sliceBounds lo hi none n).2.1 = ((HT.sIx n n hi : Nat) : Int) ∧ (sliceBounds lo hi none n).2.2 = 1 := by
  refine ⟨?_, ?_, rfl⟩
  · cases lo with
    | none => simp [sliceBounds, HT.sIx]
    | some i =>
      simp only [sliceBounds, HT.sIx, Option.getD_none, show (1 : Int) > 0 by decide, if_true]
      by_cases h : i < 0
      · simp only [h, if_true] <;> omega
      · simp only [h, if_false] <;> omega
  · cases hi with
    | none => simp [sliceBounds, HT.sIx]
    | some i =>
      simp only [sliceBounds, HT.sIx, Option.getD_none, show (1 : Int) > 0 by decide, if_true]
      by_cases h : i < 0
      · simp only [h, if_true] <;> omega
      · simp only [h, if_false] <;> omega
theorem slicePick_cut (its : List Value) (lo hi : Option Int) : slicePick its.toArray lo hi none = ((its.drop (HT.sIx its.length 0 lo)).take (HT.sIx its.length its.length hi - HT.sIx its.length 0 lo)).toArray := by
  obtain ⟨h1, h2, h3⟩ := slice_bounds lo hi its.toArray.size
  unfold slicePick
  rw [h1, h2, h3]
  simp only [sliceRange_one, pick_run, List.size_toArray] <;> rfl
/-- xs[lo:hi] of a list: a new list -/
def rSlL (K : PySem.W.Frag) : V → Option Int → Option Int → Hp → VK → Prop := fun x lo hi H Q => ∃ a xs, x = .ref a ∧ SqL K H a xs ∧ ∀ p, H p = none → Q (.ref p) (upd H p (.lst (cutV xs lo hi)))
theorem sl_list : SlR X (rSlL X.K) := by
  intro pins s σ H x v vl vu lo hi sl Q I rx hs pl pu h
  obtain ⟨a, xs, rfl, hx, q⟩ := h
  cases rx
  obtain ⟨its, r, ht, hz⟩ := I.list hx
  have hlen := r.length
  refine ⟨"list", _, slot_list_getitem.lookup, ht.isList.typeIs, ?_⟩
  refine wpAny_getItem_list_slice ht.isList hs pl pu .none (by simp) ?_ (by rw [List.size_toArray] <;> omega)
  rw [slicePick_cut, ← hlen]
  refine ⟨.ref s.heap.objs.size, _, I.laid (t' := s.toks) (o := .lst (cutV xs lo hi)) (fun b ob q => Heap.get?_push_of_some _ q) (Nat.le_refl _) ?_, rfl, q _ (I.hok.fresh (Nat.le_refl _))⟩
  exact ⟨Nat.le_trans (cutV_length xs lo hi) hz, _, 0, (r.drop (HT.sIx xs.length 0 lo)).take (HT.sIx xs.length xs.length hi - HT.sIx xs.length 0 lo), Heap.get?_push_size _ rfl⟩


def flatV : V → Bool
  | .non => true
  | .bl _ => true
  | .int _ => true
  | .str _ => true
  | _ => false
/-- == of flat values -/
def eqV : V → V → Bool
  | .non, .non => true
  | .bl a, .bl b => a == b
  | .bl a, .int b => (if a then 1 else 0) == b
  | .int a, .bl b => a == (if b then 1 else 0)
  | .int a, .int b => a == b
  | .str a, .str b => a == b
  | _, _ => false
theorem eqAt_V {A : Around} {s : Shared} {y x : V} {u v : Value} (ry : RelV y u) (rx : RelV x v) (fy : flatV y = true) (fx : flatV x = true) : SeqAt.EqAt A s u v (eqV y x) := by
  cases y with
  | non =>
    cases ry
    cases x with
    | non => cases rx; exact SeqAt.EqAt.same _
    | bl b => cases rx; exact SeqAt.EqAt.none_bool b
    | int b => obtain ⟨t, rfl⟩ := rx; exact SeqAt.EqAt.none_int b t
    | str b => obtain ⟨t, rfl⟩ := rx; exact SeqAt.EqAt.none_str b t
    | _ => exact absurd (show false = true from fx) Bool.false_ne_true
  | bl a =>
    cases ry
    cases x with
    | non => cases rx; exact SeqAt.EqAt.bool_none a
    | bl b => cases rx; exact SeqAt.EqAt.bool_bool a b
    | int b => obtain ⟨t, rfl⟩ := rx; exact SeqAt.EqAt.bool_int a b t
    | str b => obtain ⟨t, rfl⟩ := rx; exact SeqAt.EqAt.bool_str a b t
    | _ => exact absurd (show false = true from fx) Bool.false_ne_true
  | int a =>
    obtain ⟨t', rfl⟩ := ry
    cases x with
    | non => cases rx; exact SeqAt.EqAt.int_none a t'
    | bl b => cases rx; exact SeqAt.EqAt.int_bool a t' b
    | int b => obtain ⟨t, rfl⟩ := rx; exact SeqAt.EqAt.int_int a t' b t
    | str b => obtain ⟨t, rfl⟩ := rx; exact SeqAt.EqAt.int_str a t' b t
    | _ => exact absurd (show false = true from fx) Bool.false_ne_true
  | str a =>
    obtain ⟨t', rfl⟩ := ry
    cases x with
    | non => cases rx; exact SeqAt.EqAt.str_none a t'
    | bl b => cases rx; exact SeqAt.EqAt.str_bool a t' b
    | int b => obtain ⟨t, rfl⟩ := rx; exact SeqAt.EqAt.str_int a t' b t
    | str b => obtain ⟨t, rfl⟩ := rx; exact SeqAt.EqAt.str_str a t' b t
    | _ => exact absurd (show false = true from fx) Bool.false_ne_true
  | _ => exact absurd (show false = true from fy) Bool.false_ne_true
/-- the items' answers, read off the values (a value's own answer does not lean on its token) -/
def eqU (x : V) (u : Value) : Bool := match u with
  | .none => eqV .non x
  | .bool b => eqV (.bl b) x
  | .int i _ => eqV (.int i) x
  | .str z _ => eqV (.str z) x
  | _ => false
theorem eqU_of {x y : V} {u : Value} (r : RelV y u) (f : flatV y = true) : eqU x u = eqV y x := by
  cases y with
  | non => cases r; rfl
  | bl b => cases r; rfl
  | int i => obtain ⟨t, rfl⟩ := r; rfl
  | str z => obtain ⟨t, rfl⟩ := r; rfl
  | _ => exact absurd (show false = true from f) Bool.false_ne_true
theorem any_eqU {x : V} : ∀ {xs : List V} {us : List Value}, Vals xs us → xs.all flatV = true → us.any (eqU x) = xs.any fun y => eqV y x
  | _, _, .nil, _ => rfl
  | y :: xs, u :: us, .cons r t, f => by
    rw [List.all_cons, Bool.and_eq_true] at f
    rw [List.any_cons, List.any_cons, eqU_of r f.1, any_eqU t f.2]
theorem mem_eqAt {A : Around} {s : Shared} {x : V} {v : Value} (rx : RelV x v) (fx : flatV x = true) : ∀ {xs : List V} {us : List Value}, Vals xs us → xs.all flatV = true → ∀ u ∈ us, SeqAt.EqAt A s u v (eqU x u)
  | _, _, .nil, _ => fun u hu => by cases hu
  | y :: xs, u :: us, .cons r t, f => fun u' hu => by
    rw [List.all_cons, Bool.and_eq_true] at f
    rcases List.mem_cons.mp hu with rfl | hu
    · rw [eqU_of r f.1]; exact eqAt_V r rx f.1 fx
    · exact mem_eqAt rx fx t f.2 u' hu
def inV (x : V) (xs : List V) : Bool := xs.any fun y => eqV y x
/-- x in a list or tuple of flat items -/
def rIn (K : PySem.W.Frag) (neg : Bool) : R2 := fun x y H Q => ∃ p xs, y = .ref p ∧ (SqL K H p xs ∨ SqT K H p xs) ∧ flatV x = true ∧ xs.all flatV = true ∧ Q (.bl (if neg then !inV x xs else inV x xs)) H
theorem op_in_seq : OpR X (compareOp .In) (rIn X.K false) := by
  intro pins s σ H x y v u Q I rx ry h
  obtain ⟨p, xs, rfl, hq, fx, fs, q⟩ := h
  cases ry
  rcases hq with hq | hq
  · obtain ⟨its, r, pl, hz⟩ := I.list hq
    refine SeqAt.in_listAt (eqU x) pl.isList (fun w hw => mem_eqAt rx fx r fs w (by simpa using hw)) ⟨.bl _, H, I, rfl, ?_⟩
    rw [show its.toArray.any (eqU x) = its.any (eqU x) by simp, any_eqU r fs]
    exact q
  · obtain ⟨its, r, pl, hz⟩ := I.tuple hq
    refine SeqAt.in_tupleAt (eqU x) pl (fun w hw => mem_eqAt rx fx r fs w (by simpa using hw)) ⟨.bl _, H, I, rfl, ?_⟩
    rw [show its.toArray.any (eqU x) = its.any (eqU x) by simp, any_eqU r fs]
    exact q
theorem call_len_seq : CallR X (.builtin "len") (fun xs H Q => ∃ p ys, xs = [.ref p] ∧ (SqL X.K H p ys ∨ SqT X.K H p ys) ∧ Q (.int ys.length) H) := by
  intro pins s σ H xs us Q I r h
  obtain ⟨p, ys, rfl, hq, q⟩ := h
  obtain ⟨u, rfl, rx⟩ := vals1 r
  cases rx
  have hn := line63
  rcases hq with hq | hq
  · obtain ⟨its, r', pl, hz⟩ := I.list hq
    have hlen := r'.length
    exact Calls.call_len_list pl.isList (by simp only [List.size_toArray] <;> omega) ⟨.int ys.length, H, I.tok _, ⟨s.toks + 1, by rw [List.size_toArray, hlen]⟩, q⟩
  · obtain ⟨its, r', pl, hz⟩ := I.tuple hq
    have hlen := r'.length
    exact len_tuple pl (by simp only [List.size_toArray] <;> omega) ⟨.int ys.length, H, I.tok _, ⟨s.toks + 1, by rw [List.size_toArray, hlen]⟩, q⟩
theorem CallR.or {f : Value} {r r' : List V → Hp → VK → Prop} (h : CallR X f r) (h' : CallR X f r') : CallR X f (fun xs H Q => r xs H Q ∨ r' xs H Q) := by
  intro pins s σ H xs us Q I rs q
  rcases q with q | q
  · exact h pins s σ H xs us Q I rs q
  · exact h' pins s σ H xs us Q I rs q
theorem call_tuple_of : CallR X (.type "tuple") (fun xs H Q => ∃ p ys, xs = [.ref p] ∧ ((SqL X.K H p ys ∧ ∀ l, H l = none → Q (.ref l) (upd H l (.tup ys))) ∨ (SqT X.K H p ys ∧ Q (.ref p) H))) := by
  intro pins s σ H xs us Q I r h
  obtain ⟨p, ys, rfl, h⟩ := h
  obtain ⟨u, rfl, rx⟩ := vals1 r
  cases rx
  rcases h with ⟨hq, q⟩ | ⟨hq, q⟩
  · obtain ⟨its, r', pl, hz⟩ := I.list hq
    have hlen := r'.length
    refine call_tuple_list pl.isList (fun h' kp => ?_) (by simp only [List.size_toArray] <;> omega)
    have I1 : Inv X pins σ H { s with heap := h' } := I.kept (t' := s.toks) kp
    have I2 : Inv X pins σ (upd H h'.objs.size (.tup ys)) { s with heap := h'.push { cls := .type "tuple", data := .seq its.toArray } } :=
      I1.laid (t' := s.toks) (fun b o e => Heap.get?_push_of_some _ e) (Nat.le_refl _) (show ObjOk X.prog X.w _ _ _ (.tup ys) from ⟨hz, its, r', IsTup.new _ _⟩)
    exact ⟨.ref h'.objs.size, _, I2, rfl, q _ (I1.hok.fresh (Nat.le_refl _))⟩
  · obtain ⟨its, r', pl, hz⟩ := I.tuple hq
    exact call_tuple_same pl ⟨.ref p, H, I, rfl, q⟩


/-- the value is of that builtin type -/
def tyV (K : PySem.W.Frag) (T : String) (x : V) (H : Hp) : Prop := match x with
  | .str _ => T = "str"
  | .int _ => T = "int"
  | .ref p => (T = "list" ∧ ∃ xs, SqL K H p xs) ∨ (T = "tuple" ∧ ∃ o, K.lookup p = some o ∧ o.cls = .type "tuple" ∧ o.dict = none) ∨
      (T = "dict" ∧ ((∃ kvs, H p = some (.dK kvs)) ∨ ∃ kvs, H p = some (.dT kvs))) ∨ (T = "set" ∧ ∃ S n, H p = some (.set S n))
  | _ => False
theorem tyV_is {pins : List (Addr × Obj)} {σ : St} {H : Hp} {s : Shared} {T : String} {x : V} {v : Value} (I : Inv X pins σ H s) (r : RelV x v) (ty : tyV X.K T x H) :
    s.TypeIs v T ∧ ∀ a, v = .ref a → ∃ ob, s.heap.get? a = some ob ∧ ob.dict = none := by
  cases x with
  | str z =>
    obtain ⟨t, rfl⟩ := r
    cases (show T = "str" from ty)
    exact ⟨typeIs_str s z t, fun _ e => nomatch e⟩
  | int i =>
    obtain ⟨t, rfl⟩ := r
    cases (show T = "int" from ty)
    exact ⟨typeIs_int s i t, fun _ e => nomatch e⟩
  | ref p =>
    cases r
    rcases ty with ⟨rfl, xs, hq⟩ | ⟨rfl, o, hk, hc, hd⟩ | ⟨rfl, hk⟩ | ⟨rfl, S, n, hk⟩
    · obtain ⟨its, _, pl, _⟩ := I.list hq
      refine ⟨pl.isList.typeIs, fun a e => ?_⟩
      cases e
      obtain ⟨o, n, e, c, hd, _⟩ := pl
      exact ⟨o, e, hd⟩
    · refine ⟨⟨o, I.kIn p o hk, hc⟩, fun a e => ?_⟩
      cases e
      exact ⟨o, I.kIn _ o hk, hd⟩
    · have z : ∃ o, s.heap.get? p = some o ∧ o.ExactDict := by
        rcases hk with ⟨kvs, hk⟩ | ⟨kvs, hk⟩
        · obtain ⟨_, _, _, _, o, _, _, e, ex, _⟩ := I.hok p _ hk
          exact ⟨o, e, ex⟩
        · obtain ⟨_, _, _, _, o, _, _, e, ex, _⟩ := I.hok p _ hk
          exact ⟨o, e, ex⟩
      obtain ⟨o, e, ex⟩ := z
      refine ⟨⟨o, e, ex.1⟩, fun a e2 => ?_⟩
      cases e2
      exact ⟨o, e, ex.2.1⟩
    · obtain ⟨o, _, _, _, e, ex, _⟩ := I.hok p _ hk
      refine ⟨⟨o, e, ex.1⟩, fun a e2 => ?_⟩
      cases e2
      exact ⟨o, e, ex.2.1⟩
  | _ => exact False.elim ty
def tBM0 (K : PySem.W.Frag) (T : String) (r : V → List V → Hp → VK → Prop) (to : TE) : TE := fun σ H Q => to σ H fun x H1 => tyV K T x H1 ∧ r x [] H1 Q
def tBM (K : PySem.W.Frag) (T : String) (r : V → List V → Hp → VK → Prop) (to : TE) (t : TA) : TE := fun σ H Q => to σ H fun x H1 => tyV K T x H1 ∧ t σ H1 fun xs H2 => r x xs H2 Q
variable {o e : Expr} {es : List Expr} {to : TE} {t : TA} {name : Str} {apos cpos : Pos} {T id : String} {r : V → List V → Hp → VK → Prop}
theorem pe_bm (pa : PlainAttrs T) (slot : Slot T name id) (hty : typeOf (.builtin id) = pure (.type "method_descriptor")) (hm : MtR X id r) (ho : PE X o to) (ha : PA X (e :: es) t)
    (hbase : attributeBase o name X.env (eval o X.env) = eval o X.env := by rfl)
    (hfew : ((backTo cpos (starEach (e :: es) X.env)).all (fun x => !x.1) && (backToKw cpos (keywordEach [] X.env)).all (fun x => x.1.isSome)
      && decide ((e :: es).length + ([] : List Keyword).length + (if ([] : List Keyword).isEmpty then 0 else 1) < 30)) = true := by rfl)
    (hline : (apos.endLine == cpos.line) = true := by rfl) (hs : starEach (e :: es) X.env = (false, eval e X.env) :: starEach es X.env := by rfl) (hplain : (backTo cpos (starEach es X.env)).any (·.1) = false := by rfl) :
    PE X (.Call (.Attribute o name apos) (e :: es) [] cpos) (tBM X.K T r to t) := by
  intro pins s σ H Q I h
  refine wpAny_Call_method_late hbase hfew hline rfl (thn (ho pins s σ H _ I h) fun v s1 ⟨x, H1, I1, r1, ty, q1⟩ => ?_)
  obtain ⟨h1, h2⟩ := tyV_is I1 r1 ty
  refine ⟨T, id, pa, slot, hty, h1, h2, ?_⟩
  have hA := ha cpos pins s1 σ H1 _ I1 q1
  rw [hs] at hA ⊢
  refine Calls.callWith_builtin (by show (false || (backTo cpos (starEach es X.env)).any (·.1)) = false; rw [hplain] <;> rfl) (Calls.evalArgs_plain ?_)
  exact thn hA fun us s2 ⟨vs, H2, I2, r2, q2⟩ => hm pins s2 σ H2 x vs v us Q I2 r1 r2 q2

end
end L2

namespace L2
open PySem PySem.Spec PyProof.Rows

def MtM (X : Cx) (id : String) (r : V → List V → Hp → VK → Prop) : Prop :=
  ∀ (pins : List (Addr × Obj)) (s : Shared) (σ : St) (H : Hp) (x : V) (xs : List V) (v : Value) (us : List Value) (Q : VK), Inv X pins σ H s → RelV x v → Vals xs us → r x xs H Q →
    wpAny (model X.prog X.w) X.A (call (.builtin id) (v :: us)) (EP X pins σ Q) X.xe s


theorem Vals.one : ∀ {x : V} {us : List Value}, Vals [x] us → ∃ u, us = [u] ∧ RelV x u
  | _, _, .cons r .nil => ⟨_, rfl, r⟩
theorem Vals.two : ∀ {x y : V} {us : List Value}, Vals [x, y] us → ∃ u v, us = [u, v] ∧ RelV x u ∧ RelV y v
  | _, _, _, .cons r (.cons q .nil) => ⟨_, _, rfl, r, q⟩
theorem Vals.zero : ∀ {us : List Value}, Vals [] us → us = []
  | _, .nil => rfl
theorem Vals.dropLast {xs : List V} {us : List Value} (h : Vals xs us) : Vals xs.dropLast us.dropLast := by
  induction h with
  | nil => exact .nil
  | cons r t ih =>
    cases t with
    | nil => exact .nil
    | cons q t' => exact .cons r ih
theorem Vals.eraseIdx : ∀ {xs : List V} {us : List Value} (i : Nat), Vals xs us → Vals (xs.eraseIdx i) (us.eraseIdx i)
  | _, _, _, .nil => .nil
  | _, _, 0, .cons _ t => t
  | _, _, i + 1, .cons r t => .cons r (Vals.eraseIdx i t)
theorem Vals.reverse {xs : List V} {us : List Value} (h : Vals xs us) : Vals xs.reverse us.reverse := by
  induction h with
  | nil => exact .nil
  | cons r t ih => rw [List.reverse_cons, List.reverse_cons]; exact Vals.append ih (.cons r .nil)
theorem Vals.rep {xs : List V} {us : List Value} (h : Vals xs us) : ∀ k : Nat, Vals (List.replicate k xs).flatten (List.replicate k us).flatten
  | 0 => .nil
  | k + 1 => by
    rw [List.replicate_succ, List.replicate_succ, List.flatten_cons, List.flatten_cons]
    exact Vals.append h (Vals.rep h k)
theorem foldl_rep (its : List Value) : ∀ (k : Nat) (acc : List Value),
    List.foldl (fun x1 x2 => x1 ++ x2) acc.toArray (List.replicate k its.toArray) = (acc ++ (List.replicate k its).flatten).toArray
  | 0, acc => by simp
  | k + 1, acc => by
    have e : acc.toArray ++ its.toArray = (acc ++ its).toArray := by simp
    have e2 : (acc ++ its) ++ (List.replicate k its).flatten = acc ++ (List.replicate (k + 1) its).flatten := by
      rw [List.replicate_succ, List.flatten_cons, List.append_assoc]
    rw [← e2, ← foldl_rep its k (acc ++ its), ← e, List.replicate_succ, List.foldl_cons]

section
variable {X : Cx} {pins : List (Addr × Obj)} {σ : St} {H : Hp} {s : Shared} {l b : Addr} {xs ys zs : List V}


theorem Inv.lset {its its' : List Value} {n : Nat} {f : Array Value → Array Value} {t' : Nat} (I : Inv X pins σ H s) (hH : H l = some (.lst xs))
    (e : s.heap.get? l = some { cls := .type "list", data := .seq its.toArray n }) (hf : f its.toArray = its'.toArray) (hv : Vals ys its') (hz : ys.length ≤ sizeLine) :
    Inv X pins σ (upd H l (.lst ys)) { s with heap := s.heap.update l (Obj.mapSeq f), toks := t' } := by
  have q := PySem.IsL.update e f
  rw [hf] at q
  refine I.write (x := l) (e := l) (by rw [hH]; exact trivial) (.inl rfl) (fun b' u hb hu => (Heap.get?_update_other s.heap (Obj.mapSeq f) (Ne.symm hb)).trans hu) ⟨_, q⟩ ?_
  exact ⟨hz, its', _, hv, q⟩
theorem Inv.lnew {its : List Value} {t' : Nat} (I : Inv X pins σ H s) (hv : Vals ys its) (hz : ys.length ≤ sizeLine) :
    Inv X pins σ (upd H s.heap.objs.size (.lst ys)) { s with heap := s.heap.push { cls := .type "list", data := .seq its.toArray }, toks := t' } :=
  I.laid (fun _ _ q => Heap.get?_push_of_some _ q) (Nat.le_refl _) ⟨hz, its, 0, hv, Heap.get?_push_size _ rfl⟩
theorem Inv.fresh (I : Inv X pins σ H s) : H s.heap.objs.size = none := I.hok.fresh (Nat.le_refl _)
theorem Inv.lstM (I : Inv X pins σ H s) (hH : H l = some (.lst xs)) : xs.length ≤ sizeLine ∧ ∃ (its : List Value) (n : Nat), Vals xs its ∧ xs.length = its.length ∧ s.heap.get? l = some { cls := .type "list", data := .seq its.toArray n } := by
  obtain ⟨z, its, n, r, e⟩ := I.hok l _ hH
  exact ⟨z, its, n, r, r.length, e⟩

theorem notLongL {n : Nat} (h : n ≤ sizeLine) : Builtin.List.listTooLong n = false := by
  unfold Builtin.List.listTooLong
  exact decide_eq_false (by omega)
end

section
variable {X : Cx}


def rAppend : V → List V → Hp → VK → Prop := fun x vs H Q => ∃ l xs y, x = .ref l ∧ vs = [y] ∧ H l = some (.lst xs) ∧ xs.length < sizeLine ∧ Q .non (upd H l (.lst (xs ++ [y])))
theorem mt_append : MtM X "list.append" rAppend := by
  intro pins s σ H x vs v us Q I rx rv h
  obtain ⟨l, xs, y, rfl, rfl, hH, hz, q⟩ := h
  cases rx
  obtain ⟨u, rfl, ru⟩ := rv.one
  obtain ⟨z, its, n, r, hl, e⟩ := I.lstM hH
  refine call_meets F.slot_list_append ⟨_, e, rfl⟩ F.entry_list_append (F.args_list_append_2 _ _) (PySem.list_append l its.toArray n u (by rw [List.size_toArray]; omega)) ⟨e, ?_⟩
  refine ⟨.non, _, I.lset (its' := its ++ [u]) hH e (by simp) (r.append (.cons ru .nil)) ?_, rfl, q⟩
  rw [List.length_append, List.length_singleton]
  omega

def rExtend : V → List V → Hp → VK → Prop := fun x vs H Q => ∃ l b xs zs, x = .ref l ∧ vs = [.ref b] ∧ H l = some (.lst xs) ∧ H b = some (.lst zs) ∧ xs.length + zs.length ≤ sizeLine ∧ Q .non (upd H l (.lst (xs ++ zs)))
def rPop : V → List V → Hp → VK → Prop := fun x vs H Q => ∃ l xs y, x = .ref l ∧ vs = [] ∧ H l = some (.lst xs) ∧ xs[xs.length - 1]? = some y ∧ Q y (upd H l (.lst xs.dropLast))
def rPopAt : V → List V → Hp → VK → Prop := fun x vs H Q => ∃ l xs i k y, x = .ref l ∧ vs = [.int i] ∧ H l = some (.lst xs) ∧ -(2 ^ 63) ≤ i ∧ i < 2 ^ 63 ∧ seqIndex? i xs.length = some k ∧ xs[k]? = some y ∧ Q y (upd H l (.lst (xs.eraseIdx k)))
def rReverse : V → List V → Hp → VK → Prop := fun x vs H Q => ∃ l xs, x = .ref l ∧ vs = [] ∧ H l = some (.lst xs) ∧ Q .non (upd H l (.lst xs.reverse))
def rClear : V → List V → Hp → VK → Prop := fun x vs H Q => ∃ l xs, x = .ref l ∧ vs = [] ∧ H l = some (.lst xs) ∧ Q .non (upd H l (.lst []))
def rCat : R2 := fun x y H Q => ∃ l b xs zs, x = .ref l ∧ y = .ref b ∧ H l = some (.lst xs) ∧ H b = some (.lst zs) ∧ xs.length + zs.length ≤ sizeLine ∧ ∀ p, H p = none → Q (.ref p) (upd H p (.lst (xs ++ zs)))
theorem op_cat : OpR X (binaryOp .Add) rCat := by
  intro pins s σ H x y v u Q I rx ry h
  obtain ⟨l, b, xs, zs, rfl, rfl, hH, hB, hz, q⟩ := h
  cases rx
  cases ry
  obtain ⟨z, its, n, r, hl, e⟩ := I.lstM hH
  obtain ⟨z2, its2, n2, r2, hl2, e2⟩ := I.lstM hB
  refine PySem.P.add_list e e2 ?_ (by rw [List.size_toArray, List.size_toArray]; omega)
  have ea : its.toArray ++ its2.toArray = (its ++ its2).toArray := by simp
  rw [ea]
  exact ⟨.ref _, _, I.lnew (t' := s.toks) (r.append r2) (by rw [List.length_append]; omega), rfl, q _ I.fresh⟩
/-- a list times an int (a negative one is nothing) -/
def rRep : R2 := fun x y H Q => ∃ l k xs, x = .ref l ∧ y = .int k ∧ H l = some (.lst xs) ∧ -(2 ^ 63) ≤ k ∧ k < 2 ^ 63 ∧ xs.length * k.toNat ≤ sizeLine ∧
  ∀ p, H p = none → Q (.ref p) (upd H p (.lst (List.replicate k.toNat xs).flatten))
theorem len_rep {α : Type} (xs : List α) (k : Nat) : (List.replicate k xs).flatten.length = k * xs.length := by
  induction k with
  | zero => simp
  | succ k ih => rw [List.replicate_succ, List.flatten_cons, List.length_append, ih, Nat.succ_mul, Nat.add_comm]
theorem op_rep : OpR X (binaryOp .Mult) rRep := by
  intro pins s σ H x y v u Q I rx ry h
  obtain ⟨l, k, xs, rfl, rfl, hH, h1, h2, hz, q⟩ := h
  cases rx
  obtain ⟨t, rfl⟩ := ry
  obtain ⟨z, its, n, r, hl, e⟩ := I.lstM hH
  have hlen : its.toArray.size * k.toNat ≤ sizeLine := by rw [List.size_toArray, ← hl]; exact hz
  have hcap : ¬ its.toArray.size * k.toNat > (2 ^ 63 - 1) / 8 := by
    have : (sizeLine : Nat) ≤ (2 ^ 63 - 1) / 8 := by decide
    omega
  have hfit : ¬ (!Builtin.List.listFitsIndex k) = true := by
    rw [fitsIndex_both h1 h2]
    exact Bool.false_ne_true
  have hlong : ¬ Builtin.List.listTooLong (its.toArray.size * k.toNat) = true := by
    rw [notLongL hlen]
    exact Bool.false_ne_true
  have hnew : List.foldl (fun x1 x2 => x1 ++ x2) #[] (List.replicate (if its.toArray.isEmpty = true then 0 else k.toNat) its.toArray) = (List.replicate k.toNat its).flatten.toArray := by
    have f0 : ∀ m : Nat, List.foldl (fun x1 x2 => x1 ++ x2) #[] (List.replicate m its.toArray) = (List.replicate m its).flatten.toArray := fun m => by
      have := foldl_rep its m []
      rw [List.nil_append] at this
      exact this
    rw [f0]
    cases its with
    | nil => simp
    | cons a r' => rw [if_neg (by simp)]
  refine wpAny_binaryOp_repeat_ref (T := "list") (U := "int") (by decide) ⟨_, e, rfl⟩ (fun s' => typeIs_int s' k t) noFill_list_mul F.fills_int_mul F.slot_int_rmul repeat_list F.slot_int_index.lookup
    (call_meets F.slot_int_rmul (typeIs_int s k t) F.entry_int_rmul (F.args_int_rmul_2 _ _) (int___rmul___int_list k t l its.toArray n)
      ⟨e, rfl, ⟨_, e, rfl⟩, call_meets F.slot_list_mul ⟨_, e, rfl⟩ F.entry_list_mul (F.args_list_mul_2 _ _) (AutoListH.list___mul___list_int_3 l its.toArray n k t hfit hcap hlong) ⟨e, ?_⟩⟩)
  rw [hnew]
  exact ⟨.ref _, _, I.lnew (t' := s.toks) (r.rep k.toNat) (by rw [len_rep, Nat.mul_comm]; exact hz), rfl, q _ I.fresh⟩


end


section
variable {prog : Program} {w : World} {A : Around} {E : Value → Shared → Prop} {s : Shared}
end

section
variable {X : Cx}
end
end L2

namespace Att
open PySem PySem.W PySem.Calls PyProof.Rows


theorem ints_of_wellAll {P : Params} {h : Heap} : ∀ (ns : List Int) (vs : List Value), WellAll P h vs (ns.map WData.int) → IntsAre vs ns := by
  intro ns
  induction ns with
  | nil =>
    intro vs w
    rw [List.map_nil] at w
    cases w
    exact .nil
  | cons n ns ih =>
    intro vs w
    rw [List.map_cons] at w
    cases w with
    | cons a b =>
      cases a
      exact .cons _ _ (ih _ b)

theorem script_of {l : OpenLaw} {n : Nat} (hn : l.most = some n) {P : Params} {h : Heap} {args : List WData} {vals : List Value}
    (hpre : l.row.toRowW.claim.pre args = true) (hwl : WellAll P h vals args) :
    ∃ a vs ns, vals = [Value.ref a] ∧ args = [WData.list (ns.map WData.int)] ∧ h.get? a = some { cls := .type "list", data := .seq vs.toArray } ∧ IntsAre vs ns ∧ ns.length ≤ n := by
  have hsh : WShape.hasAll [] args [.list .int] = true := (pre_splitW hpre).1
  have hc : l.pre.holds [] { args := args } = true := (pre_splitW hpre).2
  obtain ⟨d, r, rfl, h1, h2⟩ := hasAllW_cons hsh
  obtain rfl := hasAllW_nil h2
  obtain ⟨xs, rfl, h3⟩ := hasW_list h1
  obtain ⟨ns, rfl⟩ := items_int h3
  have hlen : ns.length ≤ n := by
    unfold OpenLaw.pre at hc
    have h4 : (WTm.not (.lt (.lit (.int (n : Int))) (.len (.arg 0)))).holds [] { args := [.list (ns.map .int)] } = true := by
      have h4 := (holds_andW hc).1
      rw [hn] at h4
      exact h4
    have h5 := condW_of h4 (w_not (w_lt w_lit (w_len_list (w_arg rfl))))
    rw [List.length_map] at h5
    refine Nat.le_of_not_lt fun q => ?_
    have q' : (n : Int) < ((ns.length : Nat) : Int) := by omega
    first
      | (rw [decide_eq_true q'] at h5; exact absurd h5 (by decide))
      | (simp at h5; omega)
  cases hwl with
  | cons w1 w2 =>
    cases w2
    cases w1 with
    | list ho hall => exact ⟨_, _, ns, rfl, rfl, ho, ints_of_wellAll ns _ hall, hlen⟩

theorem post_true (l : OpenLaw) (args : List WData) : l.row.toRowW.claim.post args (.bool true) args = true :=
  postW_of (r := l.row.toRowW) (X := (true == true))
    (show WShape.has [] (.bool true) .bool = true by first | rfl | decide | simp [WShape.has, WShape.arms, WShape.armsAll])
    (show (WTm.eq .res (.lit (.bool true))).value [] { args := args, res := some (.bool true), after := args } = some (.bool (true == true)) from w_eq_bool (w_res rfl) w_lit) rfl


section
variable {prog : Program} {w : World} {A : Around} {E : Value → Shared → Prop} {s : Shared} {K : Frag}

def noObjs (h : Heap) : Heap := { h with objs := #[] }
def ledger (h : Heap) (L d : Addr) : List (Addr × Obj) := (List.range h.objs.size).filterMap fun a => if a = L ∨ a = d then none else (h.get? a).map fun o => (a, o)
end
end Att

namespace L2
open PySem PySem.Spec PyProof.Rows

theorem vals_ints : ∀ {vs : List Value} {ns : List Int}, IntsAre vs ns → Vals (ns.map V.int) vs
  | _, _, .nil => .nil
  | _, _, .cons n t h => .cons ⟨t, rfl⟩ (vals_ints h)

/-- nothing is tracked but the script, known to the object (or it is an object of the module) -/
def Only (H : Hp) : Prop := ∀ b, H b = none ∨ ∃ o xs, H b = some (.frz o (.lst xs))

/-- THE HEAD: the law's promise, at the heap behind the top. F, the promise of the law's def, may use that base is part of the heap (so K.In base, base.Ns mainGlobals mg stand in Mod) -/
theorem law_call {P : Program} {w : World} {K : PySem.W.Frag} {mg mb : Str → Option Value} {CX : CXT} {k : Nat} {fa a : Addr} {fd : FuncData} {x : Str} {sp : Sp} {s₁ : Shared} {vs : List Value} {ns : List Int}
    (KX : K.In s₁.heap) (hns : s₁.heap.Ns mainGlobals mg) (hb : s₁.heap.Ns builtinsNs mb) (hbb : ∀ x : Str, x ≠ "__name__" → mb x = bootBuiltins x) (hlim : s₁.heap.NoLimit) (hg : s₁.gens = #[])
    (ha : s₁.heap.get? a = some { cls := .type "list", data := .seq vs.toArray }) (hi : IntsAre vs ns) (hl : ns.length ≤ sizeLine) (hr : Room k callerA)
    (F : ∀ base : Heap, K.In base → base.Ns mainGlobals mg → FnOk P w K mg base CX k fa fd [x] sp) (hbind : ∀ (s : Shared) (u : Value), BindsTo s fd ⟨[u], []⟩ [(x, u)])
    (hsp : ∀ H : Hp, Only H → SqL K H a (ns.map V.int) → sp [.ref a] H (fun v _ => v = .bl true) fun _ _ _ => False)
    (hCX : ∀ H e s', CX [] H s₁ (fun _ _ _ => False) e s' → False) :
    codeAny (model P w) callerA (.call (.ref fa) ⟨[.ref a], []⟩) (fun r s' => r = .ok (.ret (.bool true)) ∧ OldK s₁.heap s'.heap ∧ s'.os = s₁.os ∧ AllBare s'.gens) s₁ := by
  have rv := vals_ints hi
  have lenV := hi.length
  -- from an abstract heap in which nothing but the script may be tracked
  have core : ∀ H : Hp, Only H → SqL K H a (ns.map V.int) → HOk P w H s₁.heap → (∀ b, H b ≠ none → b = a) → (H a ≠ none → K.lookup a = none) →
      codeAny (model P w) callerA (.call (.ref fa) ⟨[.ref a], []⟩) (fun r s' => r = .ok (.ret (.bool true)) ∧ OldK s₁.heap s'.heap ∧ s'.os = s₁.os ∧ AllBare s'.gens) s₁ := by
    intro H hO hS hok hA hK
    have base_of : ∀ {b : Addr} {o : Obj}, s₁.heap.get? b = some o → H b = none → (hidT s₁.heap H).get? b = some o := fun e n => hidT_get e n
    have noA : ∀ {b : Addr} {o : Obj} {es : Array DictEntry} {ep : Nat}, s₁.heap.get? b = some o → o.data = .dict es ep → H b = none := fun {b o es ep} e d => by
      cases q : H b with
      | none => rfl
      | some u =>
        have e' : b = a := hA b (by rw [q]; simp)
        subst e'
        rw [ha] at e; cases e
        have d' : Data.seq vs.toArray _ = Data.dict es ep := d
        cases d'
    have nsK : ∀ {b : Addr} {m : Str → Option Value}, s₁.heap.Ns b m → (hidT s₁.heap H).Ns b m := fun {b m} ⟨o, es, ep, e, d, r⟩ => ⟨o, es, ep, base_of e (noA e d), d, r⟩
    have hKb : K.In (hidT s₁.heap H) := fun b o e => base_of (KX b o e) (by
      cases q : H b with
      | none => rfl
      | some u =>
        have e' : b = a := hA b (by rw [q]; simp)
        subst e'
        rw [hK (by rw [q]; simp)] at e; cases e)
    have hM : Mod K mg (hidT s₁.heap H) := ⟨hKb, nsK hns, ⟨mb, nsK hb, hbb⟩, let ⟨mc, h1, h2⟩ := hlim; ⟨mc, nsK h1, h2⟩⟩
    have e0 : Env0 P w K mg (hidT s₁.heap H) callerA [] s₁ H := ⟨rfl, hM, fun b o e => of_hidT e, Nat.le_of_eq (hidT_size _ _), trivial, fun b hb => absurd (show b ∈ ([] : List Addr) from hb) (by simp), hok, .of_eq hg⟩
    refine codeAny_mono ((F _ hKb (nsK hns)).run callerA [] s₁ H ⟨[.ref a], []⟩ [.ref a] [.ref a] _ _ hr e0 (hbind s₁ (.ref a)) (.cons rfl .nil) (hsp H hO hS)) fun r s' h => ?_
    cases r with
    | error e => exact (hCX H e s' h).elim
    | ok fl =>
      cases fl with
      | next => exact False.elim h
      | brk => exact False.elim h
      | cont => exact False.elim h
      | ret u =>
        obtain ⟨v, H', os, bare, un, hok', r', q⟩ := h
        have q' : v = .bl true := q
        subst q'
        obtain rfl : u = Value.bool true := r'
        refine ⟨rfl, OldK.of_keep fun b o e => ?_, os, bare⟩
        cases q : H b with
        | none => exact un.keep b o e q (by intro z; exact absurd (show b ∈ ([] : List Addr) from z) (by simp)) (by simp)
        | some u =>
          rcases hO b with z | ⟨ob, xs, z⟩
          · rw [q] at z; cases z
          · have z2 := un.frzs b ob _ z
            obtain ⟨e1, _⟩ := hok b _ z
            obtain ⟨e2, _⟩ := hok' b _ z2
            rw [e] at e1; cases e1
            exact e2
  cases hk : K.lookup a with
  | some o =>
    -- the script is one of the module's own objects
    have e := KX a o hk
    rw [ha] at e
    cases e
    refine core (fun _ => none) (fun _ => .inl rfl) (.inr ⟨_, vs.toArray, _, hk, rfl, rfl, rfl, by rw [List.size_toArray, lenV]; exact hl, by simpa using rv⟩) (fun b u z => by have z' : (none : Option HO) = some u := z; cases z') (fun b z => absurd rfl z) fun z => absurd rfl z
  | none =>
    refine core (fun b => if b = a then some (.frz { cls := .type "list", data := .seq vs.toArray } (.lst (ns.map V.int))) else none) (fun b => ?_) (.inl (.inr ⟨{ cls := .type "list", data := .seq vs.toArray }, if_pos rfl⟩)) (fun b u z => ?_) (fun b z => ?_) fun _ => hk
    · by_cases hb : b = a
      · exact .inr ⟨_, _, if_pos hb⟩
      · exact .inl (if_neg hb)
    · by_cases hb : b = a
      · have z' := (if_pos hb).symm.trans z
        cases z'
        subst hb
        exact ⟨ha, by rw [List.length_map]; exact hl, vs, _, rv, ha⟩
      · have z' := (if_neg hb).symm.trans z
        cases z'
    · by_cases hb : b = a
      · exact hb
      · exact absurd (if_neg hb) z
end L2

namespace L2
open PySem PySem.Spec PyProof.Rows

abbrev KOf {K : PySem.W.Frag} {h : Heap} (_ : K.In h) : PySem.W.Frag := K

end L2




namespace L2
open PySem PySem.Spec PyProof.Rows


/-- the j-th statement of a class's body -/
def inClass (s : Stmt) (j : Nat) : Stmt := match s with
  | .ClassDef _ _ _ body _ _ _ _ _ _ _ => body.getD j (.Pass ⟨0, 0, 0, 0⟩)
  | _ => .Pass ⟨0, 0, 0, 0⟩
def defArgs (s : Stmt) : Arguments := match s with
  | .FunctionDef _ a _ _ _ _ _ _ _ _ => a
  | _ => { posonlyargs := [], args := [], vararg := none, kwonlyargs := [], kw_defaults := [], kwarg := none, defaults := [] }
def defBody (s : Stmt) : List Stmt := match s with
  | .FunctionDef _ _ b _ _ _ _ _ _ _ => b
  | _ => []
def defScope (s : Stmt) : Scope := match s with
  | .FunctionDef _ _ _ _ _ _ sc _ _ _ => sc
  | _ => { kind := .function, names := [], isGenerator := false, isCoroutine := false }


abbrev CX0 : CXT := fun _ _ _ _ _ _ => False
abbrev E0 : XK := fun _ _ _ => False
theorem pass0 {X : Cx} : Passes CX0 X E0 := fun _ _ _ _ _ _ _ h => h.elim


structure Fun (K : PySem.W.Frag) (x qual : Str) (st : Stmt) (f : Addr) (fd : FuncData) : Prop where
  ex : ∃ (oc : Value) (od : Option Addr) (kV doc pm : Value) (an : Option Addr) (cdv ct : Value) (osl : Array (Option Value)),
    fd = PySem.W.fnOf x qual (defArgs st) (defBody st) (defScope st) .none kV doc pm an cdv ct ∧ K.lookup f = some ⟨oc, od, .func fd, osl⟩ ∧ PySem.W.codeIn K cdv qual = true
  kp : PySem.W.keepIn K (.ref f) = true
section
variable {P : Program} {w : World} {K : PySem.W.Frag} {mg : Str → Option Value} {base : Heap}
/-- THE RULE for a def: its body as a term of rules, and the reading of that term -/
theorem Fun.ok {x qual : Str} {st : Stmt} {f : Addr} {fd : FuncData} {N ps : List Str} {k : Nat} {sp : Sp} (F : Fun K x qual st f fd) (S : FnScope N ps (defScope st)) (len : ∀ vs H Q E, sp vs H Q E → vs.length = ps.length)
    (hbody : ∀ (cdv : Value) (A : Around) (outer : List Env) (s : Shared) (H : Hp) (vs : List V) (Q : VK) (E : XK), Room k (A.deeper (envOfC qual (defScope st) s.heap.objs.size f cdv)) → sp vs H Q E →
      ∃ t, PSs (cxOf CX0 P w K mg base N qual (defScope st) f cdv A outer s H E).nox (defBody st) t ∧ t { nx := fun _ H' => Q .non H', rt := Q } (start N vs) H) : FnOk P w K mg base CX0 (k + 1) f fd ps sp := by
  obtain ⟨oc, od, kV, doc, pm, an, cdv, ct, osl, rfl, lk, hcd⟩ := F.ex
  refine fn_of lk hcd S len fun A outer s H vs Q E hr hsp => ?_
  obtain ⟨t, h, q⟩ := hbody cdv A outer s H vs Q E hr hsp
  exact ⟨t, h.nox, q⟩
/-- how its arguments bind (no defaults): h is «fun _ _ _ _ _ _ us hl => match us, hl with | [_, _], _ => rfl», one _ a parameter -/
theorem Fun.binds {x qual : Str} {st : Stmt} {f : Addr} {fd : FuncData} {ps : List Str} (F : Fun K x qual st f fd)
    (h : ∀ (kV doc pm : Value) (an : Option Addr) (cdv ct : Value) (us : List Value), us.length = ps.length → bindArgs (PySem.W.fnOf x qual (defArgs st) (defBody st) (defScope st) .none kV doc pm an cdv ct) ⟨us, []⟩ = pure (ps.zip us)) : Binds K fd ps [] := by
  obtain ⟨oc, od, kV, doc, pm, an, cdv, ct, osl, rfl, lk, hcd⟩ := F.ex
  exact .all (h kV doc pm an cdv ct)
theorem fun_mk {x qual : Str} {st : Stmt} {f : Addr} {oc : Value} {od an : Option Addr} {osl : Array (Option Value)} {kV doc pm cdv ct : Value} (l : K.lookup f = some ⟨oc, od, .func (PySem.W.fnOf x qual (defArgs st) (defBody st) (defScope st) .none kV doc pm an cdv ct), osl⟩)
    (c : PySem.W.codeIn K cdv qual = true) (k : PySem.W.keepIn K (.ref f) = true) : Fun K x qual st f (PySem.W.fnOf x qual (defArgs st) (defBody st) (defScope st) .none kV doc pm an cdv ct) := ⟨⟨oc, od, kV, doc, pm, an, cdv, ct, osl, rfl, l, c⟩, k⟩
end
section
variable {X : Cx}
theorem pv (i : Nat) {x : Str} {pos : Pos} (hN : X.N[i]? = some x := by rfl) (hv : Vis X.env.scope x := by first | exact Or.inl rfl | exact Or.inr (Or.inl rfl) | exact Or.inr (Or.inr rfl)) (hd : (x == ("__debug__" : Str)) = false := by decide)
    (hcd : (x == ("__classdict__" : Str)) = false := by decide) : PE X (.Name x pos) (tVar i) := pe_var hN hv hd hcd
end


/-- all that was tracked is as it was -/
def Same (H H' : Hp) : Prop := ∀ b o, H b = some o → H' b = some o
theorem Same.refl (H : Hp) : Same H H := fun _ _ h => h
theorem Same.trans {H H1 H2 : Hp} (a : Same H H1) (b : Same H1 H2) : Same H H2 := fun c o h => b c o (a c o h)
theorem Same.free {H H' : Hp} (e : Same H H') {l : Addr} (h : H' l = Option.none) : H l = Option.none := by
  cases q : H l with
  | none => rfl
  | some o =>
    rw [e l o q] at h
    cases h
theorem Same.seq {K : PySem.W.Frag} {H H' : Hp} {a : Addr} {xs : List V} (e : Same H H') (h : SqL K H a xs) : SqL K H' a xs := by
  rcases h with (h | ⟨o, h⟩) | h
  · exact .inl (.inl (e _ _ h))
  · exact .inl (.inr ⟨o, e _ _ h⟩)
  · exact .inr h

end L2


namespace LS
open PySem PySem.Spec PyProof.Rows L2

/-- data: immutable things by value, the others by their number among the cells -/
inductive D where
  | non | bl (b : Bool) | int (i : Int) | str (x : Str) | tup (ds : List D) | loc (l : Nat) | scr (ns : List Int) | adr (a : Addr) | ty (n : String)
inductive Cell where
  | lst (ds : List D)
abbrev HD := List Cell
abbrev Rho := List (Option D)
inductive Out (α : Type) where
  | ok (a : α) (h : HD) | err (C : Value) (fs : List (Str × D)) (h : HD) | stuck
def Out.bind {α β : Type} (o : Out α) (k : α → HD → Out β) : Out β := match o with
  | .ok a h => k a h
  | .err C fs h => .err C fs h
  | .stuck => .stuck
@[simp] theorem Out.bind_ok {α β : Type} (a : α) (h : HD) (k : α → HD → Out β) : (Out.ok a h).bind k = k a h := rfl
@[simp] theorem Out.bind_err {α β : Type} (C : Value) (fs : List (Str × D)) (h : HD) (k : α → HD → Out β) : (Out.err C fs h : Out α).bind k = .err C fs h := rfl
@[simp] theorem Out.bind_stuck {α β : Type} (k : α → HD → Out β) : (Out.stuck : Out α).bind k = .stuck := rfl

/-- what never changes -/
def imm : HO → Bool
  | .tup _ => true
  | .frz _ _ => true
  | .ext _ => true
  | .xd _ => true
  | _ => false
def Kp (H H' : Hp) : Prop := ∀ b o, H b = some o → imm o = true → H' b = some o
theorem Kp.refl (H : Hp) : Kp H H := fun _ _ e _ => e
theorem Kp.trans {H H1 H2 : Hp} (a : Kp H H1) (b : Kp H1 H2) : Kp H H2 := fun c o e i => b c o (a c o e i) i
theorem Kp.new {H : Hp} {p : Addr} {o : HO} (h : H p = none) : Kp H (upd H p o) := fun b u e _ => by rw [upd_ne (ne_of_none e h)]; exact e
theorem Kp.set {H : Hp} {p : Addr} {o u : HO} (h : H p = some o) (i : imm o = false) : Kp H (upd H p u) := fun b w e iw => by
  rw [upd_ne]
  · exact e
  · intro z
    rw [z, h] at e; cases e; rw [i] at iw; cases iw
theorem Kp.rd {H H' : Hp} {a : Addr} {u : HO} (k : Kp H H') (r : Rd H a u) (i : imm u = true) : Rd H' a u := by
  rcases r with r | ⟨o, r⟩
  · exact .inl (k _ _ r i)
  · exact .inr ⟨o, k _ _ r rfl⟩
/-- a list that nobody changes -/
def FzL (K : PySem.W.Frag) (H : Hp) (a : Addr) (xs : List V) : Prop := (∃ o, H a = some (.frz o (.lst xs))) ∨ SqL K (fun _ => none) a xs
theorem Kp.fzL {K : PySem.W.Frag} {H H' : Hp} {a : Addr} {xs : List V} (k : Kp H H') (h : FzL K H a xs) : FzL K H' a xs := by
  rcases h with ⟨o, h⟩ | h
  · exact .inl ⟨o, k _ _ h rfl⟩
  · exact .inr h
theorem FzL.sq {K : PySem.W.Frag} {H : Hp} {a : Addr} {xs : List V} (h : FzL K H a xs) : SqL K H a xs := by
  rcases h with ⟨o, h⟩ | (h | ⟨o, h⟩) | h
  · exact .inl (.inr ⟨o, h⟩)
  · cases h
  · cases h
  · exact .inr h

mutual
/-- a value stands for data -/
def DV (K : PySem.W.Frag) (m : List Addr) (H : Hp) : D → V → Prop
  | .non, v => v = .non
  | .bl b, v => v = .bl b
  | .int i, v => v = .int i
  | .str x, v => v = .str x
  | .tup ds, v => ∃ a vs, v = .ref a ∧ H a = some (.tup vs) ∧ DVs K m H ds vs
  | .loc l, v => ∃ a, v = .ref a ∧ m[l]? = some a
  | .scr ns, v => ∃ a, v = .ref a ∧ FzL K H a (ns.map V.int)
  | .adr a, v => v = .ref a
  | .ty n, v => v = .ty n
def DVs (K : PySem.W.Frag) (m : List Addr) (H : Hp) : List D → List V → Prop
  | [], vs => vs = []
  | d :: ds, vs => ∃ v r, vs = v :: r ∧ DV K m H d v ∧ DVs K m H ds r
end

section
variable {K : PySem.W.Frag} {m m' : List Addr} {H H' : Hp}
theorem pre_get {l : Nat} {a : Addr} (p : m <+: m') (h : m[l]? = some a) : m'[l]? = some a := by
  obtain ⟨t, rfl⟩ := p
  have hl : l < m.length := (List.getElem?_eq_some_iff.mp h).1
  rw [List.getElem?_append_left hl]; exact h
mutual
theorem DV.keep (p : m <+: m') (k : Kp H H') : ∀ {d : D} {v : V}, DV K m H d v → DV K m' H' d v
  | .non, _, h => by simpa [DV] using h
  | .bl _, _, h => by simpa [DV] using h
  | .int _, _, h => by simpa [DV] using h
  | .str _, _, h => by simpa [DV] using h
  | .tup ds, _, h => by
    simp only [DV] at h ⊢
    obtain ⟨a, vs, e, q, r⟩ := h
    exact ⟨a, vs, e, k _ _ q rfl, DVs.keep p k r⟩
  | .loc l, _, h => by
    simp only [DV] at h ⊢
    obtain ⟨a, e, q⟩ := h
    exact ⟨a, e, pre_get p q⟩
  | .scr ns, _, h => by
    simp only [DV] at h ⊢
    obtain ⟨a, e, q⟩ := h
    exact ⟨a, e, k.fzL q⟩
  | .adr _, _, h => by simpa [DV] using h
  | .ty _, _, h => by simpa [DV] using h
theorem DVs.keep (p : m <+: m') (k : Kp H H') : ∀ {ds : List D} {vs : List V}, DVs K m H ds vs → DVs K m' H' ds vs
  | [], _, h => by simpa [DVs] using h
  | d :: ds, _, h => by
    simp only [DVs] at h ⊢
    obtain ⟨v, r, e, q, t⟩ := h
    exact ⟨v, r, e, DV.keep p k q, DVs.keep p k t⟩
end
theorem DVs.nil : DVs K m H [] [] := by simp [DVs]
theorem DVs.cons {d : D} {v : V} {ds : List D} {vs : List V} (h : DV K m H d v) (t : DVs K m H ds vs) : DVs K m H (d :: ds) (v :: vs) := by
  simp only [DVs]; exact ⟨v, vs, rfl, h, t⟩
theorem DVs.len : ∀ {ds : List D} {vs : List V}, DVs K m H ds vs → ds.length = vs.length
  | [], _, h => by simp only [DVs] at h; subst h; rfl
  | d :: ds, _, h => by
    simp only [DVs] at h
    obtain ⟨v, r, e, _, t⟩ := h
    subst e
    simp [DVs.len t]
theorem DVs.get : ∀ {ds : List D} {vs : List V} {i : Nat} {d : D}, DVs K m H ds vs → ds[i]? = some d → ∃ v, vs[i]? = some v ∧ DV K m H d v
  | [], _, _, _, _, e => by simp at e
  | d :: ds, _, i, x, h, e => by
    simp only [DVs] at h
    obtain ⟨v, r, rfl, q, t⟩ := h
    cases i with
    | zero => simp at e; subst e; exact ⟨v, rfl, q⟩
    | succ i =>
      obtain ⟨w, h1, h2⟩ := DVs.get (i := i) t (by simpa using e)
      exact ⟨w, by simpa using h1, h2⟩
theorem DVs.app : ∀ {ds es : List D} {vs ws : List V}, DVs K m H ds vs → DVs K m H es ws → DVs K m H (ds ++ es) (vs ++ ws)
  | [], _, _, _, h, t => by simp only [DVs] at h; subst h; exact t
  | d :: ds, _, _, _, h, t => by
    simp only [DVs] at h
    obtain ⟨v, r, rfl, q, u⟩ := h
    exact .cons q (DVs.app u t)
theorem DVs.set : ∀ {ds : List D} {vs : List V} {d : D} {v : V} (i : Nat), DVs K m H ds vs → DV K m H d v → DVs K m H (ds.set i d) (vs.set i v)
  | [], _, _, _, _, h, _ => by simp only [DVs] at h; subst h; exact .nil
  | d :: ds, _, _, _, i, h, q' => by
    simp only [DVs] at h
    obtain ⟨v, r, rfl, q, u⟩ := h
    cases i with
    | zero => exact .cons q' u
    | succ i => exact .cons q (DVs.set i u q')
theorem DVs.take : ∀ {ds : List D} {vs : List V} (n : Nat), DVs K m H ds vs → DVs K m H (ds.take n) (vs.take n)
  | _, _, 0, _ => by simpa using (DVs.nil : DVs K m H [] [])
  | [], _, n + 1, h => by simp only [DVs] at h; subst h; exact .nil
  | d :: ds, _, n + 1, h => by
    simp only [DVs] at h
    obtain ⟨v, r, rfl, q, u⟩ := h
    exact .cons q (DVs.take n u)
theorem DVs.drop : ∀ {ds : List D} {vs : List V} (n : Nat), DVs K m H ds vs → DVs K m H (ds.drop n) (vs.drop n)
  | _, _, 0, h => by simpa using h
  | [], _, n + 1, h => by simp only [DVs] at h; subst h; exact .nil
  | d :: ds, _, n + 1, h => by
    simp only [DVs] at h
    obtain ⟨v, r, rfl, q, u⟩ := h
    simpa using DVs.drop n u
theorem DVs.rep {ds : List D} {vs : List V} (h : DVs K m H ds vs) : ∀ n, DVs K m H (List.replicate n ds).flatten (List.replicate n vs).flatten
  | 0 => by simpa using (DVs.nil : DVs K m H [] [])
  | n + 1 => by
    rw [List.replicate_succ, List.flatten_cons, List.replicate_succ, List.flatten_cons]
    exact h.app (DVs.rep h n)

/-- what stands at a cell's address -/
def CRel (K : PySem.W.Frag) (m : List Addr) (H : Hp) : Cell → Addr → Prop
  | .lst ds, a => ∃ vs, H a = some (.lst vs) ∧ DVs K m H ds vs
structure HR (K : PySem.W.Frag) (m : List Addr) (h : HD) (H : Hp) : Prop where
  len : m.length = h.length
  nd : m.Nodup
  cells : ∀ (l : Nat) (c : Cell) (a : Addr), h[l]? = some c → m[l]? = some a → CRel K m H c a
theorem HR.at {h : HD} {l : Nat} {c : Cell} (r : HR K m h H) (e : h[l]? = some c) : ∃ a, m[l]? = some a ∧ CRel K m H c a := by
  have hl : l < h.length := (List.getElem?_eq_some_iff.mp e).1
  have : l < m.length := by rw [r.len]; exact hl
  exact ⟨m[l], List.getElem?_eq_getElem this, r.cells l c _ e (List.getElem?_eq_getElem this)⟩
theorem HR.mem {h : HD} {a : Addr} (r : HR K m h H) (ha : a ∈ m) : H a ≠ none := by
  obtain ⟨l, hl, rfl⟩ := List.getElem_of_mem ha
  have hl' : l < h.length := by rw [← r.len]; exact hl
  have := r.cells l h[l] m[l] (List.getElem?_eq_getElem hl') (List.getElem?_eq_getElem hl)
  cases hc : h[l] with
  | lst ds =>
    rw [hc] at this
    obtain ⟨vs, e, _⟩ := this
    rw [e]; simp
/-- the tuples may grow, the cells stay -/
theorem HR.same {h : HD} (r : HR K m h H) (k : Kp H H') (s : ∀ a ∈ m, H' a = H a) : HR K m h H' := by
  refine ⟨r.len, r.nd, fun l c a e q => ?_⟩
  have hm : a ∈ m := List.mem_of_getElem? q
  have := r.cells l c a e q
  cases c with
  | lst ds =>
    obtain ⟨vs, e1, e2⟩ := this
    exact ⟨vs, by rw [s a hm]; exact e1, e2.keep (List.prefix_refl _) k⟩
/-- something new that is no cell -/
theorem HR.new {h : HD} {p : Addr} {o : HO} (r : HR K m h H) (hp : H p = none) : HR K m h (upd H p o) :=
  r.same (.new hp) fun a ha => upd_ne fun z => r.mem ha (z ▸ hp)
/-- a new cell -/
theorem HR.newCell {h : HD} {p : Addr} {o : HO} {c : Cell} (r : HR K m h H) (hp : H p = none) (hc : CRel K (m ++ [p]) (upd H p o) c p) : HR K (m ++ [p]) (h ++ [c]) (upd H p o) := by
  have hpm : p ∉ m := fun z => r.mem z hp
  refine ⟨by simp [r.len], ?_, fun l c' a e q => ?_⟩
  · rw [List.nodup_append]
    refine ⟨r.nd, by simp, fun a ha b hb => ?_⟩
    rw [List.mem_singleton] at hb
    subst hb
    intro z; subst z; exact hpm ha
  · by_cases hl : l < m.length
    · rw [List.getElem?_append_left hl] at q
      rw [List.getElem?_append_left (by rw [← r.len]; exact hl)] at e
      have := r.cells l c' a e q
      have hne : a ≠ p := fun z => hpm (z ▸ List.mem_of_getElem? q)
      cases c' with
      | lst ds =>
        obtain ⟨vs, e1, e2⟩ := this
        exact ⟨vs, by rw [upd_ne hne]; exact e1, e2.keep (List.prefix_append _ _) (.new hp)⟩
    · have h1 : m.length ≤ l := Nat.le_of_not_lt hl
      rw [List.getElem?_append_right h1] at q
      rw [List.getElem?_append_right (by rw [← r.len]; exact h1)] at e
      have e0 : l - m.length = 0 := by
        cases hz : l - m.length with
        | zero => rfl
        | succ n => rw [hz] at q; simp at q
      rw [← r.len] at e
      rw [e0] at q e
      simp at q e
      subst q e
      exact hc
/-- a cell is written -/
theorem HR.setCell {h : HD} {p : Addr} {l : Nat} {o u : HO} {c : Cell} (r : HR K m h H) (hl : m[l]? = some p) (ho : H p = some o) (i : imm o = false) (hc : CRel K m (upd H p u) c p) : HR K m (h.set l c) (upd H p u) := by
  refine ⟨by simp [r.len], r.nd, fun j c' a e q => ?_⟩
  by_cases hj : j = l
  · subst hj
    rw [hl] at q; cases q
    have hlt : j < h.length := by rw [← r.len]; exact (List.getElem?_eq_some_iff.mp hl).1
    rw [List.getElem?_set_self hlt] at e
    cases e
    exact hc
  · rw [List.getElem?_set_ne (Ne.symm hj)] at e
    have := r.cells j c' a e q
    have hne : a ≠ p := by
      intro z
      subst z
      obtain ⟨h1, e1⟩ := List.getElem?_eq_some_iff.mp q
      obtain ⟨h2, e2⟩ := List.getElem?_eq_some_iff.mp hl
      exact hj ((List.getElem_inj r.nd).mp (e1.trans e2.symm))
    cases c' with
    | lst ds =>
      obtain ⟨vs, e1, e2⟩ := this
      exact ⟨vs, by rw [upd_ne hne]; exact e1, e2.keep (List.prefix_refl _) (.set ho i)⟩

/-- the frame's slots -/
def ER (K : PySem.W.Frag) (m : List Addr) (H : Hp) (ρ : Rho) (σ : L2.St) : Prop := ρ.length = σ.length ∧ ∀ (i : Nat) (d : D), ρ[i]? = some (some d) → ∃ v, σ[i]? = some (some v) ∧ DV K m H d v
theorem ER.keep {ρ : Rho} {σ : L2.St} (p : m <+: m') (k : Kp H H') (e : ER K m H ρ σ) : ER K m' H' ρ σ := ⟨e.1, fun i d h => let ⟨v, a, b⟩ := e.2 i d h; ⟨v, a, b.keep p k⟩⟩
theorem ER.set {ρ : Rho} {σ : L2.St} {i : Nat} {d : D} {v : V} (e : ER K m H ρ σ) (r : DV K m H d v) : ER K m H (ρ.set i (some d)) (σ.set i (some v)) := by
  refine ⟨by simp [e.1], fun j d' h => ?_⟩
  by_cases hj : i = j
  · subst hj
    by_cases hl : i < ρ.length
    · rw [List.getElem?_set_self hl] at h
      cases h
      exact ⟨v, by rw [List.getElem?_set_self (by rw [← e.1]; exact hl)], r⟩
    · rw [List.getElem?_eq_none (by simp; omega)] at h; cases h
  · rw [List.getElem?_set_ne hj] at h
    obtain ⟨w, a, b⟩ := e.2 j d' h
    exact ⟨w, by rw [List.getElem?_set_ne hj]; exact a, b⟩
/-- of the slots some are forgotten -/
theorem ER.start {N : List Str} {ds : List D} {vs : List V} (h : DVs K m H ds vs) : ER K m H (ds.map some ++ List.replicate (N.length - ds.length) none) (L2.start N vs) := by
  refine ⟨by simp [L2.start, h.len], fun i d e => ?_⟩
  by_cases hl : i < ds.length
  · rw [List.getElem?_append_left (by simpa using hl), List.getElem?_map] at e
    obtain ⟨d', e1⟩ : ∃ d', ds[i]? = some d' := ⟨ds[i], List.getElem?_eq_getElem hl⟩
    rw [e1] at e
    simp at e
    subst e
    obtain ⟨v, q, r⟩ := h.get e1
    refine ⟨v, ?_, r⟩
    unfold L2.start
    rw [List.getElem?_append_left (by simpa [← h.len] using hl), List.getElem?_map, q]
    rfl
  · rw [List.getElem?_append_right (by simpa using Nat.le_of_not_lt hl)] at e
    rw [List.getElem?_replicate] at e
    split at e <;> cases e

/-- an exception's own attributes -/
def XD (K : PySem.W.Frag) (m : List Addr) (H : Hp) (fs : List (Str × D)) (da : Option Addr) : Prop :=
  ∀ f d, fs.lookup f = some d → ∃ a fv v, da = some a ∧ H a = some (.xd fv) ∧ fv.lookup f = some v ∧ DV K m H d v

/-- behind an outcome -/
def Post {α β : Type} (K : PySem.W.Frag) (R : List Addr → Hp → α → β → Prop) (m : List Addr) (H : Hp) (E : XK) (Q : β → Hp → Prop) : Out α → Prop
  | .ok a h' => ∀ v m' H', m <+: m' → Kp H H' → HR K m' h' H' → R m' H' a v → Q v H'
  | .err C fs h' => ∀ da m' H', m <+: m' → Kp H H' → HR K m' h' H' → XD K m' H' fs da → E C da H'
  | .stuck => False
theorem Post.ahead {α β : Type} {R : List Addr → Hp → α → β → Prop} {E : XK} {Q : β → Hp → Prop} {o : Out α} (p : m <+: m') (k : Kp H H') (h : Post K R m H E Q o) : Post K R m' H' E Q o := by
  cases o with
  | ok a h' => exact fun v m2 H2 p2 k2 => h v m2 H2 (p.trans p2) (k.trans k2)
  | err C fs h' => exact fun da m2 H2 p2 k2 => h da m2 H2 (p.trans p2) (k.trans k2)
  | stuck => exact h
theorem Post.bind {α β γ δ : Type} {R : List Addr → Hp → α → β → Prop} {R' : List Addr → Hp → γ → δ → Prop} {E : XK} {Q : δ → Hp → Prop} {Q' : β → Hp → Prop} {o : Out α} {k : α → HD → Out γ}
    (h : Post K R' m H E Q (o.bind k)) (f : ∀ a h1 v m1 H1, o = .ok a h1 → m <+: m1 → Kp H H1 → HR K m1 h1 H1 → R m1 H1 a v → Post K R' m1 H1 E Q (k a h1) → Q' v H1) : Post K R m H E Q' o := by
  cases o with
  | ok a h1 => exact fun v m1 H1 p kk hr r => f a h1 v m1 H1 rfl p kk hr r (h.ahead p kk)
  | err C fs h1 => exact h
  | stuck => exact h
theorem Post.mono {α β : Type} {R : List Addr → Hp → α → β → Prop} {E : XK} {Q Q' : β → Hp → Prop} {o : Out α} (h : Post K R m H E Q o) (f : ∀ v H', Q v H' → Q' v H') : Post K R m H E Q' o := by
  cases o with
  | ok a h1 => exact fun v m1 H1 p k hr r => f _ _ (h v m1 H1 p k hr r)
  | err C fs h1 => exact h
  | stuck => exact h
end


abbrev ME := Rho → HD → Out D
abbrev MT := Rho → HD → Out Bool
abbrev MA := Rho → HD → Out (List D)
inductive Fl where
  | nx | bk | ct | rt (d : D)
abbrev MS := Rho → HD → Out (Fl × Rho)
def rD (K : PySem.W.Frag) : List Addr → Hp → D → V → Prop := fun m H d v => DV K m H d v
def rB : List Addr → Hp → Bool → Bool → Prop := fun _ _ a b => a = b
def rDs (K : PySem.W.Frag) : List Addr → Hp → List D → List V → Prop := fun m H d v => DVs K m H d v
def tM {α β : Type} (K : PySem.W.Frag) (R : List Addr → Hp → α → β → Prop) (E : XK) (f : Rho → HD → Out α) : L2.St → Hp → (β → Hp → Prop) → Prop := fun σ H Q => ∃ m ρ h, HR K m h H ∧ ER K m H ρ σ ∧ Post K R m H E Q (f ρ h)
abbrev tD (K : PySem.W.Frag) (E : XK) (f : ME) : TE := tM K (rD K) E f
abbrev tBo (K : PySem.W.Frag) (E : XK) (f : MT) : TT := tM K rB E f
abbrev tDs (K : PySem.W.Frag) (E : XK) (f : MA) : TA := tM K (rDs K) E f
/-- behind a statement's outcome -/
def FlOk (K : PySem.W.Frag) (m : List Addr) (H : Hp) (D : Ends) : Fl × Rho → Prop
  | (.nx, ρ) => ∀ σ, ER K m H ρ σ → D.nx σ H
  | (.bk, ρ) => ∀ σ, ER K m H ρ σ → D.bk σ H
  | (.ct, ρ) => ∀ σ, ER K m H ρ σ → D.ct σ H
  | (.rt d, _) => ∀ v, DV K m H d v → D.rt v H
def PostS (K : PySem.W.Frag) (m : List Addr) (H : Hp) (E : XK) (D : Ends) : Out (Fl × Rho) → Prop
  | .ok a h' => ∀ m' H', m <+: m' → Kp H H' → HR K m' h' H' → FlOk K m' H' D a
  | .err C fs h' => ∀ da m' H', m <+: m' → Kp H H' → HR K m' h' H' → XD K m' H' fs da → E C da H'
  | .stuck => False
def tSt (K : PySem.W.Frag) (E : XK) (g : MS) : TS := fun D σ H => ∃ m ρ h, HR K m h H ∧ ER K m H ρ σ ∧ PostS K m H E D (g ρ h)
theorem PostS.ahead {K : PySem.W.Frag} {m m' : List Addr} {H H' : Hp} {E : XK} {D : Ends} {o : Out (Fl × Rho)} (p : m <+: m') (k : Kp H H') (h : PostS K m H E D o) : PostS K m' H' E D o := by
  cases o with
  | ok a h' => exact fun m2 H2 p2 k2 => h m2 H2 (p.trans p2) (k.trans k2)
  | err C fs h' => exact fun da m2 H2 p2 k2 => h da m2 H2 (p.trans p2) (k.trans k2)
  | stuck => exact h

abbrev Ev (X : Cx) (E : XK) (e : Expr) (f : ME) : Prop := PE X e (tD X.K E f)
abbrev EvT (X : Cx) (E : XK) (e : Expr) (f : MT) : Prop := PT X e (tBo X.K E f)
abbrev EvA (X : Cx) (E : XK) (es : List Expr) (f : MA) : Prop := PA X es (tDs X.K E f)
abbrev Ex (X : Cx) (E : XK) (st : Stmt) (g : MS) : Prop := PS X st (tSt X.K E g)
abbrev Exs (X : Cx) (E : XK) (sts : List Stmt) (g : MS) : Prop := PSs X sts (tSt X.K E g)
section
variable {X : Cx}
theorem pe_imp {e : Expr} {t t' : TE} (h : PE X e t) (i : ∀ σ H Q, t' σ H Q → t σ H Q) : PE X e t' := fun pins s σ H Q I q => h pins s σ H Q I (i σ H Q q)
theorem pt_imp {e : Expr} {t t' : TT} (h : PT X e t) (i : ∀ σ H Q, t' σ H Q → t σ H Q) : PT X e t' := fun pins s σ H Q I q => h pins s σ H Q I (i σ H Q q)
theorem pa_imp {e : List Expr} {t t' : TA} (h : PA X e t) (i : ∀ σ H Q, t' σ H Q → t σ H Q) : PA X e t' := fun pos pins s σ H Q I q => h pos pins s σ H Q I (i σ H Q q)
theorem ps_imp {e : Stmt} {t t' : TS} (h : PS X e t) (i : ∀ D σ H, t' D σ H → t D σ H) : PS X e t' := fun pins s σ H D I q => h pins s σ H D I (i D σ H q)
theorem pss_imp {e : List Stmt} {t t' : TS} (h : PSs X e t) (i : ∀ D σ H, t' D σ H → t D σ H) : PSs X e t' := fun pins s σ H D I q => h pins s σ H D I (i D σ H q)
end
end LS


namespace LS
open PySem PySem.Spec PyProof.Rows L2

section
variable {X : Cx} {E : XK} {a b c : Expr} {pos : Pos} {f g k : ME}


def mVar (i : Nat) : ME := fun ρ h => match ρ[i]? with
  | some (some d) => .ok d h
  | _ => .stuck
theorem ev_var {i : Nat} (h : PE X a (tVar i)) : Ev X E a (mVar i) := pe_imp h fun σ H Q ⟨m, ρ, hd, hr, er, p⟩ => by
  unfold mVar at p
  split at p
  · rename_i d e
    obtain ⟨v, e1, r⟩ := er.2 i d e
    exact ⟨v, e1, p v m H (List.prefix_refl _) (.refl _) hr r⟩
  · exact p.elim
def mC (d : D) : ME := fun _ h => .ok d h
theorem ev_c {d : D} {v : V} (h : PE X a (tC v)) (r : ∀ m H, DV X.K m H d v) : Ev X E a (mC d) := pe_imp h fun σ H Q ⟨m, ρ, hd, hr, er, p⟩ => p v m H (List.prefix_refl _) (.refl _) hr (r m H)
theorem ev_int {i : Int} {j : Nat} : Ev X E (.Constant (.int i) j pos) (mC (.int i)) := ev_c pe_int fun _ _ => by simp [DV]
theorem ev_bl {i : Bool} {j : Nat} : Ev X E (.Constant (.bool i) j pos) (mC (.bl i)) := ev_c pe_bl fun _ _ => by simp [DV]
theorem ev_globI {x : Str} {i : Int} {t : Tok} {pos : Pos} (hg : Gl X x) (hm : X.mg x = some (.int i t)) (hd : (x == ("__debug__" : Str)) = false := by decide) : Ev X E (.Name x pos) (mC (.int i)) :=
  ev_c (pe_glob (v := .int i) hg hm ⟨t, rfl⟩ hd) fun _ _ => by simp [DV]


def mOp (op : D → D → HD → Out D) (f g : ME) : ME := fun ρ h => (f ρ h).bind fun x h1 => (g ρ h1).bind fun y h2 => op x y h2
theorem seq2 {op : D → D → HD → Out D} {Q : VK} {R : V → V → Hp → Prop} {σ : L2.St} {H : Hp} (h : tD X.K E (mOp op f g) σ H Q)
    (i : ∀ m H2 h2 x y v u, HR X.K m h2 H2 → DV X.K m H2 x v → DV X.K m H2 y u → Post X.K (rD X.K) m H2 E Q (op x y h2) → R v u H2) : tD X.K E f σ H fun v H1 => tD X.K E g σ H1 fun u H2 => R v u H2 := by
  obtain ⟨m, ρ, hd, hr, er, p⟩ := h
  refine ⟨m, ρ, hd, hr, er, Post.bind p fun x h1 v m1 H1 _ p1 k1 hr1 r1 q1 => ?_⟩
  refine ⟨m1, ρ, h1, hr1, er.keep p1 k1, Post.bind q1 fun y h2 u m2 H2 _ p2 k2 hr2 r2 q2 => ?_⟩
  exact i m2 H2 h2 x y v u hr2 (DV.keep p2 k2 r1) r2 q2
def OpM (X : Cx) (f : Value → Value → Sem Value) (op : D → D → HD → Out D) : Prop :=
  ∃ r : R2, OpR X f r ∧ ∀ m H h E x y v u Q, HR X.K m h H → DV X.K m H x v → DV X.K m H y u → Post X.K (rD X.K) m H E Q (op x y h) → r v u H Q
theorem ev_op {o : Operator} {op : D → D → HD → Out D} (ho : OpM X (binaryOp o) op) (ha : Ev X E a f) (hb : Ev X E b g) : Ev X E (.BinOp a o b pos) (mOp op f g) := by
  obtain ⟨r, ho, i⟩ := ho
  exact pe_imp (pe_op ho ha hb) fun σ H Q h => seq2 h fun m H2 h2 x y v u hr rx ry q => i m H2 h2 E x y v u Q hr rx ry q
theorem ev_cmp {o : CmpOp} {op : D → D → HD → Out D} (ho : OpM X (compareOp o) op) (ha : Ev X E a f) (hb : Ev X E b g) (hm : behindInMarks o b = false) : Ev X E (.Compare a [o] [b] pos) (mOp op f g) := by
  obtain ⟨r, ho, i⟩ := ho
  exact pe_imp (pe_cmpR ho ha hb hm) fun σ H Q h => seq2 h fun m H2 h2 x y v u hr rx ry q => i m H2 h2 E x y v u Q hr rx ry q
/-- a bool as a test -/
def asB : D → HD → Out Bool
  | .bl b, h => .ok b h
  | _, _ => .stuck
def mTb (f : ME) : MT := fun ρ h => (f ρ h).bind asB
theorem post_asB {m : List Addr} {H : Hp} {x : D} {v : V} {h : HD} {Q : Bool → Hp → Prop} (hr : HR X.K m h H) (r : DV X.K m H x v) (q : Post X.K rB m H E Q (asB x h)) : ∃ k, v = .bl k ∧ Q k H := by
  cases x with
  | bl b =>
    simp only [DV] at r
    exact ⟨b, r, q b m H (List.prefix_refl _) (.refl _) hr rfl⟩
  | _ => exact q.elim
theorem evT_cmp {o : CmpOp} {op : D → D → HD → Out D} (ho : OpM X (compareOp o) op) (ha : Ev X E a f) (hb : Ev X E b g) (hm : behindInMarks o b = false) : EvT X E (.Compare a [o] [b] pos) (mTb (mOp op f g)) := by
  obtain ⟨r, ho, i⟩ := ho
  refine pt_imp (pt_cmpR ho ha hb hm) fun σ H Q h => ?_
  obtain ⟨m, ρ, hd, hr, er, p⟩ := h
  have h' : tD X.K E (mOp op f g) σ H fun x H' => ∃ k, x = .bl k ∧ Q k H' :=
    ⟨m, ρ, hd, hr, er, Post.bind p fun x h1 v m1 H1 _ p1 k1 hr1 r1 q1 => post_asB hr1 r1 q1⟩
  exact seq2 h' fun m H2 h2 x y v u hr rx ry q => i m H2 h2 E x y v u _ hr rx ry q
/-- a value's truth -/
def truD : D → HD → Out Bool
  | .non, h => .ok false h
  | .bl b, h => .ok b h
  | .int i, h => .ok (i != 0) h
  | .tup ds, h => .ok (!ds.isEmpty) h
  | .loc l, h => match h[l]? with
    | some (.lst ds) => .ok (!ds.isEmpty) h
    | none => .stuck
  | _, _ => .stuck
def mTru (f : ME) : MT := fun ρ h => (f ρ h).bind truD
theorem isEmpty_len {α β : Type} {xs : List α} {ys : List β} (h : xs.length = ys.length) : xs.isEmpty = ys.isEmpty := by
  cases xs <;> cases ys <;> simp_all
theorem post_truD {m : List Addr} {H : Hp} {x : D} {v : V} {h : HD} {Q : Bool → Hp → Prop} (hr : HR X.K m h H) (r : DV X.K m H x v) (q : Post X.K rB m H E Q (truD x h)) : ∃ k, TruV X.K v H k ∧ Q k H := by
  have go : ∀ k, truD x h = .ok k h → Q k H := fun k e => by rw [e] at q; exact q k m H (List.prefix_refl _) (.refl _) hr rfl
  cases x with
  | non => simp only [DV] at r; subst r; exact ⟨false, rfl, go _ rfl⟩
  | bl b => simp only [DV] at r; subst r; exact ⟨b, rfl, go _ rfl⟩
  | int i => simp only [DV] at r; subst r; exact ⟨_, rfl, go _ rfl⟩
  | str x => exact q.elim
  | tup ds =>
    simp only [DV] at r
    obtain ⟨p, vs, rfl, hp, dv⟩ := r
    exact ⟨_, .inr (.inl ⟨vs, SqT.of hp, rfl⟩), by rw [← isEmpty_len dv.len]; exact go _ rfl⟩
  | loc l =>
    simp only [DV] at r
    obtain ⟨p, rfl, hp⟩ := r
    simp only [truD] at q
    split at q
    · rename_i ds e
      obtain ⟨vs, e1, dv⟩ := hr.cells l _ p e hp
      exact ⟨_, .inl ⟨vs, SqL.of e1, rfl⟩, by rw [← isEmpty_len dv.len]; exact q _ m H (List.prefix_refl _) (.refl _) hr rfl⟩
    · exact q.elim
  | scr ns => exact q.elim
  | adr a => exact q.elim
  | ty a => exact q.elim
theorem evT_val (ha : Ev X E a f) (he : ∀ whole, isTrue a X.env whole = (do let v ← whole; standAt a.pos; holding [v] (truthy v)) := by intro _; rfl) : EvT X E a (mTru f) :=
  pt_imp (pt_truth ha he) fun σ H Q ⟨m, ρ, hd, hr, er, p⟩ => ⟨m, ρ, hd, hr, er, Post.bind p fun x h1 v m1 H1 _ p1 k1 hr1 r1 q1 => post_truD hr1 r1 q1⟩


variable {tf tg : MT} {rest : List Expr}
def mAnd (f g : MT) : MT := fun ρ h => (f ρ h).bind fun b h1 => if b = true then g ρ h1 else .ok false h1
def mOr (f g : MT) : MT := fun ρ h => (f ρ h).bind fun b h1 => if b = true then .ok true h1 else g ρ h1
def mNot (f : MT) : MT := fun ρ h => (f ρ h).bind fun b h1 => .ok (!b) h1
abbrev EvW (X : Cx) (E : XK) (e : Expr) (f : MT) : Prop := PW X e (tBo X.K E f)
theorem pw_imp {e : Expr} {t t' : TT} (h : PW X e t) (i : ∀ σ H Q, t' σ H Q → t σ H Q) : PW X e t' := fun wh pins s σ H Q I q => h wh pins s σ H Q I (i σ H Q q)
theorem evW_or1 (ha : EvT X E a tf) : EvW X E (.BoolOp .Or [a] pos) tf := pw_or1 ha
theorem evW_or (ha : EvT X E a tf) (hb : EvW X E (.BoolOp .Or (b :: rest) pos) tg) : EvW X E (.BoolOp .Or (a :: b :: rest) pos) (mOr tf tg) :=
  pw_imp (pw_or ha hb) fun σ H Q ⟨m, ρ, hd, hr, er, p⟩ => ⟨m, ρ, hd, hr, er, Post.bind p fun x h1 v m1 H1 _ p1 k1 hr1 r1 q1 => by
    cases r1
    cases x with
    | false => exact ⟨m1, ρ, h1, hr1, er.keep p1 k1, q1⟩
    | true => exact q1 true m1 H1 (List.prefix_refl _) (.refl _) hr1 rfl⟩
theorem evT_w (h : EvW X E a tf) : EvT X E a tf := PW.pt h
theorem evT_not (ha : EvT X E a tf) : EvT X E (.UnaryOp .Not a pos) (mNot tf) :=
  pt_imp (pt_not ha) fun σ H Q ⟨m, ρ, hd, hr, er, p⟩ => ⟨m, ρ, hd, hr, er, Post.bind p fun x h1 v m1 H1 _ p1 k1 hr1 r1 q1 => by
    cases r1
    exact q1 _ m1 H1 (List.prefix_refl _) (.refl _) hr1 rfl⟩
def mAndV (f g : ME) : ME := fun ρ h => (f ρ h).bind fun x h1 => match x with
  | .bl true => g ρ h1
  | .bl false => .ok (.bl false) h1
  | _ => .stuck
def mOrV (f g : ME) : ME := fun ρ h => (f ρ h).bind fun x h1 => match x with
  | .bl true => .ok (.bl true) h1
  | .bl false => g ρ h1
  | _ => .stuck
def mNotV (f : ME) : ME := fun ρ h => (f ρ h).bind fun x h1 => match x with
  | .bl b => .ok (.bl (!b)) h1
  | _ => .stuck
theorem ev_one {o : BoolOp} (h : Ev X E a f) : Ev X E (.BoolOp o [a] pos) f := pe_one h
theorem ev_and (ha : Ev X E a f) (hb : Ev X E (.BoolOp .And (b :: rest) pos) g) : Ev X E (.BoolOp .And (a :: b :: rest) pos) (mAndV f g) :=
  pe_imp (pe_and ha hb) fun σ H Q ⟨m, ρ, hd, hr, er, p⟩ => ⟨m, ρ, hd, hr, er, Post.bind p fun x h1 v m1 H1 _ p1 k1 hr1 r1 q1 => by
    cases x with
    | bl b =>
      refine ⟨b, by simpa [rD, DV] using r1, ?_⟩
      cases b with
      | true => exact ⟨m1, ρ, h1, hr1, er.keep p1 k1, q1⟩
      | false => exact q1 _ m1 H1 (List.prefix_refl _) (.refl _) hr1 (by simp [rD, DV])
    | _ => exact q1.elim⟩
theorem ev_not (ha : Ev X E a f) : Ev X E (.UnaryOp .Not a pos) (mNotV f) :=
  pe_imp (pe_not ha) fun σ H Q ⟨m, ρ, hd, hr, er, p⟩ => ⟨m, ρ, hd, hr, er, Post.bind p fun x h1 v m1 H1 _ p1 k1 hr1 r1 q1 => by
    cases x with
    | bl b => exact ⟨b, by simpa [rD, DV] using r1, q1 _ m1 H1 (List.prefix_refl _) (.refl _) hr1 (by simp [rD, DV])⟩
    | _ => exact q1.elim⟩
def mIf (t : MT) (f g : ME) : ME := fun ρ h => (t ρ h).bind fun b h1 => if b = true then f ρ h1 else g ρ h1
theorem ev_ifExp (hc : EvT X E c tf) (ha : Ev X E a f) (hb : Ev X E b g) : Ev X E (.IfExp c a b pos) (mIf tf f g) :=
  pe_imp (pe_ifExp hc ha hb) fun σ H Q ⟨m, ρ, hd, hr, er, p⟩ => ⟨m, ρ, hd, hr, er, Post.bind p fun x h1 v m1 H1 _ p1 k1 hr1 r1 q1 => by
    cases r1
    cases x with
    | true => exact ⟨m1, ρ, h1, hr1, er.keep p1 k1, q1⟩
    | false => exact ⟨m1, ρ, h1, hr1, er.keep p1 k1, q1⟩⟩
/-- a op b op' c -/
def mChain (op op' : D → D → HD → Out D) (f g k : ME) : ME := fun ρ h => (f ρ h).bind fun x h1 => (g ρ h1).bind fun y h2 => (op x y h2).bind fun z h3 => match z with
  | .bl true => (k ρ h3).bind fun w h4 => op' y w h4
  | .bl false => .ok (.bl false) h3
  | _ => .stuck
theorem chain_rd {r r' : R2} {op op' : D → D → HD → Out D} {o o' : Value → Value → Sem Value} (i : ∀ m H h E x y v u Q, HR X.K m h H → DV X.K m H x v → DV X.K m H y u → Post X.K (rD X.K) m H E Q (op x y h) → r v u H Q)
    (i' : ∀ m H h E x y v u Q, HR X.K m h H → DV X.K m H x v → DV X.K m H y u → Post X.K (rD X.K) m H E Q (op' x y h) → r' v u H Q) {σ : L2.St} {H : Hp} {Q : VK} (h : tD X.K E (mChain op op' f g k) σ H Q) :
    tChain r r' (tD X.K E f) (tD X.K E g) (tD X.K E k) σ H Q := by
  obtain ⟨m, ρ, hd, hr, er, p⟩ := h
  refine ⟨m, ρ, hd, hr, er, Post.bind p fun x h1 v m1 H1 _ p1 k1 hr1 r1 q1 => ?_⟩
  refine ⟨m1, ρ, h1, hr1, er.keep p1 k1, Post.bind q1 fun y h2 u m2 H2 _ p2 k2 hr2 r2 q2 => ?_⟩
  refine i m2 H2 h2 E x y v u _ hr2 (DV.keep p2 k2 r1) r2 (Post.bind q2 fun z h3 w m3 H3 _ p3 k3 hr3 r3 q3 => ?_)
  cases z with
  | bl b =>
    refine ⟨b, by simpa [rD, DV] using r3, ?_⟩
    cases b with
    | false => exact q3 _ m3 H3 (List.prefix_refl _) (.refl _) hr3 (by simp [rD, DV])
    | true =>
      refine ⟨m3, ρ, h3, hr3, ((er.keep p1 k1).keep p2 k2).keep p3 k3, Post.bind q3 fun z h4 w' m4 H4 _ p4 k4 hr4 r4 q4 => ?_⟩
      exact i' m4 H4 h4 E y z u w' Q hr4 (DV.keep p4 k4 (DV.keep p3 k3 r2)) r4 q4
  | _ => exact q3.elim
theorem ev_chain {o o' : CmpOp} {op op' : D → D → HD → Out D} (ho : OpM X (compareOp o) op) (ho' : OpM X (compareOp o') op') (ha : Ev X E a f) (hb : Ev X E b g) (hc : Ev X E c k)
    (hm : lastMarks [o, o'] [b, c] = false := by with_unfolding_all rfl) : Ev X E (.Compare a [o, o'] [b, c] pos) (mChain op op' f g k) := by
  obtain ⟨r, ho, i⟩ := ho
  obtain ⟨r', ho', i'⟩ := ho'
  exact pe_imp (pe_chain ho ho' ha hb hc hm) fun σ H Q h => chain_rd (o := compareOp o) (o' := compareOp o') i i' h
theorem evT_chain {o o' : CmpOp} {op op' : D → D → HD → Out D} (ho : OpM X (compareOp o) op) (ho' : OpM X (compareOp o') op') (ha : Ev X E a f) (hb : Ev X E b g) (hc : Ev X E c k)
    (hm : lastMarks [o, o'] [b, c] = false := by with_unfolding_all rfl) : EvT X E (.Compare a [o, o'] [b, c] pos) (mTb (mChain op op' f g k)) := by
  obtain ⟨r, ho, i⟩ := ho
  obtain ⟨r', ho', i'⟩ := ho'
  refine pt_imp (pt_chain ho ho' ha hb hc hm) fun σ H Q h => ?_
  obtain ⟨m, ρ, hd, hr, er, p⟩ := h
  exact chain_rd (o := compareOp o) (o' := compareOp o') i i' ⟨m, ρ, hd, hr, er, Post.bind p fun x h1 v m1 H1 _ p1 k1 hr1 r1 q1 => post_asB hr1 r1 q1⟩


variable {es : List Expr} {fa : MA}
def mNil : MA := fun _ h => .ok [] h
def mCons (f : ME) (r : MA) : MA := fun ρ h => (f ρ h).bind fun x h1 => (r ρ h1).bind fun xs h2 => .ok (x :: xs) h2
theorem evA_nil : EvA X E [] mNil := pa_imp pa_nil fun σ H Q ⟨m, ρ, hd, hr, er, p⟩ => p [] m H (List.prefix_refl _) (.refl _) hr .nil
theorem evA_cons (ha : Ev X E a f) (hr : EvA X E es fa) (hs : starEach (a :: es) X.env = (false, eval a X.env) :: starEach es X.env := by rfl) : EvA X E (a :: es) (mCons f fa) :=
  pa_imp (pa_cons ha hr hs) fun σ H Q ⟨m, ρ, hd, hr, er, p⟩ => ⟨m, ρ, hd, hr, er, Post.bind p fun x h1 v m1 H1 _ p1 k1 hr1 r1 q1 =>
    ⟨m1, ρ, h1, hr1, er.keep p1 k1, Post.bind q1 fun xs h2 vs m2 H2 _ p2 k2 hr2 r2 q2 => q2 _ m2 H2 (List.prefix_refl _) (.refl _) hr2 (DVs.cons (DV.keep p2 k2 r1) r2)⟩⟩
def mTup (fa : MA) : ME := fun ρ h => (fa ρ h).bind fun xs h1 => if xs.length ≤ sizeLine then .ok (.tup xs) h1 else .stuck
def newL (xs : List D) (h : HD) : Out D := if xs.length ≤ sizeLine then .ok (.loc h.length) (h ++ [.lst xs]) else .stuck
def mLst (fa : MA) : ME := fun ρ h => (fa ρ h).bind newL
theorem post_newT {m : List Addr} {H : Hp} {h : HD} {xs : List D} {vs : List V} {Q : VK} (hr : HR X.K m h H) (r : DVs X.K m H xs vs) (q : Post X.K (rD X.K) m H E Q (.ok (.tup xs) h)) : ∀ p, H p = none → Q (.ref p) (upd H p (.tup vs)) := fun p hp =>
  q (.ref p) m _ (List.prefix_refl _) (.new hp) (hr.new hp) (by simp only [rD, DV]; exact ⟨p, vs, rfl, upd_same, r.keep (List.prefix_refl _) (.new hp)⟩)
theorem post_newL {m : List Addr} {H : Hp} {h : HD} {xs : List D} {vs : List V} {Q : VK} (hr : HR X.K m h H) (r : DVs X.K m H xs vs) (q : Post X.K (rD X.K) m H E Q (newL xs h)) : vs.length ≤ sizeLine ∧ ∀ p, H p = none → Q (.ref p) (upd H p (.lst vs)) := by
  unfold newL at q
  by_cases hz : xs.length ≤ sizeLine
  · rw [if_pos hz] at q
    refine ⟨by rw [← r.len]; exact hz, fun p hp => ?_⟩
    refine q (.ref p) (m ++ [p]) _ (List.prefix_append _ _) (.new hp) (hr.newCell hp ⟨vs, upd_same, r.keep (List.prefix_append _ _) (.new hp)⟩) ?_
    simp only [rD, DV]
    exact ⟨p, rfl, by rw [← hr.len]; simp⟩
  · rw [if_neg hz] at q; exact q.elim
theorem ev_tup {x1 : Nat} (h : EvA X E es fa) : Ev X E (.Tuple es x1 pos) (mTup fa) :=
  pe_imp (pe_tup h) fun σ H Q ⟨m, ρ, hd, hr, er, p⟩ => ⟨m, ρ, hd, hr, er, Post.bind p fun xs h1 vs m1 H1 _ p1 k1 hr1 r1 q1 => by
    by_cases hz : xs.length ≤ sizeLine
    · rw [if_pos hz] at q1
      exact ⟨by rw [← DVs.len r1]; exact hz, post_newT hr1 r1 q1⟩
    · rw [if_neg hz] at q1; exact q1.elim⟩
theorem ev_lst (h : EvA X E es fa) : Ev X E (.List es pos) (mLst fa) :=
  pe_imp (pe_lst h) fun σ H Q ⟨m, ρ, hd, hr, er, p⟩ => ⟨m, ρ, hd, hr, er, Post.bind p fun xs h1 vs m1 H1 _ p1 k1 hr1 r1 q1 => post_newL hr1 r1 q1⟩


/-- a def's promise by its mirror; no exception -/
def spM (K : PySem.W.Frag) (F : List D → HD → Out D) : Sp := fun vs H Q _ => ∃ m ds h, HR K m h H ∧ DVs K m H ds vs ∧ Post K (rD K) m H E0 Q (F ds h)
def Ar (n : Nat) (F : List D → HD → Out D) : Prop := ∀ ds h, ds.length ≠ n → F ds h = .stuck
theorem Ar.len {K : PySem.W.Frag} {n : Nat} {F : List D → HD → Out D} (ar : Ar n F) {vs : List V} {H : Hp} {Q : VK} {E' : XK} (h : spM K F vs H Q E') : vs.length = n := by
  obtain ⟨m, ds, hd, hr, r, p⟩ := h
  rw [← r.len]
  by_cases e : ds.length = n
  · exact e
  · rw [ar ds hd e] at p; exact p.elim
def ar0 (F : HD → Out D) : List D → HD → Out D := fun ds h => match ds with
  | [] => F h
  | _ => .stuck
def ar1 (F : D → HD → Out D) : List D → HD → Out D := fun ds h => match ds with
  | [a] => F a h
  | _ => .stuck
def ar2 (F : D → D → HD → Out D) : List D → HD → Out D := fun ds h => match ds with
  | [a, b] => F a b h
  | _ => .stuck
def ar3 (F : D → D → D → HD → Out D) : List D → HD → Out D := fun ds h => match ds with
  | [a, b, c] => F a b c h
  | _ => .stuck
def mCall (F : List D → HD → Out D) (fa : MA) : ME := fun ρ h => (fa ρ h).bind F
theorem ev_call {kk : Nat} {fn : Addr} {fd : FuncData} {ps : List Str} {F : List D → HD → Out D} {x : Str} {p pos : Pos} {e : Expr} (G : FnOk X.prog X.w X.K X.mg X.base CX0 kk fn fd ps (spM X.K F)) (hr : Room kk X.A) (hg : Gl X x) (hm : X.mg x = some (.ref fn)) (hk : PySem.W.keepIn X.K (.ref fn) = true) (hb : Binds X.K fd ps [])
    (ha : EvA X E0 (e :: es) fa) (hdb : (x == ("__debug__" : Str)) = false := by decide) (he : starEach (e :: es) X.env = (false, eval e X.env) :: starEach es X.env := by rfl) (hpl : (backTo pos (starEach es X.env)).any (·.1) = false := by rfl) :
    Ev X E0 (.Call (.Name x p) (e :: es) [] pos) (mCall F fa) :=
  pe_imp (pe_call (E := E0) G hr hg hm hk hb .nil pass0 ha hdb he hpl) fun σ H Q ⟨m, ρ, hd, hr, er, p⟩ => ⟨m, ρ, hd, hr, er, Post.bind p fun xs h1 vs m1 H1 e1 p1 k1 hr1 r1 q1 => by
    rw [List.append_nil]
    exact ⟨m1, xs, h1, hr1, r1, q1⟩⟩
/-- a built-in function or type, by values -/
def CallM (X : Cx) (f : Value) (F : List D → HD → Out D) : Prop :=
  ∃ r : List V → Hp → VK → Prop, CallR X f r ∧ ∀ m H h E ds vs Q, HR X.K m h H → DVs X.K m H ds vs → Post X.K (rD X.K) m H E Q (F ds h) → r vs H Q
theorem ev_callB {id : String} {F : List D → HD → Out D} {x : Str} {p pos : Pos} {e : Expr} (hc : CallM X (.builtin id) F) (hg : Gl X x) (hm : X.mg x = none) (hv : bootBuiltins x = some (.builtin id)) (ha : EvA X E (e :: es) fa) (hn : x ≠ "__name__" := by decide) (hdb : (x == ("__debug__" : Str)) = false := by decide)
    (hs : starEach (e :: es) X.env = (false, eval e X.env) :: starEach es X.env := by rfl) (hpl : (backTo pos (starEach es X.env)).any (·.1) = false := by rfl) : Ev X E (.Call (.Name x p) (e :: es) [] pos) (mCall F fa) := by
  obtain ⟨r, hc, i⟩ := hc
  exact pe_imp (pe_callB hc hg hm hv ha hn hdb hs hpl) fun σ H Q ⟨m, ρ, hd, hr, er, p⟩ => ⟨m, ρ, hd, hr, er, Post.bind p fun xs h1 vs m1 H1 e1 p1 k1 hr1 r1 q1 => i m1 H1 h1 E xs vs Q hr1 r1 q1⟩
theorem ev_callT {id : String} {F : List D → HD → Out D} {x : Str} {p pos : Pos} {e : Expr} (hc : CallM X (.type id) F) (hg : Gl X x) (hm : X.mg x = none) (hv : bootBuiltins x = some (.type id)) (ha : EvA X E (e :: es) fa) (hn : x ≠ "__name__" := by decide) (hdb : (x == ("__debug__" : Str)) = false := by decide)
    (hs : starEach (e :: es) X.env = (false, eval e X.env) :: starEach es X.env := by rfl) (hpl : (backTo pos (starEach es X.env)).any (·.1) = false := by rfl) : Ev X E (.Call (.Name x p) (e :: es) [] pos) (mCall F fa) := by
  obtain ⟨r, hc, i⟩ := hc
  exact pe_imp (pe_callTy hc hg hm hv ha hn hdb hs hpl) fun σ H Q ⟨m, ρ, hd, hr, er, p⟩ => ⟨m, ρ, hd, hr, er, Post.bind p fun xs h1 vs m1 H1 e1 p1 k1 hr1 r1 q1 => i m1 H1 h1 E xs vs Q hr1 r1 q1⟩
end
end LS


namespace LS
open PySem PySem.Spec PyProof.Rows L2

section
variable {X : Cx} {E : XK}
theorem okq {K : PySem.W.Frag} {m : List Addr} {H : Hp} {h : HD} {d : D} {v : V} {Q : VK} (hr : HR K m h H) (q : Post K (rD K) m H E Q (.ok d h)) (r : DV K m H d v) : Q v H := q v m H (List.prefix_refl _) (.refl _) hr r


theorem op_catT0 : OpR X (binaryOp .Add) (fun x y H Q => ∃ a b ys, x = .ref a ∧ y = .ref b ∧ SqT X.K H a [] ∧ SqT X.K H b ys ∧ Q (.ref b) H) := by
  intro pins s σ H x y v u Q I rx ry h
  obtain ⟨a, b, ys, rfl, rfl, ha, hb, q⟩ := h
  cases rx
  cases ry
  obtain ⟨its, r1, p1, _⟩ := I.tuple ha
  obtain ⟨its2, r2, p2, _⟩ := I.tuple hb
  cases r1
  obtain ⟨⟨cls, dd, data, sl⟩, ho, hc, n, hd⟩ := id p1
  obtain ⟨⟨cls2, dd2, data2, sl2⟩, ho2, hc2, n2, hd2⟩ := id p2
  simp only at hc hd hc2 hd2
  subst hc hd hc2 hd2
  exact concat_meets ⟨_, ho, rfl⟩ ⟨_, ho2, rfl⟩ noFill_tuple_add seq_tuple_add PySem.F.slot_tuple_add PySem.F.entry_tuple_add (PySem.F.args_tuple_add_2 _ _)
      (tuple_addW0 a b _ its2.toArray n n2 dd dd2 sl sl2 (by simp)) ⟨ho, ho2, ⟨.ref b, H, I, rfl, q⟩⟩
def addD : D → D → HD → Out D
  | .int i, .int j, h => .ok (.int (i + j)) h
  | .str x, .str y, h => if x.length + y.length ≤ sizeLine then .ok (.str (x ++ y)) h else .stuck
  | .tup xs, .tup ys, h => if xs.length + ys.length ≤ sizeLine then .ok (.tup (xs ++ ys)) h else .stuck
  | .loc l, .loc k, h => match h[l]?, h[k]? with
    | some (.lst xs), some (.lst ys) => newL (xs ++ ys) h
    | _, _ => .stuck
  | _, _, _ => .stuck
theorem addM : OpM X (binaryOp .Add) addD := by
  refine ⟨_, op_add.or (op_catT0.or (op_catT.or (op_cat.or op_add_str))), fun m H h E x y v u Q hr rx ry q => ?_⟩
  unfold addD at q
  split at q
  · simp only [DV] at rx ry
    subst rx ry
    exact .inl ⟨_, _, rfl, rfl, okq hr q (by simp [DV])⟩
  · simp only [DV] at rx ry
    subst rx ry
    split at q
    · rename_i hz
      exact .inr (.inr (.inr (.inr ⟨_, _, rfl, rfl, hz, okq hr q (by simp [DV])⟩)))
    · exact q.elim
  · rename_i xs ys
    simp only [DV] at rx ry
    obtain ⟨a, vs, rfl, ha, dx⟩ := rx
    obtain ⟨b, ws, rfl, hb, dy⟩ := ry
    split at q
    · rename_i hz
      cases xs with
      | nil =>
        simp only [DVs] at dx
        subst dx
        exact .inr (.inl ⟨a, b, ws, rfl, rfl, SqT.of ha, SqT.of hb, okq hr q (by simp only [DV]; exact ⟨b, ws, rfl, hb, dy⟩)⟩)
      | cons x xs =>
        refine .inr (.inr (.inl ⟨a, b, vs, ws, rfl, rfl, SqT.of ha, SqT.of hb, ?_, by rw [← dx.len, ← dy.len]; exact hz, fun e => ?_, fun e => ?_⟩))
        · intro e; have := dx.len; rw [e] at this; simp at this
        · subst e
          have : ys = [] := by have := dy.len; simpa using this
          subst this
          exact okq hr q (by simp only [DV]; exact ⟨a, vs, rfl, ha, by simpa using dx⟩)
        · exact post_newT hr (dx.app dy) q
    · exact q.elim
  · simp only [DV] at rx ry
    obtain ⟨a, rfl, ha⟩ := rx
    obtain ⟨b, rfl, hb⟩ := ry
    split at q
    · rename_i xs ys e1 e2
      obtain ⟨vs, h1, d1⟩ := hr.cells _ _ a e1 ha
      obtain ⟨ws, h2, d2⟩ := hr.cells _ _ b e2 hb
      obtain ⟨z, q'⟩ := post_newL hr (d1.app d2) q
      exact .inr (.inr (.inr (.inl ⟨a, b, vs, ws, rfl, rfl, h1, h2, by simpa using z, q'⟩)))
    · exact q.elim
  · exact q.elim

def intD (f : Int → Int → D) (c : Int → Int → Prop) [∀ i j, Decidable (c i j)] : D → D → HD → Out D
  | .int i, .int j, h => if c i j then .ok (f i j) h else .stuck
  | _, _, _ => .stuck
theorem intM {o : Value → Value → Sem Value} {f : Int → Int → V} {g : Int → Int → D} {c c' : Int → Int → Prop} [∀ i j, Decidable (c' i j)] (h : OpR X o (rI c f)) (hc : ∀ i j, c' i j → c i j) (hg : ∀ m H i j, DV X.K m H (g i j) (f i j)) : OpM X o (intD g c') := by
  refine ⟨_, h, fun m H h E x y v u Q hr rx ry q => ?_⟩
  unfold intD at q
  split at q
  · simp only [DV] at rx ry
    subst rx ry
    split at q
    · rename_i hc'
      exact ⟨_, _, rfl, rfl, hc _ _ hc', okq hr q (hg _ _ _ _)⟩
    · exact q.elim
  · exact q.elim
def int0D (f : Int → Int → D) : D → D → HD → Out D
  | .int i, .int j, h => .ok (f i j) h
  | _, _, _ => .stuck
theorem int0M {o : Value → Value → Sem Value} {f : Int → Int → V} {g : Int → Int → D} (h : OpR X o (rI0 f)) (hg : ∀ m H i j, DV X.K m H (g i j) (f i j)) : OpM X o (int0D g) := by
  refine ⟨_, h, fun m H h E x y v u Q hr rx ry q => ?_⟩
  unfold int0D at q
  split at q
  · simp only [DV] at rx ry
    subst rx ry
    exact ⟨_, _, rfl, rfl, okq hr q (hg _ _ _ _)⟩
  · exact q.elim
abbrev subD := int0D fun i j => .int (i - j)
theorem subM : OpM X (binaryOp .Sub) subD := int0M op_sub fun _ _ _ _ => by simp [DV]
abbrev ltD := int0D fun i j => .bl (decide (i < j))
abbrev leD := int0D fun i j => .bl (decide (i ≤ j))
abbrev gtD := int0D fun i j => .bl (decide (j < i))
abbrev geD := int0D fun i j => .bl (decide (j ≤ i))
theorem ltM : OpM X (compareOp .Lt) ltD := int0M op_lt fun _ _ _ _ => by simp [DV]
theorem leM : OpM X (compareOp .LtE) leD := int0M op_le fun _ _ _ _ => by simp [DV]
theorem gtM : OpM X (compareOp .Gt) gtD := int0M op_gt fun _ _ _ _ => by simp [DV]
instance (i j : Int) : Decidable (CMul i j) := by unfold CMul; infer_instance
instance (i j : Int) : Decidable (CDiv i j) := by unfold CDiv; infer_instance
instance (i j : Int) : Decidable (CPow i j) := by unfold CPow; infer_instance
abbrev modD := intD (fun i j => .int (i % j)) fun _ j => 0 < j
theorem modM : OpM X (binaryOp .Mod) modD := intM op_mod (fun _ _ h => h) fun _ _ _ _ => by simp [DV]
abbrev fdivD := intD (fun i j => .int (i / j)) CDiv
abbrev powD := intD (fun i j => .int (i ^ j.toNat)) CPow
abbrev shlD := intD (fun i j => .int (i * 2 ^ j.toNat)) CPow
theorem shlM : OpM X (binaryOp .LShift) shlD := intM op_shl (fun _ _ h => h) fun _ _ _ _ => by simp [DV]

def mulD : D → D → HD → Out D
  | .int i, .int j, h => if CMul i j then .ok (.int (i * j)) h else .stuck
  | .loc l, .int k, h => match h[l]? with
    | some (.lst xs) => if -(2 ^ 63) ≤ k ∧ k < 2 ^ 63 then newL (List.replicate k.toNat xs).flatten h else .stuck
    | _ => .stuck
  | _, _, _ => .stuck
theorem op_isnotB : OpR X (compareOp .IsNot) (fun x y H Q => ∃ b c, x = .bl b ∧ y = .bl c ∧ Q (.bl (!(b == c))) H) := by
  intro pins s σ H x y v u Q I rx ry h
  obtain ⟨b, c, rfl, rfl, q⟩ := h
  cases rx
  cases ry
  exact wpAny_isNot_plain rfl ⟨.bl _, H, I, by cases b <;> cases c <;> rfl, q⟩
def isNonD : D → Bool
  | .non => true
  | _ => false
def isD : D → D → HD → Out D
  | .bl b, .bl c, h => .ok (.bl (b == c)) h
  | x, .non, h => .ok (.bl (isNonD x)) h
  | _, _, _ => .stuck
def isnotD : D → D → HD → Out D
  | .bl b, .bl c, h => .ok (.bl (!(b == c))) h
  | x, .non, h => .ok (.bl (!isNonD x)) h
  | _, _, _ => .stuck
theorem isNon_of {m : List Addr} {H : Hp} {x : D} {v : V} (r : DV X.K m H x v) : decide (v = .non) = isNonD x := by
  cases x <;> simp only [DV] at r <;> first | (subst r; rfl) | (obtain ⟨_, rfl, _⟩ := r; rfl) | (obtain ⟨_, _, rfl, _⟩ := r; rfl)
theorem isnotM : OpM X (compareOp .IsNot) isnotD := by
  refine ⟨_, op_isnotB.or op_notN, fun m H h E x y v u Q hr rx ry q => ?_⟩
  unfold isnotD at q
  split at q
  · simp only [DV] at rx ry
    subst rx ry
    exact .inl ⟨_, _, rfl, rfl, okq hr q (by simp [DV])⟩
  · simp only [DV] at ry
    subst ry
    exact .inr ⟨rfl, okq hr q (by simp [DV, isNon_of rx])⟩
  · exact q.elim
end
end LS


namespace LS
open PySem PySem.Spec PyProof.Rows L2


def allSome {α : Type} : List (Option α) → Option (List α)
  | [] => some []
  | none :: _ => none
  | some a :: r => (allSome r).map (a :: ·)
def dPy (h : HD) : Nat → D → Option PyData
  | _, .non => some .none
  | _, .bl b => some (.bool b)
  | _, .int i => some (.int i)
  | _, .str x => some (.str x)
  | n + 1, .tup ds => (allSome (ds.map (dPy h n))).map .tuple
  | n + 1, .loc l => match h[l]? with
    | some (.lst ds) => (allSome (ds.map (dPy h n))).map .list
    | none => none
  | _, _ => none
section
variable {X : Cx} {E : XK} {pins : List (Addr × Obj)} {σ : L2.St} {H : Hp} {s : Shared} {m : List Addr} {h : HD}
theorem reads_all {n : Nat} (ih : ∀ (d : D) (v : V) (u : Value) (p : PyData), DV X.K m H d v → RelV v u → dPy h n d = some p → ∃ as, Reads s.heap u p as) :
    ∀ (ds : List D) (vs : List V) (us : List Value) (ps : List PyData), DVs X.K m H ds vs → Vals vs us → allSome (ds.map (dPy h n)) = some ps → ∃ as, ReadsAll s.heap us ps as
  | [], vs, us, ps, r, q, e => by
    simp only [DVs] at r
    subst r
    cases q
    simp [allSome] at e
    subst e
    exact ⟨[], .nil⟩
  | d :: ds, vs, us, ps, r, q, e => by
    simp only [DVs] at r
    obtain ⟨v, w, rfl, rv, rw'⟩ := r
    cases q with
    | cons q1 q2 =>
      rw [List.map_cons] at e
      cases ed : dPy h n d with
      | none => rw [ed] at e; simp [allSome] at e
      | some p =>
        rw [ed] at e
        simp only [allSome, Option.map_eq_some_iff] at e
        obtain ⟨ps', e1, rfl⟩ := e
        obtain ⟨as, h1⟩ := ih d v _ p rv q1 ed
        obtain ⟨bs, h2⟩ := reads_all ih ds w _ ps' rw' q2 e1
        exact ⟨as ++ bs, .cons h1 h2⟩
theorem reads_of (hok : HOk X.prog X.w H s.heap) (hr : HR X.K m h H) : ∀ (n : Nat) (d : D) (v : V) (u : Value) (p : PyData), DV X.K m H d v → RelV v u → dPy h n d = some p → ∃ as, Reads s.heap u p as := by
  intro n
  induction n with
  | zero =>
    intro d v u p r q e
    cases d <;> simp only [dPy, DV, Option.some.injEq] at e r <;> try (cases e; done)
    · subst e r; cases q; exact ⟨[], .none⟩
    · subst e r; cases q; exact ⟨[], .bool _⟩
    · subst e r; obtain ⟨t, rfl⟩ := q; exact ⟨[], .int _ _⟩
    · subst e r; obtain ⟨t, rfl⟩ := q; exact ⟨[], .str _ _⟩
  | succ n ih =>
    intro d v u p r q e
    cases d with
    | non => simp only [dPy, DV, Option.some.injEq] at e r; subst e r; cases q; exact ⟨[], .none⟩
    | bl b => simp only [dPy, DV, Option.some.injEq] at e r; subst e r; cases q; exact ⟨[], .bool _⟩
    | int i => simp only [dPy, DV, Option.some.injEq] at e r; subst e r; obtain ⟨t, rfl⟩ := q; exact ⟨[], .int _ _⟩
    | str x => simp only [dPy, DV, Option.some.injEq] at e r; subst e r; obtain ⟨t, rfl⟩ := q; exact ⟨[], .str _ _⟩
    | tup ds =>
      simp only [dPy, DV, Option.map_eq_some_iff] at e r
      obtain ⟨a, vs, rfl, ha, dv⟩ := r
      obtain ⟨ps, e1, rfl⟩ := e
      cases q
      obtain ⟨_, its, rv, o, ho, hc, k, hd⟩ := hok a _ ha
      obtain ⟨as, h1⟩ := reads_all ih ds vs its ps dv rv e1
      exact ⟨as, .tuple ho hc hd (by simpa using h1)⟩
    | loc l =>
      simp only [DV] at r
      obtain ⟨a, rfl, ha⟩ := r
      cases q
      simp only [dPy] at e
      split at e
      · rename_i ds el
        simp only [Option.map_eq_some_iff] at e
        obtain ⟨ps, e1, rfl⟩ := e
        obtain ⟨vs, hv, dv⟩ := hr.cells l _ a el ha
        obtain ⟨_, its, k, rv, ho⟩ := hok a _ hv
        obtain ⟨as, h1⟩ := reads_all ih ds vs its ps dv rv e1
        exact ⟨_, .list ho rfl rfl (by simpa using h1)⟩
      · cases e
    | scr ns => simp [dPy] at e
    | adr a => simp [dPy] at e
    | ty a => simp [dPy] at e

def cmpDat (f : PyData → PyData → Bool) : D → D → HD → Out D := fun x y h => match dPy h 8 x, dPy h 8 y with
  | some p, some q => if SeqAt.shaped p = true ∧ SeqAt.shaped q = true then .ok (.bl (f p q)) h else .stuck
  | _, _ => .stuck
abbrev eqD := cmpDat PyData.eqv
abbrev neD := cmpDat fun p q => !PyData.eqv p q
theorem datM {o : CmpOp} {f : PyData → PyData → Bool}
    (rule : ∀ {s : Shared} {a b : Value} {p q : PyData} {as bs : List Addr} {Q : Value → Shared → Prop}, Reads s.heap a p as → Reads s.heap b q bs → SeqAt.shaped p = true → SeqAt.shaped q = true → Q (.bool (f p q)) s → wpAny (model X.prog X.w) X.A (compareOp o a b) Q X.xe s) :
    OpM X (compareOp o) (cmpDat f) := by
  refine ⟨fun v u H Q => ∃ m h x y, HR X.K m h H ∧ DV X.K m H x v ∧ DV X.K m H y u ∧ Post X.K (rD X.K) m H E0 Q (cmpDat f x y h), ?_, fun m H h E x y v u Q hr rx ry q => ⟨m, h, x, y, hr, rx, ry, ?_⟩⟩
  · intro pins s σ H x y v u Q I rx ry hq
    obtain ⟨m, h, dx, dy, hr, r1, r2, q⟩ := hq
    unfold cmpDat at q
    split at q
    · rename_i p p' e1 e2
      split at q
      · rename_i hs
        obtain ⟨as, h1⟩ := reads_of I.hok hr 8 dx x v p r1 rx e1
        obtain ⟨bs, h2⟩ := reads_of I.hok hr 8 dy y u p' r2 ry e2
        exact rule h1 h2 hs.1 hs.2 ⟨.bl _, H, I, rfl, okq hr q (by simp [DV])⟩
      · exact q.elim
    · exact q.elim
  · unfold cmpDat at q ⊢
    split
    · split
      · rename_i e1 e2 hs
        rw [e1, e2] at q
        simp only [hs] at q
        exact q
      · rename_i e1 e2 hs
        rw [e1, e2] at q
        simp only [hs] at q
        exact q.elim
    · rename_i hn
      split at q
      · rename_i e1 e2
        exact (hn _ _ e1 e2).elim
      · exact q.elim
theorem eqM (hu : X.A.units + 64 < cLine) : OpM X (compareOp .Eq) eqD := datM fun ra rb ha hb h => eq_dataH ra rb ha hb hu h
theorem neM (hu : X.A.units + 64 < cLine) : OpM X (compareOp .NotEq) neD := datM fun ra rb ha hb h => ne_dataH ra rb ha hb hu h


def flatD : D → Option V
  | .non => some .non
  | .bl b => some (.bl b)
  | .int i => some (.int i)
  | .str x => some (.str x)
  | _ => none
theorem flat_of {d : D} {v w : V} (r : DV X.K m H d v) (e : flatD d = some w) : v = w ∧ flatV v = true := by
  cases d <;> simp only [flatD, Option.some.injEq, DV] at e r <;> first | (subst e r; exact ⟨rfl, rfl⟩) | cases e
theorem flats_of : ∀ {ds : List D} {vs ws : List V}, DVs X.K m H ds vs → allSome (ds.map flatD) = some ws → vs = ws ∧ vs.all flatV = true
  | [], vs, ws, r, e => by
    simp only [DVs] at r
    simp [allSome] at e
    subst r e
    exact ⟨rfl, rfl⟩
  | d :: ds, vs, ws, r, e => by
    simp only [DVs] at r
    obtain ⟨v, w, rfl, rv, rw'⟩ := r
    rw [List.map_cons] at e
    cases ed : flatD d with
    | none => rw [ed] at e; simp [allSome] at e
    | some p =>
      rw [ed] at e
      simp only [allSome, Option.map_eq_some_iff] at e
      obtain ⟨ps', e1, rfl⟩ := e
      obtain ⟨h1, h2⟩ := flat_of rv ed
      obtain ⟨h3, h4⟩ := flats_of rw' e1
      subst h1 h3
      exact ⟨rfl, by simp [h2, h4]⟩
def itemsD : D → HD → Option (List D)
  | .tup ds, _ => some ds
  | .loc l, h => match h[l]? with
    | some (.lst ds) => some ds
    | none => none
  | .scr ns, _ => some (ns.map .int)
  | _, _ => none
theorem ints_of {ns : List Int} : DVs X.K m H (ns.map .int) (ns.map V.int) := by
  induction ns with
  | nil => exact .nil
  | cons n ns ih => exact .cons (by simp [DV]) ih
theorem items_of {d : D} {v : V} {ds : List D} (hr : HR X.K m h H) (r : DV X.K m H d v) (e : itemsD d h = some ds) : ∃ p vs, v = .ref p ∧ (SqL X.K H p vs ∨ SqT X.K H p vs) ∧ DVs X.K m H ds vs := by
  cases d with
  | tup xs =>
    simp only [DV, itemsD, Option.some.injEq] at r e
    subst e
    obtain ⟨a, vs, rfl, ha, dv⟩ := r
    exact ⟨a, vs, rfl, .inr (SqT.of ha), dv⟩
  | loc l =>
    simp only [DV] at r
    obtain ⟨a, rfl, ha⟩ := r
    simp only [itemsD] at e
    split at e
    · rename_i xs el
      cases e
      obtain ⟨vs, hv, dv⟩ := hr.cells l _ a el ha
      exact ⟨a, vs, rfl, .inl (SqL.of hv), dv⟩
    · cases e
  | scr ns =>
    simp only [DV, itemsD, Option.some.injEq] at r e
    subst e
    obtain ⟨a, rfl, ha⟩ := r
    exact ⟨a, _, rfl, .inl ha.sq, ints_of⟩
  | _ => simp [itemsD] at e
def inD (neg : Bool) : D → D → HD → Out D := fun x y h => match itemsD y h with
  | none => .stuck
  | some ds => match flatD x, allSome (ds.map flatD) with
    | some v, some vs => .ok (.bl (if neg then !inV v vs else inV v vs)) h
    | _, _ => .stuck
theorem in_rd {neg : Bool} : ∀ m H h E x y v u Q, HR X.K m h H → DV X.K m H x v → DV X.K m H y u → Post X.K (rD X.K) m H E Q (inD neg x y h) → rIn X.K neg v u H Q := fun m H h E x y v u Q hr rx ry q => by
  unfold inD at q
  split at q
  · exact q.elim
  · rename_i ds e
    split at q
    · rename_i w ws e1 e2
      obtain ⟨p, vs, rfl, hs, dv⟩ := items_of hr ry e
      obtain ⟨h1, h2⟩ := flat_of rx e1
      obtain ⟨h3, h4⟩ := flats_of dv e2
      subst h1 h3
      exact ⟨p, vs, rfl, hs, h2, h4, okq hr q (by simp [DV])⟩
    · exact q.elim
theorem inM : OpM X (compareOp .In) (inD false) := ⟨_, op_in_seq, in_rd⟩
def ixD : D → D → HD → Out D := fun x y h => match itemsD x h, y with
  | some ds, .int i => match atI ds i with
    | some d => .ok d h
    | none => .stuck
  | _, _ => .stuck
theorem atI_dv {ds : List D} {vs : List V} {i : Int} {d : D} (r : DVs X.K m H ds vs) (e : atI ds i = some d) : ∃ v, atI vs i = some v ∧ DV X.K m H d v := by
  unfold atI at e ⊢
  rw [r.len] at e
  cases k : ixN vs.length i with
  | none => rw [k] at e; cases e
  | some j =>
    rw [k] at e
    exact r.get e
theorem ev_ix {a b : Expr} {pos : Pos} {f g : ME} (ha : Ev X E a f) (hb : Ev X E b g) (hs : PlainIx b) : Ev X E (.Subscript a b pos) (mOp ixD f g) :=
  pe_imp (pe_ix (ix_list.or ix_tup) ha hb hs) fun σ H Q hq => seq2 hq fun m H2 h2 x y v u hr rx ry q => by
    unfold ixD at q
    split at q
    · rename_i ds i e
      split at q
      · rename_i d ed
        simp only [DV] at ry
        subst ry
        obtain ⟨p, vs, rfl, hsq, dv⟩ := items_of hr rx e
        obtain ⟨w, e1, r1⟩ := atI_dv dv ed
        rcases hsq with hsq | hsq
        · exact .inl ⟨p, vs, i, w, rfl, rfl, hsq, e1, okq hr q r1⟩
        · exact .inr ⟨p, vs, i, w, rfl, rfl, hsq, e1, okq hr q r1⟩
      · exact q.elim
    · exact q.elim


def lenD : D → HD → Out D := fun x h => match itemsD x h with
  | some ds => .ok (.int ds.length) h
  | none => .stuck
theorem one_of {F : D → HD → Out D} {ds : List D} {vs : List V} {Q : VK} {C : Prop} (r : DVs X.K m H ds vs) (q : Post X.K (rD X.K) m H E Q (ar1 F ds h)) (k : ∀ d v, vs = [v] → DV X.K m H d v → Post X.K (rD X.K) m H E Q (F d h) → C) : C := by
  unfold ar1 at q
  split at q
  · simp only [DVs] at r
    obtain ⟨v, w, rfl, rv, rfl⟩ := r
    exact k _ v rfl rv q
  · exact q.elim
theorem two_of {F : D → D → HD → Out D} {ds : List D} {vs : List V} {Q : VK} {C : Prop} (r : DVs X.K m H ds vs) (q : Post X.K (rD X.K) m H E Q (ar2 F ds h)) (k : ∀ d d' v v', vs = [v, v'] → DV X.K m H d v → DV X.K m H d' v' → Post X.K (rD X.K) m H E Q (F d d' h) → C) : C := by
  unfold ar2 at q
  split at q
  · simp only [DVs] at r
    obtain ⟨v, w, rfl, rv, v', w', rfl, rv', rfl⟩ := r
    exact k _ _ v v' rfl rv rv' q
  · exact q.elim
theorem lenM : CallM X (.builtin "len") (ar1 lenD) := by
  refine ⟨_, call_len_seq, fun m H h E ds vs Q hr r q => one_of r q fun d v ev rv q => ?_⟩
  unfold lenD at q
  split at q
  · rename_i xs e
    obtain ⟨p, ws, rfl, hs, dv⟩ := items_of hr rv e
    exact ⟨p, ws, ev, hs, by rw [← dv.len]; exact okq hr q (by simp [DV])⟩
  · exact q.elim
def CDv (i j : Int) : Prop := 0 < j ∧ j < 18446744073709551616
instance (i j : Int) : Decidable (CDv i j) := by unfold CDv; infer_instance
theorem CDv.no {i j : Int} (h : CDv i j) : Builtin.divisionGoesByPylong i j = false := by
  refine PyProof.noPylong_of_log2 ?_
  have h0 : j.natAbs ≠ 0 := by have := h.1; omega
  have h1 : j.natAbs < 2 ^ 64 := by have := h.2; have := h.1; omega
  exact Nat.lt_trans ((Nat.log2_lt h0).mpr h1) (by decide)
theorem call_divmod' : CallR X (.builtin "divmod") (fun xs H Q => ∃ i j, xs = [.int i, .int j] ∧ CDv i j ∧ ∀ p, H p = none → Q (.ref p) (upd H p (.tup [.int (i / j), .int (i % j)]))) := by
  intro pins s σ H xs us Q I r h
  obtain ⟨i, j, rfl, hc, q⟩ := h
  obtain ⟨u, w', rfl, ⟨t, rfl⟩, ⟨t', rfl⟩⟩ := vals2 r
  have h1 := hc.1
  refine divmod_int (by omega) ?_ (.inl hc.no)
  rw [Int.fdiv_eq_ediv_of_nonneg i (by omega), Int.fmod_eq_emod_of_nonneg i (by omega)]
  have hn : H s.heap.objs.size = none := I.hok.fresh (Nat.le_refl _)
  refine ⟨.ref s.heap.objs.size, _, ?_, rfl, q _ hn⟩
  refine I.laid (fun b o e => Heap.get?_push_of_some _ e) (Nat.le_refl _) ⟨by simp only [List.length_cons, List.length_nil]; rw [sizeLine_eq]; decide, [.int (i / j) s.toks, .int (i % j) (s.toks + 1)], .cons ⟨_, rfl⟩ (.cons ⟨_, rfl⟩ .nil), ?_⟩
  exact ⟨_, Heap.get?_push_size s.heap rfl, rfl, 0, rfl⟩
def divmodD : D → D → HD → Out D
  | .int i, .int j, h => if CDv i j then .ok (.tup [.int (i / j), .int (i % j)]) h else .stuck
  | _, _, _ => .stuck
theorem divmodM : CallM X (.builtin "divmod") (ar2 divmodD) := by
  refine ⟨_, call_divmod', fun m H h E ds vs Q hr r q => two_of r q fun d d' v v' ev rv rv' q => ?_⟩
  unfold divmodD at q
  split at q
  · split at q
    · rename_i i j hc
      simp only [DV] at rv rv'
      subst rv rv'
      exact ⟨i, j, ev, hc, post_newT hr (.cons (by simp [DV]) (.cons (by simp [DV]) .nil)) q⟩
    · exact q.elim
  · exact q.elim
theorem op_fdiv' : OpR X (binaryOp .FloorDiv) (rI CDv fun i j => .int (i / j)) := opI fun i j _ _ _ _ _ hc q => by
  have h1 := hc.1
  exact floordiv_int (by omega) (by rw [Int.fdiv_eq_ediv_of_nonneg i (by omega)]; exact q) (.inl hc.no)
abbrev fdivD' := intD (fun i j => .int (i / j)) CDv
theorem fdivM' : OpM X (binaryOp .FloorDiv) fdivD' := intM op_fdiv' (fun _ _ h => h) fun _ _ _ _ => by simp [DV]
def maxD : D → D → HD → Out D
  | .int i, .int j, h => .ok (.int (if j > i then j else i)) h
  | _, _, _ => .stuck
def minD : D → D → HD → Out D
  | .int i, .int j, h => .ok (.int (if j < i then j else i)) h
  | _, _, _ => .stuck
theorem maxM (hc : X.calm = true) : CallM X (.builtin "max") (ar2 maxD) := by
  refine ⟨_, call_max2 hc, fun m H h E ds vs Q hr r q => two_of r q fun d d' v v' ev rv rv' q => ?_⟩
  unfold maxD at q
  split at q
  · simp only [DV] at rv rv'
    subst rv rv'
    exact ⟨_, _, ev, okq hr q (by simp [DV])⟩
  · exact q.elim
theorem minM (hc : X.calm = true) : CallM X (.builtin "min") (ar2 minD) := by
  refine ⟨_, call_min2 hc, fun m H h E ds vs Q hr r q => two_of r q fun d d' v v' ev rv rv' q => ?_⟩
  unfold minD at q
  split at q
  · simp only [DV] at rv rv'
    subst rv rv'
    exact ⟨_, _, ev, okq hr q (by simp [DV])⟩
  · exact q.elim
def intOfD : D → HD → Out D
  | .int i, h => .ok (.int i) h
  | .bl b, h => .ok (.int (if b then 1 else 0)) h
  | _, _ => .stuck
theorem intOfM : CallM X (.type "int") (ar1 intOfD) := by
  refine ⟨_, call_int1, fun m H h E ds vs Q hr r q => one_of r q fun d v ev rv q => ?_⟩
  unfold intOfD at q
  split at q
  · simp only [DV] at rv; subst rv
    exact .inl ⟨_, ev, okq hr q (by simp [DV])⟩
  · simp only [DV] at rv; subst rv
    exact .inr ⟨_, ev, okq hr q (by simp [DV])⟩
  · exact q.elim
def tupOfD : D → HD → Out D := fun x h => match x with
  | .tup ds => .ok (.tup ds) h
  | .loc l => match h[l]? with
    | some (.lst ds) => .ok (.tup ds) h
    | none => .stuck
  | _ => .stuck
theorem tupOfM : CallM X (.type "tuple") (ar1 tupOfD) := by
  refine ⟨_, call_tuple_of, fun m H h E ds vs Q hr r q => one_of r q fun d v ev rv q => ?_⟩
  unfold tupOfD at q
  split at q
  · simp only [DV] at rv
    obtain ⟨a, ws, rfl, ha, dv⟩ := rv
    exact ⟨a, ws, ev, .inr ⟨SqT.of ha, okq hr q (by simp only [DV]; exact ⟨a, ws, rfl, ha, dv⟩)⟩⟩
  · split at q
    · rename_i ds' el
      simp only [DV] at rv
      obtain ⟨a, rfl, ha⟩ := rv
      obtain ⟨ws, hv, dv⟩ := hr.cells _ _ a el ha
      exact ⟨a, ws, ev, .inl ⟨SqL.of hv, post_newT hr dv q⟩⟩
    · exact q.elim
  · exact q.elim
end
end LS


namespace LS
open PySem PySem.Spec PyProof.Rows L2

theorem PostS.bind {α β : Type} {K : PySem.W.Frag} {m : List Addr} {H : Hp} {R : List Addr → Hp → α → β → Prop} {E : XK} {Q' : β → Hp → Prop} {Dn : Ends} {o : Out α} {k : α → HD → Out (Fl × Rho)}
    (h : PostS K m H E Dn (o.bind k)) (f : ∀ a h1 v m1 H1, o = .ok a h1 → m <+: m1 → Kp H H1 → HR K m1 h1 H1 → R m1 H1 a v → PostS K m1 H1 E Dn (k a h1) → Q' v H1) : Post K R m H E Q' o := by
  cases o with
  | ok a h1 => exact fun v m1 H1 p kk hr r => f a h1 v m1 H1 rfl p kk hr r (h.ahead p kk)
  | err C fs h1 => exact h
  | stuck => exact h
theorem PostS.here {K : PySem.W.Frag} {m : List Addr} {H : Hp} {E : XK} {Dn : Ends} {a : Fl × Rho} {h : HD} (hr : HR K m h H) (p : PostS K m H E Dn (.ok a h)) : FlOk K m H Dn a := p m H (List.prefix_refl _) (.refl _) hr

section
variable {X : Cx} {E : XK} {st : Stmt} {sts b1 b2 : List Stmt} {g g1 g2 : MS} {e : Expr} {f : ME} {pos : Pos} {t : MT}
def mSkip : MS := fun ρ h => .ok (.nx, ρ) h
def mSeq (g1 g2 : MS) : MS := fun ρ h => (g1 ρ h).bind fun x h1 => match x with
  | (.nx, ρ1) => g2 ρ1 h1
  | y => .ok y h1
theorem exs_nil : Exs X E [] mSkip := pss_imp pss_nil fun Dn σ H ⟨m, ρ, h, hr, er, p⟩ => (p.here hr) σ er
theorem exs_one (h : Ex X E st g) : Exs X E [st] g := pss_one h
theorem exs_cons (h1 : Ex X E st g1) (h2 : Exs X E sts g2) : Exs X E (st :: sts) (mSeq g1 g2) :=
  pss_imp (pss_cons h1 h2) fun Dn σ H ⟨m, ρ, h, hr, er, p⟩ => by
    refine ⟨m, ρ, h, hr, er, ?_⟩
    unfold mSeq at p
    cases o : g1 ρ h with
    | stuck => rw [o] at p; exact p
    | err C fs h1 => rw [o] at p; exact p
    | ok x h1 =>
      rw [o] at p
      obtain ⟨fl, ρ1⟩ := x
      intro m1 H1 p1 k1 hr1
      cases fl with
      | nx => exact fun σ1 er1 => ⟨m1, ρ1, h1, hr1, er1, PostS.ahead p1 k1 p⟩
      | bk => exact p m1 H1 p1 k1 hr1
      | ct => exact p m1 H1 p1 k1 hr1
      | rt d => exact p m1 H1 p1 k1 hr1
def mExpr (f : ME) : MS := fun ρ h => (f ρ h).bind fun _ h1 => .ok (.nx, ρ) h1
theorem ex_expr (he : Ev X E e f) (hs : swapsWith e none pos.line X.env = pure false := by rfl) : Ex X E (.Expr e pos) (mExpr f) :=
  ps_imp (ps_expr he hs) fun Dn σ H ⟨m, ρ, h, hr, er, p⟩ => ⟨m, ρ, h, hr, er, PostS.bind p fun x h1 v m1 H1 _ p1 k1 hr1 r1 q1 => (q1.here hr1) σ (er.keep p1 k1)⟩
def mRet (f : ME) : MS := fun ρ h => (f ρ h).bind fun d h1 => .ok (.rt d, ρ) h1
theorem ex_ret (he : Ev X E e f) : Ex X E (.Return (some e) pos) (mRet f) :=
  ps_imp (ps_ret he) fun Dn σ H ⟨m, ρ, h, hr, er, p⟩ => ⟨m, ρ, h, hr, er, PostS.bind p fun x h1 v m1 H1 _ p1 k1 hr1 r1 q1 => (q1.here hr1) v r1⟩
def mIfS (t : MT) (g1 g2 : MS) : MS := fun ρ h => (t ρ h).bind fun b h1 => if b = true then g1 ρ h1 else g2 ρ h1
theorem ex_if {c : Expr} (hc : EvT X E c t) (ha : Exs X E b1 g1) (hb : Exs X E b2 g2) : Ex X E (.If c b1 b2 pos) (mIfS t g1 g2) :=
  ps_imp (ps_if hc ha hb) fun Dn σ H ⟨m, ρ, h, hr, er, p⟩ => ⟨m, ρ, h, hr, er, PostS.bind p fun x h1 v m1 H1 _ p1 k1 hr1 r1 q1 => by
    cases r1
    cases x with
    | true => exact ⟨m1, ρ, h1, hr1, er.keep p1 k1, q1⟩
    | false => exact ⟨m1, ρ, h1, hr1, er.keep p1 k1, q1⟩⟩
def mNever : MS := fun _ _ => .stuck
theorem ex_never : Ex X E st mNever := ps_imp ps_never fun Dn σ H ⟨m, ρ, h, hr, er, p⟩ => p
def mSet (i : Nat) (f : ME) : MS := fun ρ h => (f ρ h).bind fun d h1 => .ok (.nx, ρ.set i (some d)) h1
theorem ex_set {i : Nat} {x : Str} {pos' : Pos} (hN : X.N.Nodup) (hi : X.N[i]? = some x) (hx : Loc X.env.scope x) (he : Ev X E e f) (hs : swapsWith e (some (.Name x pos')) pos.line X.env = pure false := by rfl) (hf : X.fn x = true ∨ X.env.scope.names.lookup x = some .local := by first | exact .inl rfl | exact .inr rfl | assumption) :
    Ex X E (.Assign [.Name x pos'] e pos) (mSet i f) :=
  ps_imp (ps_set hN hi hx he hs hf) fun Dn σ H ⟨m, ρ, h, hr, er, p⟩ => ⟨m, ρ, h, hr, er, PostS.bind p fun x h1 v m1 H1 _ p1 k1 hr1 r1 q1 => (q1.here hr1) _ ((er.keep p1 k1).set r1)⟩
def mPar (i j : Nat) (fa : MA) : MS := fun ρ h => (fa ρ h).bind fun ds h1 => match ds with
  | [x, y] => .ok (.nx, (ρ.set i (some x)).set j (some y)) h1
  | _ => .stuck
theorem ex_par {i j : Nat} {x y : Str} {a b : Expr} {fa : MA} {px py pt : Pos} {kt k2 : Nat} {pt2 : Pos} (hc : X.calm = true) (hN : X.N.Nodup) (hi : X.N[i]? = some x) (hj : X.N[j]? = some y) (hij : i ≠ j)
    (hx : X.env.scope.names.lookup x = some .local) (hy : X.env.scope.names.lookup y = some .local) (ha : EvA X E [a, b] fa)
    (hw : swappedStores [.Tuple [.Name x px, .Name y py] kt pt] (.Tuple [a, b] k2 pt2) X.env = pure (some [x, y]))
    (hs : swapsWithSole [.Tuple [.Name x px, .Name y py] kt pt] (.Tuple [a, b] k2 pt2) pos.line X.env = pure false := by rfl) :
    Ex X E (.Assign [.Tuple [.Name x px, .Name y py] kt pt] (.Tuple [a, b] k2 pt2) pos) (mPar i j fa) :=
  ps_imp (ps_par hc hN hi hj hij hx hy ha hw hs) fun Dn σ H ⟨m, ρ, h, hr, er, p⟩ => ⟨m, ρ, h, hr, er, PostS.bind p fun x h1 v m1 H1 _ p1 k1 hr1 r1 q1 => by
    split at q1
    · simp only [rDs, DVs] at r1
      obtain ⟨v, w, rfl, rv, v', w', rfl, rv', rfl⟩ := r1
      exact ⟨v, v', rfl, (q1.here hr1) _ (((er.keep p1 k1).set rv).set rv')⟩
    · exact q1.elim⟩

abbrev MG := D → Rho → Option Rho
def EvG (X : Cx) (tg : Expr) (sg : MG) : Prop :=
  ∃ gg : TG, PG X tg gg ∧ ∀ m H d v ρ σ ρ' Q, DV X.K m H d v → ER X.K m H ρ σ → sg d ρ = some ρ' → (∀ σ', ER X.K m H ρ' σ' → Q σ' H) → gg v σ H Q
def sName (i : Nat) : MG := fun d ρ => some (ρ.set i (some d))
def sPair (i j : Nat) : MG := fun d ρ => match d with
  | .tup [x, y] => some ((ρ.set i (some x)).set j (some y))
  | _ => none
theorem evG_name {i : Nat} {x : Str} (h : PG X (.Name x pos) (gName i)) : EvG X (.Name x pos) (sName i) := ⟨_, h, fun m H d v ρ σ ρ' Q r er e q => by
  simp only [sName, Option.some.injEq] at e
  subst e
  exact q _ (er.set r)⟩
theorem evG_pair {i j : Nat} {x y : Str} {px py : Pos} {kt : Nat} (h : PG X (.Tuple [.Name x px, .Name y py] kt pos) (gTup X.K 2 (gCons (gName i) (gCons (gName j) gNil)))) : EvG X (.Tuple [.Name x px, .Name y py] kt pos) (sPair i j) := ⟨_, h, fun m H d v ρ σ ρ' Q r er e q => by
  unfold sPair at e
  split at e
  · rename_i a b
    cases e
    simp only [DV, DVs] at r
    obtain ⟨p, vs, rfl, hp, v1, w1, rfl, r1, v2, w2, rfl, r2, rfl⟩ := r
    exact ⟨p, _, rfl, SqT.of hp, rfl, v1, _, rfl, v2, _, rfl, rfl, q _ ((er.set r1).set r2)⟩
  · cases e⟩
def mUnp (sg : MG) (f : ME) : MS := fun ρ h => (f ρ h).bind fun d h1 => match sg d ρ with
  | some ρ1 => .ok (.nx, ρ1) h1
  | none => .stuck
theorem ex_unp {tg : Expr} {sg : MG} (he : Ev X E e f) (hg : EvG X tg sg) (hs : swapsWithSole [tg] e pos.line X.env = pure false := by rfl) (hw : swappedStores [tg] e X.env = pure none := by rfl)
    (h1 : (assignEach [tg] X.env).map (·.2) = [assign tg X.env] := by rfl) : Ex X E (.Assign [tg] e pos) (mUnp sg f) := by
  obtain ⟨gg, hg, i⟩ := hg
  exact ps_imp (ps_asg he hg hs hw h1) fun Dn σ H ⟨m, ρ, h, hr, er, p⟩ => ⟨m, ρ, h, hr, er, PostS.bind p fun x h1 v m1 H1 _ p1 k1 hr1 r1 q1 => by
    split at q1
    · rename_i ρ1 es
      exact i m1 H1 x v ρ σ ρ1 _ r1 (er.keep p1 k1) es fun σ' er' => (q1.here hr1) σ' er'
    · exact q1.elim⟩


/-- the lists that are walked, with what they must hold -/
abbrev Src := List (Nat × List D)
def srcOk (src : Src) (items : List D) (h : HD) : Prop := ∀ p ∈ src, h[p.1]? = some (.lst p.2)
theorem src0 {items : List D} {h : HD} : srcOk [] items h := fun p z => nomatch z
theorem src1 {items ds : List D} {h : HD} {l : Nat} (e : h[l]? = some (.lst ds)) : srcOk [(l, ds)] items h := fun p z => by
  rw [List.mem_singleton] at z
  subst z
  exact e
def rIt (K : PySem.W.Frag) : List Addr → Hp → (List D × Src) → It → Prop := fun m1 H1 x J =>
  ∀ i m2 h2 H2, m1 <+: m2 → Kp H1 H2 → HR K m2 h2 H2 → srcOk x.2 x.1 h2 →
    (i < x.1.length → J.go i H2 ∧ ∀ y H3, J.yld i H2 y H3 → Kp H2 H3 ∧ HR K m2 h2 H3 ∧ ∃ d, x.1[i]? = some d ∧ DV K m2 H3 d y) ∧ (i = x.1.length → J.stop i H2)
abbrev MI := Rho → HD → Out (List D × Src)
abbrev EvI (X : Cx) (E : XK) (tg iter : Expr) (it : MI) : Prop := PI X tg iter (tM X.K (rIt X.K) E it)
theorem pi_imp {tg iter : Expr} {w w' : TI} (h : PI X tg iter w) (i : ∀ σ H R, w' σ H R → w σ H R) : PI X tg iter w' := fun pins s σ H R I q => h pins s σ H R I (i σ H R q)
theorem pi_seq {tg l : Expr} {tl : TE} (hl : PE X l tl) : PI X tg l (fun σ H R => tl σ H fun x H1 => ∃ a, x = .ref a ∧ (((∃ xs, SqL X.K H1 a xs) ∧ R (Itl X.K a) H1) ∨ ((∃ xs, SqT X.K H1 a xs) ∧ R (Itt X.K a) H1))) := by
  intro pins s σ H R I h
  refine thn (hl pins s σ H _ I h) fun v s1 ⟨x, H1, I1, r1, q1⟩ => ?_
  obtain ⟨a, e, q⟩ := q1
  subst e
  cases r1
  rcases q with ⟨⟨xs, hq⟩, q⟩ | ⟨⟨xs, hq⟩, q⟩
  · obtain ⟨its, rv, p, hz⟩ := I1.list hq
    refine wpAny_pyIter_list p.isList ?_
    refine ⟨s1.heap.objs.size, [s1.heap.objs.size], _, _, H1, rfl, I1.kept (t' := s1.toks) fun b o e => Heap.get?_push_of_some _ e, turn_list a _, ⟨_, Heap.get?_push_size _ rfl, rfl, rfl⟩, fun b hb => ?_, q⟩
    have e : b = s1.heap.objs.size := by simpa using hb
    subst e
    exact I1.fpOk (Nat.le_refl _) (I1.hok.fresh (Nat.le_refl _))
  · obtain ⟨its, rv, p, hz⟩ := I1.tuple hq
    refine wpAny_pyIter_tuple (show s1.heap.IsTuple a its.toArray from p) ?_
    refine ⟨s1.heap.objs.size, [s1.heap.objs.size], _, _, H1, rfl, I1.kept (t' := s1.toks) fun b o e => Heap.get?_push_of_some _ e, turn_tuple a _, ⟨_, Heap.get?_push_size _ rfl, rfl, rfl⟩, fun b hb => ?_, q⟩
    have e : b = s1.heap.objs.size := by simpa using hb
    subst e
    exact I1.fpOk (Nat.le_refl _) (I1.hok.fresh (Nat.le_refl _))
def srcD : D → List D → Src
  | .loc l, ds => [(l, ds)]
  | _, _ => []
def iSeqD (d : D) (h : HD) : Out (List D × Src) := match itemsD d h with
  | some ds => .ok (ds, srcD d ds) h
  | none => .stuck
def mISeq (f : ME) : MI := fun ρ h => (f ρ h).bind iSeqD
theorem Kp.lget {H H' : Hp} {a : Addr} {K : PySem.W.Frag} {xs : List V} (k : Kp H H') (h : FzL K H a xs) : SqL K H' a xs := (k.fzL h).sq
theorem it_list {K : PySem.W.Frag} {a : Addr} {m : List Addr} {H : Hp} {h : HD} {i : Nat} {items : List D} {vs : List V} (hr : HR K m h H) (hs : SqL K H a vs) (dv : DVs K m H items vs) (uniq : ∀ ys, SqL K H a ys → ys = vs ∨ True) :
    (i < items.length → (Itl K a).go i H ∧ ∀ y H3, (Itl K a).yld i H y H3 → Kp H H3 ∧ HR K m h H3 ∧ ∃ d, items[i]? = some d ∧ DV K m H3 d y) ∧ (i = items.length → (Itl K a).stop i H) := by
  refine ⟨fun hi => ?_, fun hi => ⟨vs, hs, by rw [← dv.len]; exact Nat.le_of_eq hi.symm⟩⟩
  have hd : items[i]? = some items[i] := List.getElem?_eq_getElem hi
  obtain ⟨v, e1, r1⟩ := dv.get hd
  refine ⟨⟨vs, v, hs, e1⟩, fun y H3 ⟨e3, hy⟩ => ?_⟩
  subst e3
  have := hy vs hs
  rw [e1] at this
  cases this
  exact ⟨.refl _, hr, _, hd, r1⟩
theorem it_tup {K : PySem.W.Frag} {a : Addr} {m : List Addr} {H : Hp} {h : HD} {i : Nat} {items : List D} {vs : List V} (hr : HR K m h H) (hs : SqT K H a vs) (dv : DVs K m H items vs) :
    (i < items.length → (Itt K a).go i H ∧ ∀ y H3, (Itt K a).yld i H y H3 → Kp H H3 ∧ HR K m h H3 ∧ ∃ d, items[i]? = some d ∧ DV K m H3 d y) ∧ (i = items.length → (Itt K a).stop i H) := by
  refine ⟨fun hi => ?_, fun hi => ⟨vs, hs, by rw [← dv.len]; exact Nat.le_of_eq hi.symm⟩⟩
  have hd : items[i]? = some items[i] := List.getElem?_eq_getElem hi
  obtain ⟨v, e1, r1⟩ := dv.get hd
  refine ⟨⟨vs, v, hs, e1⟩, fun y H3 ⟨e3, hy⟩ => ?_⟩
  subst e3
  have := hy vs hs
  rw [e1] at this
  cases this
  exact ⟨.refl _, hr, _, hd, r1⟩
theorem evI_seq {tg a : Expr} (ha : Ev X E a f) : EvI X E tg a (mISeq f) :=
  pi_imp (pi_seq ha) fun σ H R ⟨m, ρ, h, hr, er, p⟩ => ⟨m, ρ, h, hr, er, Post.bind p fun x h1 v m1 H1 _ p1 k1 hr1 r1 q1 => by
    unfold iSeqD at q1
    split at q1
    · rename_i ds eds
      cases x with
      | tup xs =>
        simp only [itemsD, Option.some.injEq] at eds
        subst eds
        simp only [rD, DV] at r1
        obtain ⟨a, vs, rfl, ha, dv⟩ := r1
        refine ⟨a, rfl, .inr ⟨⟨vs, SqT.of ha⟩, q1 _ m1 H1 (List.prefix_refl _) (.refl _) hr1 fun i m2 h2 H2 p2 k2 hr2 _ => ?_⟩⟩
        exact it_tup hr2 (SqT.of (k2 _ _ ha rfl)) (dv.keep p2 k2)
      | loc l =>
        simp only [rD, DV] at r1
        obtain ⟨a, rfl, ha⟩ := r1
        simp only [itemsD] at eds
        split at eds
        · rename_i xs el
          cases eds
          obtain ⟨vs, hv, dv⟩ := hr1.cells l _ a el ha
          refine ⟨a, rfl, .inl ⟨⟨vs, SqL.of hv⟩, q1 _ m1 H1 (List.prefix_refl _) (.refl _) hr1 fun i m2 h2 H2 p2 k2 hr2 hs => ?_⟩⟩
          obtain ⟨ws, hw, dw⟩ := hr2.cells l _ a (hs _ List.mem_cons_self) (pre_get p2 ha)
          exact it_list hr2 (SqL.of hw) dw fun _ _ => .inr trivial
        · cases eds
      | scr ns =>
        simp only [itemsD, Option.some.injEq] at eds
        subst eds
        simp only [rD, DV] at r1
        obtain ⟨a, rfl, ha⟩ := r1
        refine ⟨a, rfl, .inl ⟨⟨_, ha.sq⟩, q1 _ m1 H1 (List.prefix_refl _) (.refl _) hr1 fun i m2 h2 H2 p2 k2 hr2 _ => ?_⟩⟩
        exact it_list hr2 (k2.lget ha) ints_of fun _ _ => .inr trivial
      | _ => simp [itemsD] at eds
    · exact q1.elim⟩
def rngL (lo : Int) (n : Nat) : List D := (List.range n).map fun k => .int (lo + (k : Nat))
theorem it_rng {K : PySem.W.Frag} {m1 : List Addr} {H1 : Hp} (lo : Int) (n : Nat) : rIt K m1 H1 (rngL lo n, []) (Itr lo n) := fun i m2 h2 H2 p2 k2 hr2 _ => by
  refine ⟨fun hi => ?_, fun hi => ?_⟩
  · have hi' : i < n := by simpa [rngL] using hi
    refine ⟨hi', fun y H3 ⟨e3, ey⟩ => ?_⟩
    subst e3 ey
    refine ⟨.refl _, hr2, .int (lo + i), ?_, by simp [DV]⟩
    simp [rngL, List.getElem?_range, hi']
  · show n ≤ i
    have hi' : i = n := by simpa [rngL] using hi
    omega
@[irreducible] def rng1D : List D → HD → Out (List D × Src) := fun ds h => match ds with
  | [.int j] => if -(2 ^ 62) ≤ j ∧ j < 2 ^ 62 then .ok (rngL 0 j.toNat, []) h else .stuck
  | _ => .stuck
@[irreducible] def rng2D : List D → HD → Out (List D × Src) := fun ds h => match ds with
  | [.int i, .int j] => if (-(2 ^ 62) ≤ i ∧ i < 2 ^ 62) ∧ -(2 ^ 62) ≤ j ∧ j < 2 ^ 62 then .ok (rngL i (j - i).toNat, []) h else .stuck
  | _ => .stuck
def mIRng1 (fa : MA) : MI := fun ρ h => (fa ρ h).bind rng1D
def mIRng2 (fa : MA) : MI := fun ρ h => (fa ρ h).bind rng2D
theorem evI_range1 {tg a : Expr} {fa : MA} {p pos : Pos} (hg : Gl X "range") (hm : X.mg "range" = none) (ha : EvA X E [a] fa) (hs : starEach [a] X.env = [(false, eval a X.env)] := by rfl) : EvI X E tg (.Call (.Name "range" p) [a] [] pos) (mIRng1 fa) :=
  pi_imp (pi_range1 hg hm ha hs) fun σ H R ⟨m, ρ, h, hr, er, p⟩ => ⟨m, ρ, h, hr, er, Post.bind p fun x h1 v m1 H1 _ p1 k1 hr1 r1 q1 => by
    unfold rng1D at q1
    split at q1
    · split at q1
      · rename_i hj
        simp only [rDs, DVs, DV] at r1
        obtain ⟨v, w, rfl, rfl, rfl⟩ := r1
        exact ⟨_, rfl, hj.1, hj.2, q1 _ m1 H1 (List.prefix_refl _) (.refl _) hr1 (it_rng 0 _)⟩
      · exact q1.elim
    · exact q1.elim⟩
theorem evI_range2 {tg a b : Expr} {fa : MA} {p pos : Pos} (hg : Gl X "range") (hm : X.mg "range" = none) (ha : EvA X E [a, b] fa) (hs : starEach [a, b] X.env = [(false, eval a X.env), (false, eval b X.env)] := by rfl) (hs2 : starEach [b] X.env = [(false, eval b X.env)] := by rfl) : EvI X E tg (.Call (.Name "range" p) [a, b] [] pos) (mIRng2 fa) :=
  pi_imp (pi_range2 hg hm ha hs hs2) fun σ H R ⟨m, ρ, h, hr, er, p⟩ => ⟨m, ρ, h, hr, er, Post.bind p fun x h1 v m1 H1 _ p1 k1 hr1 r1 q1 => by
    unfold rng2D at q1
    split at q1
    · split at q1
      · rename_i hj
        simp only [rDs, DVs, DV] at r1
        obtain ⟨v, w, rfl, rfl, v', w', rfl, rfl, rfl⟩ := r1
        exact ⟨_, _, rfl, ⟨hj.1.1, hj.1.2, hj.2.1, hj.2.2⟩, q1 _ m1 H1 (List.prefix_refl _) (.refl _) hr1 (it_rng _ _)⟩
      · exact q1.elim
    · exact q1.elim⟩

open Classical in
noncomputable def loopM (src : Src) (items : List D) (sg : MG) (body : MS) : List D → MS
  | [] => fun ρ h => if srcOk src items h then .ok (.nx, ρ) h else .stuck
  | d :: ds => fun ρ h => if srcOk src items h then match sg d ρ with
      | none => .stuck
      | some ρ1 => (body ρ1 h).bind fun x h2 => match x with
        | (.nx, ρ2) => loopM src items sg body ds ρ2 h2
        | (.ct, ρ2) => loopM src items sg body ds ρ2 h2
        | (.bk, ρ2) => .ok (.nx, ρ2) h2
        | (.rt d, ρ2) => .ok (.rt d, ρ2) h2
    else .stuck
noncomputable def mFor (it : MI) (sg : MG) (body : MS) : MS := fun ρ h => (it ρ h).bind fun x h1 => loopM x.2 x.1 sg body x.1 ρ h1
theorem ex_for {tg iter : Expr} {body : List Stmt} {it : MI} {sg : MG} {g : MS} (hp : PassesOwn (model X.prog X.w) X.A X.env X.xe) (hc : X.calm = true) (hi : EvI X E tg iter it) (hg : EvG X tg sg) (hb : Exs X E body g)
    (hs : ∀ x, foldedSetIterable iter X.env x = pure x := by intro _; rfl) : Ex X E (.For tg iter body [] pos) (mFor it sg g) := by
  obtain ⟨gg, hg, ig⟩ := hg
  refine ps_imp (ps_for hp hc hi hg hb hs) fun Dn σ H ⟨m, ρ, h, hr, er, p⟩ => ⟨m, ρ, h, hr, er, PostS.bind p fun x h1 J m1 H1 _ p1 k1 hr1 r1 q1 => ?_⟩
  obtain ⟨items, src⟩ := x
  refine ⟨fun i n σ2 H2 => n = items.length - i ∧ i ≤ items.length ∧ ∃ m2 ρ2 h2, m1 <+: m2 ∧ Kp H1 H2 ∧ HR X.K m2 h2 H2 ∧ ER X.K m2 H2 ρ2 σ2 ∧ PostS X.K m2 H2 E Dn (loopM src items sg g (items.drop i) ρ2 h2), ⟨items.length, rfl, Nat.zero_le _, m1, ρ, h1, List.prefix_refl _, .refl _, hr1, er.keep p1 k1, by simpa using q1⟩, ?_⟩
  rintro i n σ2 H2 ⟨rfl, hi, m2, ρ2, h2, p2, k2, hr2, er2, q2⟩
  by_cases hlt : i < items.length
  · rw [List.drop_eq_getElem_cons hlt] at q2
    unfold loopM at q2
    split at q2
    · rename_i hs
      obtain ⟨hgo, hy⟩ := (r1 i m2 h2 H2 p2 k2 hr2 hs).1 hlt
      refine .inr ⟨hgo, fun σ5 H5 => ∃ m5 ρ5 h5, m1 <+: m5 ∧ Kp H1 H5 ∧ HR X.K m5 h5 H5 ∧ ER X.K m5 H5 ρ5 σ5 ∧ PostS X.K m5 H5 E Dn (loopM src items sg g (items.drop (i + 1)) ρ5 h5), fun σ5 H5 ⟨m5, ρ5, h5, a1, a2, a3, a4, a5⟩ => ⟨items.length - (i + 1), by omega, rfl, hlt, m5, ρ5, h5, a1, a2, a3, a4, a5⟩, fun y H3 hyl => ?_⟩
      obtain ⟨k3, hr3, d, ed, rd⟩ := hy y H3 hyl
      have ed' : d = items[i] := by rw [List.getElem?_eq_getElem hlt] at ed; exact (Option.some.inj ed).symm
      subst ed'
      split at q2
      · exact q2.elim
      · rename_i ρ3 es
        refine ig m2 H3 _ y ρ2 σ2 ρ3 _ rd (er2.keep (List.prefix_refl _) k3) es fun σ4 er4 => ?_
        refine ⟨m2, ρ3, h2, hr3, er4, ?_⟩
        have q3 := PostS.ahead (List.prefix_refl _) k3 q2
        cases o : g ρ3 h2 with
        | stuck => rw [o] at q3; exact q3
        | err C fs h5 => rw [o] at q3; exact q3
        | ok z h5 =>
          rw [o] at q3
          obtain ⟨fl, ρ5⟩ := z
          intro m5 H5 p5 k5 hr5
          have pk : m1 <+: m5 := p2.trans p5
          have kk : Kp H1 H5 := (k2.trans k3).trans k5
          cases fl with
          | nx => exact fun σ5 er5 => ⟨m5, ρ5, h5, pk, kk, hr5, er5, PostS.ahead p5 k5 q3⟩
          | ct => exact fun σ5 er5 => ⟨m5, ρ5, h5, pk, kk, hr5, er5, PostS.ahead p5 k5 q3⟩
          | bk => exact fun σ5 er5 => q3 m5 H5 p5 k5 hr5 σ5 er5
          | rt d => exact fun v rv => q3 m5 H5 p5 k5 hr5 v rv
    · exact q2.elim
  · have he : i = items.length := Nat.le_antisymm hi (Nat.le_of_not_lt hlt)
    subst he
    rw [List.drop_length] at q2
    unfold loopM at q2
    split at q2
    · rename_i hs
      exact .inl ⟨(r1 _ m2 h2 H2 p2 k2 hr2 hs).2 rfl, (q2.here hr2) σ2 er2⟩
    · exact q2.elim
end
end LS


namespace LS
open PySem PySem.Spec PyProof.Rows L2

section
variable {M : Model} {A : Around} {E : Value → Shared → Prop} {s : Shared}
/-- the free names' cells -/
theorem closure_loop {env : Env} : ∀ (names : List (Str × NameKind)) (acc : List (Str × Addr)), (∀ y ∈ names, y.2 = .free → ∃ c, env.cells.lookup y.1 = some c) →
    ∃ cl : List (Str × Addr), (forIn names acc (fun (x : Str × NameKind) (cs : List (Str × Addr)) => match x with
      | (name, kind) => if (kind == NameKind.free) = true then do let y ← cellOf env name; pure (ForInStep.yield ((name, y) :: cs)) else pure (ForInStep.yield cs)) : Sem (List (Str × Addr))) = pure cl ∧
      (∀ x c, (x, c) ∈ cl → (x, c) ∈ acc ∨ (env.cells.lookup x = some c ∧ (x, NameKind.free) ∈ names)) ∧ (∀ y ∈ names, y.2 = .free → ∃ c, (y.1, c) ∈ cl) ∧ (∀ p ∈ acc, p ∈ cl)
  | [], acc, _ => ⟨acc, rfl, fun x c h => .inl h, fun y hy => absurd hy (by simp), fun p h => h⟩
  | (name, kind) :: r, acc, h => by
    rw [List.forIn_cons]
    by_cases hk : kind = .free
    · subst hk
      obtain ⟨c, hc⟩ := h (name, .free) List.mem_cons_self rfl
      obtain ⟨cl, e, h1, h2, h3⟩ := closure_loop (env := env) r ((name, c) :: acc) (fun y hy => h y (List.mem_cons_of_mem _ hy))
      refine ⟨cl, ?_, fun x c' hm => ?_, fun y hy hf => ?_, fun p hp => h3 p (List.mem_cons_of_mem _ hp)⟩
      · rw [← e]
        have : cellOf env name = pure c := by unfold cellOf; rw [hc]
        simp only [this, beq_self_eq_true, if_true, pure_bind]
      · rcases h1 x c' hm with q | ⟨q1, q2⟩
        · rcases List.mem_cons.mp q with q | q
          · cases q; exact .inr ⟨hc, List.mem_cons_self⟩
          · exact .inl q
        · exact .inr ⟨q1, List.mem_cons_of_mem _ q2⟩
      · rcases List.mem_cons.mp hy with q | q
        · subst q; exact ⟨c, h3 _ List.mem_cons_self⟩
        · exact h2 y q hf
    · obtain ⟨cl, e, h1, h2, h3⟩ := closure_loop (env := env) r acc (fun y hy => h y (List.mem_cons_of_mem _ hy))
      refine ⟨cl, ?_, fun x c' hm => ?_, fun y hy hf => ?_, h3⟩
      · rw [← e]
        have hk' : (kind == NameKind.free) = false := by simpa using hk
        simp only [hk', Bool.false_eq_true, if_false, pure_bind]
      · rcases h1 x c' hm with q | ⟨q1, q2⟩
        · exact .inl q
        · exact .inr ⟨q1, List.mem_cons_of_mem _ q2⟩
      · rcases List.mem_cons.mp hy with q | q
        · subst q; exact absurd hf hk
        · exact h2 y q hf
theorem closureFor_some {scope : Scope} {env : Env} (h : ∀ y ∈ scope.names, y.2 = .free → ∃ c, env.cells.lookup y.1 = some c) :
    ∃ cl : List (Str × Addr), closureFor scope env = pure cl ∧ (∀ x c, (x, c) ∈ cl → env.cells.lookup x = some c ∧ (x, NameKind.free) ∈ scope.names) ∧ (∀ y ∈ scope.names, y.2 = .free → ∃ c, (y.1, c) ∈ cl) := by
  obtain ⟨cl, e, h1, h2, h3⟩ := closure_loop (env := env) scope.names [] h
  refine ⟨cl, ?_, fun x c hm => ?_, h2⟩
  · unfold closureFor
    simp only [bind_pure]
    exact e
  · rcases h1 x c hm with q | q
    · exact nomatch q
    · exact q
theorem newEnv_comp {scope : Scope} {globals : Addr} {cl : List (Str × Addr)} {qual : Str} {around : Env} {Q : Env → Shared → Prop}
    (h : Q (newEnv scope s.heap.objs.size globals (cellsFrom (s.heap.objs.size + 1) scope.names cl) qual none .none (some around) builtinsNs) { s with heap := pushCells (s.heap.push { cls := .type "dict", data := .dict #[] }) scope.names }) :
    wpAny M A (newFunctionEnv scope globals cl [] qual none .none (some around)) Q E s := by
  simp only [newFunctionEnv, Option.isSome_some, if_true]
  refine wpAny_bind (wpAny_alloc ?_)
  refine wpAny_bind (wpAny_layCells _ (fun name kind cells => by cases hkc : kind == NameKind.cell <;> simp [hkc]) _ _ _ _ ?_)
  simp only [List.forIn_nil, pure_bind]
  refine wpAny_pure ?_
  rw [show ({ s with heap := s.heap.push { cls := .type "dict", data := .dict #[] } } : Shared).heap.objs.size = s.heap.objs.size + 1 from Heap.size_push ..]
  exact h
end
section
variable {prog : Program} {w : World} {A : Around} {R : Result → Shared → Prop} {s : Shared}
theorem compLoop_go {elt target iter : Expr} {ifs : List Expr} {scope : Scope} {pos : Pos} {it acc : Value} {env : Env} (I : Nat → Shared → Prop)
    (turn : ∀ n s, I n s → wpAny (model prog w) A (pyNext it) (fun r s₁ => match r with
      | none => R (.ok .next) s₁
      | some v => wpAny (model prog w) A (letOwnedTupleGo target it v) (fun _ s₁' => wpAny (model prog w) A (assign target env v) (fun _ s₂ =>
          wpAny (model prog w) A (forIn ifs true fun c r => if r = true then do let ok ← isTrue c env (eval c env); pure (ForInStep.yield ok) else pure (ForInStep.yield r)) (fun ok s₃ =>
            if ok = true then wpAny (model prog w) A (eval elt env) (fun x s₄ =>
              wpAny (model prog w) A (call (.builtin "list.append") [acc, x]) (fun _ s₅ => ∃ m, m < n ∧ I m s₅) (notedBy (model prog w) A env fun e s' => R (.error e) s') s₄) (notedBy (model prog w) A env fun e s' => R (.error e) s') s₃
            else ∃ m, m < n ∧ I m s₃) (notedBy (model prog w) A env fun e s' => R (.error e) s') s₂) (notedBy (model prog w) A env fun e s' => R (.error e) s') s₁') (notedBy (model prog w) A env fun e s' => R (.error e) s') s₁) (notedBy (model prog w) A env fun e s' => R (.error e) s') s)
    (n : Nat) (h : I n s) :
    codeAny (model prog w) A (.compLoop (.ListComp elt [⟨target, iter, ifs, 0⟩] scope pos) 0 it acc env) R s := by
  refine codeAny_loop rfl I (fun n s hI => ?_) n h
  show wpAny _ A ((compTurn (.ListComp elt [⟨target, iter, ifs, 0⟩] scope pos) 0 it acc env).onRaise (fun x => do noteFrame x env; theTreesLotGoes x)) _ _ s
  refine wpAny_noted ?_
  rw [compTurn_list]
  refine wpAny_bind (wpAny_standAt (wpAny_bind (wpAny_mono (turn n s hI) (fun r s₁ h₁ => ?_) fun _ _ h' => h')))
  cases r with
  | none => exact wpAny_pure h₁
  | some v =>
    refine wpAny_bind (wpAny_mono h₁ (fun _ s₁' h₁' => ?_) fun _ _ h' => h')
    refine wpAny_bind (wpAny_mono h₁' (fun _ s₂ h₂ => wpAny_bind (wpAny_mono h₂ (fun ok s₃ h₃ => ?_) fun _ _ h' => h')) fun _ _ h' => h')
    cases ok with
    | false => exact wpAny_pure ⟨rfl, h₃⟩
    | true =>
      exact wpAny_bind (wpAny_bind (wpAny_mono h₃ (fun x s₄ h₄ => wpAny_bind (wpAny_mono h₄ (fun _ s₅ h₅ => wpAny_pure (wpAny_pure ⟨rfl, h₅⟩)) fun _ _ h' => h')) fun _ _ h' => h'))
end
/-- the tests -/
def PTs (X : Cx) (ifs : List Expr) (t : TT) : Prop := ∀ (pins : List (Addr × Obj)) (s : Shared) (σ : L2.St) (H : Hp) (Q : Bool → Hp → Prop), Inv X pins σ H s → t σ H Q →
  wpAny (model X.prog X.w) X.A (forIn ifs true fun c r => if r = true then do let ok ← isTrue c X.env (eval c X.env); pure (ForInStep.yield ok) else pure (ForInStep.yield r)) (TP X pins σ Q) X.xe s
theorem pts_nil {X : Cx} : PTs X [] (fun _ H Q => Q true H) := fun _ _ _ H _ I h => wpAny_tests_nil ⟨H, I, h⟩
theorem pts_one {X : Cx} {c : Expr} {t : TT} (h : PT X c t) : PTs X [c] t := fun pins s σ H Q I q => wpAny_tests_one (h pins s σ H Q I q)

def cEnv (env : Env) (scope : Scope) (C : Addr) (cells : List (Str × Addr)) : Env :=
  { scope := relabel scope env, locals := C, globals := env.globals, cells := cells, qual := env.qual, func := none, code := env.code, frame := env.frame, builtins := env.builtins }
def cCx (X : Cx) (Nc : List Str) (scope : Scope) (C D : Addr) (cells : List (Str × Addr)) (fp : List Addr) (s₀ : Shared) (H₀ : Hp) (pins : List (Addr × Obj)) : Cx :=
  { X with N := Nc, s₀ := s₀, H₀ := H₀, env := cEnv X.env scope C cells, outer := X.stack, stack := X.stack, ex := D :: fp, fn := fun x => scope.names.lookup x == some .cell, pn := X.pn ++ pins, xe := fun _ _ => False }
def cSt (cs : List (Option Nat)) (σ : L2.St) : L2.St := cs.map fun o => o.bind fun j => (σ[j]?).join
def Sub (σ σ' : L2.St) : Prop := σ.length = σ'.length ∧ ∀ (i : Nat) v, σ[i]? = some (some v) → σ'[i]? = some (some v)
def tComp (cs : List (Option Nat)) (wi : TI) (g : TG) (tc : TT) (te : TE) : TE := fun σ H Q => wi σ H fun J H1 => ∃ W : Nat → Nat → List V → Hp → Prop, (∃ n, W 0 n [] H1) ∧ ∀ i n acc H, W i n acc H →
  (J.stop i H ∧ acc.length ≤ sizeLine ∧ ∀ p, H p = none → Q (.ref p) (upd H p (.lst acc))) ∨
  (J.go i H ∧ acc.length < sizeLine ∧ ∀ x H', J.yld i H x H' → g x (cSt cs σ) H' fun σ2 H2 => Sub (cSt cs σ) σ2 ∧ tc σ2 H2 fun b H3 => if b = true then te σ2 H3 fun y H4 => ∃ n', n' < n ∧ W (i + 1) n' (acc ++ [y]) H4 else ∃ n', n' < n ∧ W (i + 1) n' acc H3)
end LS


namespace LS
open PySem PySem.Spec PyProof.Rows L2

theorem cells_mem : ∀ (names : List (Str × NameKind)) (h : Heap) (acc : List (Str × Addr)) (x : Str) (c : Addr), (x, c) ∈ cellsFrom h.objs.size names acc → (x, c) ∈ acc ∨ (h.objs.size ≤ c ∧ (x, NameKind.cell) ∈ names ∧ (pushCells h names).IsCell c none)
  | [], _, _, _, _, m => .inl m
  | (name, kind) :: r, h, acc, x, c, m => by
    unfold cellsFrom at m
    unfold pushCells
    split at m
    · rename_i hk
      rw [if_pos hk]
      have hk' : kind = .cell := by simpa using hk
      have e : h.objs.size + 1 = (h.push { cls := .type "cell", data := .cell none }).objs.size := (Heap.size_push ..).symm
      rw [e] at m
      rcases cells_mem r _ _ x c m with q | ⟨q1, q2, q3⟩
      · rcases List.mem_cons.mp q with q | q
        · cases q
          refine .inr ⟨Nat.le_refl _, by rw [hk']; exact List.mem_cons_self, ?_⟩
          exact (show (h.push { cls := .type "cell", data := .cell none }).IsCell h.objs.size none from ⟨_, Heap.get?_push_size _ rfl, rfl⟩).keeps fun b o e => pushCells_keeps _ _ b o e
        · exact .inl q
      · exact .inr ⟨by rw [← e] at q1; exact Nat.le_of_succ_le q1, List.mem_cons_of_mem _ q2, q3⟩
    · rename_i hk
      rw [if_neg hk]
      rcases cells_mem r h acc x c m with q | ⟨q1, q2, q3⟩
      · exact .inl q
      · exact .inr ⟨q1, List.mem_cons_of_mem _ q2, q3⟩
theorem cells_inj : ∀ (names : List (Str × NameKind)) (h : Heap) (acc : List (Str × Addr)), (∀ x c, (x, c) ∈ acc → c < h.objs.size) → (∀ x y c, (x, c) ∈ acc → (y, c) ∈ acc → x = y) →
    ∀ x y c, (x, c) ∈ cellsFrom h.objs.size names acc → (y, c) ∈ cellsFrom h.objs.size names acc → x = y
  | [], _, _, _, i => i
  | (name, kind) :: r, h, acc, lt, i => by
    unfold cellsFrom
    split
    · have e : h.objs.size + 1 = (h.push { cls := .type "cell", data := .cell none }).objs.size := (Heap.size_push ..).symm
      rw [e]
      refine cells_inj r _ _ (fun x c m => ?_) (fun x y c m m' => ?_)
      · rw [← e]
        rcases List.mem_cons.mp m with q | q
        · cases q; exact Nat.lt_succ_self _
        · exact Nat.lt_succ_of_lt (lt x c q)
      · rcases List.mem_cons.mp m with q | q <;> rcases List.mem_cons.mp m' with q' | q'
        · cases q; cases q'; rfl
        · cases q; exact absurd (lt y _ q') (Nat.lt_irrefl _)
        · cases q'; exact absurd (lt x _ q) (Nat.lt_irrefl _)
        · exact i x y c q q'
    · exact cells_inj r h acc lt i
theorem lookup_mem {α : Type} {l : List (Str × α)} {x : Str} {k : α} (nd : (l.map (·.1)).Nodup) (h : (x, k) ∈ l) : l.lookup x = some k := by
  induction l with
  | nil => cases h
  | cons p r ih =>
    obtain ⟨y, j⟩ := p
    rw [List.map_cons, List.nodup_cons] at nd
    rw [List.lookup_cons]
    rcases List.mem_cons.mp h with e | e
    · cases e; simp
    · have : x ≠ y := by
        rintro rfl
        exact nd.1 (List.mem_map.mpr ⟨(x, k), e, rfl⟩)
      have hb : (x == y) = false := by simpa using this
      rw [hb]
      exact ih nd.2 e
theorem relabel_one {env : Env} {x n : Str} {j : NameKind} {r : List (Str × NameKind)} {k : NameKind} (h : List.lookup x ((if (j == NameKind.free && env.scope.kind == .function && env.kindOf n == some .cell) = true then (n, NameKind.cell) else (n, j)) :: r) = some k) :
    (x = n ∧ (k = j ∨ (j = .free ∧ k = .cell))) ∨ (x ≠ n ∧ List.lookup x r = some k) := by
  by_cases hx : x = n
  · subst hx
    refine .inl ⟨rfl, ?_⟩
    split at h
    · rename_i hc
      rw [List.lookup_cons] at h
      simp only [beq_self_eq_true] at h
      cases h
      simp only [Bool.and_eq_true] at hc
      exact .inr ⟨by simpa using hc.1.1, rfl⟩
    · rw [List.lookup_cons] at h
      simp only [beq_self_eq_true] at h
      cases h
      exact .inl rfl
  · have hb : (x == n) = false := by simpa using hx
    refine .inr ⟨hx, ?_⟩
    split at h <;> (rw [List.lookup_cons] at h; simp only [hb] at h; exact h)
theorem relabel_look {scope : Scope} {env : Env} {x : Str} {k : NameKind} : (relabel scope env).names.lookup x = some k → ∃ k0, scope.names.lookup x = some k0 ∧ (k = k0 ∨ (k0 = .free ∧ k = .cell)) := by
  show (scope.names.map _).lookup x = some k → _
  induction scope.names with
  | nil => intro h; cases h
  | cons p r ih =>
    obtain ⟨n, j⟩ := p
    intro h
    rw [List.map_cons] at h
    rw [List.lookup_cons]
    rcases relabel_one h with ⟨hx, hk⟩ | ⟨hx, hr⟩
    · subst hx
      simp only [beq_self_eq_true]
      exact ⟨j, rfl, hk⟩
    · have hb : (x == n) = false := by simpa using hx
      rw [hb]
      exact ih hr

structure CScope (X : Cx) (scope : Scope) (Nc : List Str) (cs : List (Option Nat)) : Prop where
  kind : scope.kind = .function
  loc : ∀ y ∈ scope.names, y.2 = .local → scope.names.lookup y.1 = some .local
  free : ∀ y ∈ scope.names, y.2 = .free → X.env.kindOf y.1 = some .cell ∨ X.env.kindOf y.1 = some .free
  nd : (scope.names.map (·.1)).Nodup
  len : cs.length = Nc.length
  out : ∀ (i : Nat) (x : Str) (j : Nat), Nc[i]? = some x → cs[i]? = some (some j) → X.N[j]? = some x ∧ scope.names.lookup x = some .free

theorem nlt {a b : Addr} (h : a < b) : @LT.lt Nat instLTNat a b := h
theorem nne {a b : Addr} (h : @LT.lt Nat instLTNat a b) : a ≠ b := Nat.ne_of_lt h
theorem nne' {a b : Addr} (h : @LT.lt Nat instLTNat a b) : b ≠ a := Ne.symm (Nat.ne_of_lt h)
section
variable {X : Cx} {pins : List (Addr × Obj)} {σ : L2.St} {H : Hp} {s : Shared}
/-- the state at a block's start -/
theorem inv_block {scope : Scope} {Nc : List Str} {cs : List (Option Nat)} {fp : List Addr} {cl : List (Str × Addr)} (S : CScope X scope Nc cs) (I : Inv X pins σ H s) (f : ∀ b ∈ fp, FpOk X pins H b) (ob : ∀ b ∈ fp, ∃ o, s.heap.get? b = some o)
    (hcl : ∀ x c, (x, c) ∈ cl → X.env.cells.lookup x = some c ∧ (x, NameKind.free) ∈ scope.names) (hcl2 : ∀ y ∈ scope.names, y.2 = .free → ∃ c, (y.1, c) ∈ cl) {s3 : Shared} (e3 : s3 = { s with heap := s.heap.push { cls := .type "list", data := .seq ([] : List Value).toArray } }) :
    Inv (cCx X Nc scope s3.heap.objs.size s.heap.objs.size (cellsFrom (s3.heap.objs.size + 1) scope.names cl) fp s3 H pins) [] (cSt cs σ) H
      { s3 with heap := pushCells (s3.heap.push { cls := .type "dict", data := .dict #[] }) scope.names } := by
  have k3 : ∀ b o, s.heap.get? b = some o → s3.heap.get? b = some o := fun b o e => by subst e3; exact Heap.get?_push_of_some _ e
  have sz3 : s3.heap.objs.size = s.heap.objs.size + 1 := by subst e3; exact Heap.size_push ..
  have szd : (s3.heap.push { cls := .type "dict", data := .dict #[] }).objs.size = s3.heap.objs.size + 1 := Heap.size_push ..
  have k34 : ∀ b o, s3.heap.get? b = some o → (pushCells (s3.heap.push { cls := .type "dict", data := .dict #[] }) scope.names).get? b = some o := fun b o e => pushCells_keeps _ _ b o (Heap.get?_push_of_some _ e)
  have k4 : ∀ b o, s.heap.get? b = some o → (pushCells (s3.heap.push { cls := .type "dict", data := .dict #[] }) scope.names).get? b = some o := fun b o e => k34 b o (k3 b o e)
  have cllt : ∀ x c, (x, c) ∈ cl → c < s.heap.objs.size := fun x c m => by
    obtain ⟨v, q⟩ := I.cell x c (hcl x c m).1
    exact q.lt
  have cm : ∀ x c, (cellsFrom (s3.heap.objs.size + 1) scope.names cl).lookup x = some c → (x, c) ∈ cl ∨ (s3.heap.objs.size + 1 ≤ c ∧ (x, NameKind.cell) ∈ scope.names ∧ (pushCells (s3.heap.push { cls := .type "dict", data := .dict #[] }) scope.names).IsCell c none) := fun x c e => by
    have m := mem_of_lookup e
    rw [← szd] at m
    have := cells_mem scope.names _ cl x c m
    rw [szd] at this
    exact this
  have frs_lt : ∀ b ∈ frs X.stack, b < s.heap.objs.size := fun b hb => by
    obtain ⟨_, o, ho, _⟩ := I.stack.mem hb
    exact Heap.lt_size ho
  have nfs : ∀ b, b ≠ X.env.locals → b ∉ X.fs → b ∉ frs X.stack := fun b h1 h2 hb => by
    rcases List.mem_cons.mp (I.stkSub b hb) with q | q
    · exact h1 q
    · exact h2 q
  have ok : (cCx X Nc scope s3.heap.objs.size s.heap.objs.size (cellsFrom (s3.heap.objs.size + 1) scope.names cl) fp s3 H pins).Ok := by
    refine ⟨I.ok.mod, S.kind, I.ok.glob, I.ok.blt, Nat.le_refl _, fun x y c e1 e2 => ?_, fun x hx => ?_, fun x c hf e => ?_, I.ok.hd, I.ok.frames, .inl rfl, fun b hb => ?_, fun b o e => ?_, ?_, fun b o e hb => ?_, fun b hb => ?_, ?_, I.stkFree⟩
    · have m1 := mem_of_lookup e1
      have m2 := mem_of_lookup e2
      have m1' : (x, c) ∈ cellsFrom (s3.heap.push { cls := .type "dict", data := .dict #[] }).objs.size scope.names cl := by rw [szd]; exact m1
      have m2' : (y, c) ∈ cellsFrom (s3.heap.push { cls := .type "dict", data := .dict #[] }).objs.size scope.names cl := by rw [szd]; exact m2
      exact cells_inj scope.names (s3.heap.push { cls := .type "dict", data := .dict #[] }) cl (fun x c m => by rw [szd, sz3]; exact Nat.lt_of_lt_of_le (cllt x c m) (by omega))
        (fun x y c a b => I.ok.inj x y c (hcl x c a).1 (hcl y c b).1) x y c m1' m2'
    · have : ∃ k, (relabel scope X.env).names.lookup x = some k ∧ (k = .cell ∨ k = .free) := by
        rcases hx with q | q
        · exact ⟨_, q, .inl rfl⟩
        · exact ⟨_, q, .inr rfl⟩
      obtain ⟨k, e1, hk⟩ := this
      obtain ⟨k0, e0, hk0⟩ := relabel_look e1
      refine Option.isSome_iff_exists.mp (PySem.W.cellsFrom_some _ _ _ ?_)
      have : k0 = .cell ∨ k0 = .free := by
        rcases hk0 with q | ⟨q, _⟩
        · rw [← q]; exact hk
        · exact .inr q
      rcases this with q | q
      · subst q; exact .inl e0
      · subst q
        obtain ⟨c, hc⟩ := hcl2 _ (mem_of_lookup e0) rfl
        refine .inr ?_
        cases hl : cl.lookup x with
        | some c' => rfl
        | none =>
          exfalso
          have : ∀ p ∈ cl, p.1 ≠ x := fun p hp e => by
            have h2 := List.lookup_eq_none_iff.mp hl p hp
            rw [e] at h2
            simp at h2
          exact this _ hc rfl
    · have hk : scope.names.lookup x = some .cell := by
        have : (scope.names.lookup x == some NameKind.cell) = true := hf
        simpa using this
      rcases cm x c e with q | ⟨q1, _, _⟩
      · have := lookup_mem S.nd (hcl x c q).2
        rw [hk] at this
        cases this
      · exact Nat.le_of_succ_le q1
    · rcases List.mem_cons.mp hb with q | q
      · subst q
        refine ⟨nne (show _ < s3.heap.objs.size by omega), fun x c e => ?_⟩
        rcases cm x c e with q | ⟨q1, _, _⟩
        · exact Nat.ne_of_lt (cllt x c q)
        · exact nne' (Nat.lt_of_lt_of_le (by omega) q1)
      · obtain ⟨o, ho⟩ := ob b q
        have hlt := nlt (Heap.lt_size ho)
        refine ⟨nne (show _ < s3.heap.objs.size by omega), fun x c e => ?_⟩
        rcases cm x c e with q2 | ⟨q1, _, _⟩
        · exact (f b q).2.2.2.2.1 x c (hcl x c q2).1
        · exact nne' (Nat.lt_of_lt_of_le (by omega) q1)
    · obtain ⟨h1, h2⟩ := I.bs b o e
      exact ⟨k3 b o h1, h2⟩
    · show X.base.objs.size ≤ s3.heap.objs.size
      have := Nat.le_trans I.ok.bsz I.sz
      omega
    · obtain ⟨h1, h2⟩ := I.bs b o e
      rcases List.mem_cons.mp hb with q | q
      · exact absurd q (nne (Heap.lt_size h1))
      · rcases (f b q).2.2.2.1 with z | z
        · exact I.ok.noex b o e z
        · exact absurd (Nat.lt_of_lt_of_le (Heap.lt_size (I.ok.bs b o e).1) z) (Nat.lt_irrefl _)
    · rcases List.mem_cons.mp hb with q | q
      · subst q
        intro z
        exact absurd (frs_lt _ z) (Nat.lt_irrefl _)
      · exact nfs b (f b q).2.1 (f b q).2.2.1
    · exact I.stack.of_keeps fun b o e _ => ⟨o, k3 b o e, rfl⟩
  refine ⟨ok, rfl, ?_, ?_, ?_, fun x c e => ?_, ?_, fun x c e => ?_, fun p hp => ?_, I.hok.kept k4, ?_⟩
  · show AllBare s3.gens
    subst e3; exact I.bare
  · exact Un.kept k34
  · refine ⟨fun _ => none, (Heap.Ns.new s3.heap (.type "dict")).keeps (pushCells_keeps _ _), fun i x v e1 e2 e3' => ?_⟩
    unfold cSt at e2
    rw [List.getElem?_map] at e2
    cases ec : cs[i]? with
    | none => rw [ec] at e2; cases e2
    | some o =>
      rw [ec] at e2
      cases o with
      | none => cases e2
      | some j =>
        simp only [Option.map_some, Option.bind_some, Option.some.injEq] at e2
        have e2' : σ[j]? = some (some v) := by
          cases ej : σ[j]? with
          | none => rw [ej] at e2; cases e2
          | some w => rw [ej] at e2; simp at e2; rw [e2]
        obtain ⟨hN, hfr⟩ := S.out i x j e1 ec
        have hfm := mem_of_lookup hfr
        have hkind := S.free _ hfm rfl
        obtain ⟨m, hn, hl⟩ := I.loc
        obtain ⟨u, r, look⟩ := hl j x v hN e2' (by
          rcases hkind with q | q
          · exact .inr (.inl q)
          · exact .inr (.inr q))
        refine ⟨u, r, .inr ?_⟩
        rcases look with ⟨q, _⟩ | ⟨_, c, ec', hc⟩
        · rcases hkind with z | z <;> (rw [q] at z; cases z)
        · obtain ⟨c', hc'⟩ := hcl2 _ hfm rfl
          have hv : (cCx X Nc scope s3.heap.objs.size s.heap.objs.size (cellsFrom (s3.heap.objs.size + 1) scope.names cl) fp s3 H pins).env.kindOf x = some .cell ∨ (cCx X Nc scope s3.heap.objs.size s.heap.objs.size (cellsFrom (s3.heap.objs.size + 1) scope.names cl) fp s3 H pins).env.kindOf x = some .free := by
            rcases e3' with z | z | z
            · obtain ⟨k0, a1, a2⟩ := relabel_look z
              rw [hfr] at a1
              cases a1
              rcases a2 with a2 | ⟨_, a2⟩ <;> cases a2
            · exact .inl z
            · exact .inr z
          refine ⟨hv, c, ?_, hc.keeps k4⟩
          obtain ⟨c2, h2⟩ := ok.has x hv
          rw [h2]
          rcases cm x c2 h2 with q | ⟨_, q, _⟩
          · rw [← ec', (hcl x c2 q).1]
          · have := lookup_mem S.nd q
            rw [hfr] at this
            cases this
  · rcases cm x c e with q | ⟨_, _, q⟩
    · obtain ⟨v, z⟩ := I.cell x c (hcl x c q).1
      exact ⟨v, z.keeps k4⟩
    · exact ⟨none, q⟩
  · exact I.hok.fresh (show s.heap.objs.size ≤ s3.heap.objs.size by omega)
  · rcases cm x c e with q | ⟨q, _, _⟩
    · exact I.freeC x c (hcl x c q).1
    · exact I.hok.fresh (by omega)
  · have hp' : p ∈ X.pn ++ pins := by
      rcases List.mem_append.mp hp with q | q
      · exact q
      · exact absurd q (by simp)
    obtain ⟨a1, a2, a3, a4, a5⟩ := I.pin p hp'
    refine ⟨k4 _ _ a1, a2, ?_, nfs p.1 a3 a4, a5⟩
    show p.1 ≠ s3.heap.objs.size
    exact nne (Nat.lt_of_lt_of_le (Heap.lt_size a1) (by omega))
  · show (cSt cs σ).length = Nc.length
    simp [cSt, S.len]
end
end LS

namespace LS
open PySem PySem.Spec PyProof.Rows L2

section
variable {X : Cx} {elt tg iter : Expr} {ifs : List Expr} {scope : Scope} {pos : Pos} {Nc : List Str} {cs : List (Option Nat)} {wi : TI} {g : TG} {tc : TT} {te : TE}
/-- behind the block -/
theorem block_inv {pins : List (Addr × Obj)} {σ : L2.St} {H H' : Hp} {s s3 s' : Shared} {fp : List Addr} {C : Addr} {cells : List (Str × Addr)} {po : List (Addr × Obj)} {σc : L2.St} {acc : List V} {its : List Value} {n : Nat}
    (I : Inv X pins σ H s) (f : ∀ b ∈ fp, FpOk X pins H b) (e3 : s3 = { s with heap := s.heap.push { cls := .type "list", data := .seq ([] : List Value).toArray } }) (hC : C = s3.heap.objs.size)
    (I' : Inv (cCx X Nc scope C s.heap.objs.size cells fp s3 H pins) po σc H' s') (hD : H' s.heap.objs.size = none) (hl : acc.length ≤ sizeLine) (rv : Vals acc its) (ho : s'.heap.get? s.heap.objs.size = some { cls := .type "list", data := .seq its.toArray n })
    {h' : Heap} (sb : Heap.SameBut C s'.heap h') : Inv X pins σ (upd H' s.heap.objs.size (.lst acc)) { s' with heap := h' } := by
  have k3 : ∀ b o, s.heap.get? b = some o → s3.heap.get? b = some o := fun b o e => by subst e3; exact Heap.get?_push_of_some _ e
  have sz3 : s3.heap.objs.size = s.heap.objs.size + 1 := by subst e3; exact Heap.size_push ..
  have neD : ∀ b o, s.heap.get? b = some o → b ≠ s.heap.objs.size := fun b o e => nne (Heap.lt_size e)
  have neC : ∀ b o, s.heap.get? b = some o → b ≠ C := fun b o e => by rw [hC]; exact nne (Nat.lt_of_lt_of_le (Heap.lt_size e) (by omega))
  have DC : s.heap.objs.size ≠ C := by rw [hC]; exact nne (by omega)
  have U : Un (frs X.stack) (s.heap.objs.size :: fp) H H' s3.heap s'.heap := I'.base
  have exn : ∀ b o, s.heap.get? b = some o → b ∉ fp → b ∉ s.heap.objs.size :: fp := fun b o e hx hb => by
    rcases List.mem_cons.mp hb with z | z
    · exact neD b o e z
    · exact hx z
  have neT : ∀ b u, H' b = some u → b ≠ s.heap.objs.size := fun b u e => ne_of_none e hD
  have hCn : H' C = none := I'.free
  refine I.call' (s' := { s' with heap := h' }) (ch := fp) ?_ ?_ ?_ I'.bare ?_
  · show s'.os = s.os
    have := I'.os
    rw [this]
    show s3.os = s.os
    subst e3; rfl
  · refine ⟨fun b o e nn hb hx => ?_, fun b o e nn hb hx => ?_, fun b o e nn hx => ?_, fun b o e hx => ?_, fun b xs e => ?_, fun b o u e => ?_, fun b ps e => ?_⟩
    · exact (sb.2 b (neC b o e)).trans (U.keep b o (k3 b o e) nn hb (exn b o e hx))
    · obtain ⟨sl, z⟩ := U.slot b o (k3 b o e) nn hb (exn b o e hx)
      exact ⟨sl, (sb.2 b (neC b o e)).trans z⟩
    · rw [upd_ne (neD b o e)]
      exact U.free b o (k3 b o e) nn (exn b o e hx)
    · obtain ⟨o', z⟩ := U.there b o (k3 b o e) (exn b o e hx)
      exact ⟨o', (sb.2 b (neC b o e)).trans z⟩
    · have z := U.tups b xs e
      rw [upd_ne (neT b _ z)]
      exact z
    · have z := U.frzs b o u e
      rw [upd_ne (neT b _ z)]
      exact z
    · obtain ⟨more, z⟩ := U.tbls b ps e
      exact ⟨more, by rw [upd_ne (neT b _ z)]; exact z⟩
  · intro b u e
    by_cases hb : b = s.heap.objs.size
    · subst hb
      rw [upd_same] at e
      cases e
      exact ⟨hl, its, n, rv, (sb.2 _ DC).trans ho⟩
    · rw [upd_ne hb] at e
      refine (I'.hok b u e).stay (fun c v hc z => (sb.2 c ?_).trans z) (fun c z => by rw [upd_ne (neT c _ z)]; exact z) fun c xs z => by rw [upd_ne (neT c _ z)]; exact z
      rcases hc with rfl | hc
      · exact ne_of_none e hCn
      · exact ne_of_none hc hCn
  · intro b hb
    obtain ⟨_, f1, _, f3, f4, f5⟩ := f b hb
    exact ⟨f3, f1, f4, f5⟩
theorem comp_core {use : Option (Value → Sem Unit)} {QQ : Value → Shared → Prop} {ppos : Pos} {pins : List (Addr × Obj)} {s : Shared} {σ : L2.St} {H : Hp} {Q : VK} (hcalm : X.calm = true) (S : CScope X scope Nc cs) (hi : PI X tg iter wi)
    (hb : ∀ (C D : Addr) (cells : List (Str × Addr)) (fp : List Addr) (s₀ : Shared) (H₀ : Hp) (pins : List (Addr × Obj)), PG (cCx X Nc scope C D cells fp s₀ H₀ pins) tg g ∧ PTs (cCx X Nc scope C D cells fp s₀ H₀ pins) ifs tc ∧ PE (cCx X Nc scope C D cells fp s₀ H₀ pins) elt te)
    (hsf : ∀ x, foldedSetIterable iter X.env x = pure x) (I : Inv X pins σ H s) (h : tComp cs wi g tc te σ H Q)
    (fin : ∀ (s6 : Shared) (C D : Addr) (H7 : Hp) (m6 : Str → Option Value), s6.heap.Ns C m6 → H7 C = none → X.s₀.heap.objs.size ≤ C → C ≠ X.env.locals → (∀ x c, X.env.cells.lookup x = some c → c ≠ C) → (∀ p ∈ X.pn ++ pins, p.1 ≠ C) →
      (∀ h', Heap.SameBut C s6.heap h' → Inv X pins σ H7 { s6 with heap := h' }) → Q (.ref D) H7 → compPost (model X.prog X.w) X.A X.xe use QQ (.ref D) C (.ok .next) s6) :
    wpAny (model X.prog X.w) X.A (comprehension (.ListComp elt [⟨tg, iter, ifs, 0⟩] scope pos) scope X.env ppos (newList []) false (eval iter X.env) use) QQ X.xe s := by
  obtain ⟨cl, hclos, hcl, hcl2⟩ := closureFor_some (scope := scope) (env := X.env) fun y hy hf => I.ok.has y.1 (S.free y hy hf)
  refine wpAny_comprehension_free (use := use) rfl hsf hclos S.kind S.loc (thn (hi pins s σ H _ I h) fun xv s1 h1 => thn h1 fun itv s2 h2 => ?_)
  obtain ⟨it, fp, tn, J, H2, e, I2, T, st2, f2, W, ⟨n0, w0⟩, turn⟩ := h2
  subst e
  refine wpAny_newObj_type ?_
  generalize e3 : ({ s2 with heap := s2.heap.push { cls := .type "list", data := .seq ([] : List Value).toArray } } : Shared) = s3
  refine newEnv_comp ?_
  have ob2 : ∀ b ∈ fp, ∃ o, s2.heap.get? b = some o := fun b hb => let ⟨o, e, _⟩ := T.obj _ _ st2 b hb; ⟨o, e⟩
  have I4 := inv_block (fp := fp) (cl := cl) S I2 f2 ob2 hcl hcl2 e3.symm
  generalize e4 : ({ s3 with heap := pushCells (s3.heap.push { cls := .type "dict", data := .dict #[] }) scope.names } : Shared) = s4 at I4
  generalize ecl : cellsFrom (s3.heap.objs.size + 1) scope.names cl = cells at I4
  obtain ⟨pg, pt, pe⟩ := hb s3.heap.objs.size s2.heap.objs.size cells fp s3 H2 pins
  generalize eX : cCx X Nc scope s3.heap.objs.size s2.heap.objs.size cells fp s3 H2 pins = Xc at I4 pg pt pe
  have xP : Xc.prog = X.prog := by subst eX; rfl
  have xw : Xc.w = X.w := by subst eX; rfl
  have xK : Xc.K = X.K := by subst eX; rfl
  have xA : Xc.A = X.A := by subst eX; rfl
  have xE : Xc.env = cEnv X.env scope s3.heap.objs.size cells := by subst eX; rfl
  have xL : Xc.env.locals = s3.heap.objs.size := by subst eX; rfl
  have xe : Xc.xe = fun _ _ => False := by subst eX; rfl
  have xc : Xc.calm = true := by subst eX; exact hcalm
  have xex : Xc.ex = s2.heap.objs.size :: fp := by subst eX; rfl
  have okc := I4.ok
  have k3 : ∀ b o, s2.heap.get? b = some o → s3.heap.get? b = some o := fun b o e => by subst e3; exact Heap.get?_push_of_some _ e
  have sz3 : s3.heap.objs.size = s2.heap.objs.size + 1 := by subst e3; exact Heap.size_push ..
  have k34 : ∀ b o, s3.heap.get? b = some o → s4.heap.get? b = some o := fun b o e => by subst e4; exact pushCells_keeps _ _ b o (Heap.get?_push_of_some _ e)
  have hDC : s2.heap.objs.size ≠ Xc.env.locals := by rw [xL]; exact nne (by omega)
  have hDcell : ∀ x c, Xc.env.cells.lookup x = some c → c ≠ s2.heap.objs.size := fun x c e => (okc.exf _ (by rw [xex]; exact List.mem_cons_self)).2 x c e
  have hDpin : ∀ p ∈ Xc.pn, p.1 ≠ s2.heap.objs.size := fun p hp => by
    have hp' : p ∈ X.pn ++ pins := by subst eX; exact hp
    exact nne (Heap.lt_size (I2.pin p hp').1)
  have hDfp : s2.heap.objs.size ∉ fp := fun hm => by
    obtain ⟨o, e⟩ := ob2 _ hm
    exact absurd (Heap.lt_size e) (Nat.lt_irrefl _)
  have hDex : s2.heap.objs.size ∈ Xc.ex := by rw [xex]; exact List.mem_cons_self
  have hDfs : s2.heap.objs.size ∉ Xc.fs := okc.exfs _ hDex
  have fpC : ∀ {po : List (Addr × Obj)} {H' : Hp}, (∀ b ∈ fp, H' b = none) → (∀ p ∈ po, p.1 = s2.heap.objs.size) → ∀ b ∈ fp, FpOk Xc po H' b := fun {po H'} hn hp b hb => by
    have hbx : b ∈ Xc.ex := by rw [xex]; exact List.mem_cons_of_mem _ hb
    refine ⟨hn b hb, (okc.exf b hbx).1, okc.exfs b hbx, .inl hbx, (okc.exf b hbx).2, fun p hpp => ?_⟩
    rcases List.mem_append.mp hpp with z | z
    · have hp' : p ∈ X.pn ++ pins := by subst eX; exact z
      exact (f2 b hb).2.2.2.2.2 p hp'
    · rw [hp p z]
      intro e
      exact hDfp (e ▸ hb)
  -- the loop
  have loop : ∀ sx, sx = s4 → codeAny (model X.prog X.w) X.A (.compLoop (.ListComp elt [⟨tg, iter, ifs, 0⟩] scope pos) 0 (.ref it) (.ref s2.heap.objs.size) Xc.env)
      (compPost (model X.prog X.w) X.A X.xe use QQ (.ref s2.heap.objs.size) s3.heap.objs.size) sx := by
    rintro sx rfl
    refine compLoop_go (fun n s' => ∃ i acc H' its k, W i n acc H' ∧ Inv Xc [] (cSt cs σ) H' s' ∧ tn i s'.heap ∧ (∀ b ∈ fp, H' b = none) ∧ H' s2.heap.objs.size = none ∧ Vals acc its ∧ s'.heap.get? s2.heap.objs.size = some { cls := .type "list", data := .seq its.toArray k }) ?_ n0
      ⟨0, [], H2, [], 0, w0, I4, ?_, fun b hb => (f2 b hb).1, I2.hok.fresh (Nat.le_refl _), .nil, ?_⟩
    · rintro n s5 ⟨i, acc, H5, its, k, w5, I5, st5, fr5, hD5, rv5, ho5⟩
      have pin1 : Inv Xc [(s2.heap.objs.size, { cls := .type "list", data := .seq its.toArray k })] (cSt cs σ) H5 s5 := I5.pins_of fun p hp => by
        rw [List.mem_singleton] at hp
        subst hp
        exact ⟨ho5, hD5, hDC, hDfs, fun v z => by cases z⟩
      have pone : ∀ p ∈ [((s2.heap.objs.size : Addr), ({ cls := .type "list", data := .seq its.toArray k } : Obj))], p.1 = s2.heap.objs.size := fun p hp => by
        rw [List.mem_singleton] at hp; subst hp; rfl
      rcases turn i n acc H5 w5 with ⟨stop, hlen, qn⟩ | ⟨go, hlen, step⟩
      · have z1 := T.done Xc xP xw xK xc i _ s5 (cSt cs σ) H5 (fun _ _ => False) pin1 (fpC fr5 pone) st5 stop
        rw [xA] at z1
        refine wpAny_mono z1 (fun r s6 ⟨hr, I6⟩ => ?_) fun _ _ z => False.elim z
        subst hr
        obtain ⟨m6, hn6, _⟩ := I6.loc
        obtain ⟨ho6, hD6, _⟩ := I6.pin _ (List.mem_append_right _ List.mem_cons_self)
        rw [xL] at hn6
        have lt2 : ∀ b, b < s2.heap.objs.size → b ≠ s3.heap.objs.size := fun b hb => nne (Nat.lt_of_lt_of_le hb (by omega))
        refine fin s6 s3.heap.objs.size s2.heap.objs.size (upd H5 s2.heap.objs.size (.lst acc)) m6 hn6 ?_ (Nat.le_trans I2.sz (by omega)) ?_ ?_ ?_ ?_ (qn _ hD6)
        · rw [upd_ne (nne' (by omega))]
          have := I6.free
          rw [xL] at this
          exact this
        · obtain ⟨m2, hn2, _⟩ := I2.loc
          exact Ne.symm (lt2 _ hn2.lt)
        · intro x c hx
          obtain ⟨v, hv⟩ := I2.cell x c hx
          obtain ⟨o, ho, _⟩ := hv
          exact lt2 _ (Heap.lt_size ho)
        · intro p hp
          exact lt2 _ (Heap.lt_size (I2.pin p hp).1)
        · intro h' sb
          subst eX
          exact block_inv I2 f2 e3.symm rfl I6 hD6 hlen rv5 ho6 sb
      · have z1 := T.item Xc xP xw xK xc i _ s5 (cSt cs σ) H5 (fun _ _ => False) pin1 (fpC fr5 pone) st5 go
        rw [xA] at z1
        refine wpAny_mono z1 (fun r s6 ⟨u, hr, h6⟩ => ?_) fun _ _ z => False.elim z
        subst hr
        refine wpAny_mono h6 (fun _ s7 ⟨x, H7, I7, r7, y7, st7, fr7⟩ => ?_) fun _ _ z => False.elim z
        have I7' := I7.pinned (fp := fp) (fpC fr7 pone) (T.obj _ _ st7)
        have z2 := pg _ s7 (cSt cs σ) H7 x u _ I7' r7 (step x H7 y7)
        rw [xP, xw, xA, xe] at z2
        refine wpAny_mono z2 (fun _ s8 ⟨σ8, H8, I8, sub8, q8⟩ => ?_) fun _ _ z => False.elim z
        have z3 := pt _ s8 σ8 H8 _ I8 q8
        rw [xP, xw, xA, xe] at z3
        refine wpAny_mono z3 (fun ok s9 ⟨H9, I9, q9⟩ => ?_) fun _ _ z => False.elim z
        have back : ∀ {sy : Shared} {Hy : Hp}, Inv Xc ([(s2.heap.objs.size, { cls := .type "list", data := .seq its.toArray k })] ++ pinsAt fp s7.heap) σ8 Hy sy →
            Inv Xc [] (cSt cs σ) Hy sy ∧ tn (i + 1) sy.heap ∧ (∀ b ∈ fp, Hy b = none) ∧ Hy s2.heap.objs.size = none ∧ sy.heap.get? s2.heap.objs.size = some { cls := .type "list", data := .seq its.toArray k } := fun {sy Hy} Iy => by
          obtain ⟨ho, hD, _⟩ := Iy.pin _ (List.mem_append_right _ (List.mem_append_left _ List.mem_cons_self))
          refine ⟨(Iy.pins_of fun p hp => absurd hp (by simp)).weak (sub8.1) (fun j v z => sub8.2 j v z), T.keep _ _ _ st7 fun b hb o e => (Iy.pin (b, o) (List.mem_append_right _ (List.mem_append_right _ (mem_pinsAt hb e)))).1, fun b hb => ?_, hD, ho⟩
          obtain ⟨o, e, _⟩ := T.obj _ _ st7 b hb
          exact (Iy.pin (b, o) (List.mem_append_right _ (List.mem_append_right _ (mem_pinsAt hb e)))).2.1
        cases ok with
        | false =>
          simp only [Bool.false_eq_true, if_false] at q9 ⊢
          obtain ⟨n', hn', w'⟩ := q9
          obtain ⟨a1, a2, a3, a4, a5⟩ := back I9
          exact ⟨n', hn', i + 1, acc, H9, its, k, w', a1, a2, a3, a4, rv5, a5⟩
        | true =>
          simp only [if_true] at q9 ⊢
          have z4 := pe _ s9 σ8 H9 _ I9 q9
          rw [xP, xw, xA, xe] at z4
          refine wpAny_mono z4 (fun y s10 ⟨yv, H10, I10, r10, n', hn', w'⟩ => ?_) fun _ _ z => False.elim z
          obtain ⟨a1, a2, a3, a4, a5⟩ := back I10
          have hlen' := rv5.length
          refine wpAny_list_append_plain ⟨k, a5⟩ (fun h' ⟨k', hl'⟩ sb => ?_) (by rw [List.size_toArray]; omega)
          have tu : Inv Xc [] (cSt cs σ) H10 { s10 with heap := h' } := a1.turned (t' := s10.toks) (it := s2.heap.objs.size) (fun b o hb e => (sb.2 b hb).trans e) a4 hDC (.inl hDex) hDcell (fun p hp => by
            rcases List.mem_append.mp hp with z | z
            · exact hDpin p z
            · exact absurd z (by simp))
          refine ⟨n', hn', i + 1, acc ++ [yv], H10, its ++ [y], k', w', tu, T.keep _ _ _ a2 (fun b hb o e => (sb.2 b (fun z => hDfp (z ▸ hb))).trans e), a3, a4, rv5.append (.cons r10 .nil), ?_⟩
          rw [hl']
          simp
    · exact T.keep _ _ _ st2 fun b hb o e => k34 b o (k3 b o e)
    · refine k34 _ _ ?_
      subst e3
      exact Heap.get?_push_size _ rfl
  have fin := loop s4 rfl
  have hst4 : tn 0 s4.heap := T.keep _ _ _ st2 fun b hb o e => k34 b o (k3 b o e)
  rw [xE] at fin
  have := codeAny_compStart_list fin (T.self X.A 0 s4 _ _ hst4 fin)
  exact this
theorem pe_comp (hcalm : X.calm = true) (S : CScope X scope Nc cs) (hi : PI X tg iter wi)
    (hb : ∀ (C D : Addr) (cells : List (Str × Addr)) (fp : List Addr) (s₀ : Shared) (H₀ : Hp) (pins : List (Addr × Obj)), PG (cCx X Nc scope C D cells fp s₀ H₀ pins) tg g ∧ PTs (cCx X Nc scope C D cells fp s₀ H₀ pins) ifs tc ∧ PE (cCx X Nc scope C D cells fp s₀ H₀ pins) elt te)
    (hsf : ∀ x, foldedSetIterable iter X.env x = pure x := by intro _; rfl) : PE X (.ListComp elt [⟨tg, iter, ifs, 0⟩] scope pos) (tComp cs wi g tc te) := by
  intro pins s σ H Q I h
  rw [eval_ListComp]
  exact comp_core (use := none) hcalm S hi hb hsf I h fun s6 C D H7 m6 hn _ _ _ _ _ inv q => ⟨m6, hn, fun h' sb => ⟨.ref D, H7, inv h' sb, rfl, q⟩⟩
end
end LS

namespace LS
open PySem PySem.Spec PyProof.Rows L2

def noErr {α : Type} : Out α → Out α
  | .ok a h => .ok a h
  | _ => .stuck
@[simp] theorem noErr_ok {α : Type} (a : α) (h : HD) : noErr (.ok a h) = .ok a h := rfl
theorem noErr_post {α β γ δ : Type} {K : PySem.W.Frag} {R : List Addr → Hp → α → β → Prop} {R' : List Addr → Hp → γ → δ → Prop} {m : List Addr} {H : Hp} {E : XK} {Q : δ → Hp → Prop} {Q' : β → Hp → Prop} {o : Out α} {k : α → HD → Out γ}
    (h : Post K R' m H E Q ((noErr o).bind k)) (f : ∀ a h1 v m1 H1, o = .ok a h1 → m <+: m1 → Kp H H1 → HR K m1 h1 H1 → R m1 H1 a v → Post K R' m1 H1 E Q (k a h1) → Q' v H1) : Post K R m H E0 Q' o := by
  cases o with
  | ok a h1 => exact fun v m1 H1 p kk hr r => f a h1 v m1 H1 rfl p kk hr r (Post.ahead p kk h)
  | err C fs h1 => exact False.elim h
  | stuck => exact False.elim h
def cRho (cs : List (Option Nat)) (ρ : Rho) : Rho := cs.map fun o => o.bind fun j => (ρ[j]?).join
theorem join_some {α : Type} {l : List (Option α)} {j : Nat} {a : α} : (l[j]?).join = some a ↔ l[j]? = some (some a) := by
  cases h : l[j]? with
  | none => simp
  | some o => simp
theorem ER.comp {K : PySem.W.Frag} {m : List Addr} {H : Hp} {ρ : Rho} {σ : L2.St} (cs : List (Option Nat)) (er : ER K m H ρ σ) : ER K m H (cRho cs ρ) (cSt cs σ) := by
  refine ⟨by simp [cRho, cSt], fun i d e => ?_⟩
  unfold cRho at e
  rw [List.getElem?_map] at e
  cases ec : cs[i]? with
  | none => rw [ec] at e; cases e
  | some o =>
    rw [ec] at e
    cases o with
    | none => cases e
    | some j =>
      simp only [Option.map_some, Option.bind_some, Option.some.injEq] at e
      obtain ⟨v, e1, r⟩ := er.2 j d (join_some.mp e)
      refine ⟨v, ?_, r⟩
      unfold cSt
      rw [List.getElem?_map, ec]
      simp only [Option.map_some, Option.bind_some, Option.some.injEq]
      exact join_some.mpr e1
theorem Sub.set {cs : List (Option Nat)} {σ : L2.St} {σ' : L2.St} {i : Nat} {v : V} (h : cs[i]? = some none) (s : Sub (cSt cs σ) σ') : Sub (cSt cs σ) (σ'.set i (some v)) := by
  refine ⟨by rw [s.1]; simp, fun j w e => ?_⟩
  have hj : i ≠ j := by
    rintro rfl
    unfold cSt at e
    rw [List.getElem?_map, h] at e
    cases e
  rw [List.getElem?_set_ne hj]
  exact s.2 j w e
theorem Sub.refl (σ : L2.St) : Sub σ σ := ⟨rfl, fun _ _ h => h⟩
def GOkC (K : PySem.W.Frag) (cs : List (Option Nat)) (gg : TG) (sg : MG) : Prop :=
  ∀ m H d v ρ σ0 ρ' Q, DV K m H d v → ER K m H ρ (cSt cs σ0) → sg d ρ = some ρ' → (∀ σ', Sub (cSt cs σ0) σ' → ER K m H ρ' σ' → Q σ' H) → gg v (cSt cs σ0) H Q
theorem gokc_name {K : PySem.W.Frag} {cs : List (Option Nat)} {i : Nat} (h : cs[i]? = some none) : GOkC K cs (gName i) (sName i) := fun m H d v ρ σ0 ρ' Q r er e q => by
  simp only [sName, Option.some.injEq] at e
  subst e
  exact q _ ((Sub.refl _).set h) (er.set r)
theorem gokc_pair {K : PySem.W.Frag} {cs : List (Option Nat)} {i j : Nat} (h : cs[i]? = some none) (h' : cs[j]? = some none) : GOkC K cs (gTup K 2 (gCons (gName i) (gCons (gName j) gNil))) (sPair i j) := fun m H d v ρ σ0 ρ' Q r er e q => by
  unfold sPair at e
  split at e
  · rename_i a b
    cases e
    simp only [DV, DVs] at r
    obtain ⟨p, vs, rfl, hp, v1, w1, rfl, r1, v2, w2, rfl, r2, rfl⟩ := r
    exact ⟨p, _, rfl, SqT.of hp, rfl, v1, _, rfl, v2, _, rfl, rfl, q _ (((Sub.refl _).set h).set h') ((er.set r1).set r2)⟩
  · cases e
abbrev EvTs (X : Cx) (E : XK) (ifs : List Expr) (t : MT) : Prop := PTs X ifs (tBo X.K E t)
def mTrue : MT := fun _ h => .ok true h
theorem evTs_nil {X : Cx} {E : XK} : EvTs X E [] mTrue := fun pins s σ H Q I ⟨m, ρ, h, hr, er, p⟩ => pts_nil pins s σ H Q I (p true m H (List.prefix_refl _) (.refl _) hr rfl)
theorem evTs_one {X : Cx} {E : XK} {c : Expr} {t : MT} (h : EvT X E c t) : EvTs X E [c] t := pts_one h
open Classical in
noncomputable def compL (src : Src) (items : List D) (sg : MG) (t : MT) (f : ME) (ρc : Rho) : List D → HD → Out (List D)
  | [], h => if srcOk src items h then .ok [] h else .stuck
  | d :: ds, h => if srcOk src items h then match sg d ρc with
      | none => .stuck
      | some ρ1 => (noErr (t ρ1 h)).bind fun b h1 => if b = true then (noErr (f ρ1 h1)).bind fun y h2 => (compL src items sg t f ρc ds h2).bind fun ys h3 => .ok (y :: ys) h3 else compL src items sg t f ρc ds h1
    else .stuck
noncomputable def mComp (cs : List (Option Nat)) (it : MI) (sg : MG) (t : MT) (f : ME) : ME := fun ρ h => (it ρ h).bind fun x h1 => if x.1.length ≤ sizeLine then (compL x.2 x.1 sg t f (cRho cs ρ) x.1 h1).bind newL else .stuck
theorem Out.bind_assoc {α β γ : Type} (o : Out α) (k : α → HD → Out β) (l : β → HD → Out γ) : (o.bind k).bind l = o.bind fun a h => (k a h).bind l := by cases o <;> rfl
section
variable {X : Cx} {E : XK} {elt tg iter : Expr} {ifs : List Expr} {scope : Scope} {pos : Pos} {Nc : List Str} {cs : List (Option Nat)} {it : MI} {gg : TG} {sg : MG} {t : MT} {f : ME}
theorem comp_rd (hg : GOkC X.K cs gg sg) : ∀ σ H Q, tD X.K E (mComp cs it sg t f) σ H Q → tComp cs (tM X.K (rIt X.K) E it) gg (tBo X.K E0 t) (tD X.K E0 f) σ H Q := by
  refine fun σ H Q ⟨m, ρ, h, hr, er, p⟩ => ⟨m, ρ, h, hr, er, Post.bind p fun x h1 J m1 H1 _ p1 k1 hr1 r1 q1 => ?_⟩
  obtain ⟨items, src⟩ := x
  dsimp only at q1
  split at q1
  · rename_i hz
    have er1 : ER X.K m1 H1 (cRho cs ρ) (cSt cs σ) := (er.keep p1 k1).comp cs
    refine ⟨fun i n acc H2 => n = items.length - i ∧ i ≤ items.length ∧ acc.length ≤ i ∧ ∃ m2 h2 dacc, m1 <+: m2 ∧ Kp H1 H2 ∧ HR X.K m2 h2 H2 ∧ DVs X.K m2 H2 dacc acc ∧ Post X.K (rD X.K) m2 H2 E Q ((compL src items sg t f (cRho cs ρ) (items.drop i) h2).bind fun ys h3 => newL (dacc ++ ys) h3),
      ⟨items.length, rfl, Nat.zero_le _, Nat.le_refl _, m1, h1, [], List.prefix_refl _, .refl _, hr1, .nil, by simpa using q1⟩, ?_⟩
    rintro i n acc H2 ⟨rfl, hi', ha, m2, h2, dacc, p2, k2, hr2, da, q2⟩
    by_cases hlt : i < items.length
    · rw [List.drop_eq_getElem_cons hlt] at q2
      unfold compL at q2
      split at q2
      · rename_i hs
        obtain ⟨hgo, hy⟩ := (r1 i m2 h2 H2 p2 k2 hr2 hs).1 hlt
        refine .inr ⟨hgo, by omega, fun y H3 hyl => ?_⟩
        obtain ⟨k3, hr3, d, ed, rd⟩ := hy y H3 hyl
        have ed' : d = items[i] := by rw [List.getElem?_eq_getElem hlt] at ed; exact (Option.some.inj ed).symm
        subst ed'
        split at q2
        · exact q2.elim
        · rename_i ρ3 es
          have er3 : ER X.K m2 H3 (cRho cs ρ) (cSt cs σ) := er1.keep p2 (k2.trans k3)
          refine hg m2 H3 _ y (cRho cs ρ) σ ρ3 _ rd er3 es fun σ4 sub4 er4 => ⟨sub4, m2, ρ3, h2, hr3, er4, ?_⟩
          rw [Out.bind_assoc] at q2
          refine noErr_post (Post.ahead (List.prefix_refl _) k3 q2) fun b h5 v m5 H5 _ p5 k5 hr5 r5 q5 => ?_
          cases r5
          cases b with
          | false =>
            simp only [Bool.false_eq_true, if_false] at q5 ⊢
            exact ⟨items.length - (i + 1), by omega, rfl, hlt, by omega, m5, h5, dacc, p2.trans p5, (k2.trans k3).trans k5, hr5, DVs.keep p5 (k3.trans k5) da, q5⟩
          | true =>
            simp only [if_true] at q5 ⊢
            rw [Out.bind_assoc] at q5
            refine ⟨m5, ρ3, h5, hr5, er4.keep p5 k5, noErr_post q5 fun z h6 w m6 H6 _ p6 k6 hr6 r6 q6 => ?_⟩
            refine ⟨items.length - (i + 1), by omega, rfl, hlt, by simp; omega, m6, h6, dacc ++ [z], (p2.trans p5).trans p6, ((k2.trans k3).trans k5).trans k6, hr6, (DVs.keep (p5.trans p6) ((k3.trans k5).trans k6) da).app (.cons r6 .nil), ?_⟩
            rw [Out.bind_assoc] at q6
            simp only [Out.bind_ok] at q6
            simpa using q6
      · exact q2.elim
    · have he : i = items.length := Nat.le_antisymm hi' (Nat.le_of_not_lt hlt)
      subst he
      rw [List.drop_length] at q2
      unfold compL at q2
      split at q2
      · rename_i hs
        simp only [Out.bind_ok, List.append_nil] at q2
        obtain ⟨z1, z2⟩ := post_newL hr2 da q2
        exact .inl ⟨(r1 _ m2 h2 H2 p2 k2 hr2 hs).2 rfl, z1, z2⟩
      · exact q2.elim
  · exact q1.elim
theorem ev_comp (hcalm : X.calm = true) (S : CScope X scope Nc cs) (hi : EvI X E tg iter it) (hg : GOkC X.K cs gg sg)
    (hb : ∀ (C D : Addr) (cells : List (Str × Addr)) (fp : List Addr) (s₀ : Shared) (H₀ : Hp) (pins : List (Addr × Obj)), PG (cCx X Nc scope C D cells fp s₀ H₀ pins) tg gg ∧ EvTs (cCx X Nc scope C D cells fp s₀ H₀ pins) E0 ifs t ∧ Ev (cCx X Nc scope C D cells fp s₀ H₀ pins) E0 elt f)
    (hsf : ∀ x, foldedSetIterable iter X.env x = pure x := by intro _; rfl) : Ev X E (.ListComp elt [⟨tg, iter, ifs, 0⟩] scope pos) (mComp cs it sg t f) := by
  exact pe_imp (pe_comp (g := gg) (tc := tBo X.K E0 t) (te := tD X.K E0 f) hcalm S hi hb hsf) (comp_rd hg)
/-- name = [..] -/
theorem ex_setC {i : Nat} {x : Str} {pos' pos2 : Pos} (hcalm : X.calm = true) (hN : X.N.Nodup) (hix : X.N[i]? = some x) (hx : Loc X.env.scope x) (S : CScope X scope Nc cs) (hi : EvI X E tg iter it) (hg : GOkC X.K cs gg sg)
    (hb : ∀ (C D : Addr) (cells : List (Str × Addr)) (fp : List Addr) (s₀ : Shared) (H₀ : Hp) (pins : List (Addr × Obj)), PG (cCx X Nc scope C D cells fp s₀ H₀ pins) tg gg ∧ EvTs (cCx X Nc scope C D cells fp s₀ H₀ pins) E0 ifs t ∧ Ev (cCx X Nc scope C D cells fp s₀ H₀ pins) E0 elt f)
    (hsf : ∀ x, foldedSetIterable iter X.env x = pure x := by intro _; rfl) (hsw : swapsWith (.ListComp elt [⟨tg, iter, ifs, 0⟩] scope pos) (some (.Name x pos')) pos2.line X.env = pure true := by rfl)
    (hf : X.fn x = true ∨ X.env.scope.names.lookup x = some .local := by first | exact .inl rfl | exact .inr rfl | assumption) : Ex X E (.Assign [.Name x pos'] (.ListComp elt [⟨tg, iter, ifs, 0⟩] scope pos) pos2) (mSet i (mComp cs it sg t f)) := by
  intro pins s σ H D I ⟨m, ρ, h, hr, er, p⟩
  have hq : tComp cs (tM X.K (rIt X.K) E it) gg (tBo X.K E0 t) (tD X.K E0 f) σ H (fun v H1 => D.nx (σ.set i (some v)) H1) := comp_rd hg σ H _ ⟨m, ρ, h, hr, er, PostS.bind p fun y h1 v m1 H1 _ p1 k1 hr1 r1 q1 => (q1.here hr1) _ ((er.keep p1 k1).set r1)⟩
  rw [exec_Assign_Name_used _ _ _ _ hsw]
  refine wpAny_bind (wpAny_standAt (wpAny_bind ?_))
  show wpAny _ X.A (do let _ ← comprehension (.ListComp elt [⟨tg, iter, ifs, 0⟩] scope pos) scope X.env _ (newList []) false (eval iter X.env) (some (assign (.Name x pos') X.env))) _ _ s
  refine wpAny_bind (wpAny_mono (comp_core (QQ := fun _ s' => SP X pins D .next s') hcalm S hi hb hsf I hq fun s6 C Dd H7 m6 hn hC h0 hL hc hp inv q => ?_) (fun _ s' z => wpAny_pure (wpAny_pure z)) fun _ _ z => z)
  have I6 : Inv X pins σ H7 s6 := inv s6.heap ⟨rfl, fun _ _ => rfl⟩
  refine wpAny_assign_Name (store_ok2 I6 hN hix hx (v := .ref Dd) rfl (fun s7 I7 ⟨a, sb7, ha⟩ => ?_) hf)
  have nCa : C ≠ a := by
    rcases ha with z | z
    · rw [z]; exact hL
    · exact Ne.symm (hc x a z)
  obtain ⟨o, es, ep, e1, e2⟩ := hn
  refine ⟨m6, ⟨o, es, ep, (sb7.2 C nCa).trans e1, e2⟩, fun h' sb => ?_⟩
  exact ⟨_, H7, I7.turned (t' := s7.toks) (it := C) (fun b o hb e => (sb.2 b hb).trans e) hC hL (.inr h0) hc hp, q⟩
end
end LS

namespace LS
open PySem PySem.Spec PyProof.Rows L2

section
variable {X : Cx} {E : XK}

def tyD : D → HD → Option String
  | .non, _ => some "NoneType"
  | .bl _, _ => some "bool"
  | .int _, _ => some "int"
  | .str _, _ => some "str"
  | .tup _, _ => some "tuple"
  | .loc l, h => match h[l]? with
    | some (.lst _) => some "list"
    | none => none
  | _, _ => none
theorem ty_of {m : List Addr} {H : Hp} {h : HD} {d : D} {v : V} {t : String} (hr : HR X.K m h H) (r : DV X.K m H d v) (e : tyD d h = some t) : TyOf X.K H v (.type t) := by
  cases d with
  | non => simp only [tyD, Option.some.injEq, DV] at e r; subst e r; exact .non
  | bl b => simp only [tyD, Option.some.injEq, DV] at e r; subst e r; exact .bl _
  | int i => simp only [tyD, Option.some.injEq, DV] at e r; subst e r; exact .int _
  | str x => simp only [tyD, Option.some.injEq, DV] at e r; subst e r; exact .str _
  | tup ds => simp only [tyD, Option.some.injEq, DV] at e r; subst e; obtain ⟨a, vs, rfl, ha, _⟩ := r; exact .tup ha
  | loc l =>
    simp only [DV] at r
    obtain ⟨a, rfl, ha⟩ := r
    simp only [tyD] at e
    split at e
    · rename_i ds el
      cases e
      obtain ⟨vs, hv, _⟩ := hr.cells l _ a el ha
      exact .lst hv
    · cases e
  | _ => simp [tyD] at e
def subT : String → String → Option Bool
  | "NoneType", "int" => some false | "bool", "int" => some true | "int", "int" => some true | "str", "int" => some false | "tuple", "int" => some false | "list", "int" => some false
  | "NoneType", "bool" => some false | "bool", "bool" => some true | "int", "bool" => some false | "str", "bool" => some false | "tuple", "bool" => some false | "list", "bool" => some false
  | "NoneType", "tuple" => some false | "bool", "tuple" => some false | "int", "tuple" => some false | "str", "tuple" => some false | "tuple", "tuple" => some true | "list", "tuple" => some false
  | _, _ => none
theorem subT_ok {K : PySem.W.Frag} {t c : String} {b : Bool} (h : subT t c = some b) : PySem.W.kitOne K (.type t) (.type c) = some b := by
  unfold subT at h
  split at h <;> first | (cases h; rfl) | cases h
theorem call_inst : CallR X (.builtin "isinstance") (fun xs H Q => ∃ x T t b, xs = [x, .ty T] ∧ TyOf X.K H x (.type t) ∧ subT t T = some b ∧ Q (.bl b) H) := by
  intro pins s σ H xs us Q I r h
  obtain ⟨x, T, t, b, rfl, ty, e, q⟩ := h
  obtain ⟨u, w', rfl, rx, rT⟩ := vals2 r
  cases (show w' = Value.type T from rT)
  exact isinst_ok I rx ty (subT_ok e) fun tk => ⟨.bl b, H, I.tok _, rfl, q⟩
def instD : D → D → HD → Out D := fun x y h => match y, tyD x h with
  | .ty T, some t => match subT t T with
    | some b => .ok (.bl b) h
    | none => .stuck
  | _, _ => .stuck
theorem instM : CallM X (.builtin "isinstance") (ar2 instD) := by
  refine ⟨_, call_inst, fun m H h E ds vs Q hr r q => two_of r q fun d d' v v' ev rv rv' q => ?_⟩
  unfold instD at q
  split at q
  · rename_i T t et
    split at q
    · rename_i b eb
      simp only [DV] at rv'
      subst rv'
      exact ⟨v, T, t, b, ev, ty_of hr rv et, eb, okq hr q (by simp [DV])⟩
    · exact q.elim
  · exact q.elim
theorem ev_ty {x : Str} {T : String} {pos : Pos} (hg : Gl X x) (hm : X.mg x = none) (hv : bootBuiltins x = some (.type T)) (hn : x ≠ "__name__" := by decide) (hd : (x == ("__debug__" : Str)) = false := by decide) : Ev X E (.Name x pos) (mC (.ty T)) :=
  ev_c (pe_bltn (v := .ty T) hg hm hv rfl hn hd) fun _ _ => by simp [DV]


theorem preSum_take (ns : List Int) : ∀ j, j ≤ ns.length → preSum (fun i => ns.getD i 0) j = (ns.take j).sum
  | 0, _ => by simp [preSum]
  | j + 1, h => by
    rw [preSum, preSum_take ns j (by omega), List.take_succ_eq_append_getElem (by omega), List.sum_append]
    simp [List.getD_eq_getElem?_getD, List.getElem?_eq_getElem (show j < ns.length by omega)]
theorem old_kept' {h h2 h' : Heap} {it : Addr} (k : ∀ b o, h.get? b = some o → h2.get? b = some o) (hit : h.objs.size ≤ it) (hk : ∀ b o, b ∉ [it] → h2.get? b = some o → h'.get? b = some o) : ∀ b o, h.get? b = some o → h'.get? b = some o := fun b o e =>
  hk b o (by rw [List.mem_singleton]; exact nne (Nat.lt_of_lt_of_le (Heap.lt_size e) hit)) (k b o e)
theorem vals_get_int {ns : List Int} {its : List Value} (r : Vals (ns.map V.int) its) {i : Nat} {v : Value} (e : its.toArray[i]? = some v) : ∃ t, v = .int (ns.getD i 0) t := by
  have e' : its[i]? = some v := by simpa using e
  have hi : i < its.length := (List.getElem?_eq_some_iff.mp e').1
  have hl : ns.length = its.length := by have := r.length; simpa using this
  have hn : (ns.map V.int)[i]? = some (V.int (ns.getD i 0)) := by
    rw [List.getElem?_map, List.getElem?_eq_getElem (by omega)]
    simp [List.getD_eq_getElem?_getD, List.getElem?_eq_getElem (show i < ns.length by omega)]
  obtain ⟨u, h1, t, h2⟩ := r.get hn
  rw [e'] at h1
  cases h1
  exact ⟨t, h2⟩
theorem call_sum (hc : X.calm = true) : CallR X (.builtin "sum") (fun xs H Q => ∃ (p : Addr) (ns : List Int), xs = [.ref p] ∧ (SqL X.K H p (ns.map V.int) ∨ SqT X.K H p (ns.map V.int)) ∧ Q (.int ns.sum) H) := by
  intro pins s σ H xs us Q I r h
  obtain ⟨p, ns, rfl, hs, q⟩ := h
  obtain ⟨u, rfl, rx⟩ := vals1 r
  cases rx
  have hh : X.A.in1.handled = none := I.ok.hd hc
  rcases hs with hs | hs
  · obtain ⟨its, rv, pl, hz⟩ := I.list hs
    have hl := rv.length
    rw [List.length_map] at hl
    have hlt : p < s.heap.objs.size := by obtain ⟨_, e, _⟩ := pl.isList; exact Heap.lt_size e
    refine call_sum_walkG (wpAny_pyIter_list pl.isList ?_)
    refine ⟨s.heap.objs.size, [s.heap.objs.size, p], [s.heap.objs.size], its.toArray.size, _, _, fun i => ns.getD i 0, rfl, Walks.list (A := X.A.in1) hh _ p (nne hlt) its.toArray, ⟨⟨_, Heap.get?_push_size _ rfl, rfl, rfl⟩, pl.isList.push _⟩, fun b hb => ?_, fun i v e => vals_get_int rv e, fun h' tk t' hk => ?_⟩
    · show b < (s.heap.push _).objs.size
      rw [Heap.size_push]
      rcases List.mem_cons.mp hb with z | z
      · rw [z]; exact Nat.lt_succ_self _
      · rw [List.mem_singleton.mp z]; exact Nat.lt_succ_of_lt hlt
    · have e : preSum (fun i => ns.getD i 0) its.toArray.size = ns.sum := by
        rw [List.size_toArray, ← hl, preSum_take ns _ (Nat.le_refl _), List.take_length]
      rw [e]
      exact ⟨.int ns.sum, H, I.kept (old_kept' (fun b o e => Heap.get?_push_of_some _ e) (Nat.le_refl _) hk), ⟨t', rfl⟩, q⟩
  · obtain ⟨its, rv, pl, hz⟩ := I.tuple hs
    have hl := rv.length
    rw [List.length_map] at hl
    have hT : s.heap.IsTuple p its.toArray := pl
    have hlt : p < s.heap.objs.size := pl.lt
    refine call_sum_walkG (wpAny_pyIter_tuple hT ?_)
    refine ⟨s.heap.objs.size, [s.heap.objs.size, p], [s.heap.objs.size], its.toArray.size, _, _, fun i => ns.getD i 0, rfl, Walks.tuple (A := X.A.in1) hh _ p (nne hlt) its.toArray, ⟨⟨_, Heap.get?_push_size _ rfl, rfl, rfl⟩, hT.push _⟩, fun b hb => ?_, fun i v e => vals_get_int rv e, fun h' tk t' hk => ?_⟩
    · show b < (s.heap.push _).objs.size
      rw [Heap.size_push]
      rcases List.mem_cons.mp hb with z | z
      · rw [z]; exact Nat.lt_succ_self _
      · rw [List.mem_singleton.mp z]; exact Nat.lt_succ_of_lt hlt
    · have e : preSum (fun i => ns.getD i 0) its.toArray.size = ns.sum := by
        rw [List.size_toArray, ← hl, preSum_take ns _ (Nat.le_refl _), List.take_length]
      rw [e]
      exact ⟨.int ns.sum, H, I.kept (old_kept' (fun b o e => Heap.get?_push_of_some _ e) (Nat.le_refl _) hk), ⟨t', rfl⟩, q⟩
def asInt : D → Option Int
  | .int i => some i
  | _ => none
def sumD : D → HD → Out D := fun x h => match itemsD x h with
  | some ds => match allSome (ds.map asInt) with
    | some ns => .ok (.int ns.sum) h
    | none => .stuck
  | none => .stuck
theorem ints_back {m : List Addr} {H : Hp} : ∀ {ds : List D} {vs : List V} {ns : List Int}, DVs X.K m H ds vs → allSome (ds.map asInt) = some ns → vs = ns.map V.int
  | [], vs, ns, r, e => by
    simp only [DVs] at r
    simp [allSome] at e
    subst r e
    rfl
  | d :: ds, vs, ns, r, e => by
    simp only [DVs] at r
    obtain ⟨v, w, rfl, rv, rw'⟩ := r
    rw [List.map_cons] at e
    cases d with
    | int i =>
      simp only [asInt, allSome, Option.map_eq_some_iff] at e
      obtain ⟨ns', e1, rfl⟩ := e
      simp only [DV] at rv
      subst rv
      rw [ints_back rw' e1]
      rfl
    | _ => simp [asInt, allSome] at e
theorem sumM (hc : X.calm = true) : CallM X (.builtin "sum") (ar1 sumD) := by
  refine ⟨_, call_sum hc, fun m H h E ds vs Q hr r q => one_of r q fun d v ev rv q => ?_⟩
  unfold sumD at q
  split at q
  · rename_i xs e
    split at q
    · rename_i ns en
      obtain ⟨p, ws, rfl, hs, dv⟩ := items_of hr rv e
      have := ints_back dv en
      subst this
      exact ⟨p, ns, ev, hs, okq hr q (by simp [DV])⟩
    · exact q.elim
  · exact q.elim
theorem call_all (hc : X.calm = true) : CallR X (.builtin "all") (fun xs H Q => ∃ (p : Addr) (bs : List Bool), xs = [.ref p] ∧ SqL X.K H p (bs.map V.bl) ∧ Q (.bl (bs.all id)) H) := by
  intro pins s σ H xs us Q I r h
  obtain ⟨p, bs, rfl, hs, q⟩ := h
  obtain ⟨u, rfl, rx⟩ := vals1 r
  cases rx
  have hh : X.A.in1.handled = none := I.ok.hd hc
  obtain ⟨its, rv, pl, hz⟩ := I.list hs
  have hl := rv.length
  rw [List.length_map] at hl
  have hlt : p < s.heap.objs.size := by obtain ⟨_, e, _⟩ := pl.isList; exact Heap.lt_size e
  have item : ∀ (i : Nat) (v : Value), its.toArray[i]? = some v → v = .bool (bs.getD i true) := fun i v e => by
    have e' : its[i]? = some v := by simpa using e
    have hi : i < its.length := (List.getElem?_eq_some_iff.mp e').1
    have hn : (bs.map V.bl)[i]? = some (V.bl (bs.getD i true)) := by
      rw [List.getElem?_map, List.getElem?_eq_getElem (by omega)]
      simp [List.getD_eq_getElem?_getD, List.getElem?_eq_getElem (show i < bs.length by omega)]
    obtain ⟨u, h1, h2⟩ := rv.get hn
    rw [e'] at h1
    cases h1
    exact h2
  refine call_all_walk (wpAny_pyIter_list pl.isList ?_)
  refine ⟨s.heap.objs.size, [s.heap.objs.size, p], [s.heap.objs.size], its.toArray.size, _, _, fun i => bs.getD i true, rfl, Walks.list (A := X.A.in1) hh _ p (nne hlt) its.toArray, ⟨⟨_, Heap.get?_push_size _ rfl, rfl, rfl⟩, pl.isList.push _⟩, fun i v s' Q' E' e hQ => ?_, fun h' tk hk => ?_⟩
  · rw [item i v e]
    exact wpAny_truthy_bool hQ
  · have e : (List.range its.toArray.size).all (fun i => bs.getD i true) = bs.all id := by
      rw [List.size_toArray, ← hl]
      apply Bool.eq_iff_iff.mpr
      simp only [List.all_eq_true, List.mem_range, id]
      constructor
      · intro h b hb
        obtain ⟨i, hi, rfl⟩ := List.getElem_of_mem hb
        have := h i hi
        simpa [List.getD_eq_getElem?_getD, List.getElem?_eq_getElem hi] using this
      · intro h i hi
        have := h bs[i] (List.getElem_mem hi)
        simpa [List.getD_eq_getElem?_getD, List.getElem?_eq_getElem hi] using this
    rw [e]
    exact ⟨.bl _, H, I.kept (old_kept' (fun b o e => Heap.get?_push_of_some _ e) (Nat.le_refl _) hk), rfl, q⟩
def asBl : D → Option Bool
  | .bl b => some b
  | _ => none
def allD : D → HD → Out D := fun x h => match x with
  | .loc l => match h[l]? with
    | some (.lst ds) => match allSome (ds.map asBl) with
      | some bs => .ok (.bl (bs.all id)) h
      | none => .stuck
    | none => .stuck
  | _ => .stuck
theorem bls_back {m : List Addr} {H : Hp} : ∀ {ds : List D} {vs : List V} {bs : List Bool}, DVs X.K m H ds vs → allSome (ds.map asBl) = some bs → vs = bs.map V.bl
  | [], vs, ns, r, e => by
    simp only [DVs] at r
    simp [allSome] at e
    subst r e
    rfl
  | d :: ds, vs, ns, r, e => by
    simp only [DVs] at r
    obtain ⟨v, w, rfl, rv, rw'⟩ := r
    rw [List.map_cons] at e
    cases d with
    | bl i =>
      simp only [asBl, allSome, Option.map_eq_some_iff] at e
      obtain ⟨ns', e1, rfl⟩ := e
      simp only [DV] at rv
      subst rv
      rw [bls_back rw' e1]
      rfl
    | _ => simp [asBl, allSome] at e
theorem allM (hc : X.calm = true) : CallM X (.builtin "all") (ar1 allD) := by
  refine ⟨_, call_all hc, fun m H h E ds vs Q hr r q => one_of r q fun d v ev rv q => ?_⟩
  unfold allD at q
  split at q
  · rename_i l
    split at q
    · rename_i xs el
      split at q
      · rename_i bs eb
        simp only [DV] at rv
        obtain ⟨a, rfl, ha⟩ := rv
        obtain ⟨ws, hv, dv⟩ := hr.cells _ _ a el ha
        have := bls_back dv eb
        subst this
        exact ⟨a, bs, ev, SqL.of hv, okq hr q (by simp [DV])⟩
      · exact q.elim
    · exact q.elim
  · exact q.elim


def appD : D → D → HD → Out D := fun x y h => match x with
  | .loc l => match h[l]? with
    | some (.lst ds) => if ds.length < sizeLine then .ok .non (h.set l (.lst (ds ++ [y]))) else .stuck
    | none => .stuck
  | _ => .stuck
def isLst : D → HD → Out D := fun x h => match x with
  | .loc l => match h[l]? with
    | some (.lst _) => .ok x h
    | none => .stuck
  | _ => .stuck
def mApp (f g : ME) : ME := fun ρ h => ((f ρ h).bind isLst).bind fun x h1 => (g ρ h1).bind fun y h2 => appD x y h2
theorem ev_append {o e : Expr} {f g : ME} {apos cpos : Pos} (ho : Ev X E o f) (he : Ev X E e g)
    (hbase : attributeBase o "append" X.env (eval o X.env) = eval o X.env := by rfl)
    (hfew : ((backTo cpos (starEach [e] X.env)).all (fun x => !x.1) && (backToKw cpos (keywordEach [] X.env)).all (fun x => x.1.isSome)
      && decide ([e].length + ([] : List Keyword).length + (if ([] : List Keyword).isEmpty then 0 else 1) < 30)) = true := by rfl)
    (hline : (apos.endLine == cpos.line) = true := by rfl) (hs : starEach [e] X.env = (false, eval e X.env) :: starEach [] X.env := by rfl) (hplain : (backTo cpos (starEach [] X.env)).any (·.1) = false := by rfl) :
    Ev X E (.Call (.Attribute o "append" apos) [e] [] cpos) (mApp f g) :=
  pe_imp (pe_bm PySem.F.plainAttrs_list PySem.F.slot_list_append PySem.F.type_list_append mt_append ho (evA_cons he evA_nil hs) hbase hfew hline hs hplain) fun σ H Q ⟨m, ρ, h, hr, er, p⟩ => by
    refine ⟨m, ρ, h, hr, er, ?_⟩
    unfold mApp at p
    rw [Out.bind_assoc] at p
    refine Post.bind p fun x h1 v m1 H1 eo p1 k1 hr1 r1 q1 => ?_
    clear eo
    unfold isLst at q1
    split at q1
    · rename_i l
      split at q1
      · rename_i ds el
        simp only [Out.bind_ok] at q1
        have r1' := r1
        simp only [rD, DV] at r1'
        obtain ⟨a, rfl, ha⟩ := r1'
        obtain ⟨ws, hv, dv⟩ := hr1.cells l _ a el ha
        refine ⟨.inl ⟨rfl, ws, SqL.of hv⟩, m1, ρ, h1, hr1, er.keep p1 k1, ?_⟩
        have q2 : Post X.K (rD X.K) m1 H1 E Q ((mCons g mNil ρ h1).bind fun ys h2 => match ys with
          | [y] => appD (.loc l) y h2
          | _ => .stuck) := by
          unfold mCons mNil
          rw [Out.bind_assoc]
          exact q1
        refine Post.bind q2 fun ys h2 vs m2 H2 eo p2 k2 hr2 r2 q3 => ?_
        clear eo
        split at q3
        · rename_i y
          simp only [rDs, DVs] at r2
          obtain ⟨yv, w, rfl, ry, rfl⟩ := r2
          unfold appD at q3
          simp only at q3
          split at q3
          · rename_i ds2 el2
            split at q3
            · rename_i hz
              have ha2 := pre_get p2 ha
              obtain ⟨ws2, hv2, dv2⟩ := hr2.cells l _ a el2 ha2
              refine ⟨a, ws2, yv, rfl, rfl, hv2, by rw [← dv2.len]; exact hz, ?_⟩
              refine q3 .non m2 _ (List.prefix_refl _) (.set hv2 rfl) (hr2.setCell ha2 hv2 rfl ⟨_, upd_same, ?_⟩) (by simp [rD, DV])
              exact (dv2.app (.cons ry .nil)).keep (List.prefix_refl _) (.set hv2 rfl)
            · exact q3.elim
          · exact q3.elim
        · exact q3.elim
      · exact q1.elim
    · exact q1.elim
def setD : D → D → D → HD → Out (Fl × Rho) → Out (Fl × Rho) := fun o i v h k => match o, i with
  | .loc l, .int n => match h[l]? with
    | some (.lst ds) => match ixN ds.length n with
      | some j => match k with
        | .ok a _ => .ok a (h.set l (.lst (ds.set j v)))
        | _ => .stuck
      | none => .stuck
    | none => .stuck
  | _, _ => .stuck
def mSetIx (fo fi fv : ME) : MS := fun ρ h => (fv ρ h).bind fun v h1 => (fo ρ h1).bind fun o h2 => (fi ρ h2).bind fun i h3 => setD o i v h3 (.ok (.nx, ρ) h3)
theorem ex_setIx {o i e : Expr} {fo fi fv : ME} {pos pos' : Pos} (ho : Ev X E o fo) (hi : Ev X E i fi) (he : Ev X E e fv)
    (ha : ∀ v, assign (.Subscript o i pos') X.env v = (do
      let ov ← holding [v] (eval o X.env)
      let iv ← holding [v, ov] (eval i X.env)
      standAt pos'
      holding [v, ov, iv] (setItem ov iv v)
      release [v, ov, iv] []) := by intro _; rfl)
    (hs : swapsWithSole [.Subscript o i pos'] e pos.line X.env = pure false := by rfl) (hw : swappedStores [.Subscript o i pos'] e X.env = pure none := by rfl)
    (h1 : (assignEach [.Subscript o i pos'] X.env).map (·.2) = [assign (.Subscript o i pos') X.env] := by rfl) : Ex X E (.Assign [.Subscript o i pos'] e pos) (mSetIx fo fi fv) :=
  ps_imp (ps_asg he (pg_sub ho hi set_list ha) hs hw h1) fun Dn σ H ⟨m, ρ, h, hr, er, p⟩ => ⟨m, ρ, h, hr, er, PostS.bind p fun v h1 vv m1 H1 eo1 p1 k1 hr1 r1 q1 => by
    refine ⟨m1, ρ, h1, hr1, er.keep p1 k1, PostS.bind q1 fun ov h2 vo m2 H2 eo2 p2 k2 hr2 r2 q2 => ?_⟩
    refine ⟨m2, ρ, h2, hr2, (er.keep p1 k1).keep p2 k2, PostS.bind q2 fun iv h3 vi m3 H3 eo3 p3 k3 hr3 r3 q3 => ?_⟩
    clear eo1 eo2 eo3
    unfold setD at q3
    split at q3
    · rename_i l n
      split at q3
      · rename_i ds el
        split at q3
        · rename_i j ej
          have ro := DV.keep p3 k3 r2
          simp only [DV] at ro
          obtain ⟨a, rfl, ha⟩ := ro
          have ri := r3
          simp only [rD, DV] at ri
          subst ri
          obtain ⟨ws, hv, dv⟩ := hr3.cells l _ a el ha
          refine ⟨a, ws, n, j, rfl, rfl, hv, by rw [← dv.len]; exact ej, ?_⟩
          have rvv := DV.keep p3 k3 (DV.keep p2 k2 r1)
          have hr4 : HR X.K m3 (h3.set l (.lst (ds.set j v))) (upd H3 a (.lst (ws.set j vv))) := hr3.setCell ha hv rfl ⟨_, upd_same, (dv.set j rvv).keep (List.prefix_refl _) (.set hv rfl)⟩
          exact q3 m3 _ (List.prefix_refl _) (.set hv rfl) hr4 σ ((((er.keep p1 k1).keep p2 k2).keep p3 k3).keep (List.prefix_refl _) (.set hv rfl))
        · exact q3.elim
      · exact q3.elim
    · exact q3.elim⟩
end

def mBody (n : Nat) (g : MS) : List D → HD → Out D := fun ds h => (g (ds.map some ++ List.replicate (n - ds.length) none) h).bind fun x h1 => match x with
  | (.nx, _) => .ok .non h1
  | (.rt d, _) => .ok d h1
  | _ => .stuck
theorem fn_mirror {P : Program} {w : World} {K : PySem.W.Frag} {mg : Str → Option Value} {base : Heap} {x qual : Str} {st : Stmt} {f : Addr} {fd : FuncData} {N ps : List Str} {k : Nat} {F : List D → HD → Out D} {g : MS} (Fn : Fun K x qual st f fd) (S : FnScope N ps (defScope st)) (ar : Ar ps.length F)
    (hg : ∀ ds h, ds.length = ps.length → F ds h = mBody N.length g ds h)
    (hbody : ∀ (cdv : Value) (A : Around) (outer : List Env) (s : Shared) (H : Hp) (E : XK), Room k (A.deeper (envOfC qual (defScope st) s.heap.objs.size f cdv)) → Exs (cxOf CX0 P w K mg base N qual (defScope st) f cdv A outer s H E).nox E0 (defBody st) g) : FnOk P w K mg base CX0 (k + 1) f fd ps (spM K F) := by
  refine Fn.ok S (fun vs H Q E h => ar.len h) (fun cdv A outer s H vs Q E hr h => ?_)
  refine ⟨_, hbody cdv A outer s H E hr, ?_⟩
  have hl := ar.len h
  obtain ⟨m, ds, hd, hr1, r, p⟩ := h
  have hld : ds.length = ps.length := by rw [r.len]; exact hl
  refine ⟨m, ds.map some ++ List.replicate (N.length - ds.length) none, hd, hr1, ER.start r, ?_⟩
  rw [hg ds hd hld] at p
  unfold mBody at p
  cases o : g (ds.map some ++ List.replicate (N.length - ds.length) none) hd with
  | stuck => rw [o] at p; exact p
  | err C fs h1 => rw [o] at p; exact p
  | ok a h1 =>
    rw [o] at p
    obtain ⟨fl, ρ1⟩ := a
    intro m1 H1 p1 k1 hr1
    cases fl with
    | nx => exact fun σ er => p .non m1 H1 p1 k1 hr1 (by simp [rD, DV])
    | bk => exact False.elim p
    | ct => exact False.elim p
    | rt d => exact fun v rv => p v m1 H1 p1 k1 hr1 rv
end LS


namespace LS
open PySem PySem.Spec PyProof.Rows L2
open AutoSeq1 (wpAny_loadPart')

section
variable {prog : Program} {w : World} {A : Around} {E : Value → Shared → Prop} {s : Shared}
theorem nextOf_tuple_item {it l : Addr} {i : Nat} {items : Array Value} {x : Value} {Q : Value → Shared → Prop} (hit : s.heap.IsTupleIter it l i)
    (hl : s.heap.IsTuple l items) (hx : items[i]? = some x)
    (hQ : ∀ h', h'.IsTupleIter it l (i + 1) → Heap.SameBut it s.heap h' → Q x { s with heap := h' }) :
    wpAny (model prog w) A (Builtin.SmallTypes.nextOf (.ref it)) Q E s := by
  obtain ⟨o, ho, hc, hd⟩ := id hit
  obtain ⟨ol, hol, _, nl, hdl⟩ := hl
  unfold Builtin.SmallTypes.nextOf
  refine wpAny_bind (wpAny_callSpecial?_slot (name := Str.ofString "__next__") hit.typeIs F.slot_tuple_iterator_next
    (wpAny_call_entry F.slot_tuple_iterator_next hit.typeIs F.entry_tuple_iterator_next ?_ (F.args_tuple_iterator_next_1 _)))
  show wpAny _ _ (field (.ref it) 0 >>= _) _ _ s
  refine wpAny_bind (wpAny_field ho hd (x := .ref l) rfl ?_)
  show wpAny _ _ (if (Value.ref l == Value.none) = true then _ else _) _ _ s
  rw [if_neg (show ¬ ((Value.ref l == Value.none) = true) from Bool.false_ne_true)]
  show wpAny _ _ (field (.ref it) 1 >>= _) _ _ s
  refine wpAny_bind (wpAny_field ho hd (x := .int i 0) rfl ?_)
  show wpAny _ _ (seqItems? (.ref l) >>= _) _ _ s
  refine wpAny_bind (wpAny_seqItems hol hdl ?_)
  simp only [Int.toNat_natCast, hx]
  refine wpAny_bind (wpAny_setField ho hd (by simp) (wpAny_pure ⟨x, rfl, wpAny_pure (hQ _ ?_ (Heap.SameBut.update ..))⟩))
  exact ⟨_, Heap.get?_update_self _ ho (Obj.isFreed_of_fields (Obj.data_mapFields hd _)), (Obj.cls_mapFields ..).trans hc, by
    rw [Obj.data_mapFields hd]; simp [rawInt]⟩
theorem nextOf_tuple_end {it l : Addr} {i : Nat} {items : Array Value} {Q : Value → Shared → Prop} (hh : A.handled = none)
    (hit : s.heap.IsTupleIter it l i) (hl : s.heap.IsTuple l items) (hx : items[i]? = none)
    (hE : ∀ h' e, Heap.ExtBut it s.heap h' → (∃ o, h'.get? e = some o ∧ o.cls = .type "StopIteration") → E (.ref e) { s with heap := h' }) :
    wpAny (model prog w) A (Builtin.SmallTypes.nextOf (.ref it)) Q E s := by
  obtain ⟨o, ho, hc, hd⟩ := id hit
  obtain ⟨ol, hol, _, nl, hdl⟩ := hl
  unfold Builtin.SmallTypes.nextOf
  refine wpAny_bind (wpAny_callSpecial?_slot (name := Str.ofString "__next__") hit.typeIs F.slot_tuple_iterator_next
    (wpAny_call_entry F.slot_tuple_iterator_next hit.typeIs F.entry_tuple_iterator_next ?_ (F.args_tuple_iterator_next_1 _)))
  show wpAny _ _ (field (.ref it) 0 >>= _) _ _ s
  refine wpAny_bind (wpAny_field ho hd (x := .ref l) rfl ?_)
  show wpAny _ _ (if (Value.ref l == Value.none) = true then _ else _) _ _ s
  rw [if_neg (show ¬ ((Value.ref l == Value.none) = true) from Bool.false_ne_true)]
  show wpAny _ _ (field (.ref it) 1 >>= _) _ _ s
  refine wpAny_bind (wpAny_field ho hd (x := .int i 0) rfl ?_)
  show wpAny _ _ (seqItems? (.ref l) >>= _) _ _ s
  refine wpAny_bind (wpAny_seqItems hol hdl ?_)
  simp only [Int.toNat_natCast, hx]
  refine wpAny_bind (wpAny_rule (wpAny_bind (wpAny_setField ho hd (by simp) ?_)))
  show wpAny _ _ (newExc (.type "StopIteration") [] >>= _) _ _ _
  refine wpAny_bind ?_
  simp only [newExc, newTuple]
  refine wpAny_bind (wpAny_newObj_type ?_ (by size_fits))
  refine wpAny_bind (m := firstArgMember _ _) (wpAny_of_eq (a := Value.none) (by first | rfl | (simp only [firstArgMember]; rfl)) ?_)
  refine wpAny_newObj_type ?_ (by size_fits)
  simp only [raiseNew]
  refine wpAny_bind (wpAny_handled ?_)
  first | rw [show A.in1.handled = none from hh] | rw [hh]
  refine wpAny_bind (wpAny_pure (wpAny_throw ?_))
  exact hE _ _ (((Heap.SameBut.update ..).extBut.push _).push _) ⟨_, Heap.get?_push_size _ rfl, rfl⟩
end
theorem draws_tuple {prog : Program} {w : World} {A : Around} (hh : A.handled = none) (it l : Addr) (hne : l ≠ it) (items : Array Value) :
    Draws prog w A it [it, l] items.size (fun i v => items[i]? = some v) (fun i h => h.IsTupleIter it l i ∧ h.IsTuple l items) where
  live := fun _ _ st => let ⟨o, ho, _⟩ := st.1; ⟨o, ho⟩
  frame := fun _ _ _ st hk => ⟨st.1.at fun o e => hk it (by simp) o e, st.2.at fun o e => hk l (by simp) o e⟩
  item := fun i s Q E hi st hQ => by
    refine nextOf_tuple_item st.1 st.2 (x := items[i]) (by simp [hi]) fun h' hit' hs' => ?_
    exact hQ _ h' s.toks (by simp [hi]) ⟨hit', st.2.extBut hs'.extBut hne⟩ hs'
  done := fun s Q E st hE => nextOf_tuple_end hh st.1 st.2 (by simp) hE
theorem meets_enum_newT (l : Addr) (items : Array Value) (n : Nat) (dct : Option Addr) (sl : Array (Option Value)) :
    Meets (Builtin.«enumerate.__new__» ⟨[.type "enumerate", .ref l], []⟩) (fun _ R s => s.heap.get? l = some { cls := .type "tuple", dict := dct, data := .seq items n, slots := sl } ∧
      R (.ok (.ret (.ref (s.heap.push { cls := .type "tuple_iterator", data := .fields #[.ref l, .int 0 0] }).objs.size)))
        { s with heap := (s.heap.push { cls := .type "tuple_iterator", data := .fields #[.ref l, .int 0 0] }).push { cls := .type "enumerate", data := .fields #[.none, .bool false, .ref s.heap.objs.size, rawInt 0, .none, .none] } }) :=
  .of_wp fun prog w A R s h => by
    obtain ⟨hp, g, d, tk, os⟩ := s; obtain ⟨hl, h⟩ := h
    have hsub := sub_enumerate
    have hL : Heap.IsTuple (Shared.heap ⟨hp, g, d, tk, os⟩) l items := ⟨_, hl, rfl, n, rfl⟩
    wp_walk using wpAny_loadPart' hl
    refine wpAny_stack_any fun st => wpAny_pure ?_
    split
    · rename_i c _ _ _ _ _
      cases (c == Value.type "enumerate")
      · wp_walk using wpAny_loadPart' hl, wpAny_pyIter_tuple hL
        exact ⟨_, rfl, h⟩
      · wp_walk using wpAny_loadPart' hl, wpAny_pyIter_tuple hL
        exact ⟨_, rfl, h⟩
    · wp_walk using wpAny_loadPart' hl, wpAny_pyIter_tuple hL
      exact ⟨_, rfl, h⟩
section
variable {prog : Program} {w : World} {A : Around} {E : Value → Shared → Prop} {s : Shared}
theorem call_enum_tuple {l : Addr} {items : Array Value} {Q : Value → Shared → Prop} (hL : s.heap.IsTuple l items)
    (h : ∀ h', IsEnum h' (s.heap.objs.size + 1) s.heap.objs.size 0 .none → h'.IsTupleIter s.heap.objs.size l 0 → h'.objs.size = s.heap.objs.size + 2 →
      (∀ b o, s.heap.get? b = some o → h'.get? b = some o) → Q (.ref (s.heap.objs.size + 1)) { s with heap := h' }) :
    wpAny (model prog w) A (call (.type "enumerate") [.ref l]) Q E s := by
  obtain ⟨⟨c, dct, dt, sl⟩, hl, hc, n, hd⟩ := hL
  replace hc : c = .type "tuple" := hc
  replace hd : dt = .seq items n := hd
  subst hc hd
  refine callType_new F.called_enumerate (by decide) (F.typeCall_enumerate_1 _) (F.newCall_enumerate_1 _) (fun obj => F.args_object_init_2 obj _) F.entry_enumerate_new
    (meets_enum_newT l items n dct sl) ⟨hl, ?_⟩
  have hz : (s.heap.push { cls := .type "tuple_iterator", data := .fields #[.ref l, .int 0 0] }).objs.size = s.heap.objs.size + 1 := Heap.size_push ..
  show _ ∧ _
  rw [hz]
  have he : IsEnum ((s.heap.push { cls := .type "tuple_iterator", data := .fields #[.ref l, .int 0 0] }).push
      { cls := .type "enumerate", data := .fields #[.none, .bool false, .ref s.heap.objs.size, rawInt 0, .none, .none] }) (s.heap.objs.size + 1) s.heap.objs.size 0 .none := by
    have := Heap.get?_push_size (s.heap.push { cls := .type "tuple_iterator", data := .fields #[.ref l, .int 0 0] })
      (o := { cls := .type "enumerate", data := .fields #[.none, .bool false, .ref s.heap.objs.size, rawInt 0, .none, .none] }) rfl
    rw [hz] at this; exact this
  refine ⟨⟨_, he, rfl⟩, h _ he ⟨_, Heap.get?_push_of_some _ (Heap.get?_push_size _ rfl), rfl, rfl⟩ (by rw [Heap.size_push, hz]) fun b o x => Heap.get?_push_of_some _ (Heap.get?_push_of_some _ x)⟩
end
/-- what enumerate of the tuple t yields -/
def Ite (K : PySem.W.Frag) (t : Addr) (xs : List V) : It := ⟨fun i H => i < xs.length ∧ SqT K H t xs, fun i H x H' => ∃ p v, H p = none ∧ x = .ref p ∧ xs[i]? = some v ∧ H' = upd H p (.tup [.int i, v]), fun i H => i = xs.length ∧ SqT K H t xs⟩
theorem turn_enum {P : Program} {w : World} {K : PySem.W.Frag} {elts : List Expr} {kt : Nat} {tpos : Pos} (e it t : Addr) (hei : e ≠ it) (hte : t ≠ e) (hti : t ≠ it) (xs : List V) :
    Turn P w K (.Tuple elts kt tpos) (Ite K t xs) [e, it] e (fun i h => (∃ old, IsEnum h e it i old) ∧ h.IsTupleIter it t i) where
  mem := by simp
  obj := fun i h st b hb => by
    obtain ⟨⟨old, h1⟩, o, h2, hc, hd⟩ := st
    rcases List.mem_cons.mp hb with z | z
    · subst z; exact ⟨_, h1, fun v z => by cases z⟩
    · rw [List.mem_singleton] at z
      subst z
      exact ⟨o, h2, fun v z => by rw [hd] at z; cases z⟩
  keep := fun i h h' st k => by
    obtain ⟨⟨old, h1⟩, h2⟩ := st
    exact ⟨⟨old, k e (by simp) _ h1⟩, h2.at fun o z => k it (by simp) o z⟩
  item := by
    intro X hP hw hK hc i pins s σ H E I hf st hg
    subst hP hw hK
    obtain ⟨⟨old, he⟩, hit⟩ := st
    obtain ⟨hi, hq⟩ := hg
    obtain ⟨its, rv, p, hz⟩ := I.tuple hq
    have hT : s.heap.IsTuple t its.toArray := p
    have hl := rv.length
    obtain ⟨e0, e1, e2, e3, e4, e5⟩ := hf e (by simp)
    obtain ⟨i0, i1, i2, i3, i4, i5⟩ := hf it (by simp)
    have hx : xs[i]? = some xs[i] := List.getElem?_eq_getElem hi
    refine wpAny_pyNext_enum_itemD (draws_tuple (A := X.A.in1) (I.ok.hd hc) it t hti its.toArray) he ⟨hit, hT⟩ (by rw [List.size_toArray]; omega) hei (by simp [hei, Ne.symm hte]) fun x h1 tk hPx ho hs1 hTup hsz hk => ?_
    obtain ⟨u, hu, ru⟩ := rv.get hx
    have hux : u = x := by
      have : its[i]? = some x := by simpa using hPx
      rw [hu] at this
      exact Option.some.inj this
    subst hux
    refine ⟨.ref s.heap.objs.size, rfl, wpAny_letOwnedTupleGo_enum ho fun h2 he2 sb => ?_⟩
    have hfr : H s.heap.objs.size = none := I.hok.fresh (Nat.le_refl _)
    have kk : ∀ b o, b ∉ [e, it] → s.heap.get? b = some o → h2.get? b = some o := fun b o hb z => by
      have n1 : b ≠ e := fun q => hb (by simp [q])
      have n2 : b ≠ it := fun q => hb (by simp [q])
      exact (sb.2 b n1).trans (hk b o n1 n2 z)
    have na : s.heap.objs.size ≠ e := nne' (Heap.lt_size he)
    have hnew : h2.get? s.heap.objs.size = some { cls := .type "tuple", data := .seq #[.int i tk, u] } := (sb.2 _ na).trans hTup
    have ntr : ∀ b w, H b = some w → b ∉ [e, it] := fun b w z hb => by
      rcases List.mem_cons.mp hb with q | q
      · rw [q, e0] at z; cases z
      · rw [List.mem_singleton.mp q, i0] at z; cases z
    have nal : ∀ b o, s.heap.get? b = some o → b ≠ s.heap.objs.size := fun b o z => nne (Heap.lt_size z)
    have it2 : h2.IsTupleIter it t (i + 1) := by
      obtain ⟨o, q, r⟩ := hs1.1
      exact ⟨o, (sb.2 it (Ne.symm hei)).trans q, r⟩
    refine ⟨.ref s.heap.objs.size, upd H s.heap.objs.size (.tup [.int i, xs[i]]), ?_, rfl, ⟨s.heap.objs.size, xs[i], hfr, rfl, hx, rfl⟩, ⟨⟨u, he2⟩, it2⟩, fun b hb => ?_⟩
    · show Inv X pins σ _ { s with heap := h2, gens := s.gens, drawn := s.drawn, toks := tk + 1 }
      refine I.step (g' := s.gens) (d' := s.drawn) (t' := tk + 1) (h' := h2) (ch := [e, it]) (fun b hb => ?_) (fun b o _ _ hc z _ => kk b o hc z) (fun b o _ _ hc z _ => ⟨o.slots, kk b o hc z⟩) (fun b o _ z n => by rw [upd_ne (nal b o z)]; exact n)
        (fun b o hc z => ⟨o, kk b o hc z⟩) (fun b ys z => by rw [upd_ne (ne_of_none z hfr)]; exact z) (fun b o u z => by rw [upd_ne (ne_of_none z hfr)]; exact z) (fun b ps z => ⟨#[], by rw [upd_ne (ne_of_none z hfr), z]; simp⟩) (fun m hm => ?_) (fun b w z => ?_) I.bare
      · rcases List.mem_cons.mp hb with q | q
        · subst q; exact ⟨e3, e1, e4, e5⟩
        · rw [List.mem_singleton] at q; subst q; exact ⟨i3, i1, i4, i5⟩
      · obtain ⟨o, es, ep, q, r⟩ := hm
        exact ⟨o, es, ep, kk _ o (by simp [Ne.symm e1, Ne.symm i1]) q, r⟩
      · by_cases hb : b = s.heap.objs.size
        · subst hb
          rw [upd_same] at z
          cases z
          exact ⟨by simp only [List.length_cons, List.length_nil]; rw [sizeLine_eq]; decide, [.int i tk, u], .cons ⟨tk, rfl⟩ (.cons ru .nil), _, hnew, rfl, 0, rfl⟩
        · rw [upd_ne hb] at z
          refine (I.hok b w z).stay (fun c v hc q => kk c v ?_ q) (fun c q => by rw [upd_ne (ne_of_none q hfr)]; exact q) fun c ys q => by rw [upd_ne (ne_of_none q hfr)]; exact q
          rcases hc with rfl | hc
          · exact ntr c _ z
          · exact ntr c _ hc
    · have nb : b ≠ s.heap.objs.size := by
        rcases List.mem_cons.mp hb with q | q
        · rw [q]; exact na.symm
        · rw [List.mem_singleton.mp q]
          obtain ⟨o, z, _⟩ := hit
          exact nal _ _ z
      rw [upd_ne nb]
      exact (hf b hb).1
  done := by
    intro X hP hw hK hc i pins s σ H E I hf st hg
    subst hP hw hK
    obtain ⟨⟨old, he⟩, hit⟩ := st
    obtain ⟨hi, hq⟩ := hg
    obtain ⟨its, rv, p, hz⟩ := I.tuple hq
    have hT : s.heap.IsTuple t its.toArray := p
    have hl := rv.length
    obtain ⟨i0, i1, i2, i3, i4, i5⟩ := hf it (by simp)
    have hin : i = its.toArray.size := by rw [List.size_toArray]; omega
    refine wpAny_pyNext_enum_endD (draws_tuple (A := X.A.in1) (I.ok.hd hc) it t hti its.toArray) he (hin ▸ ⟨hit, hT⟩) fun h' eb => ⟨rfl, I.turned (t' := s.toks) (fun b o hb z => eb b o hb z) i0 i1 i3 i4 i5⟩
  self := fun A i s Q E st h => by
    obtain ⟨⟨old, he⟩, _⟩ := st
    exact wpAny_pyIter_enum he h
section
variable {X : Cx} {E : XK}
def enumL (ds : List D) : List D := ds.mapIdx fun i d => .tup [.int (i : Nat), d]
def enumD : List D → HD → Out (List D × Src) := fun ds h => match ds with
  | [.tup xs] => .ok (enumL xs, []) h
  | _ => .stuck
def mIEnum (fa : MA) : MI := fun ρ h => (fa ρ h).bind enumD
end
end LS


namespace LS
open PySem PySem.Spec PyProof.Rows L2
section
variable {prog : Program} {w : World} {A : Around} {E : Value → Shared → Prop} {s : Shared}
end
section
variable {X : Cx} {E : XK} {e : Expr} {f : ME}
def rev2D : D → HD → Out D := fun x h => match x with
  | .tup [a, b] => .ok (.tup [b, a]) h
  | _ => .stuck
def mRev2 (f : ME) : ME := fun ρ h => (f ρ h).bind rev2D
end
end LS

namespace LS
open PySem PySem.Spec PyProof.Rows L2
structure CSc (X : Cx) (scope : Scope) (Nc : List Str) (cs : List (Option Nat)) : Prop where
  kind : scope.kind = .function
  loc : (scope.names.all fun y => y.2 != .local || scope.names.lookup y.1 == some .local) = true
  free : (scope.names.all fun y => y.2 != .free || (X.env.kindOf y.1 == some .cell || X.env.kindOf y.1 == some .free)) = true
  nd : (scope.names.map (·.1)).Nodup
  len : cs.length = Nc.length
  out : ((Nc.zip cs).all fun p => match p.2 with
    | none => true
    | some j => X.N[j]? == some p.1 && scope.names.lookup p.1 == some .free) = true
theorem CSc.ok {X : Cx} {scope : Scope} {Nc : List Str} {cs : List (Option Nat)} (S : CSc X scope Nc cs) : CScope X scope Nc cs := by
  refine ⟨S.kind, fun y hy e => ?_, fun y hy e => ?_, S.nd, S.len, fun i x j h1 h2 => ?_⟩
  · have := List.all_eq_true.mp S.loc y hy
    rw [e] at this
    simpa using this
  · have := List.all_eq_true.mp S.free y hy
    rw [e] at this
    simpa using this
  · have hz : (Nc.zip cs)[i]? = some (x, some j) := by
      rw [List.getElem?_zip_eq_some]
      exact ⟨h1, h2⟩
    have := List.all_eq_true.mp S.out (x, some j) (List.mem_of_getElem? hz)
    simpa using this
/-- what is asked of a def that is called -/
structure Dn (K : PySem.W.Frag) (mg : Str → Option Value) (x : Str) (ps : List Str) (st : Stmt) (f : Addr) (fd : FuncData) : Prop where
  fn : Fun K x x st f fd
  bd : Binds K fd ps []
  mg : mg x = some (.ref f)
end LS
namespace LS
open PySem PySem.Spec PyProof.Rows L2
/-- a def that may be called, by its mirror -/
structure Ca (P : Program) (w : World) (K : PySem.W.Frag) (mg : Str → Option Value) (base : Heap) (x : Str) (k : Nat) (F : List D → HD → Out D) : Prop where
  ex : ∃ (f : Addr) (fd : FuncData) (ps : List Str), FnOk P w K mg base CX0 k f fd ps (spM K F) ∧ Binds K fd ps [] ∧ mg x = some (.ref f) ∧ PySem.W.keepIn K (.ref f) = true
section
variable {X : Cx} {E : XK}
theorem ev_ca {k k' : Nat} {F : List D → HD → Out D} {fa : MA} {x : Str} {p pos : Pos} {e : Expr} {es : List Expr} (C : Ca X.prog X.w X.K X.mg X.base x k F) (hr : Room k' X.A) (ha : EvA X E0 (e :: es) fa) (hk : k ≤ k' := by decide) (hg : Gl X x := by rfl)
    (hdb : (x == ("__debug__" : Str)) = false := by decide) (he : starEach (e :: es) X.env = (false, eval e X.env) :: starEach es X.env := by rfl) (hpl : (backTo pos (starEach es X.env)).any (·.1) = false := by rfl) :
    Ev X E0 (.Call (.Name x p) (e :: es) [] pos) (mCall F fa) := by
  obtain ⟨f, fd, ps, G, hb, hm, hkp⟩ := C.ex
  exact ev_call G (hr.mono hk) hg hm hkp hb ha hdb he hpl
theorem ev_neg {a : Expr} {f : ME} {pos : Pos} (ha : Ev X E a f) : Ev X E (.UnaryOp .USub a pos) (fun ρ h => (f ρ h).bind fun x h1 => match x with
    | .int i => .ok (.int (-i)) h1
    | _ => .stuck) :=
  pe_imp (pe_un un_neg ha) fun σ H Q ⟨m, ρ, h, hr, er, p⟩ => ⟨m, ρ, h, hr, er, Post.bind p fun x h1 v m1 H1 eo p1 k1 hr1 r1 q1 => by
    clear eo
    split at q1
    · simp only [rD, DV] at r1
      subst r1
      exact ⟨_, rfl, okq hr1 q1 (by simp [DV])⟩
    · exact q1.elim⟩
def mNeg (f : ME) : ME := fun ρ h => (f ρ h).bind fun x h1 => match x with
    | .int i => .ok (.int (-i)) h1
    | _ => .stuck
theorem pair_pg {i j : Nat} {x y : Str} {px py tp : Pos} {kt : Nat} (hc : X.calm = true) (h1 : PG X (.Name x px) (gName i)) (h2 : PG X (.Name y py) (gName j)) : PG X (.Tuple [.Name x px, .Name y py] kt tp) (gTup X.K 2 (gCons (gName i) (gCons (gName j) gNil))) :=
  pg_tup hc (pgs_cons h1 (pgs_cons h2 pgs_nil))
end
end LS

namespace LS
open PySem PySem.Spec PyProof.Rows L2

def CMl (i j : Int) : Prop := CMul i j ∨ (Builtin.Int.intBits i ≤ 16777216 ∧ Builtin.Int.intBits j ≤ 16777216)
instance (i j : Int) : Decidable (CMl i j) := by unfold CMl; infer_instance
theorem CMl.ok {i j : Int} (h : CMl i j) : IntMulOk i j := by
  rcases h with h | ⟨h1, h2⟩
  · exact h.ok
  · unfold IntMulOk
    intro z
    simp only [Bool.and_eq_true, decide_eq_true_eq] at z
    have := z.2
    unfold Builtin.Int.intTooBig at this
    simp only [decide_eq_true_eq] at this
    have hb : (bitsLine : Int) = 134217728 := by first | rfl | decide
    omega
variable {X : Cx}
theorem op_mul' : OpR X (binaryOp .Mult) (rI CMl fun i j => .int (i * j)) := opI fun _ _ _ _ _ _ _ hc q => mul_int q hc.ok
def mulD' : D → D → HD → Out D
  | .int i, .int j, h => if CMl i j then .ok (.int (i * j)) h else .stuck
  | .loc l, .int k, h => match h[l]? with
    | some (.lst xs) => if -(2 ^ 63) ≤ k ∧ k < 2 ^ 63 then newL (List.replicate k.toNat xs).flatten h else .stuck
    | _ => .stuck
  | _, _, _ => .stuck
theorem mulM' : OpM X (binaryOp .Mult) mulD' := by
  refine ⟨_, op_mul'.or op_rep, fun m H h E x y v u Q hr rx ry q => ?_⟩
  unfold mulD' at q
  split at q
  · simp only [DV] at rx ry
    subst rx ry
    split at q
    · rename_i hc
      exact .inl ⟨_, _, rfl, rfl, hc, okq hr q (by simp [DV])⟩
    · exact q.elim
  · simp only [DV] at rx ry
    obtain ⟨a, rfl, ha⟩ := rx
    subst ry
    split at q
    · rename_i k _ xs e
      split at q
      · rename_i hk
        obtain ⟨vs, h1, d1⟩ := hr.cells _ _ a e ha
        obtain ⟨z, q'⟩ := post_newL hr (d1.rep k.toNat) q
        refine .inr ⟨a, k, vs, rfl, rfl, h1, hk.1, hk.2, ?_, q'⟩
        rw [len_rep] at z
        rw [Nat.mul_comm]; exact z
      · exact q.elim
    · exact q.elim
  · exact q.elim
end LS

namespace Att
open PySem PySem.W PySem.Calls PyProof.Rows
theorem bits_items {ns : List Int} (h : WData.layable (.list (ns.map WData.int)) = true) : ∀ n ∈ ns, Builtin.Int.intBits n ≤ 2 ^ 20 := by
  have hw : WData.weight (.list (ns.map WData.int)) ≤ 2 ^ 20 := (layableW_iff.mp h).2.2
  have key : ∀ (ns : List Int) (b : Nat), WData.weightAll (ns.map WData.int) ≤ b → ∀ n ∈ ns, Builtin.Int.intBits n ≤ b := by
    intro ns
    induction ns with
    | nil => intro b _ n hn; cases hn
    | cons m r ih =>
      intro b hb n hn
      have e : WData.weightAll ((m :: r).map WData.int) = Builtin.Int.intBits m + 1 + WData.weightAll (r.map WData.int) := by
        simp only [List.map_cons, WData.weightAll, WData.weight]
        rfl
      rw [e] at hb
      rcases List.mem_cons.mp hn with z | z
      · subst z; omega
      · exact ih b (by omega) n z
  exact key ns _ (by simpa only [WData.weight] using hw)
theorem attach_bits {l : OpenLaw} {n : Nat} {q : Program} {loose : List Str} {XP : (Str → Option Value) → Heap → Prop} {YP : World → Heap → Prop} {d : DefRec}
    (hn : l.most = some n) (hdf : d.params.defaults = [])
    (call : ∀ (w : World) (s₀ s₁ : Shared) (mg mb : Str → Option Value) (fa : Addr) (o : Obj) (pm cd doc : Value) (a : Addr) (vs : List Value) (ns : List Int), (∀ n ∈ ns, Builtin.Int.intBits n ≤ 2 ^ 20) →
      Ground q loose [] XP w s₀ mg mb s₁.heap → YP w s₁.heap →
      s₁.heap.get? fa = some o → o.data = .func (docDef d.name d.params d.body d.scope pm cd doc) → s₁.heap.CodeRec cd d.name → mg d.name = some (.ref fa) →
      s₁.heap.get? a = some { cls := .type "list", data := .seq vs.toArray } → IntsAre vs ns → ns.length ≤ n → s₁.gens = #[] →
      codeAny (model l.prog w) callerA (.call (.ref fa) ⟨[.ref a], []⟩) (fun r s' => r = .ok (.ret (.bool true)) ∧ OldK s₁.heap s'.heap ∧ s'.os = s₁.os ∧ AllBare s'.gens) s₁) :
    WalkO q loose XP YP l.row.toRowW d [] (fun f vs => PySem.call f vs) := by
  intro w s₀ s₁ mg mb G Y fa o pm cd doc dV kV ho hd hcd hD hmg hg args vals as hpre hlay hrd hwl hlo
  obtain rfl : dV = .none := Dflts.none hD hdf
  obtain rfl : kV = .none := Dflts.noKw hD
  obtain ⟨a, vs, ns, rfl, rfl, hobj, hints, hlen⟩ := script_of hn hpre hwl
  have hb := bits_items (layableW_arg hlay _ List.mem_cons_self)
  refine enter_call (codeAny_mono (call w s₀ s₁ mg mb fa o pm cd doc a vs ns hb G Y ho (fd_plain hd) hcd hmg hobj hints hlen hg) fun r s' hq => ?_)
  obtain ⟨rfl, h2, h3, h4⟩ := hq
  exact ⟨.inl ⟨.bool true, .bool true, [], rfl, fun _ => rfl, .bool true, post_true l _, fun _ => ⟨List.Pairwise.nil, fun _ hm => (nomatch hm)⟩⟩, h2, h3, h4⟩
end Att
namespace LS
open PySem PySem.Spec PyProof.Rows L2
theorem walk_bits {l : PySem.W.OpenLaw} {n k : Nat} {q : Program} {loose : List Str} {XP : (Str → Option Value) → Heap → Prop} {YP : World → Heap → Prop} {d : DefRec} {K : Params → PySem.W.Frag} {x : Str} {F : List D → HD → Out D}
    (hn : l.most = some n) (hn2 : n ≤ sizeLine) (hdf : d.params.defaults = []) (hr : Room k callerA)
    (hY : ∀ (w : World) (h : Heap), YP w h → (K w.params).In h)
    (Fn : ∀ (w : World) (mg : Str → Option Value) (fa : Addr) (h : Heap), (K w.params).In h → h.Ns mainGlobals mg → mg d.name = some (.ref fa) →
      ∃ fd : FuncData, (∀ (s : Shared) (u : Value), BindsTo s fd ⟨[u], []⟩ [(x, u)]) ∧
        ∀ base : Heap, (K w.params).In base → base.Ns mainGlobals mg → FnOk l.prog w (K w.params) mg base CX0 k fa fd [x] (spM (K w.params) F))
    (hF : ∀ ns : List Int, ns.length ≤ n → (∀ i ∈ ns, Builtin.Int.intBits i ≤ 2 ^ 20) → ∃ h', F [.scr ns] [] = .ok (.bl true) h') :
    PySem.W.WalkO q loose XP YP l.row.toRowW d [] (fun f vs => PySem.call f vs) := by
  refine Att.attach_bits hn hdf fun w s₀ s₁ mg mb fa o pm cd doc a vs ns hbits G Y ho hd hcd hmg hobj hints hlen hg => ?_
  have KX := hY w _ Y
  obtain ⟨fd, hb, hF'⟩ := Fn w mg fa _ KX G.T.g hmg
  refine law_call KX G.T.g G.T.b G.T.builtins G.T.nolimit hg hobj hints (Nat.le_trans hlen hn2) hr hF' hb (fun H hO hS => ?_) fun H e s' z => z
  obtain ⟨h', e⟩ := hF ns hlen hbits
  refine ⟨[], [.scr ns], [], ⟨rfl, List.nodup_nil, fun l c a e => by simp at e⟩, .cons ?_ .nil, ?_⟩
  · simp only [DV]
    refine ⟨a, rfl, ?_⟩
    rcases hS with (h1 | ⟨o, h1⟩) | h1
    · rcases hO a with z | ⟨o, u, z⟩
      · rw [h1] at z; cases z
      · rw [h1] at z; cases z
    · exact .inl ⟨o, h1⟩
    · exact .inr (.inr h1)
  · rw [e]
    intro v m' H' _ _ _ r
    simpa [rD, DV] using r
end LS


namespace LS
open PySem PySem.Spec PyProof.Rows L2
def Wp {α : Type} (o : Out α) (Q : α → HD → Prop) : Prop := match o with
  | .ok a h => Q a h
  | _ => False
section
variable {α β : Type} {o : Out α} {Q Q' : α → HD → Prop}
@[simp] theorem wp_ok (a : α) (h : HD) : Wp (.ok a h) Q = Q a h := id rfl
@[simp] theorem wp_stuck : Wp .stuck Q = False := id rfl
theorem wp_bind {k : α → HD → Out β} {Q : β → HD → Prop} : Wp (o.bind k) Q = Wp o fun a h => Wp (k a h) Q := by cases o <;> rfl
theorem Wp.mono (h : Wp o Q) (f : ∀ a h, Q a h → Q' a h) : Wp o Q' := by
  cases o with
  | ok a h' => exact f _ _ h
  | _ => exact h.elim
theorem Wp.ex (h : Wp o Q) : ∃ a h', o = .ok a h' ∧ Q a h' := by
  cases o with
  | ok a h' => exact ⟨a, h', rfl, h⟩
  | _ => exact h.elim
end
/-- all old cells as they were -/
def Sm (h h' : HD) : Prop := ∀ (l : Nat) (c : Cell), h[l]? = some c → h'[l]? = some c
theorem Sm.refl (h : HD) : Sm h h := fun _ _ e => e
theorem Sm.trans {h h1 h2 : HD} (a : Sm h h1) (b : Sm h1 h2) : Sm h h2 := fun l c e => b l c (a l c e)
theorem Sm.app (h t : HD) : Sm h (h ++ t) := fun l c e => by
  rw [List.getElem?_append_left (List.getElem?_eq_some_iff.mp e).1]; exact e
/-- nothing but new cells -/
def Pu {α : Type} (o : Out α) (h : HD) (a : α) : Prop := Wp o fun x h' => x = a ∧ Sm h h'
section
variable {α β : Type} {o : Out α} {h : HD} {a : α}
theorem Pu.wp {Q : α → HD → Prop} (p : Pu o h a) (k : ∀ h', Sm h h' → Q a h') : Wp o Q := Wp.mono p fun x h' ⟨e, s⟩ => by subst e; exact k h' s
theorem Pu.ok : Pu (.ok a h) h a := ⟨rfl, .refl _⟩
theorem Pu.bind {k : α → HD → Out β} {b : β} (p : Pu o h a) (q : ∀ h', Sm h h' → Pu (k a h') h' b) : Pu (o.bind k) h b := by
  unfold Pu
  rw [wp_bind]
  exact p.wp fun h' s => Wp.mono (q h' s) fun x h2 ⟨e, s2⟩ => ⟨e, s.trans s2⟩
theorem Pu.ahead {h0 : HD} (s : Sm h0 h) (p : Pu o h a) : Pu o h0 a := Wp.mono p fun _ _ ⟨e, s2⟩ => ⟨e, s.trans s2⟩
theorem Pu.noErr (p : Pu o h a) : Pu (noErr o) h a := by
  obtain ⟨x, h', e, q⟩ := Wp.ex p
  rw [e]; exact q
theorem Pu.eq {b : α} (p : Pu o h a) (e : a = b) : Pu o h b := e ▸ p
end
def par2 (i j : Nat) (ρ : Rho) (ds : List D) (h : HD) : Out (Fl × Rho) := match ds with
  | [x, y] => .ok (.nx, (ρ.set i (some x)).set j (some y)) h
  | _ => .stuck
def unpO (o : Option Rho) (h : HD) : Out (Fl × Rho) := match o with
  | some ρ1 => .ok (.nx, ρ1) h
  | none => .stuck
def andK (g : HD → Out D) (x : D) (h : HD) : Out D := match x with
  | .bl true => g h
  | .bl false => .ok (.bl false) h
  | _ => .stuck
def orK (g : HD → Out D) (x : D) (h : HD) : Out D := match x with
  | .bl true => .ok (.bl true) h
  | .bl false => g h
  | _ => .stuck
def notK (x : D) (h : HD) : Out D := match x with
  | .bl b => .ok (.bl (!b)) h
  | _ => .stuck
def negK (x : D) (h : HD) : Out D := match x with
  | .int i => .ok (.int (-i)) h
  | _ => .stuck
@[simp] theorem wp_par2 {i j : Nat} {ρ : Rho} {x y : D} {h : HD} {Q : Fl × Rho → HD → Prop} : Wp (par2 i j ρ [x, y] h) Q = Q (.nx, (ρ.set i (some x)).set j (some y)) h := id rfl
@[simp] theorem wp_unpO {ρ : Rho} {h : HD} {Q : Fl × Rho → HD → Prop} : Wp (unpO (some ρ) h) Q = Q (.nx, ρ) h := id rfl
@[simp] theorem andK_t {g : HD → Out D} {h : HD} : andK g (.bl true) h = g h := id rfl
@[simp] theorem andK_f {g : HD → Out D} {h : HD} : andK g (.bl false) h = .ok (.bl false) h := id rfl
@[simp] theorem orK_t {g : HD → Out D} {h : HD} : orK g (.bl true) h = .ok (.bl true) h := id rfl
@[simp] theorem orK_f {g : HD → Out D} {h : HD} : orK g (.bl false) h = g h := id rfl
@[simp] theorem notK_b {b : Bool} {h : HD} : notK (.bl b) h = .ok (.bl (!b)) h := id rfl
@[simp] theorem negK_i {i : Int} {h : HD} : negK (.int i) h = .ok (.int (-i)) h := id rfl

def kSeq (g : MS) (Q : Fl × Rho → HD → Prop) : Fl × Rho → HD → Prop
  | (.nx, ρ), h => Wp (g ρ h) Q
  | y, h => Q y h
def kBody (Q : D → HD → Prop) : Fl × Rho → HD → Prop
  | (.nx, _), h => Q .non h
  | (.rt d, _), h => Q d h
  | _, _ => False
section
variable {ρ : Rho} {h : HD} {Q : Fl × Rho → HD → Prop} {QB : D → HD → Prop} {g g1 g2 : MS} {f : ME} {t : MT}
@[simp] theorem kSeq_nx : kSeq g Q (.nx, ρ) h = Wp (g ρ h) Q := id rfl
@[simp] theorem kSeq_rt {d : D} : kSeq g Q (.rt d, ρ) h = Q (.rt d, ρ) h := id rfl
@[simp] theorem kBody_nx : kBody QB (.nx, ρ) h = QB .non h := id rfl
@[simp] theorem kBody_rt {d : D} : kBody QB (.rt d, ρ) h = QB d h := id rfl
@[simp] theorem wp_seq : Wp (mSeq g1 g2 ρ h) Q = Wp (g1 ρ h) (kSeq g2 Q) := by
  unfold mSeq
  rw [wp_bind]
  congr 1
  funext x h'
  obtain ⟨fl, ρ1⟩ := x
  cases fl <;> rfl
theorem wp_body {n : Nat} {ds : List D} : Wp (mBody n g ds h) QB = Wp (g (ds.map some ++ List.replicate (n - ds.length) none) h) (kBody QB) := by
  unfold mBody
  rw [wp_bind]
  congr 1
  funext x h'
  obtain ⟨fl, ρ1⟩ := x
  cases fl <;> rfl
@[simp] theorem wp_skip : Wp (mSkip ρ h) Q = Q (.nx, ρ) h := id rfl
@[simp] theorem wp_expr : Wp (mExpr f ρ h) Q = Wp (f ρ h) fun _ h1 => Q (.nx, ρ) h1 := by unfold mExpr; rw [wp_bind]; rfl
@[simp] theorem wp_ret : Wp (mRet f ρ h) Q = Wp (f ρ h) fun d h1 => Q (.rt d, ρ) h1 := by unfold mRet; rw [wp_bind]; rfl
@[simp] theorem wp_set {i : Nat} : Wp (mSet i f ρ h) Q = Wp (f ρ h) fun d h1 => Q (.nx, ρ.set i (some d)) h1 := by unfold mSet; rw [wp_bind]; rfl
@[simp] theorem wp_ifS : Wp (mIfS t g1 g2 ρ h) Q = Wp (t ρ h) fun b h1 => Wp (if b = true then g1 ρ h1 else g2 ρ h1) Q := by unfold mIfS; rw [wp_bind]
@[simp] theorem wp_par {i j : Nat} {fa : MA} : Wp (mPar i j fa ρ h) Q = Wp (fa ρ h) fun ds h1 => Wp (par2 i j ρ ds h1) Q := by unfold mPar; rw [wp_bind]; rfl
@[simp] theorem wp_unp {sg : MG} : Wp (mUnp sg f ρ h) Q = Wp (f ρ h) fun d h1 => Wp (unpO (sg d ρ) h1) Q := by unfold mUnp; rw [wp_bind]; rfl
@[simp] theorem wp_setIx {fo fi fv : ME} : Wp (mSetIx fo fi fv ρ h) Q = Wp (fv ρ h) fun v h1 => Wp (fo ρ h1) fun o h2 => Wp (fi ρ h2) fun i h3 => Wp (setD o i v h3 (.ok (.nx, ρ) h3)) Q := by
  unfold mSetIx; simp only [wp_bind]
end

section
variable {ρ : Rho} {h : HD} {Q : D → HD → Prop} {QB : Bool → HD → Prop} {QA : List D → HD → Prop} {f g k : ME} {t u : MT} {fa : MA} {op op' : D → D → HD → Out D} {F : List D → HD → Out D}
@[simp] theorem wp_var0 {d : D} {r : Rho} : Wp (mVar 0 (some d :: r) h) Q = Q d h := id rfl
@[simp] theorem wp_varS {i : Nat} {x : Option D} {r : Rho} : Wp (mVar (i + 1) (x :: r) h) Q = Wp (mVar i r h) Q := id rfl
@[simp] theorem wp_c {d : D} : Wp (mC d ρ h) Q = Q d h := id rfl
@[simp] theorem wp_op : Wp (mOp op f g ρ h) Q = Wp (f ρ h) fun x h1 => Wp (g ρ h1) fun y h2 => Wp (op x y h2) Q := by unfold mOp; simp only [wp_bind]
@[simp] theorem wp_call : Wp (mCall F fa ρ h) Q = Wp (fa ρ h) fun ds h1 => Wp (F ds h1) Q := by unfold mCall; rw [wp_bind]
@[simp] theorem wp_nil : Wp (mNil ρ h) QA = QA [] h := id rfl
@[simp] theorem wp_cons : Wp (mCons f fa ρ h) QA = Wp (f ρ h) fun x h1 => Wp (fa ρ h1) fun xs h2 => QA (x :: xs) h2 := by unfold mCons; simp only [wp_bind]; rfl
@[simp] theorem wp_tup : Wp (mTup fa ρ h) Q = Wp (fa ρ h) fun xs h1 => Wp (if xs.length ≤ sizeLine then .ok (.tup xs) h1 else .stuck) Q := by unfold mTup; simp only [wp_bind]
@[simp] theorem wp_lst : Wp (mLst fa ρ h) Q = Wp (fa ρ h) fun xs h1 => Wp (newL xs h1) Q := by unfold mLst; simp only [wp_bind]
@[simp] theorem wp_tb : Wp (mTb f ρ h) QB = Wp (f ρ h) fun x h1 => Wp (asB x h1) QB := by unfold mTb; rw [wp_bind]
@[simp] theorem wp_tru : Wp (mTru f ρ h) QB = Wp (f ρ h) fun x h1 => Wp (truD x h1) QB := by unfold mTru; rw [wp_bind]
@[simp] theorem wp_not : Wp (mNot t ρ h) QB = Wp (t ρ h) fun b h1 => QB (!b) h1 := by unfold mNot; rw [wp_bind]; rfl
@[simp] theorem wp_and : Wp (mAnd t u ρ h) QB = Wp (t ρ h) fun b h1 => Wp (if b = true then u ρ h1 else .ok false h1) QB := by unfold mAnd; rw [wp_bind]
@[simp] theorem wp_or : Wp (mOr t u ρ h) QB = Wp (t ρ h) fun b h1 => Wp (if b = true then .ok true h1 else u ρ h1) QB := by unfold mOr; rw [wp_bind]
@[simp] theorem wp_andV : Wp (mAndV f g ρ h) Q = Wp (f ρ h) fun x h1 => Wp (andK (g ρ) x h1) Q := by unfold mAndV; rw [wp_bind]; rfl
@[simp] theorem wp_orV : Wp (mOrV f g ρ h) Q = Wp (f ρ h) fun x h1 => Wp (orK (g ρ) x h1) Q := by unfold mOrV; rw [wp_bind]; rfl
@[simp] theorem wp_notV : Wp (mNotV f ρ h) Q = Wp (f ρ h) fun x h1 => Wp (notK x h1) Q := by unfold mNotV; rw [wp_bind]; rfl
@[simp] theorem wp_neg : Wp (mNeg f ρ h) Q = Wp (f ρ h) fun x h1 => Wp (negK x h1) Q := by unfold mNeg; rw [wp_bind]; rfl
@[simp] theorem wp_if : Wp (mIf t f g ρ h) Q = Wp (t ρ h) fun b h1 => Wp (if b = true then f ρ h1 else g ρ h1) Q := by unfold mIf; rw [wp_bind]
@[simp] theorem wp_chain : Wp (mChain op op' f g k ρ h) Q = Wp (f ρ h) fun x h1 => Wp (g ρ h1) fun y h2 => Wp (op x y h2) fun z h3 => Wp (andK (fun h => (k ρ h).bind fun w h4 => op' y w h4) z h3) Q := by unfold mChain; simp only [wp_bind]; rfl
@[simp] theorem wp_rev2 : Wp (mRev2 f ρ h) Q = Wp (f ρ h) fun x h1 => Wp (rev2D x h1) Q := by unfold mRev2; rw [wp_bind]
@[simp] theorem wp_app : Wp (mApp f g ρ h) Q = Wp (f ρ h) fun x h1 => Wp (isLst x h1) fun x h1 => Wp (g ρ h1) fun y h2 => Wp (appD x y h2) Q := by unfold mApp; simp only [wp_bind]
@[simp] theorem wp_true : Wp (mTrue ρ h) QB = QB true h := id rfl
theorem wp_newL {xs : List D} (hn : xs.length ≤ sizeLine) (q : ∀ l h', Sm h h' → h'[l]? = some (.lst xs) → l = h.length → h' = h ++ [.lst xs] → Q (.loc l) h') : Wp (newL xs h) Q := by
  unfold newL
  rw [if_pos hn]
  exact q h.length _ (.app _ _) (by simp) rfl rfl
end

section
variable {ρ : Rho} {h : HD} {QI : (List D × Src) → HD → Prop} {f : ME} {fa : MA}
@[simp] theorem wp_iseq : Wp (mISeq f ρ h) QI = Wp (f ρ h) fun d h1 => Wp (iSeqD d h1) QI := by unfold mISeq; rw [wp_bind]
@[simp] theorem wp_irng1 : Wp (mIRng1 fa ρ h) QI = Wp (fa ρ h) fun d h1 => Wp (rng1D d h1) QI := by unfold mIRng1; rw [wp_bind]
@[simp] theorem wp_irng2 : Wp (mIRng2 fa ρ h) QI = Wp (fa ρ h) fun d h1 => Wp (rng2D d h1) QI := by unfold mIRng2; rw [wp_bind]
@[simp] theorem wp_ienum : Wp (mIEnum fa ρ h) QI = Wp (fa ρ h) fun d h1 => Wp (enumD d h1) QI := by unfold mIEnum; rw [wp_bind]
theorem rng1_ok {n : Nat} (hn : n ≤ 1000) : rng1D [.int (n : Int)] h = .ok ((List.range n).map fun k => D.int ((k : Nat) : Int), []) h := by
  have : (-(2 ^ 62) : Int) ≤ (n : Int) ∧ (n : Int) < 2 ^ 62 := by omega
  unfold rng1D
  simp only
  rw [if_pos this]
  simp [rngL]
end

theorem compL_pu {α : Type} {src : Src} {items : List D} {sg : MG} {t : MT} {f : ME} {ρc : Rho} (φ : α → D) (g : α → Bool) (e : α → D) (ρ1 : α → Rho) :
    ∀ (xs : List α) (h : HD), (∀ h', Sm h h' → srcOk src items h') → (∀ x ∈ xs, sg (φ x) ρc = some (ρ1 x)) → (∀ x ∈ xs, ∀ h', Sm h h' → Pu (t (ρ1 x) h') h' (g x)) → (∀ x ∈ xs, g x = true → ∀ h', Sm h h' → Pu (f (ρ1 x) h') h' (e x)) →
      Pu (compL src items sg t f ρc (xs.map φ) h) h ((xs.filter g).map e)
  | [], h, hs, _, _, _ => by
    simp only [List.map_nil, List.filter_nil, compL]
    rw [if_pos (hs h (.refl _))]
    exact .ok
  | x :: xs, h, hs, hg, ht, hf => by
    simp only [List.map_cons, compL]
    rw [if_pos (hs h (.refl _)), hg x List.mem_cons_self]
    simp only
    refine Pu.bind (ht x List.mem_cons_self h (.refl _)).noErr fun h1 s1 => ?_
    have ih : ∀ h2, Sm h h2 → Pu (compL src items sg t f ρc (xs.map φ) h2) h2 ((xs.filter g).map e) := fun h2 s2 => compL_pu φ g e ρ1 xs h2 (fun h' s' => hs h' (s2.trans s'))
      (fun y hy => hg y (List.mem_cons_of_mem _ hy)) (fun y hy h' s' => ht y (List.mem_cons_of_mem _ hy) h' (s2.trans s')) (fun y hy gy h' s' => hf y (List.mem_cons_of_mem _ hy) gy h' (s2.trans s'))
    cases hgx : g x with
    | false =>
      rw [if_neg Bool.false_ne_true, List.filter_cons_of_neg (by simp [hgx])]
      exact ih h1 s1
    | true =>
      rw [if_pos rfl, List.filter_cons_of_pos hgx]
      refine Pu.bind (hf x List.mem_cons_self hgx h1 s1).noErr fun h2 s2 => ?_
      exact Pu.bind (ih h2 (s1.trans s2)) fun h3 _ => .ok
theorem filter_tt {α : Type} {xs : List α} : xs.filter (fun _ => true) = xs := List.filter_eq_self.mpr fun _ _ => rfl
section
variable {α : Type} {cs : List (Option Nat)} {it : MI} {sg : MG} {t : MT} {f : ME} {ρ : Rho} {h : HD} {src : Src} {xs : List α} {φ : α → D}
theorem comp_wp {Q : D → HD → Prop} (g : α → Bool) (e : α → D) (ρ1 : α → Rho) (hi : Wp (it ρ h) fun x h' => x = (xs.map φ, src) ∧ Sm h h' ∧ ∀ h2, Sm h' h2 → srcOk src (xs.map φ) h2) (hn : xs.length ≤ sizeLine)
    (hg : ∀ x ∈ xs, sg (φ x) (cRho cs ρ) = some (ρ1 x)) (ht : ∀ x ∈ xs, ∀ h', Sm h h' → Pu (t (ρ1 x) h') h' (g x)) (hf : ∀ x ∈ xs, g x = true → ∀ h', Sm h h' → Pu (f (ρ1 x) h') h' (e x))
    (q : ∀ l h', Sm h h' → h'[l]? = some (.lst ((xs.filter g).map e)) → Q (.loc l) h') : Wp (mComp cs it sg t f ρ h) Q := by
  unfold mComp
  rw [wp_bind]
  refine Wp.mono hi fun x h1 ⟨ex, s1, hs⟩ => ?_
  subst ex
  rw [if_pos (by simpa using hn), wp_bind]
  refine (compL_pu φ g e ρ1 xs h1 hs hg (fun x hx h' s' => ht x hx h' (s1.trans s')) (fun x hx gx h' s' => hf x hx gx h' (s1.trans s'))).wp fun h2 s2 => ?_
  refine wp_newL ?_ fun l h3 s3 e3 _ _ => q l h3 ((s1.trans s2).trans s3) e3
  rw [List.length_map]
  exact Nat.le_trans (List.length_filter_le _ _) hn
theorem comp_tup (g : α → Bool) (e : α → D) (ρ1 : α → Rho) (hi : Wp (it ρ h) fun x h' => x = (xs.map φ, src) ∧ Sm h h' ∧ ∀ h2, Sm h' h2 → srcOk src (xs.map φ) h2) (hn : xs.length ≤ sizeLine)
    (hg : ∀ x ∈ xs, sg (φ x) (cRho cs ρ) = some (ρ1 x)) (ht : ∀ x ∈ xs, ∀ h', Sm h h' → Pu (t (ρ1 x) h') h' (g x)) (hf : ∀ x ∈ xs, g x = true → ∀ h', Sm h h' → Pu (f (ρ1 x) h') h' (e x)) :
    Pu (mCall (ar1 tupOfD) (mCons (mComp cs it sg t f) mNil) ρ h) h (.tup ((xs.filter g).map e)) := by
  unfold Pu
  rw [wp_call, wp_cons]
  refine comp_wp g e ρ1 hi hn hg ht hf fun l h' s' e' => ?_
  rw [wp_nil]
  simp only [ar1, tupOfD, e']
  exact ⟨rfl, s'⟩
theorem comp_tup' (e : α → D) (ρ1 : α → Rho) (hi : Wp (it ρ h) fun x h' => x = (xs.map φ, src) ∧ Sm h h' ∧ ∀ h2, Sm h' h2 → srcOk src (xs.map φ) h2) (hn : xs.length ≤ sizeLine)
    (hg : ∀ x ∈ xs, sg (φ x) (cRho cs ρ) = some (ρ1 x)) (hf : ∀ x ∈ xs, ∀ h', Sm h h' → Pu (f (ρ1 x) h') h' (e x)) :
    Pu (mCall (ar1 tupOfD) (mCons (mComp cs it sg mTrue f) mNil) ρ h) h (.tup (xs.map e)) := by
  have := comp_tup (t := mTrue) (f := f) (fun _ => true) e ρ1 hi hn hg (fun x hx h' s' => (.ok : Pu (.ok true h') h' true)) (fun x hx _ h' s' => hf x hx h' s')
  rw [filter_tt] at this
  exact this
theorem allSome_map {β γ : Type} {f : β → Option γ} {g : β → γ} : ∀ {xs : List β}, (∀ x ∈ xs, f x = some (g x)) → allSome (xs.map f) = some (xs.map g)
  | [], _ => rfl
  | x :: xs, hf => by
    simp only [List.map_cons, hf x List.mem_cons_self, allSome, allSome_map (fun y hy => hf y (List.mem_cons_of_mem _ hy)), Option.map_some]
theorem comp_all (b : α → Bool) (ρ1 : α → Rho) (hi : Wp (it ρ h) fun x h' => x = (xs.map φ, src) ∧ Sm h h' ∧ ∀ h2, Sm h' h2 → srcOk src (xs.map φ) h2) (hn : xs.length ≤ sizeLine)
    (hg : ∀ x ∈ xs, sg (φ x) (cRho cs ρ) = some (ρ1 x)) (hf : ∀ x ∈ xs, ∀ h', Sm h h' → Pu (f (ρ1 x) h') h' (.bl (b x))) :
    Pu (mCall (ar1 allD) (mCons (mComp cs it sg mTrue f) mNil) ρ h) h (.bl (xs.all b)) := by
  unfold Pu
  rw [wp_call, wp_cons]
  refine comp_wp (fun _ => true) (fun x => .bl (b x)) ρ1 hi hn hg (fun x hx h' s' => (.ok : Pu (.ok true h') h' true)) (fun x hx _ h' s' => hf x hx h' s') fun l h' s' e' => ?_
  rw [wp_nil]
  rw [filter_tt] at e'
  simp only [ar1, allD, e', List.map_map]
  rw [allSome_map (f := asBl ∘ fun x => D.bl (b x)) (g := b) (fun x _ => rfl)]
  refine ⟨?_, s'⟩
  simp [List.all_map]
end

def kLoop (I : Rho → HD → Prop) (Q : Fl × Rho → HD → Prop) : Fl × Rho → HD → Prop
  | (.nx, ρ), h => I ρ h
  | (.ct, ρ), h => I ρ h
  | (.bk, ρ), h => Q (.nx, ρ) h
  | (.rt d, ρ), h => Q (.rt d, ρ) h
theorem loop_wp {α : Type} {src : Src} {items : List D} {sg : MG} {body : MS} {Q : Fl × Rho → HD → Prop} (φ : α → D) (I : List α → Rho → HD → Prop) (ho : ∀ xs ρ h, I xs ρ h → srcOk src items h)
    (step : ∀ x xs ρ h, I (x :: xs) ρ h → ∃ ρ1, sg (φ x) ρ = some ρ1 ∧ Wp (body ρ1 h) (kLoop (I xs) Q)) (done : ∀ ρ h, I [] ρ h → Q (.nx, ρ) h) : ∀ (xs : List α) (ρ : Rho) (h : HD), I xs ρ h → Wp (loopM src items sg body (xs.map φ) ρ h) Q
  | [], ρ, h, i => by
    simp only [List.map_nil, loopM]
    rw [if_pos (ho _ _ _ i)]
    exact done ρ h i
  | x :: xs, ρ, h, i => by
    simp only [List.map_cons, loopM]
    rw [if_pos (ho _ _ _ i)]
    obtain ⟨ρ1, e, w⟩ := step x xs ρ h i
    rw [e]
    simp only
    rw [wp_bind]
    refine Wp.mono w fun y h' k => ?_
    obtain ⟨fl, ρ2⟩ := y
    cases fl with
    | nx => exact loop_wp φ I ho step done xs ρ2 h' k
    | ct => exact loop_wp φ I ho step done xs ρ2 h' k
    | bk => exact k
    | rt d => exact k
theorem for_wp {α : Type} {src : Src} {it : MI} {sg : MG} {body : MS} {Q : Fl × Rho → HD → Prop} {ρ : Rho} {h : HD} {xs : List α} (φ : α → D) (I : List α → Rho → HD → Prop) (hi : Wp (it ρ h) fun x h' => x = (xs.map φ, src) ∧ I xs ρ h') (ho : ∀ ys ρ h, I ys ρ h → srcOk src (xs.map φ) h)
    (step : ∀ x xs ρ h, I (x :: xs) ρ h → ∃ ρ1, sg (φ x) ρ = some ρ1 ∧ Wp (body ρ1 h) (kLoop (I xs) Q)) (done : ∀ ρ h, I [] ρ h → Q (.nx, ρ) h) : Wp (mFor it sg body ρ h) Q := by
  unfold mFor
  rw [wp_bind]
  refine Wp.mono hi fun x h1 ⟨e, i⟩ => ?_
  subst e
  exact loop_wp φ I ho step done xs ρ h1 i

/-- data without lists, as the library reads it -/
def Py (d : D) (p : PyData) : Prop := dPy [] 8 d = some p ∧ SeqAt.shaped p = true
end LS

namespace LS
open PySem PySem.Spec PyProof.Rows L2
@[simp] theorem sz0 : (0 ≤ sizeLine) = True := eq_true (Nat.zero_le _)
@[simp] theorem sz1 : (1 ≤ sizeLine) = True := eq_true (by unfold sizeLine; omega)
@[simp] theorem sz2 : (2 ≤ sizeLine) = True := eq_true (by unfold sizeLine; omega)
@[simp] theorem sz3 : (3 ≤ sizeLine) = True := eq_true (by unfold sizeLine; omega)
@[simp] theorem sz4 : (4 ≤ sizeLine) = True := eq_true (by unfold sizeLine; omega)
@[simp] theorem sz5 : (5 ≤ sizeLine) = True := eq_true (by unfold sizeLine; omega)
section
variable {h : HD} {a b c : D} {ds es : List D} {i j : Int} {F1 : D → HD → Out D} {F2 : D → D → HD → Out D} {F3 : D → D → D → HD → Out D}
@[simp] theorem ar1_ok : ar1 F1 [a] h = F1 a h := id rfl
@[simp] theorem ar2_ok : ar2 F2 [a, b] h = F2 a b h := id rfl
@[simp] theorem ar3_ok : ar3 F3 [a, b, c] h = F3 a b c h := id rfl
@[simp] theorem asB_ok {b : Bool} : asB (.bl b) h = .ok b h := id rfl
@[simp] theorem tru_bl {b : Bool} : truD (.bl b) h = .ok b h := id rfl
@[simp] theorem tru_non : truD .non h = .ok false h := id rfl
@[simp] theorem tru_int : truD (.int i) h = .ok (i != 0) h := id rfl
@[simp] theorem tru_tup : truD (.tup ds) h = .ok (!ds.isEmpty) h := id rfl
@[simp] theorem inst_ii : instD (.int i) (.ty "int") h = .ok (.bl true) h := id rfl
@[simp] theorem inst_ib : instD (.int i) (.ty "bool") h = .ok (.bl false) h := id rfl
@[simp] theorem inst_it : instD (.int i) (.ty "tuple") h = .ok (.bl false) h := id rfl
@[simp] theorem inst_tt : instD (.tup ds) (.ty "tuple") h = .ok (.bl true) h := id rfl
@[simp] theorem inst_ti : instD (.tup ds) (.ty "int") h = .ok (.bl false) h := id rfl
@[simp] theorem add_ii : addD (.int i) (.int j) h = .ok (.int (i + j)) h := id rfl
@[simp] theorem int0_ii {f : Int → Int → D} : int0D f (.int i) (.int j) h = .ok (f i j) h := id rfl
@[simp] theorem is_bb {b c : Bool} : isD (.bl b) (.bl c) h = .ok (.bl (b == c)) h := id rfl
@[simp] theorem isnot_bb {b c : Bool} : isnotD (.bl b) (.bl c) h = .ok (.bl (!(b == c))) h := id rfl
@[simp] theorem len_tup : lenD (.tup ds) h = .ok (.int ds.length) h := id rfl
@[simp] theorem len_scr {ns : List Int} : lenD (.scr ns) h = .ok (.int ns.length) h := by simp [lenD, itemsD]
@[simp] theorem iseq_tup : iSeqD (.tup ds) h = .ok (ds, []) h := id rfl
@[simp] theorem tupOf_tup : tupOfD (.tup ds) h = .ok (.tup ds) h := id rfl
@[simp] theorem rev2_ok : rev2D (.tup [a, b]) h = .ok (.tup [b, a]) h := id rfl
@[simp] theorem max_ii : maxD (.int i) (.int j) h = .ok (.int (if j > i then j else i)) h := id rfl
@[simp] theorem min_ii : minD (.int i) (.int j) h = .ok (.int (if j < i then j else i)) h := id rfl
@[simp] theorem intOf_bl {b : Bool} : intOfD (.bl b) h = .ok (.int (if b then 1 else 0)) h := id rfl
@[simp] theorem intOf_int : intOfD (.int i) h = .ok (.int i) h := id rfl
@[simp] theorem sName_ok {ρ : Rho} {k : Nat} : sName k a ρ = some (ρ.set k (some a)) := id rfl
@[simp] theorem sPair_ok {ρ : Rho} {k l : Nat} : sPair k l (.tup [a, b]) ρ = some ((ρ.set k (some a)).set l (some b)) := id rfl
@[simp] theorem eq_bb {b c : Bool} : eqD (.bl b) (.bl c) h = .ok (.bl (b == c)) h := id rfl
@[simp] theorem ne_bb {b c : Bool} : neD (.bl b) (.bl c) h = .ok (.bl (!(b == c))) h := id rfl
@[simp] theorem eq_ii : eqD (.int i) (.int j) h = .ok (.bl (i == j)) h := id rfl
@[simp] theorem ne_ii : neD (.int i) (.int j) h = .ok (.bl (!(i == j))) h := id rfl
theorem loc_tup {l : Nat} (e : h[l]? = some (.lst ds)) : tupOfD (.loc l) h = .ok (.tup ds) h := by simp only [tupOfD, e]
theorem loc_isLst {l : Nat} (e : h[l]? = some (.lst ds)) : isLst (.loc l) h = .ok (.loc l) h := by simp only [isLst, e]
theorem loc_app {l : Nat} (e : h[l]? = some (.lst ds)) (hn : ds.length < sizeLine) : appD (.loc l) a h = .ok .non (h.set l (.lst (ds ++ [a]))) := by simp only [appD, e]; rw [if_pos hn]
theorem ix_tup {k : Nat} (e : ds[k]? = some a) : ixD (.tup ds) (.int (k : Nat)) h = .ok a h := by
  have hk : k < ds.length := (List.getElem?_eq_some_iff.mp e).1
  have e1 : atI ds ((k : Nat) : Int) = some a := by
    unfold atI ixN
    rw [if_pos (by omega), if_pos (by omega)]
    simpa using e
  simp only [ixD, itemsD, e1]
theorem ix_rng {n k : Nat} {e : Nat → D} (hk : k < n) : ixD (.tup ((List.range n).map e)) (.int (k : Nat)) h = .ok (e k) h := ix_tup (by simp [List.getElem?_range, hk])
theorem ix_rng0 {n : Nat} {e : Nat → D} (hk : 0 < n) : ixD (.tup ((List.range n).map e)) (.int 0) h = .ok (e 0) h := ix_rng (k := 0) hk
@[simp] theorem ix_pair0 : ixD (.tup [a, b]) (.int 0) h = .ok a h := id rfl
@[simp] theorem ix_pair1 : ixD (.tup [a, b]) (.int 1) h = .ok b h := id rfl
theorem ix_scr {ns : List Int} {k : Nat} (e : ns[k]? = some i) : ixD (.scr ns) (.int (k : Nat)) h = .ok (.int i) h := by
  have hk : k < ns.length := (List.getElem?_eq_some_iff.mp e).1
  have e1 : atI (ns.map D.int) ((k : Nat) : Int) = some (.int i) := by
    unfold atI ixN
    rw [if_pos (by omega), if_pos (by simpa using hk)]
    simp [e]
  simp only [ixD, itemsD, e1]
theorem ix_loc {l k : Nat} (el : h[l]? = some (.lst ds)) (e : ds[k]? = some a) : ixD (.loc l) (.int (k : Nat)) h = .ok a h := by
  have hk : k < ds.length := (List.getElem?_eq_some_iff.mp e).1
  have e1 : atI ds ((k : Nat) : Int) = some a := by
    unfold atI ixN
    rw [if_pos (by omega), if_pos (by omega)]
    simpa using e
  simp only [ixD, itemsD, el, e1]
theorem set_loc {l k : Nat} {ρ : Rho} (el : h[l]? = some (.lst ds)) (hk : k < ds.length) : setD (.loc l) (.int (k : Nat)) a h (.ok (.nx, ρ) h) = .ok (.nx, ρ) (h.set l (.lst (ds.set k a))) := by
  have : ixN ds.length ((k : Nat) : Int) = some k := by
    unfold ixN
    rw [if_pos (by omega), if_pos (by omega)]
    simp
  simp only [setD, el, this]
theorem in_ints {neg : Bool} {k : Nat} {ks : List Nat} : inD neg (.int (k : Nat)) (.tup (ks.map fun i => .int ((i : Nat) : Int))) h = .ok (.bl (if neg then !ks.contains k else ks.contains k)) h := by
  have e : allSome ((ks.map fun i => D.int ((i : Nat) : Int)).map flatD) = some (ks.map fun i => V.int ((i : Nat) : Int)) := by
    rw [List.map_map]
    exact allSome_map (f := flatD ∘ fun i => D.int ((i : Nat) : Int)) (fun x _ => rfl)
  have e2 : inV (V.int ((k : Nat) : Int)) (ks.map fun i => V.int ((i : Nat) : Int)) = ks.contains k := by
    unfold inV
    rw [List.any_map, List.contains_eq_any_beq]
    congr 1
    funext i
    simp only [Function.comp, eqV]
    rw [Bool.eq_iff_iff]
    simp
    omega
  simp only [inD, itemsD, e, flatD, e2]
end

noncomputable def xTup (cs : List (Option Nat)) (it : MI) (sg : MG) (t : MT) (f : ME) : ME := mCall (ar1 tupOfD) (mCons (mComp cs it sg t f) mNil)
noncomputable def xAll (cs : List (Option Nat)) (it : MI) (sg : MG) (t : MT) (f : ME) : ME := mCall (ar1 allD) (mCons (mComp cs it sg t f) mNil)
section
variable {α : Type} {cs : List (Option Nat)} {it : MI} {sg : MG} {t : MT} {f : ME} {ρ : Rho} {h : HD} {src : Src} {xs : List α} {φ : α → D}
@[simp] theorem xTup_fold : mCall (ar1 tupOfD) (mCons (mComp cs it sg t f) mNil) ρ h = xTup cs it sg t f ρ h := id rfl
@[simp] theorem xAll_fold : mCall (ar1 allD) (mCons (mComp cs it sg t f) mNil) ρ h = xAll cs it sg t f ρ h := id rfl
/-- what is walked, with nothing changed -/
def It0 (o : Out (List D × Src)) (h : HD) (ds : List D) (src : Src) : Prop := Wp o fun x h' => x = (ds, src) ∧ Sm h h' ∧ ∀ h2, Sm h' h2 → srcOk src ds h2
theorem p_xTup (g : α → Bool) (e : α → D) (ρ1 : α → Rho) (hi : It0 (it ρ h) h (xs.map φ) src) (hg : ∀ x ∈ xs, sg (φ x) (cRho cs ρ) = some (ρ1 x)) (ht : ∀ x ∈ xs, ∀ h', Sm h h' → Pu (t (ρ1 x) h') h' (g x)) (hf : ∀ x ∈ xs, g x = true → ∀ h', Sm h h' → Pu (f (ρ1 x) h') h' (e x)) (hn : xs.length ≤ sizeLine) :
    Pu (xTup cs it sg t f ρ h) h (.tup ((xs.filter g).map e)) := comp_tup g e ρ1 hi hn hg ht hf
theorem p_xTup' (e : α → D) (ρ1 : α → Rho) (hi : It0 (it ρ h) h (xs.map φ) src) (hg : ∀ x ∈ xs, sg (φ x) (cRho cs ρ) = some (ρ1 x)) (hf : ∀ x ∈ xs, ∀ h', Sm h h' → Pu (f (ρ1 x) h') h' (e x)) (hn : xs.length ≤ sizeLine) :
    Pu (xTup cs it sg mTrue f ρ h) h (.tup (xs.map e)) := comp_tup' e ρ1 hi hn hg hf
theorem p_xAll (b : α → Bool) (ρ1 : α → Rho) (hi : It0 (it ρ h) h (xs.map φ) src) (hg : ∀ x ∈ xs, sg (φ x) (cRho cs ρ) = some (ρ1 x)) (hf : ∀ x ∈ xs, ∀ h', Sm h h' → Pu (f (ρ1 x) h') h' (.bl (b x))) (hn : xs.length ≤ sizeLine) :
    Pu (xAll cs it sg mTrue f ρ h) h (.bl (xs.all b)) := comp_all b ρ1 hi hn hg hf
theorem it0_tup {ds : List D} : It0 (mISeq (mVar 0) (some (.tup ds) :: ρ) h) h ds [] := by
  simp [It0, Sm.refl, srcOk]
end
theorem sum_ints {α : Type} {xs : List α} {n : α → Int} {h : HD} : sumD (.tup (xs.map fun x => .int (n x))) h = .ok (.int (xs.map n).sum) h := by
  simp only [sumD, itemsD, List.map_map]
  rw [allSome_map (f := asInt ∘ fun x => D.int (n x)) (g := n) (fun x _ => rfl)]
end LS

namespace LS
open PySem PySem.Spec PyProof.Rows L2
section
variable {h : HD} {i j : Int}
theorem mul_r (h1 : -18446744073709551616 < j) (h2 : j < 18446744073709551616) : mulD' (.int i) (.int j) h = .ok (.int (i * j)) h := by
  have : CMl i j := .inl (.inr ⟨by omega, by omega⟩)
  simp only [mulD']; rw [if_pos this]
theorem mul_l (h1 : -18446744073709551616 < i) (h2 : i < 18446744073709551616) : mulD' (.int i) (.int j) h = .ok (.int (i * j)) h := by
  have : CMl i j := .inl (.inl ⟨by omega, by omega⟩)
  simp only [mulD']; rw [if_pos this]
theorem mul_b (h1 : Builtin.Int.intBits i ≤ 16777216) (h2 : Builtin.Int.intBits j ≤ 16777216) : mulD' (.int i) (.int j) h = .ok (.int (i * j)) h := by
  have : CMl i j := .inr ⟨h1, h2⟩
  simp only [mulD']; rw [if_pos this]
theorem mod_p (h1 : 0 < j) : modD (.int i) (.int j) h = .ok (.int (i % j)) h := by
  simp only [modD, intD]; rw [if_pos h1]
theorem fdiv_p (h1 : 0 < j) (h2 : j < 18446744073709551616) : fdivD' (.int i) (.int j) h = .ok (.int (i / j)) h := by
  have : CDv i j := ⟨h1, h2⟩
  simp only [fdivD', intD]; rw [if_pos this]
theorem divmod_p (h1 : 0 < j) (h2 : j < 18446744073709551616) : divmodD (.int i) (.int j) h = .ok (.tup [.int (i / j), .int (i % j)]) h := by
  have : CDv i j := ⟨h1, h2⟩
  simp only [divmodD]; rw [if_pos this]
end
theorem wp_noErr {α : Type} {o : Out α} {Q : α → HD → Prop} : Wp (noErr o) Q = Wp o Q := by cases o <;> rfl
/-- a comprehension over numbers, with what stays about the heap -/
theorem compN_wp {src : Src} {items : List D} {sg : MG} {t : MT} {f : ME} {ρc : Rho} (φ : Nat → D) (I : HD → Prop) (T : Nat → Bool → Prop) (R : Nat → D → Prop) (ρ1 : Nat → Rho) (hs : ∀ h, I h → srcOk src items h) :
    ∀ (xs : List Nat) (h : HD), xs.Nodup → I h → (∀ x ∈ xs, sg (φ x) ρc = some (ρ1 x)) → (∀ x ∈ xs, ∀ h, I h → Wp (t (ρ1 x) h) fun b h1 => T x b ∧ if b = true then Wp (f (ρ1 x) h1) (fun y h2 => I h2 ∧ R x y) else I h1) →
      Wp (compL src items sg t f ρc (xs.map φ) h) fun ys h' => I h' ∧ ∃ (g : Nat → Bool) (e : Nat → D), ys = (xs.filter g).map e ∧ (∀ x ∈ xs, g x = true → R x (e x)) ∧ ∀ x ∈ xs, T x (g x)
  | [], h, _, i, _, _ => by
    simp only [List.map_nil, compL]
    rw [if_pos (hs h i)]
    exact ⟨i, fun _ => true, fun _ => .non, rfl, by simp, by simp⟩
  | x :: xs, h, hd, i, hg, ht => by
    simp only [List.map_cons, compL]
    rw [if_pos (hs h i), hg x List.mem_cons_self]
    simp only
    rw [wp_bind, wp_noErr]
    rw [List.nodup_cons] at hd
    refine Wp.mono (ht x List.mem_cons_self h i) fun b h1 ⟨tb, w⟩ => ?_
    have ih : ∀ h2, I h2 → _ := fun h2 i2 => compN_wp φ I T R ρ1 hs xs h2 hd.2 i2 (fun y hy => hg y (List.mem_cons_of_mem _ hy)) (fun y hy => ht y (List.mem_cons_of_mem _ hy))
    cases b with
    | false =>
      rw [if_neg Bool.false_ne_true] at w ⊢
      refine Wp.mono (ih h1 w) fun ys h' ⟨i', g, e, ey, hr, tr⟩ => ⟨i', fun y => if y = x then false else g y, e, ?_, ?_, ?_⟩
      · rw [List.filter_cons_of_neg (by simp), ey]
        congr 1
        refine List.filter_congr fun y hy => ?_
        rw [if_neg]
        intro z; subst z; exact hd.1 hy
      · intro y hy gy
        rcases List.mem_cons.mp hy with z | z
        · subst z; simp at gy
        · refine hr y z ?_
          by_cases hz : y = x
          · subst hz; exact absurd z hd.1
          · simpa [hz] using gy
      · intro y hy
        by_cases hz : y = x
        · subst hz; simpa using tb
        · simp only [if_neg hz]
          exact tr y (by rcases List.mem_cons.mp hy with z | z; exact absurd z hz; exact z)
    | true =>
      rw [if_pos rfl] at w ⊢
      rw [wp_bind, wp_noErr]
      refine Wp.mono w fun y h2 ⟨i2, ry⟩ => ?_
      rw [wp_bind]
      refine Wp.mono (ih h2 i2) fun ys h' ⟨i', g, e, ey, hr, tr⟩ => ⟨i', fun z => if z = x then true else g z, fun z => if z = x then y else e z, ?_, ?_, ?_⟩
      · rw [List.filter_cons_of_pos (by simp), List.map_cons, if_pos rfl, ey]
        congr 1
        rw [show xs.filter (fun z => if z = x then true else g z) = xs.filter g from List.filter_congr fun z hz => by
          rw [if_neg]
          intro q; subst q; exact hd.1 hz]
        refine List.map_congr_left fun z hz => ?_
        rw [if_neg]
        intro q; subst q; exact hd.1 (List.mem_filter.mp hz).1
      · intro z hz gz
        by_cases q : z = x
        · subst q; simpa using ry
        · rcases List.mem_cons.mp hz with w | w
          · exact absurd w q
          · simp only [if_neg q] at gz ⊢
            exact hr z w gz
      · intro z hz
        by_cases q : z = x
        · subst q; simpa using tb
        · simp only [if_neg q]
          exact tr z (by rcases List.mem_cons.mp hz with w | w; exact absurd w q; exact w)
theorem compN_tup {cs : List (Option Nat)} {it : MI} {sg : MG} {t : MT} {f : ME} {ρ : Rho} {h : HD} {src : Src} {xs : List Nat} {Q : D → HD → Prop} (φ : Nat → D) (I : HD → Prop) (T : Nat → Bool → Prop) (R : Nat → D → Prop) (ρ1 : Nat → Rho) (hi : Wp (it ρ h) fun x h' => x = (xs.map φ, src) ∧ I h') (hs : ∀ h, I h → srcOk src (xs.map φ) h)
    (hnew : ∀ h c, I h → I (h ++ [c])) (hd : xs.Nodup) (hn : xs.length ≤ sizeLine) (hg : ∀ x ∈ xs, sg (φ x) (cRho cs ρ) = some (ρ1 x)) (ht : ∀ x ∈ xs, ∀ h, I h → Wp (t (ρ1 x) h) fun b h1 => T x b ∧ if b = true then Wp (f (ρ1 x) h1) (fun y h2 => I h2 ∧ R x y) else I h1)
    (q : ∀ h' (g : Nat → Bool) (e : Nat → D), I h' → (∀ x ∈ xs, g x = true → R x (e x)) → (∀ x ∈ xs, T x (g x)) → Q (.tup ((xs.filter g).map e)) h') : Wp (xTup cs it sg t f ρ h) Q := by
  unfold xTup
  rw [wp_call, wp_cons]
  unfold mComp
  rw [wp_bind]
  refine Wp.mono hi fun x h1 ⟨ex, i1⟩ => ?_
  subst ex
  rw [if_pos (by simpa using hn), wp_bind]
  refine Wp.mono (compN_wp φ I T R ρ1 hs xs h1 hd i1 hg ht) fun ys h2 ⟨i2, g, e, ey, hr, tr⟩ => ?_
  subst ey
  refine wp_newL ?_ fun l h3 s3 e3 _ eh => ?_
  · rw [List.length_map]
    exact Nat.le_trans (List.length_filter_le _ _) hn
  · rw [wp_nil]
    simp only [ar1, tupOfD, e3]
    refine q h3 g e ?_ hr tr
    rw [eh]
    exact hnew _ _ i2

theorem lay_map {α : Type} {g : α → PyData} : ∀ {xs : List α}, (∀ x ∈ xs, (g x).canLay0 = true) → PyData.canLayAll0 (xs.map g) = true
  | [], _ => rfl
  | x :: xs, hx => by
    rw [List.map_cons, PyData.canLayAll0, hx x List.mem_cons_self, lay_map fun y hy => hx y (List.mem_cons_of_mem _ hy)]; rfl
theorem depth_map {α : Type} {g : α → PyData} {n : Nat} : ∀ {xs : List α}, (∀ x ∈ xs, (g x).depth ≤ n) → PyData.depthAll (xs.map g) ≤ n
  | [], _ => Nat.zero_le _
  | x :: xs, hx => by
    rw [List.map_cons, PyData.depthAll]
    exact Nat.max_le.mpr ⟨hx x List.mem_cons_self, depth_map fun y hy => hx y (List.mem_cons_of_mem _ hy)⟩
/-- data of a depth, as the library reads it -/
structure PyN (n : Nat) (d : D) (p : PyData) : Prop where
  rd : ∀ k, n ≤ k → dPy [] k d = some p
  ly : p.canLay0 = true
  dp : p.depth ≤ n
theorem PyN.py {n : Nat} {d : D} {p : PyData} (h : PyN n d p) (hn : n ≤ 8) : Py d p := ⟨h.rd 8 hn, by
  unfold SeqAt.shaped
  rw [h.ly]
  have := h.dp
  simp
  omega⟩
theorem PyN.mono {n m : Nat} {d : D} {p : PyData} (h : PyN n d p) (hm : n ≤ m) : PyN m d p := ⟨fun k hk => h.rd k (Nat.le_trans hm hk), h.ly, Nat.le_trans h.dp hm⟩
end LS


namespace LS
open PySem PySem.Spec PyProof.Rows L2
section
variable {X : Cx} {E : XK}
abbrev MO := Rho → HD → Out (Option Int)
abbrev EvO (X : Cx) (E : XK) (e : Option Expr) (f : MO) : Prop := PO X e (tM X.K (fun _ _ a b => a = b) E f)
def mNoPart : MO := fun _ h => .ok none h
def mPart (f : ME) : MO := fun ρ h => (f ρ h).bind fun x h1 => match x with
  | .int i => .ok (some i) h1
  | _ => .stuck
theorem po_imp {e : Option Expr} {t t' : TO} (h : PO X e t) (i : ∀ σ H Q, t' σ H Q → t σ H Q) : PO X e t' := fun pins s σ H Q I q => h pins s σ H Q I (i σ H Q q)
theorem evO_none : EvO X E none mNoPart := po_imp po_none fun σ H Q ⟨m, ρ, h, hr, er, p⟩ => p none m H (List.prefix_refl _) (.refl _) hr rfl
theorem evO_some {e : Expr} {f : ME} (he : Ev X E e f) : EvO X E (some e) (mPart f) := po_imp (po_some he) fun σ H Q ⟨m, ρ, h, hr, er, p⟩ => ⟨m, ρ, h, hr, er, Post.bind p fun x h1 v m1 H1 eo p1 k1 hr1 r1 q1 => by
  clear eo
  split at q1
  · rename_i i
    simp only [rD, DV] at r1
    exact ⟨i, r1, q1 (some i) m1 H1 (List.prefix_refl _) (.refl _) hr1 rfl⟩
  · exact q1.elim⟩
def cutD (xs : List D) (lo hi : Option Int) : List D := (xs.drop (HT.sIx xs.length 0 lo)).take (HT.sIx xs.length xs.length hi - HT.sIx xs.length 0 lo)
def slD (x : D) (lo hi : Option Int) (h : HD) : Out D := match x with
  | .tup xs => if HT.sIx xs.length 0 lo = 0 ∧ HT.sIx xs.length xs.length hi = xs.length then .stuck else .ok (.tup (cutD xs lo hi)) h
  | .loc l => match h[l]? with
    | some (.lst xs) => if xs.length ≤ sizeLine then newL (cutD xs lo hi) h else .stuck
    | none => .stuck
  | _ => .stuck
def mSlice (f : ME) (lo hi : MO) : ME := fun ρ h => (f ρ h).bind fun x h1 => (lo ρ h1).bind fun l h2 => (hi ρ h2).bind fun u h3 => slD x l u h3
theorem DVs.cut {K : PySem.W.Frag} {m : List Addr} {H : Hp} {ds : List D} {vs : List V} (r : DVs K m H ds vs) (lo hi : Option Int) : DVs K m H (cutD ds lo hi) (cutV vs lo hi) := by
  unfold cutD cutV
  rw [r.len]
  exact (r.drop _).take _
theorem ev_slice {e : Expr} {lo hi : Option Expr} {f : ME} {fl fh : MO} {p2 pos : Pos} (he : Ev X E e f) (hl : EvO X E lo fl) (hu : EvO X E hi fh) : Ev X E (.Subscript e (.Slice lo hi none p2) pos) (mSlice f fl fh) :=
  pe_imp (pe_slice (sl_tup.or sl_list) he hl hu) fun σ H Q ⟨m, ρ, h, hr, er, p⟩ => ⟨m, ρ, h, hr, er, Post.bind p fun x h1 v m1 H1 eo1 p1 k1 hr1 r1 q1 =>
    ⟨m1, ρ, h1, hr1, er.keep p1 k1, Post.bind q1 fun l h2 l' m2 H2 eo2 p2 k2 hr2 r2 q2 =>
      ⟨m2, ρ, h2, hr2, (er.keep p1 k1).keep p2 k2, Post.bind q2 fun u h3 u' m3 H3 eo3 p3 k3 hr3 r3 q3 => by
        clear eo1 eo2 eo3
        subst r2 r3
        have rx := DV.keep p3 k3 (DV.keep p2 k2 r1)
        unfold slD at q3
        split at q3
        · rename_i xs
          simp only [DV] at rx
          obtain ⟨a, vs, rfl, ha, dv⟩ := rx
          split at q3
          · exact q3.elim
          · rename_i hz
            rw [dv.len] at hz
            exact .inl ⟨a, vs, rfl, SqT.of ha, hz, post_newT hr3 (dv.cut l u) q3⟩
        · rename_i lc
          simp only [DV] at rx
          obtain ⟨a, rfl, ha⟩ := rx
          split at q3
          · rename_i xs el
            obtain ⟨vs, hv, dv⟩ := hr3.cells lc _ a el ha
            split at q3
            · exact .inr ⟨a, vs, rfl, SqL.of hv, (post_newL hr3 (dv.cut l u) q3).2⟩
            · exact q3.elim
          · exact q3.elim
        · exact q3.elim⟩⟩⟩

def augK (o i x y : D) (ρ : Rho) (h : HD) : Out (Fl × Rho) := match x, y with
  | .int a, .int b => setD o i (.int (a + b)) h (.ok (.nx, ρ) h)
  | _, _ => .stuck
def augGet (o i : D) (h : HD) : Out D := match o, i with
  | .loc l, .int n => if 0 ≤ n then (match h[l]? with
      | some (.lst ds) => (match ds[n.toNat]? with
        | some d => .ok d h
        | none => .stuck)
      | none => .stuck) else .stuck
  | _, _ => .stuck
def mAugIx (fo fi fv : ME) : MS := fun ρ h => (fo ρ h).bind fun o h1 => (fi ρ h1).bind fun i h2 => (augGet o i h2).bind fun x h3 => (fv ρ h3).bind fun y h4 => augK o i x y ρ h4
theorem get_list : PGet X (fun x y H Q => ∃ (p : Addr) (xs : List V) (i : Nat) (v : V), x = .ref p ∧ y = .int i ∧ SqL X.K H p xs ∧ xs[i]? = some v ∧ Q v H) := by
  intro pins s σ H o i ov iv Q I ro ri h
  obtain ⟨p, xs, k, z, rfl, rfl, hq, he, q⟩ := h
  cases ro
  obtain ⟨t, rfl⟩ := ri
  obtain ⟨its, r, pl, hz⟩ := I.list hq
  obtain ⟨w, ew, rw'⟩ := r.get he
  have hk : k < xs.length := (List.getElem?_eq_some_iff.mp he).1
  have hn : sizeLine ≤ 2 ^ 30 := by unfold sizeLine; omega
  exact wpAny_getItem_list pl.isList (by omega) (by omega) (by simpa using ew) ⟨z, H, I, rw', q⟩
theorem ex_augIx {o i e : Expr} {fo fi fv : ME} {tpos pos : Pos} (ho : Ev X E o fo) (hi : Ev X E i fi) (he : Ev X E e fv)
    (ha : ∀ ov iv new, augStore i ov iv new = (do holding [new, ov, iv] (setItem ov iv new); release [new, ov, iv] []; pure .next) := by intros; rfl) : Ex X E (.AugAssign (.Subscript o i tpos) .Add e pos) (mAugIx fo fi fv) :=
  ps_imp (ps_augS ho hi get_list he ip_add set_list ha) fun Dn σ H ⟨m, ρ, h, hr, er, p⟩ => ⟨m, ρ, h, hr, er, PostS.bind p fun ov h1 vo m1 H1 eo1 p1 k1 hr1 r1 q1 =>
    ⟨m1, ρ, h1, hr1, er.keep p1 k1, PostS.bind q1 fun iv h2 vi m2 H2 eo2 p2 k2 hr2 r2 q2 => by
      clear eo1 eo2
      have ro := DV.keep p2 k2 r1
      unfold augGet at q2
      split at q2
      · rename_i l n
        split at q2
        · rename_i hn
          split at q2
          · rename_i ds el
            split at q2
            · rename_i d ek
              simp only [Out.bind_ok] at q2
              obtain ⟨k, rfl⟩ : ∃ k : Nat, n = (k : Int) := ⟨n.toNat, by omega⟩
              simp only [DV] at ro
              obtain ⟨a, rfl, ha⟩ := ro
              simp only [rD, DV] at r2
              subst r2
              obtain ⟨ws, hv, dv⟩ := hr2.cells l _ a el ha
              obtain ⟨wv, ew, rw'⟩ := dv.get (by simpa using ek)
              refine ⟨a, ws, k, wv, rfl, rfl, SqL.of hv, ew, m2, ρ, h2, hr2, (er.keep p1 k1).keep p2 k2, PostS.bind q2 fun y h4 vy m4 H4 eo4 p4 k4 hr4 r4 q4 => ?_⟩
              clear eo4
              unfold augK at q4
              split at q4
              · rename_i a1 b1
                have rx := DV.keep p4 k4 rw'
                simp only [DV] at rx
                simp only [rD, DV] at r4
                subst rx r4
                refine ⟨a1, b1, rfl, rfl, ?_⟩
                unfold setD at q4
                simp only at q4
                split at q4
                · rename_i ds4 el4
                  split at q4
                  · rename_i j ej
                    have ha4 := pre_get p4 ha
                    obtain ⟨ws4, hv4, dv4⟩ := hr4.cells l _ a el4 ha4
                    refine ⟨a, ws4, k, j, rfl, rfl, hv4, by rw [← dv4.len]; exact ej, ?_⟩
                    have hr5 : HR X.K m4 (h4.set l (.lst (ds4.set j (.int (a1 + b1))))) (upd H4 a (.lst (ws4.set j (.int (a1 + b1))))) := hr4.setCell ha4 hv4 rfl ⟨_, upd_same, (dv4.set j (by simp [DV])).keep (List.prefix_refl _) (.set hv4 rfl)⟩
                    exact q4 m4 _ (List.prefix_refl _) (.set hv4 rfl) hr5 σ ((((er.keep p1 k1).keep p2 k2).keep p4 k4).keep (List.prefix_refl _) (.set hv4 rfl))
                  · exact q4.elim
                · exact q4.elim
              · exact q4.elim
            · exact q2.elim
          · exact q2.elim
        · exact q2.elim
      · exact q2.elim⟩⟩
end
end LS


namespace LS
open PySem PySem.Spec PyProof.Rows L2
theorem vals_ints : ∀ {ns : List Int} {its : List Value}, Vals (ns.map V.int) its → ∃ ys : List (Int × Tok), its = ys.map (fun p => Value.int p.1 p.2) ∧ ys.map (·.1) = ns
  | [], its, r => by cases r; exact ⟨[], rfl, rfl⟩
  | n :: ns, its, r => by
    cases r with
    | cons r1 r2 =>
      obtain ⟨t, rfl⟩ := r1
      obtain ⟨ys, rfl, e⟩ := vals_ints r2
      exact ⟨(n, t) :: ys, rfl, by simp [e]⟩
section
variable {X : Cx}
theorem call_minL (hc : X.calm = true) : CallR X (.builtin "min") (fun xs H Q => ∃ (p : Addr) (ns : List Int), xs = [.ref p] ∧ SqL X.K H p (ns.map V.int) ∧ ns ≠ [] ∧ ∀ M, M ∈ ns → (∀ a ∈ ns, M ≤ a) → Q (.int M) H) := by
  intro pins s σ H xs us Q I r h
  obtain ⟨p, ns, rfl, hs, hne, q⟩ := h
  obtain ⟨u, rfl, rx⟩ := vals1 r
  cases rx
  obtain ⟨its, rv, pl, hz⟩ := I.list hs
  obtain ⟨ys, rfl, en⟩ := vals_ints rv
  have hlen : ys.length = ns.length := by rw [← en]; simp
  have hpos : 0 < ys.length := by rw [hlen]; exact List.length_pos_iff.mpr hne
  have hl : s.heap.IsList p (intItems ys.toArray) := by
    have := pl.isList
    simpa [intItems] using this
  refine min_intList (I.ok.hd hc) hl (by simpa using hpos) fun v h' tk hv hk => ?_
  obtain ⟨t, rfl⟩ := intItems_at hv
  obtain ⟨h1, h2⟩ := argBest_lt (numAt ys.toArray) (ys.toArray.size - 1)
  have hsz : ys.toArray.size = ys.length := by simp
  have at' : ∀ j, j < ys.length → numAt ys.toArray j ∈ ns := fun j hj => by
    rw [numAt_eq]
    simp only [List.getD_eq_getElem?_getD]
    rw [← en, List.getElem?_eq_getElem (by simpa using hj)]
    simp only [Option.getD_some]
    exact List.getElem_mem _
  refine ⟨.int (numAt ys.toArray (argBest _ (ys.toArray.size - 1))), H, I.kept hk, ⟨t, rfl⟩, q _ (at' _ (by omega)) fun a ha => ?_⟩
  rw [← en] at ha
  obtain ⟨j, hj, rfl⟩ := List.getElem_of_mem ha
  have hj' : j < ys.length := by simpa using hj
  have := h2 j (by omega)
  rw [numAt_eq ys.toArray j] at this
  simpa [List.getD_eq_getElem?_getD, List.getElem?_eq_getElem hj'] using this
/-- the least, the greatest -/
def leastL : List Int → Int
  | [] => 0
  | n :: ns => ns.foldl min n
def mostL : List Int → Int
  | [] => 0
  | n :: ns => ns.foldl max n
theorem foldl_min : ∀ (ns : List Int) (n : Int), (ns.foldl min n ∈ n :: ns) ∧ ∀ a ∈ n :: ns, ns.foldl min n ≤ a
  | [], n => by simp
  | m :: ns, n => by
    obtain ⟨h1, h2⟩ := foldl_min ns (min n m)
    rw [List.foldl_cons]
    refine ⟨?_, fun a ha => ?_⟩
    · rcases List.mem_cons.mp h1 with z | z
      · rw [z]
        rcases Int.le_total n m with q | q
        · rw [Int.min_eq_left q]; simp
        · rw [Int.min_eq_right q]; simp
      · exact List.mem_cons_of_mem _ (List.mem_cons_of_mem _ z)
    · have h0 := h2 (min n m) List.mem_cons_self
      rcases List.mem_cons.mp ha with z | z
      · subst z; omega
      · rcases List.mem_cons.mp z with z | z
        · subst z; omega
        · exact h2 a (List.mem_cons_of_mem _ z)
theorem leastL_mem {ns : List Int} (h : ns ≠ []) : leastL ns ∈ ns := by
  cases ns with
  | nil => exact absurd rfl h
  | cons n ns => exact (foldl_min ns n).1
theorem leastL_le {ns : List Int} {a : Int} (h : a ∈ ns) : leastL ns ≤ a := by
  cases ns with
  | nil => cases h
  | cons n ns => exact (foldl_min ns n).2 a h
def extD (f : List Int → Int) : D → HD → Out D := fun x h => match x with
  | .loc l => match h[l]? with
    | some (.lst ds) => match allSome (ds.map asInt) with
      | some ns => if ns = [] then .stuck else .ok (.int (f ns)) h
      | none => .stuck
    | none => .stuck
  | _ => .stuck
theorem minLM (hc : X.calm = true) : CallM X (.builtin "min") (ar1 (extD leastL)) := by
  refine ⟨_, call_minL hc, fun m H h E ds vs Q hr r q => one_of r q fun d v ev rv q => ?_⟩
  unfold extD at q
  split at q
  · rename_i l
    split at q
    · rename_i ds el
      split at q
      · rename_i ns en
        split at q
        · exact q.elim
        · rename_i hne
          simp only [DV] at rv
          obtain ⟨a, rfl, ha⟩ := rv
          obtain ⟨ws, hv, dv⟩ := hr.cells l _ a el ha
          have ew := ints_back dv en
          subst ew
          refine ⟨a, ns, ev, SqL.of hv, hne, fun M h1 h2 => ?_⟩
          have : M = leastL ns := Int.le_antisymm (h2 _ (leastL_mem hne)) (leastL_le h1)
          subst this
          exact okq hr q (by simp [DV])
      · exact q.elim
    · exact q.elim
  · exact q.elim
end
end LS


namespace LS
open PySem PySem.Spec PyProof.Rows L2
/-- what enumerate of the list t yields -/
def IteL (K : PySem.W.Frag) (t : Addr) : It := ⟨fun i H => ∃ xs, SqL K H t xs ∧ i < xs.length, fun i H x H' => ∃ p v, H p = none ∧ x = .ref p ∧ (∀ xs : List V, SqL K H t xs → xs[i]? = some v) ∧ H' = upd H p (.tup [.int i, v]), fun i H => ∃ xs, SqL K H t xs ∧ i = xs.length⟩
theorem turn_enumL {P : Program} {w : World} {K : PySem.W.Frag} {elts : List Expr} {kt : Nat} {tpos : Pos} (e it t : Addr) (hei : e ≠ it) (hte : t ≠ e) (hti : t ≠ it) :
    Turn P w K (.Tuple elts kt tpos) (IteL K t) [e, it] e (fun i h => (∃ old, IsEnum h e it i old) ∧ h.IsListIter it t i) where
  mem := by simp
  obj := fun i h st b hb => by
    obtain ⟨⟨old, h1⟩, o, h2, hc, hd⟩ := st
    rcases List.mem_cons.mp hb with z | z
    · subst z; exact ⟨_, h1, fun v z => by cases z⟩
    · rw [List.mem_singleton] at z
      subst z
      exact ⟨o, h2, fun v z => by rw [hd] at z; cases z⟩
  keep := fun i h h' st k => by
    obtain ⟨⟨old, h1⟩, h2⟩ := st
    exact ⟨⟨old, k e (by simp) _ h1⟩, h2.at fun o z => k it (by simp) o z⟩
  item := by
    intro X hP hw hK hc i pins s σ H E I hf st hg
    subst hP hw hK
    obtain ⟨⟨old, he⟩, hit⟩ := st
    obtain ⟨xs, hq, hi⟩ := hg
    obtain ⟨its, rv, p, hz⟩ := I.list hq
    have hT : s.heap.IsList t its.toArray := p.isList
    have hl := rv.length
    obtain ⟨e0, e1, e2, e3, e4, e5⟩ := hf e (by simp)
    obtain ⟨i0, i1, i2, i3, i4, i5⟩ := hf it (by simp)
    have hx : xs[i]? = some xs[i] := List.getElem?_eq_getElem hi
    refine wpAny_pyNext_enum_itemD (Draws.list (A := X.A.in1) (I.ok.hd hc) it t hti its.toArray) he ⟨hit, hT⟩ (by rw [List.size_toArray]; omega) hei (by simp [hei, Ne.symm hte]) fun x h1 tk hPx ho hs1 hTup hsz hk => ?_
    obtain ⟨u, hu, ru⟩ := rv.get hx
    have hux : u = x := by
      have : its[i]? = some x := by simpa using hPx
      rw [hu] at this
      exact Option.some.inj this
    subst hux
    refine ⟨.ref s.heap.objs.size, rfl, wpAny_letOwnedTupleGo_enum ho fun h2 he2 sb => ?_⟩
    have hfr : H s.heap.objs.size = none := I.hok.fresh (Nat.le_refl _)
    have kk : ∀ b o, b ∉ [e, it] → s.heap.get? b = some o → h2.get? b = some o := fun b o hb z => by
      have n1 : b ≠ e := fun q => hb (by simp [q])
      have n2 : b ≠ it := fun q => hb (by simp [q])
      exact (sb.2 b n1).trans (hk b o n1 n2 z)
    have na : s.heap.objs.size ≠ e := nne' (Heap.lt_size he)
    have hnew : h2.get? s.heap.objs.size = some { cls := .type "tuple", data := .seq #[.int i tk, u] } := (sb.2 _ na).trans hTup
    have ntr : ∀ b w, H b = some w → b ∉ [e, it] := fun b w z hb => by
      rcases List.mem_cons.mp hb with q | q
      · rw [q, e0] at z; cases z
      · rw [List.mem_singleton.mp q, i0] at z; cases z
    have nal : ∀ b o, s.heap.get? b = some o → b ≠ s.heap.objs.size := fun b o z => nne (Heap.lt_size z)
    have it2 : h2.IsListIter it t (i + 1) := by
      obtain ⟨o, q, r⟩ := hs1.1
      exact ⟨o, (sb.2 it (Ne.symm hei)).trans q, r⟩
    refine ⟨.ref s.heap.objs.size, upd H s.heap.objs.size (.tup [.int i, xs[i]]), ?_, rfl, ⟨s.heap.objs.size, xs[i], hfr, rfl, fun ys hy => by rw [I.list_inj hy hq]; exact hx, rfl⟩, ⟨⟨u, he2⟩, it2⟩, fun b hb => ?_⟩
    · show Inv X pins σ _ { s with heap := h2, gens := s.gens, drawn := s.drawn, toks := tk + 1 }
      refine I.step (g' := s.gens) (d' := s.drawn) (t' := tk + 1) (h' := h2) (ch := [e, it]) (fun b hb => ?_) (fun b o _ _ hc z _ => kk b o hc z) (fun b o _ _ hc z _ => ⟨o.slots, kk b o hc z⟩) (fun b o _ z n => by rw [upd_ne (nal b o z)]; exact n)
        (fun b o hc z => ⟨o, kk b o hc z⟩) (fun b ys z => by rw [upd_ne (ne_of_none z hfr)]; exact z) (fun b o u z => by rw [upd_ne (ne_of_none z hfr)]; exact z) (fun b ps z => ⟨#[], by rw [upd_ne (ne_of_none z hfr), z]; simp⟩) (fun m hm => ?_) (fun b w z => ?_) I.bare
      · rcases List.mem_cons.mp hb with q | q
        · subst q; exact ⟨e3, e1, e4, e5⟩
        · rw [List.mem_singleton] at q; subst q; exact ⟨i3, i1, i4, i5⟩
      · obtain ⟨o, es, ep, q, r⟩ := hm
        exact ⟨o, es, ep, kk _ o (by simp [Ne.symm e1, Ne.symm i1]) q, r⟩
      · by_cases hb : b = s.heap.objs.size
        · subst hb
          rw [upd_same] at z
          cases z
          exact ⟨by simp only [List.length_cons, List.length_nil]; rw [sizeLine_eq]; decide, [.int i tk, u], .cons ⟨tk, rfl⟩ (.cons ru .nil), _, hnew, rfl, 0, rfl⟩
        · rw [upd_ne hb] at z
          refine (I.hok b w z).stay (fun c v hc q => kk c v ?_ q) (fun c q => by rw [upd_ne (ne_of_none q hfr)]; exact q) fun c ys q => by rw [upd_ne (ne_of_none q hfr)]; exact q
          rcases hc with rfl | hc
          · exact ntr c _ z
          · exact ntr c _ hc
    · have nb : b ≠ s.heap.objs.size := by
        rcases List.mem_cons.mp hb with q | q
        · rw [q]; exact na.symm
        · rw [List.mem_singleton.mp q]
          obtain ⟨o, z, _⟩ := hit
          exact nal _ _ z
      rw [upd_ne nb]
      exact (hf b hb).1
  done := by
    intro X hP hw hK hc i pins s σ H E I hf st hg
    subst hP hw hK
    obtain ⟨⟨old, he⟩, hit⟩ := st
    obtain ⟨xs, hq, hi⟩ := hg
    obtain ⟨its, rv, p, hz⟩ := I.list hq
    have hT : s.heap.IsList t its.toArray := p.isList
    have hl := rv.length
    obtain ⟨i0, i1, i2, i3, i4, i5⟩ := hf it (by simp)
    have hin : i = its.toArray.size := by rw [List.size_toArray]; omega
    refine wpAny_pyNext_enum_endD (Draws.list (A := X.A.in1) (I.ok.hd hc) it t hti its.toArray) he (hin ▸ ⟨hit, hT⟩) fun h' eb => ⟨rfl, I.turned (t' := s.toks) (fun b o hb z => eb b o hb z) i0 i1 i3 i4 i5⟩
  self := fun A i s Q E st h => by
    obtain ⟨⟨old, he⟩, _⟩ := st
    exact wpAny_pyIter_enum he h
section
variable {X : Cx} {E : XK}
/-- enumerate of a tuple or of a list -/
theorem pi_enumB {elts : List Expr} {kt : Nat} {tpos p pos : Pos} {a : Expr} {ta : TA} (hg : Gl X "enumerate") (hm : X.mg "enumerate" = none) (ha : PA X [a] ta) (hs : starEach [a] X.env = [(false, eval a X.env)] := by rfl) :
    PI X (.Tuple elts kt tpos) (.Call (.Name "enumerate" p) [a] [] pos) (fun σ H R => ta σ H fun vs H1 => (∃ t xs, vs = [.ref t] ∧ SqT X.K H1 t xs ∧ R (Ite X.K t xs) H1) ∨ ∃ t xs, vs = [.ref t] ∧ SqL X.K H1 t xs ∧ R (IteL X.K t) H1) := by
  intro pins s σ H R I h
  refine Call_ (ld_blt I hg hm boot_enumerate (PyProof.Rows.callWith_type1 (thn (ha pos pins s σ H _ I h) fun us s1 ⟨vs, H1, I1, r1, q1⟩ => ?_) hs rfl))
  rcases q1 with ⟨t, xs, e, hq, q⟩ | ⟨t, xs, e, hq, q⟩
  · subst e
    cases r1 with
    | cons r rr =>
      cases rr
      cases r
      obtain ⟨its, rv, p, hz⟩ := I1.tuple hq
      have hT : s1.heap.IsTuple t its.toArray := p
      have hlt : t < s1.heap.objs.size := p.lt
      refine call_enum_tuple hT fun h' he hit hsz hk => wpAny_pyIter_enum (s := { s1 with heap := h' }) he ?_
      have I2 : Inv X pins σ H1 { s1 with heap := h' } := I1.kept (t' := s1.toks) hk
      refine ⟨s1.heap.objs.size + 1, [s1.heap.objs.size + 1, s1.heap.objs.size], _, _, H1, rfl, I2, turn_enum (s1.heap.objs.size + 1) s1.heap.objs.size t (Nat.succ_ne_self _) (nne (Nat.lt_succ_of_lt hlt)) (nne hlt) xs, ⟨⟨.none, he⟩, hit⟩, fun b hb => ?_, q⟩
      rcases List.mem_cons.mp hb with z | z
      · subst z; exact I1.fpOk (Nat.le_succ _) (I1.hok.fresh (Nat.le_succ _))
      · rw [List.mem_singleton] at z; subst z; exact I1.fpOk (Nat.le_refl _) (I1.hok.fresh (Nat.le_refl _))
  · subst e
    cases r1 with
    | cons r rr =>
      cases rr
      cases r
      obtain ⟨its, rv, p, hz⟩ := I1.list hq
      have hT : s1.heap.IsList t its.toArray := p.isList
      have hlt : t < s1.heap.objs.size := by obtain ⟨_, z, _⟩ := hT; exact Heap.lt_size z
      refine call_enumerate_list hT fun h' he hit hsz hk => wpAny_pyIter_enum (s := { s1 with heap := h' }) he ?_
      have I2 : Inv X pins σ H1 { s1 with heap := h' } := I1.kept (t' := s1.toks) hk
      refine ⟨s1.heap.objs.size + 1, [s1.heap.objs.size + 1, s1.heap.objs.size], _, _, H1, rfl, I2, turn_enumL (s1.heap.objs.size + 1) s1.heap.objs.size t (Nat.succ_ne_self _) (nne (Nat.lt_succ_of_lt hlt)) (nne hlt), ⟨⟨.none, he⟩, hit⟩, fun b hb => ?_, q⟩
      rcases List.mem_cons.mp hb with z | z
      · subst z; exact I1.fpOk (Nat.le_succ _) (I1.hok.fresh (Nat.le_succ _))
      · rw [List.mem_singleton] at z; subst z; exact I1.fpOk (Nat.le_refl _) (I1.hok.fresh (Nat.le_refl _))
def enumD2 : List D → HD → Out (List D × Src) := fun ds h => match ds with
  | [.tup xs] => .ok (enumL xs, []) h
  | [.loc l] => match h[l]? with
    | some (.lst xs) => .ok (enumL xs, [(l, xs)]) h
    | none => .stuck
  | _ => .stuck
def mIEnum2 (fa : MA) : MI := fun ρ h => (fa ρ h).bind enumD2
theorem evI_enum2 {elts : List Expr} {kt : Nat} {tpos p pos : Pos} {a : Expr} {fa : MA} (hg : Gl X "enumerate") (hm : X.mg "enumerate" = none) (ha : EvA X E [a] fa) (hs : starEach [a] X.env = [(false, eval a X.env)] := by rfl) :
    EvI X E (.Tuple elts kt tpos) (.Call (.Name "enumerate" p) [a] [] pos) (mIEnum2 fa) :=
  pi_imp (pi_enumB hg hm ha hs) fun σ H R ⟨m, ρ, h, hr, er, p⟩ => ⟨m, ρ, h, hr, er, Post.bind p fun x h1 v m1 H1 eo p1 k1 hr1 r1 q1 => by
    clear eo
    unfold enumD2 at q1
    split at q1
    · rename_i xs
      simp only [rDs, DVs, DV] at r1
      obtain ⟨v, w, rfl, ⟨a, vs, rfl, ha, dv⟩, rfl⟩ := r1
      refine .inl ⟨a, vs, rfl, SqT.of ha, q1 _ m1 H1 (List.prefix_refl _) (.refl _) hr1 fun i m2 h2 H2 p2 k2 hr2 _ => ⟨fun hi => ?_, fun hi => ?_⟩⟩
      · have hi' : i < xs.length := by simpa [enumL] using hi
        refine ⟨⟨by rw [← dv.len]; exact hi', SqT.of (k2 _ _ ha rfl)⟩, fun y H3 ⟨pp, vv, hp, ey, ev, eH⟩ => ?_⟩
        subst ey eH
        have hd : xs[i]? = some xs[i] := List.getElem?_eq_getElem hi'
        obtain ⟨v2, e2, r2⟩ := dv.get hd
        rw [ev] at e2
        cases e2
        refine ⟨.new hp, hr2.new hp, .tup [.int i, xs[i]], ?_, ?_⟩
        · simp [enumL, hd]
        · simp only [DV]
          exact ⟨pp, _, rfl, upd_same, .cons (by simp [DV]) (.cons (DV.keep p2 (k2.trans (.new hp)) r2) .nil)⟩
      · exact ⟨by rw [← dv.len]; simpa [enumL] using hi, SqT.of (k2 _ _ ha rfl)⟩
    · rename_i l
      split at q1
      · rename_i xs el
        simp only [rDs, DVs, DV] at r1
        obtain ⟨v, w, rfl, ⟨a, rfl, ha⟩, rfl⟩ := r1
        obtain ⟨vs, hv, dv⟩ := hr1.cells l _ a el ha
        refine .inr ⟨a, vs, rfl, SqL.of hv, q1 _ m1 H1 (List.prefix_refl _) (.refl _) hr1 fun i m2 h2 H2 p2 k2 hr2 hsr => ?_⟩
        obtain ⟨ws, hw, dw⟩ := hr2.cells l _ a (hsr _ List.mem_cons_self) (pre_get p2 ha)
        refine ⟨fun hi => ?_, fun hi => ⟨ws, SqL.of hw, by rw [← dw.len]; simpa [enumL] using hi⟩⟩
        have hi' : i < xs.length := by simpa [enumL] using hi
        refine ⟨⟨ws, SqL.of hw, by rw [← dw.len]; exact hi'⟩, fun y H3 ⟨pp, vv, hp, ey, ev, eH⟩ => ?_⟩
        subst ey eH
        have hd : xs[i]? = some xs[i] := List.getElem?_eq_getElem hi'
        obtain ⟨v2, e2, r2⟩ := dw.get hd
        rw [ev ws (SqL.of hw)] at e2
        cases e2
        refine ⟨.new hp, hr2.new hp, .tup [.int i, xs[i]], ?_, ?_⟩
        · simp [enumL, hd]
        · simp only [DV]
          exact ⟨pp, _, rfl, upd_same, .cons (by simp [DV]) (.cons (DV.keep (List.prefix_refl _) (.new hp) r2) .nil)⟩
      · exact q1.elim
    · exact q1.elim⟩
end
end LS


namespace LS
open PySem PySem.Spec PyProof.Rows L2
/-- what must stand apart -/
structure ZAp (z TI TO p q : Addr) (f g : List Addr) : Prop where
  a1 : TI ≠ z
  a2 : TO ≠ z
  a3 : p ≠ z
  a4 : q ≠ z
  a5 : TI ≠ TO
  a6 : TI ≠ p
  a7 : TI ≠ q
  a8 : TO ≠ p
  a9 : TO ≠ q
  b1 : p ≠ q
  b2 : z ∉ f
  b3 : z ∉ g
  b4 : TO ∉ f
  b5 : TO ∉ g
  b6 : p ∉ g
  b7 : q ∉ f
section
variable {prog : Program} {w : World} {A : Around} {E : Value → Shared → Prop} {s : Shared} {z TI TO p q : Addr} {f g : List Addr} {n1 n2 k : Nat} {P1 P2 : Nat → Value → Prop} {S1 S2 : Nat → Heap → Prop} {a b : Value}
theorem zipD_next {Q : Value → Shared → Prop} (D1 : Draws prog w A p f n1 P1 S1) (D2 : Draws prog w A q g n2 P2 S2) (ap : ZAp z TI TO p q f g)
    (zz : IsZip s.heap z TI TO .none) (zi : IsPair s.heap TI (.ref p) (.ref q)) (zo : IsPair s.heap TO a b) (s1 : S1 k s.heap) (s2 : S2 k s.heap) (l1 : k < n1) (l2 : k < n2)
    (hQ : ∀ h' tk x y, P1 k x → P2 k y → IsZip h' z TI TO (rawInt s.heap.objs.size) → IsPair h' TO x y → S1 (k + 1) h' → S2 (k + 1) h' → IsPair h' s.heap.objs.size x y →
      (∀ c o, c ≠ z → c ≠ TO → c ≠ p → c ≠ q → s.heap.get? c = some o → h'.get? c = some o) → Q (.ref s.heap.objs.size) { s with heap := h', toks := tk }) :
    wpAny (model prog w) A (Builtin.«zip.__next__» ⟨[.ref z], []⟩) (fun fin s' => ∃ v, fin = .done (.ret v) ∧ Q v s') E s := by
  show wpAny _ _ (field (.ref z) 2 >>= _) _ _ _
  refine wpAny_bind (wpAny_field zz rfl (x := .bool false) rfl ?_)
  show wpAny _ _ (field (.ref z) 3 >>= _) _ _ _
  refine wpAny_bind (wpAny_field zz rfl (x := .ref TI) rfl ?_)
  refine wpAny_bind (wpAny_seqItems zi rfl ?_)
  show wpAny _ _ (Builtin.SmallTypes.ownedTupleIsFree (.ref z) >>= _) _ _ _
  refine wpAny_bind ?_
  unfold Builtin.SmallTypes.ownedTupleIsFree
  refine wpAny_bind (wpAny_field zz rfl (x := .none) rfl (wpAny_pure ?_))
  simp only [if_true]
  refine wpAny_bind (wpAny_rule ?_)
  refine wpAny_bind (wpAny_field zz rfl (x := .ref TO) rfl ?_)
  refine wpAny_bind (wpAny_setField_rec zz (by simp) fun m1 zz1 t1 => ?_)
  replace zz1 : IsZip m1 z TI TO .ellipsis := zz1
  refine wpAny_bind ?_
  simp only [List.zipIdx_cons, List.zipIdx_nil, List.forIn_cons, List.forIn_nil]
  refine wpAny_bind (wpAny_bind (wpAny_onRaise ?_))
  show wpAny _ _ (Builtin.SmallTypes.nextOf (.ref p) >>= _) _ _ _
  refine wpAny_bind (D1.item k _ _ _ l1 (D1.frame k _ _ s1 fun c hc o e => t1.extBut _ _ (fun y => ap.b2 (y ▸ hc)) e) fun x m2 tk2 px s12 t2 => wpAny_pure ?_)
  have zo2 : IsPair m2 TO a b := t2.extBut _ _ ap.a8 (t1.extBut _ _ ap.a2 zo)
  refine wpAny_bind (wpAny_seqItems zo2 rfl ?_)
  refine wpAny_bind (wpAny_updateSeq_pair zo2 fun m3 zo3 t3 => ?_)
  replace zo3 : IsPair m3 TO x b := zo3
  refine wpAny_bind (wpAny_letGo (wpAny_pure ?_))
  refine wpAny_bind (wpAny_bind (wpAny_onRaise ?_))
  show wpAny _ _ (Builtin.SmallTypes.nextOf (.ref q) >>= _) _ _ _
  have s23 : S2 k m3 := D2.frame k _ _ s2 fun c hc o e => t3.extBut _ _ (fun y => ap.b5 (y ▸ hc)) (t2.extBut _ _ (fun y => ap.b6 (y ▸ hc)) (t1.extBut _ _ (fun y => ap.b3 (y ▸ hc)) e))
  refine wpAny_bind (D2.item k _ _ _ l2 s23 fun y m4 tk4 py s24 t4 => wpAny_pure ?_)
  have zo4 : IsPair m4 TO x b := t4.extBut _ _ ap.a9 zo3
  refine wpAny_bind (wpAny_seqItems zo4 rfl ?_)
  refine wpAny_bind (wpAny_updateSeq_pair zo4 fun m5 zo5 t5 => ?_)
  replace zo5 : IsPair m5 TO x y := zo5
  refine wpAny_bind (wpAny_letGo (wpAny_pure (wpAny_pure ?_)))
  refine wpAny_bind (wpAny_seqItems zo5 rfl ?_)
  refine wpAny_bind (wpAny_newTuple ?_)
  have sz : m5.objs.size = s.heap.objs.size := by rw [t5.1, t4.1, t3.1, t2.1, t1.1]
  have zz5 : IsZip m5 z TI TO .ellipsis := t5.extBut _ _ ap.a2.symm (t4.extBut _ _ ap.a4.symm (t3.extBut _ _ ap.a2.symm (t2.extBut _ _ ap.a3.symm zz1)))
  have kp : ∀ c o, c ≠ z → c ≠ TO → c ≠ p → c ≠ q → s.heap.get? c = some o → m5.get? c = some o := fun c o c1 c2 c3 c4 e => t5.extBut _ _ c2 (t4.extBut _ _ c4 (t3.extBut _ _ c2 (t2.extBut _ _ c3 (t1.extBut _ _ c1 e))))
  have zlt : z < m5.objs.size := Heap.lt_size zz5
  show wpAny _ _ (Builtin.SmallTypes.ownedTupleHandOut (.ref z) (.ref m5.objs.size) >>= _) _ _ _
  refine wpAny_bind ?_
  unfold Builtin.SmallTypes.ownedTupleHandOut
  have zz6 : IsZip (m5.push { cls := .type "tuple", data := .seq #[x, y] }) z TI TO .ellipsis := Heap.get?_push_of_some _ zz5
  refine wpAny_bind (wpAny_setField_rec zz6 (by simp) fun m7 zz7 t7 => ?_)
  replace zz7 : IsZip m7 z TI TO (rawInt m5.objs.size) := zz7
  refine wpAny_setField_rec zz7 (by simp) fun m8 zz8 t8 => ?_
  replace zz8 : IsZip m8 z TI TO (rawInt m5.objs.size) := zz8
  have up : ∀ c o, c ≠ z → m5.get? c = some o → m8.get? c = some o := fun c o c1 e => t8.extBut _ _ c1 (t7.extBut _ _ c1 (Heap.get?_push_of_some _ e))
  have nw : IsPair m8 m5.objs.size x y := t8.extBut _ _ (Nat.ne_of_gt zlt) (t7.extBut _ _ (Nat.ne_of_gt zlt) (Heap.get?_push_size _ rfl))
  rw [sz] at zz8 nw
  refine wpAny_pure ⟨_, rfl, ?_⟩
  show Q (.ref m5.objs.size) _
  rw [sz]
  refine hQ m8 tk4 x y px py zz8 (up _ _ ap.a2 zo5) (D1.frame _ m2 m8 s12 fun c hc o e => ?_) (D2.frame _ m4 m8 s24 fun c hc o e => ?_) nw fun c o c1 c2 c3 c4 e => up c o c1 (kp c o c1 c2 c3 c4 e)
  · have n1 : c ≠ TO := fun y => ap.b4 (y ▸ hc)
    exact up c o (fun y => ap.b2 (y ▸ hc)) (t5.extBut _ _ n1 (t4.extBut _ _ (fun y => ap.b7 (y ▸ hc)) (t3.extBut _ _ n1 e)))
  · exact up c o (fun y => ap.b3 (y ▸ hc)) (t5.extBut _ _ (fun y => ap.b5 (y ▸ hc)) e)
theorem zipD_stop {Q : Fin → Shared → Prop} (D1 : Draws prog w A p f n1 P1 S1) (D2 : Draws prog w A q g n2 P2 S2) (ap : ZAp z TI TO p q f g)
    (zz : IsZip s.heap z TI TO .none) (zi : IsPair s.heap TI (.ref p) (.ref q)) (zo : IsPair s.heap TO a b) (s1 : S1 k s.heap) (s2 : S2 k s.heap) (hk : k = n1 ∨ (k < n1 ∧ k = n2))
    (hE : ∀ h' tk e, (∀ c o, c ≠ z → c ≠ TO → c ≠ p → c ≠ q → s.heap.get? c = some o → h'.get? c = some o) → (∃ o, h'.get? e = some o ∧ o.cls = .type "StopIteration") → E (.ref e) { s with heap := h', toks := tk }) :
    wpAny (model prog w) A (Builtin.«zip.__next__» ⟨[.ref z], []⟩) Q E s := by
  show wpAny _ _ (field (.ref z) 2 >>= _) _ _ _
  refine wpAny_bind (wpAny_field zz rfl (x := .bool false) rfl ?_)
  show wpAny _ _ (field (.ref z) 3 >>= _) _ _ _
  refine wpAny_bind (wpAny_field zz rfl (x := .ref TI) rfl ?_)
  refine wpAny_bind (wpAny_seqItems zi rfl ?_)
  show wpAny _ _ (Builtin.SmallTypes.ownedTupleIsFree (.ref z) >>= _) _ _ _
  refine wpAny_bind ?_
  unfold Builtin.SmallTypes.ownedTupleIsFree
  refine wpAny_bind (wpAny_field zz rfl (x := .none) rfl (wpAny_pure ?_))
  simp only [if_true]
  refine wpAny_bind (wpAny_rule ?_)
  refine wpAny_bind (wpAny_field zz rfl (x := .ref TO) rfl ?_)
  refine wpAny_bind (wpAny_setField_rec zz (by simp) fun m1 zz1 t1 => ?_)
  replace zz1 : IsZip m1 z TI TO .ellipsis := zz1
  refine wpAny_bind ?_
  simp only [List.zipIdx_cons, List.zipIdx_nil, List.forIn_cons, List.forIn_nil]
  refine wpAny_bind (wpAny_bind (wpAny_onRaise ?_))
  show wpAny _ _ (Builtin.SmallTypes.nextOf (.ref p) >>= _) _ _ _
  have s11 := D1.frame k _ m1 s1 fun c hc o e => t1.extBut _ _ (fun y => ap.b2 (y ▸ hc)) e
  rcases hk with hk | ⟨hk, hk2⟩
  · subst hk
    refine wpAny_bind (D1.done _ _ _ s11 fun m2 e t2 he => ?_)
    obtain ⟨oe, e1, e2⟩ := he
    have zz2 : IsZip m2 z TI TO .ellipsis := t2 _ _ ap.a3.symm zz1
    have ne : e ≠ z := fun y => by subst y; rw [zz2] at e1; cases e1; simp at e2
    exact wpAny_setField_rec zz2 (by simp) fun m3 _ t3 => hE m3 _ e (fun c o c1 _ c3 _ y => t3.extBut _ _ c1 (t2 _ _ c3 (t1.extBut _ _ c1 y))) ⟨oe, t3.extBut _ _ ne e1, e2⟩
  · subst hk2
    refine wpAny_bind (D1.item k _ _ _ hk s11 fun x m2 tk2 px s12 t2 => wpAny_pure ?_)
    have zo2 : IsPair m2 TO a b := t2.extBut _ _ ap.a8 (t1.extBut _ _ ap.a2 zo)
    refine wpAny_bind (wpAny_seqItems zo2 rfl ?_)
    refine wpAny_bind (wpAny_updateSeq_pair zo2 fun m3 zo3 t3 => ?_)
    refine wpAny_bind (wpAny_letGo (wpAny_pure ?_))
    refine wpAny_bind (wpAny_bind (wpAny_onRaise ?_))
    show wpAny _ _ (Builtin.SmallTypes.nextOf (.ref q) >>= _) _ _ _
    have s23 : S2 k m3 := D2.frame k _ _ s2 fun c hc o e => t3.extBut _ _ (fun y => ap.b5 (y ▸ hc)) (t2.extBut _ _ (fun y => ap.b6 (y ▸ hc)) (t1.extBut _ _ (fun y => ap.b3 (y ▸ hc)) e))
    refine wpAny_bind (D2.done _ _ _ s23 fun m4 e t4 he => ?_)
    obtain ⟨oe, e1, e2⟩ := he
    have zz4 : IsZip m4 z TI TO .ellipsis := t4 _ _ ap.a4.symm (t3.extBut _ _ ap.a2.symm (t2.extBut _ _ ap.a3.symm zz1))
    have ne : e ≠ z := fun y => by subst y; rw [zz4] at e1; cases e1; simp at e2
    exact wpAny_setField_rec zz4 (by simp) fun m5 _ t5 => hE m5 _ e (fun c o c1 c2 c3 c4 y => t5.extBut _ _ c1 (t4 _ _ c4 (t3.extBut _ _ c2 (t2.extBut _ _ c3 (t1.extBut _ _ c1 y))))) ⟨oe, t5.extBut _ _ ne e1, e2⟩
theorem nextZ_item {Q : Option Value → Shared → Prop} (D1 : Draws prog w A.in1 p f n1 P1 S1) (D2 : Draws prog w A.in1 q g n2 P2 S2) (ap : ZAp z TI TO p q f g)
    (zz : IsZip s.heap z TI TO .none) (zi : IsPair s.heap TI (.ref p) (.ref q)) (zo : IsPair s.heap TO a b) (s1 : S1 k s.heap) (s2 : S2 k s.heap) (l1 : k < n1) (l2 : k < n2)
    (hQ : ∀ h' tk x y, P1 k x → P2 k y → IsZip h' z TI TO (rawInt s.heap.objs.size) → IsPair h' TO x y → S1 (k + 1) h' → S2 (k + 1) h' → IsPair h' s.heap.objs.size x y →
      (∀ c o, c ≠ z → c ≠ TO → c ≠ p → c ≠ q → s.heap.get? c = some o → h'.get? c = some o) → Q (some (.ref s.heap.objs.size)) { s with heap := h', toks := tk }) :
    wpAny (model prog w) A (pyNext (.ref z)) Q E s := by
  have hT : s.TypeIs (.ref z) "zip" := ⟨_, zz, rfl⟩
  unfold pyNext
  exact wpAny_bind (wpAny_attempt (wpAny_callSpecial?_slot (name := Str.ofString "__next__") hT F.slot_zip_next (wpAny_call_entry F.slot_zip_next hT F.entry_zip_next
    (zipD_next D1 D2 ap zz zi zo s1 s2 l1 l2 fun h' tk x y c1 c2 c3 c4 c5 c6 c7 c8 => wpAny_pure (hQ h' tk x y c1 c2 c3 c4 c5 c6 c7 c8)) (F.args_zip_next_1 _))))
theorem nextZ_stop {Q : Option Value → Shared → Prop} (D1 : Draws prog w A.in1 p f n1 P1 S1) (D2 : Draws prog w A.in1 q g n2 P2 S2) (ap : ZAp z TI TO p q f g)
    (zz : IsZip s.heap z TI TO .none) (zi : IsPair s.heap TI (.ref p) (.ref q)) (zo : IsPair s.heap TO a b) (s1 : S1 k s.heap) (s2 : S2 k s.heap) (hk : k = n1 ∨ (k < n1 ∧ k = n2))
    (hQ : ∀ h' tk, (∀ c o, c ≠ z → c ≠ TO → c ≠ p → c ≠ q → s.heap.get? c = some o → h'.get? c = some o) → Q none { s with heap := h', toks := tk }) : wpAny (model prog w) A (pyNext (.ref z)) Q E s := by
  have hT : s.TypeIs (.ref z) "zip" := ⟨_, zz, rfl⟩
  unfold pyNext
  refine wpAny_bind (wpAny_attempt (wpAny_callSpecial?_slot (name := Str.ofString "__next__") hT F.slot_zip_next (wpAny_call_entry F.slot_zip_next hT F.entry_zip_next
    (zipD_stop D1 D2 ap zz zi zo s1 s2 hk fun h' tk e kp he => ?_) (F.args_zip_next_1 _))))
  obtain ⟨o, ho, hc⟩ := he
  refine wpAny_bind (wpAny_isInstance (T := "StopIteration") (b := true) ⟨o, ho, hc⟩ isSubtype_stop ?_)
  exact wpAny_pure (hQ _ _ kp)
end
end LS

namespace LS
open PySem PySem.Spec PyProof.Rows L2
open AutoSeq1 (wpAny_loadPart')

def ItAt : Bool → Heap → Addr → Addr → Nat → Prop
  | true, h, it, l, i => h.IsTupleIter it l i
  | false, h, it, l, i => h.IsListIter it l i
def SqA : Bool → Heap → Addr → Array Value → Prop
  | true, h, l, xs => h.IsTuple l xs
  | false, h, l, xs => h.IsList l xs
def SqK : Bool → PySem.W.Frag → Hp → Addr → List V → Prop
  | true, K, H, a, xs => SqT K H a xs
  | false, K, H, a, xs => SqL K H a xs
def iterO (k : Bool) (l : Addr) : Obj := { cls := .type (if k then "tuple_iterator" else "list_iterator"), data := .fields #[.ref l, .int 0 0] }
theorem drawsK {prog : Program} {w : World} {A : Around} (k : Bool) (hh : A.handled = none) (it l : Addr) (hne : l ≠ it) (items : Array Value) :
    Draws prog w A it [it, l] items.size (fun i v => items[i]? = some v) (fun i h => ItAt k h it l i ∧ SqA k h l items) := by
  cases k
  · exact Draws.list hh it l hne items
  · exact draws_tuple hh it l hne items
theorem ItAt.obj {k : Bool} {h : Heap} {it l : Addr} {i : Nat} (x : ItAt k h it l i) : ∃ o, h.get? it = some o ∧ ∀ v, o.data ≠ .cell v := by
  cases k
  · obtain ⟨o, e, c, d⟩ := x
    exact ⟨o, e, fun v z => by rw [d] at z; cases z⟩
  · obtain ⟨o, e, c, d⟩ := x
    exact ⟨o, e, fun v z => by rw [d] at z; cases z⟩
theorem ItAt.at {k : Bool} {h h' : Heap} {it l : Addr} {i : Nat} (x : ItAt k h it l i) (f : ∀ o, h.get? it = some o → h'.get? it = some o) : ItAt k h' it l i := by
  cases k
  · exact Heap.IsListIter.at x f
  · exact Heap.IsTupleIter.at x f
section
variable {X : Cx} {pins : List (Addr × Obj)} {σ : L2.St} {H : Hp} {s : Shared}
theorem seqK {k : Bool} {a : Addr} {xs : List V} (I : Inv X pins σ H s) (h : SqK k X.K H a xs) : ∃ its : List Value, Vals xs its ∧ SqA k s.heap a its.toArray ∧ a < s.heap.objs.size := by
  cases k
  · obtain ⟨its, r, p, _⟩ := I.list h
    have q := p.isList
    exact ⟨its, r, q, by obtain ⟨_, e, _⟩ := q; exact Heap.lt_size e⟩
  · obtain ⟨its, r, p, _⟩ := I.tuple h
    exact ⟨its, r, p, p.lt⟩
theorem injK {k : Bool} {a : Addr} {xs ys : List V} (I : Inv X pins σ H s) (h : SqK k X.K H a xs) (h' : SqK k X.K H a ys) : xs = ys := by
  cases k
  · exact I.list_inj h h'
  · exact I.tuple_inj h h'
end
/-- what zip yields -/
def Itz (K : PySem.W.Frag) (k1 k2 : Bool) (t u : Addr) : It := ⟨fun i H => ∃ xs ys, SqK k1 K H t xs ∧ SqK k2 K H u ys ∧ i < xs.length ∧ i < ys.length,
  fun i H x H' => ∃ p v v', H p = none ∧ x = .ref p ∧ (∀ xs : List V, SqK k1 K H t xs → xs[i]? = some v) ∧ (∀ ys : List V, SqK k2 K H u ys → ys[i]? = some v') ∧ H' = upd H p (.tup [v, v']),
  fun i H => ∃ xs ys, SqK k1 K H t xs ∧ SqK k2 K H u ys ∧ (i = xs.length ∨ (i < xs.length ∧ i = ys.length))⟩
theorem turn_zip {P : Program} {w : World} {K : PySem.W.Frag} {elts : List Expr} {kt : Nat} {tpos : Pos} (k1 k2 : Bool) (z TI TO p q t u : Addr) (ap : ZAp z TI TO p q [p, t] [q, u]) (n1 : t ≠ p) (n2 : u ≠ q) :
    Turn P w K (.Tuple elts kt tpos) (Itz K k1 k2 t u) [z, TI, TO, p, q] z (fun i h => IsZip h z TI TO .none ∧ IsPair h TI (.ref p) (.ref q) ∧ (∃ a b, IsPair h TO a b) ∧ ItAt k1 h p t i ∧ ItAt k2 h q u i) where
  mem := by simp
  obj := fun i h st c hc => by
    obtain ⟨zz, zi, ⟨a, b, zo⟩, x1, x2⟩ := st
    simp only [List.mem_cons, List.not_mem_nil, or_false] at hc
    rcases hc with rfl | rfl | rfl | rfl | rfl
    · exact ⟨_, zz, fun v y => by cases y⟩
    · exact ⟨_, zi, fun v y => by cases y⟩
    · exact ⟨_, zo, fun v y => by cases y⟩
    · exact x1.obj
    · exact x2.obj
  keep := fun i h h' st kp => by
    obtain ⟨zz, zi, ⟨a, b, zo⟩, x1, x2⟩ := st
    exact ⟨kp z (by simp) _ zz, kp TI (by simp) _ zi, ⟨a, b, kp TO (by simp) _ zo⟩, x1.at fun o e => kp p (by simp) o e, x2.at fun o e => kp q (by simp) o e⟩
  item := by
    intro X hP hw hK hc i pins s σ H E I hf st hg
    subst hP hw hK
    obtain ⟨zz, zi, ⟨a, b, zo⟩, x1, x2⟩ := st
    obtain ⟨xs, ys, hq1, hq2, l1, l2⟩ := hg
    obtain ⟨it1, rv1, sq1, lt1⟩ := seqK I hq1
    obtain ⟨it2, rv2, sq2, lt2⟩ := seqK I hq2
    have e1 := rv1.length
    have e2 := rv2.length
    have hh : X.A.in1.handled = none := I.ok.hd hc
    refine nextZ_item (drawsK k1 hh p t n1 it1.toArray) (drawsK k2 hh q u n2 it2.toArray) ap zz zi zo ⟨x1, sq1⟩ ⟨x2, sq2⟩ (by rw [List.size_toArray]; omega) (by rw [List.size_toArray]; omega) fun h1 tk x y px py zz1 zo1 st1 st2 nw kp => ?_
    refine ⟨.ref s.heap.objs.size, rfl, wpAny_letOwnedTupleGo_zip zz1 fun h2 zz2 sb => ?_⟩
    have hx : xs[i]? = some xs[i] := List.getElem?_eq_getElem l1
    have hy : ys[i]? = some ys[i] := List.getElem?_eq_getElem l2
    obtain ⟨u1, hu1, ru1⟩ := rv1.get hx
    obtain ⟨u2, hu2, ru2⟩ := rv2.get hy
    have hux : u1 = x := by
      have : it1[i]? = some x := by simpa using px
      rw [hu1] at this
      exact Option.some.inj this
    have huy : u2 = y := by
      have : it2[i]? = some y := by simpa using py
      rw [hu2] at this
      exact Option.some.inj this
    subst hux huy
    have hfr : H s.heap.objs.size = none := I.hok.fresh (Nat.le_refl _)
    have kk : ∀ c o, c ∉ [z, TI, TO, p, q] → s.heap.get? c = some o → h2.get? c = some o := fun c o hc e => by
      simp only [List.mem_cons, List.not_mem_nil, or_false, not_or] at hc
      exact (sb.2 c hc.1).trans (kp c o hc.1 hc.2.2.1 hc.2.2.2.1 hc.2.2.2.2 e)
    have nal : ∀ c o, s.heap.get? c = some o → c ≠ s.heap.objs.size := fun c o e => nne (Heap.lt_size e)
    have na : s.heap.objs.size ≠ z := Ne.symm (nal z _ zz)
    have hnew : h2.get? s.heap.objs.size = some { cls := .type "tuple", data := .seq #[u1, u2] } := (sb.2 _ na).trans nw
    have ntr : ∀ c o, H c = some o → c ∉ [z, TI, TO, p, q] := fun c o e hc => by
      rw [(hf c hc).1] at e; cases e
    refine ⟨.ref s.heap.objs.size, upd H s.heap.objs.size (.tup [xs[i], ys[i]]), ?_, rfl, ⟨s.heap.objs.size, xs[i], ys[i], hfr, rfl, fun zs hz => by rw [injK I hz hq1]; exact hx, fun zs hz => by rw [injK I hz hq2]; exact hy, rfl⟩,
      ⟨zz2, (sb.2 TI ap.a1).trans (kp TI _ ap.a1 ap.a5 ap.a6 ap.a7 zi), ⟨u1, u2, (sb.2 TO ap.a2).trans zo1⟩, st1.1.at fun o e => (sb.2 p ap.a3).trans e, st2.1.at fun o e => (sb.2 q ap.a4).trans e⟩, fun c hc => ?_⟩
    · show Inv X pins σ _ { s with heap := h2, gens := s.gens, drawn := s.drawn, toks := tk }
      refine I.step (g' := s.gens) (d' := s.drawn) (t' := tk) (h' := h2) (ch := [z, TI, TO, p, q]) (fun c hc => ?_) (fun c o _ _ hc e _ => kk c o hc e) (fun c o _ _ hc e _ => ⟨o.slots, kk c o hc e⟩) (fun c o _ e n => by rw [upd_ne (nal c o e)]; exact n)
        (fun c o hc e => ⟨o, kk c o hc e⟩) (fun c zs e => by rw [upd_ne (ne_of_none e hfr)]; exact e) (fun c o v e => by rw [upd_ne (ne_of_none e hfr)]; exact e) (fun c ps e => ⟨#[], by rw [upd_ne (ne_of_none e hfr), e]; simp⟩) (fun m hm => ?_) (fun c o e => ?_) I.bare
      · obtain ⟨_, c1, _, c3, c4, c5⟩ := hf c hc
        exact ⟨c3, c1, c4, c5⟩
      · obtain ⟨o, es, ep, e, r⟩ := hm
        exact ⟨o, es, ep, kk _ o (fun hc => (hf _ hc).2.1 rfl) e, r⟩
      · by_cases hb : c = s.heap.objs.size
        · subst hb
          rw [upd_same] at e
          cases e
          exact ⟨by simp only [List.length_cons, List.length_nil]; rw [sizeLine_eq]; decide, [u1, u2], .cons ru1 (.cons ru2 .nil), _, hnew, rfl, 0, rfl⟩
        · rw [upd_ne hb] at e
          refine (I.hok c o e).stay (fun d v hd e' => kk d v ?_ e') (fun d e' => by rw [upd_ne (ne_of_none e' hfr)]; exact e') fun d zs e' => by rw [upd_ne (ne_of_none e' hfr)]; exact e'
          rcases hd with rfl | hd
          · exact ntr d _ e
          · exact ntr d _ hd
    · have nc : c ≠ s.heap.objs.size := by
        simp only [List.mem_cons, List.not_mem_nil, or_false] at hc
        rcases hc with rfl | rfl | rfl | rfl | rfl
        · exact nal _ _ zz
        · exact nal _ _ zi
        · exact nal _ _ zo
        · obtain ⟨o, e, _⟩ := x1.obj; exact nal _ _ e
        · obtain ⟨o, e, _⟩ := x2.obj; exact nal _ _ e
      rw [upd_ne nc]
      exact (hf c hc).1
  done := by
    intro X hP hw hK hc i pins s σ H E I hf st hg
    subst hP hw hK
    obtain ⟨zz, zi, ⟨a, b, zo⟩, x1, x2⟩ := st
    obtain ⟨xs, ys, hq1, hq2, hl⟩ := hg
    obtain ⟨it1, rv1, sq1, lt1⟩ := seqK I hq1
    obtain ⟨it2, rv2, sq2, lt2⟩ := seqK I hq2
    have e1 := rv1.length
    have e2 := rv2.length
    have hh : X.A.in1.handled = none := I.ok.hd hc
    refine nextZ_stop (drawsK k1 hh p t n1 it1.toArray) (drawsK k2 hh q u n2 it2.toArray) ap zz zi zo ⟨x1, sq1⟩ ⟨x2, sq2⟩ (by simp only [List.size_toArray]; omega) fun h' tk kp => ⟨rfl, ?_⟩
    have kk : ∀ c o, c ∉ [z, TI, TO, p, q] → s.heap.get? c = some o → h'.get? c = some o := fun c o hc e => by
      simp only [List.mem_cons, List.not_mem_nil, or_false, not_or] at hc
      exact kp c o hc.1 hc.2.2.1 hc.2.2.2.1 hc.2.2.2.2 e
    have ntr : ∀ c o, H c = some o → c ∉ [z, TI, TO, p, q] := fun c o e hc => by
      rw [(hf c hc).1] at e; cases e
    show Inv X pins σ _ { s with heap := h', gens := s.gens, drawn := s.drawn, toks := tk }
    refine I.step (g' := s.gens) (d' := s.drawn) (t' := tk) (h' := h') (ch := [z, TI, TO, p, q]) (fun c hc => ?_) (fun c o _ _ hc e _ => kk c o hc e) (fun c o _ _ hc e _ => ⟨o.slots, kk c o hc e⟩) (fun c o _ e n => n)
      (fun c o hc e => ⟨o, kk c o hc e⟩) (fun c zs e => e) (fun c o v e => e) (fun c ps e => ⟨#[], by rw [e]; simp⟩) (fun m hm => ?_) (fun c o e => ?_) I.bare
    · obtain ⟨_, c1, _, c3, c4, c5⟩ := hf c hc
      exact ⟨c3, c1, c4, c5⟩
    · obtain ⟨o, es, ep, e, r⟩ := hm
      exact ⟨o, es, ep, kk _ o (fun hc => (hf _ hc).2.1 rfl) e, r⟩
    · refine (I.hok c o e).stay (fun d v hd e' => kk d v ?_ e') (fun d e' => e') fun d zs e' => e'
      rcases hd with rfl | hd
      · exact ntr d _ e
      · exact ntr d _ hd
  self := fun A i s Q E st h => wpAny_pyIter_zip st.1 h

abbrev zA (h : Heap) (k1 : Bool) (t : Addr) : Heap := h.push (iterO k1 t)
abbrev zB (h : Heap) (k1 k2 : Bool) (t u : Addr) : Heap := (zA h k1 t).push (iterO k2 u)
abbrev zC (h : Heap) (k1 k2 : Bool) (t u : Addr) : Heap := (zB h k1 k2 t u).push { cls := .type "tuple", data := .seq #[.ref h.objs.size, .ref (zA h k1 t).objs.size] }
abbrev zD (h : Heap) (k1 k2 : Bool) (t u : Addr) : Heap := (zC h k1 k2 t u).push { cls := .type "tuple", data := .seq #[.none, .none] }
abbrev zE (h : Heap) (k1 k2 : Bool) (t u : Addr) : Heap := (zD h k1 k2 t u).push { cls := .type "zip", data := .fields #[.none, .bool false, .bool false, .ref (zB h k1 k2 t u).objs.size, .ref (zC h k1 k2 t u).objs.size] }
theorem SqA.push {k : Bool} {h : Heap} {l : Addr} {xs : Array Value} (x : SqA k h l xs) (o : Obj) : SqA k (h.push o) l xs := by
  cases k
  · exact Heap.IsList.push x o
  · exact Heap.IsTuple.push x o
theorem iterK {prog : Program} {w : World} {A : Around} {E : Value → Shared → Prop} {s : Shared} {k : Bool} {l : Addr} {xs : Array Value} {Q : Value → Shared → Prop} (x : SqA k s.heap l xs) (hQ : Q (.ref s.heap.objs.size) { s with heap := s.heap.push (iterO k l) }) :
    wpAny (model prog w) A (pyIter (.ref l)) Q E s := by
  cases k
  · exact wpAny_pyIter_list x hQ
  · exact wpAny_pyIter_tuple x hQ
theorem meets_zipK (k1 k2 : Bool) (t u : Addr) (xs ys : Array Value) :
    Meets (Builtin.«zip.__new__» ⟨[.type "zip", .ref t, .ref u], []⟩) (fun _ R s => SqA k1 s.heap t xs ∧ SqA k2 s.heap u ys ∧
      R (.ok (.ret (.ref (zD s.heap k1 k2 t u).objs.size))) { s with heap := zE s.heap k1 k2 t u }) :=
  .of_wp fun prog w A R s h => by
    obtain ⟨hp, g, d, tk, os⟩ := s; obtain ⟨hl1, hl2, h⟩ := h
    have hsub := sub_zip
    have hL1 : SqA k1 (Shared.heap ⟨hp, g, d, tk, os⟩) t xs := hl1
    have hL2 : SqA k2 (Shared.heap ⟨hp.push (iterO k1 t), g, d, tk, os⟩) u ys := SqA.push hl2 _
    wp_walk using iterK hL1, iterK hL2
    exact ⟨_, rfl, h⟩
theorem ItAt.new {k : Bool} {h : Heap} {it l : Addr} (e : h.get? it = some (iterO k l)) : ItAt k h it l 0 := by
  cases k
  · exact ⟨_, e, rfl, rfl⟩
  · exact ⟨_, e, rfl, rfl⟩
theorem call_zipK {prog : Program} {w : World} {A : Around} {E : Value → Shared → Prop} {s : Shared} {k1 k2 : Bool} {t u : Addr} {xs ys : Array Value} {Q : Value → Shared → Prop} (h1 : SqA k1 s.heap t xs) (h2 : SqA k2 s.heap u ys)
    (h : ∀ h', IsZip h' (s.heap.objs.size + 4) (s.heap.objs.size + 2) (s.heap.objs.size + 3) .none → IsPair h' (s.heap.objs.size + 2) (.ref s.heap.objs.size) (.ref (s.heap.objs.size + 1)) →
      IsPair h' (s.heap.objs.size + 3) .none .none → ItAt k1 h' s.heap.objs.size t 0 → ItAt k2 h' (s.heap.objs.size + 1) u 0 → (∀ c o, s.heap.get? c = some o → h'.get? c = some o) → Q (.ref (s.heap.objs.size + 4)) { s with heap := h' }) :
    wpAny (model prog w) A (call (.type "zip") [.ref t, .ref u]) Q E s := by
  refine callType_new F.called_zip (by decide) (F.typeCall_zip_2 _ _) (F.newCall_zip_2 _ _) (fun obj => F.args_object_init_3 obj _ _) F.entry_zip_new
    (meets_zipK k1 k2 t u xs ys) ⟨h1, h2, ?_⟩
  have y1 : (zA s.heap k1 t).objs.size = s.heap.objs.size + 1 := Heap.size_push ..
  have y2 : (zB s.heap k1 k2 t u).objs.size = s.heap.objs.size + 2 := by rw [Heap.size_push, y1]
  have y3 : (zC s.heap k1 k2 t u).objs.size = s.heap.objs.size + 3 := by rw [Heap.size_push, y2]
  have y4 : (zD s.heap k1 k2 t u).objs.size = s.heap.objs.size + 4 := by rw [Heap.size_push, y3]
  have g5 : (zE s.heap k1 k2 t u).get? (zD s.heap k1 k2 t u).objs.size = some _ := Heap.get?_push_size _ rfl
  have g4 : (zE s.heap k1 k2 t u).get? (zC s.heap k1 k2 t u).objs.size = some _ := Heap.get?_push_of_some _ (Heap.get?_push_size _ rfl)
  have g3 : (zE s.heap k1 k2 t u).get? (zB s.heap k1 k2 t u).objs.size = some _ := Heap.get?_push_of_some _ (Heap.get?_push_of_some _ (Heap.get?_push_size _ rfl))
  have g2 : (zE s.heap k1 k2 t u).get? (zA s.heap k1 t).objs.size = some (iterO k2 u) := Heap.get?_push_of_some _ (Heap.get?_push_of_some _ (Heap.get?_push_of_some _ (Heap.get?_push_size _ rfl)))
  have g1 : (zE s.heap k1 k2 t u).get? s.heap.objs.size = some (iterO k1 t) := Heap.get?_push_of_some _ (Heap.get?_push_of_some _ (Heap.get?_push_of_some _ (Heap.get?_push_of_some _ (Heap.get?_push_size _ rfl))))
  show _ ∧ _
  rw [y2, y3, y4] at g5
  rw [y1, y2] at g3
  rw [y3] at g4
  rw [y1] at g2
  rw [y4]
  exact ⟨⟨_, g5, rfl⟩, h _ g5 g3 g4 (.new g1) (.new g2) fun c o x => Heap.get?_push_of_some _ (Heap.get?_push_of_some _ (Heap.get?_push_of_some _ (Heap.get?_push_of_some _ (Heap.get?_push_of_some _ x))))⟩
section
variable {X : Cx} {E : XK}
theorem pi_zip {elts : List Expr} {kt : Nat} {tpos p pos : Pos} {a b : Expr} {ta : TA} (hg : Gl X "zip") (hm : X.mg "zip" = none) (ha : PA X [a, b] ta) (hs : starEach [a, b] X.env = [(false, eval a X.env), (false, eval b X.env)] := by rfl) (hs2 : starEach [b] X.env = [(false, eval b X.env)] := by rfl) :
    PI X (.Tuple elts kt tpos) (.Call (.Name "zip" p) [a, b] [] pos) (fun σ H R => ta σ H fun vs H1 => ∃ k1 k2 t u xs ys, vs = [.ref t, .ref u] ∧ SqK k1 X.K H1 t xs ∧ SqK k2 X.K H1 u ys ∧ R (Itz X.K k1 k2 t u) H1) := by
  intro pins s σ H R I h
  refine Call_ (ld_blt I hg hm PyProof.Rows.boot_zip (PyProof.Rows.callWith_type1 (thn (ha pos pins s σ H _ I h) fun us s1 ⟨vs, H1, I1, r1, q1⟩ => ?_) (by rw [hs, hs2]) (by rw [hs2]; rfl)))
  obtain ⟨k1, k2, t, u, xs, ys, e, hq1, hq2, q⟩ := q1
  subst e
  cases r1 with
  | cons r rr =>
    cases rr with
    | cons r' rr =>
      cases rr
      cases r
      cases r'
      obtain ⟨it1, rv1, sq1, lt1⟩ := seqK I1 hq1
      obtain ⟨it2, rv2, sq2, lt2⟩ := seqK I1 hq2
      refine call_zipK sq1 sq2 fun h' zz zi zo x1 x2 kp => wpAny_pyIter_zip (s := { s1 with heap := h' }) zz ?_
      have I2 : Inv X pins σ H1 { s1 with heap := h' } := I1.kept (t' := s1.toks) kp
      have fr : ∀ c, s1.heap.objs.size ≤ c → FpOk X pins H1 c := fun c hc => I1.fpOk hc (I1.hok.fresh hc)
      have m0 : s1.heap.objs.size ≠ s1.heap.objs.size + 4 := Nat.ne_of_lt (by omega)
      have ap : ZAp (s1.heap.objs.size + 4) (s1.heap.objs.size + 2) (s1.heap.objs.size + 3) s1.heap.objs.size (s1.heap.objs.size + 1) [s1.heap.objs.size, t] [s1.heap.objs.size + 1, u] := by
        generalize s1.heap.objs.size = n at lt1 lt2
        exact ⟨Nat.ne_of_lt (by omega), Nat.ne_of_lt (by omega), Nat.ne_of_lt (by omega), Nat.ne_of_lt (by omega), Nat.ne_of_lt (by omega), Nat.ne_of_gt (by omega), Nat.ne_of_gt (by omega), Nat.ne_of_gt (by omega), Nat.ne_of_gt (by omega), Nat.ne_of_lt (by omega),
          fun z => by simp only [List.mem_cons, List.not_mem_nil, or_false] at z; rcases z with z | z; exact absurd z (Nat.ne_of_gt (by omega)); exact absurd z (Nat.ne_of_gt (Nat.lt_of_lt_of_le lt1 (Nat.le_add_right _ _))),
          fun z => by simp only [List.mem_cons, List.not_mem_nil, or_false] at z; rcases z with z | z; exact absurd z (Nat.ne_of_gt (by omega)); exact absurd z (Nat.ne_of_gt (Nat.lt_of_lt_of_le lt2 (Nat.le_add_right _ _))),
          fun z => by simp only [List.mem_cons, List.not_mem_nil, or_false] at z; rcases z with z | z; exact absurd z (Nat.ne_of_gt (by omega)); exact absurd z (Nat.ne_of_gt (Nat.lt_of_lt_of_le lt1 (Nat.le_add_right _ _))),
          fun z => by simp only [List.mem_cons, List.not_mem_nil, or_false] at z; rcases z with z | z; exact absurd z (Nat.ne_of_gt (by omega)); exact absurd z (Nat.ne_of_gt (Nat.lt_of_lt_of_le lt2 (Nat.le_add_right _ _))),
          fun z => by simp only [List.mem_cons, List.not_mem_nil, or_false] at z; rcases z with z | z; exact absurd z (Nat.ne_of_lt (by omega)); exact absurd z (Nat.ne_of_gt lt2),
          fun z => by simp only [List.mem_cons, List.not_mem_nil, or_false] at z; rcases z with z | z; exact absurd z (Nat.ne_of_gt (by omega)); exact absurd z (Nat.ne_of_gt (Nat.lt_of_lt_of_le lt1 (Nat.le_add_right _ _)))⟩
      refine ⟨s1.heap.objs.size + 4, [s1.heap.objs.size + 4, s1.heap.objs.size + 2, s1.heap.objs.size + 3, s1.heap.objs.size, s1.heap.objs.size + 1], _, _, H1, rfl, I2, turn_zip k1 k2 _ _ _ _ _ t u ap (nne lt1) (nne (Nat.lt_succ_of_lt lt2)), ⟨zz, zi, ⟨_, _, zo⟩, x1, x2⟩, fun c hc => ?_, q⟩
      simp only [List.mem_cons, List.not_mem_nil, or_false] at hc
      rcases hc with rfl | rfl | rfl | rfl | rfl
      · exact fr _ (Nat.le_add_right _ _)
      · exact fr _ (Nat.le_add_right _ _)
      · exact fr _ (Nat.le_add_right _ _)
      · exact fr _ (Nat.le_refl _)
      · exact fr _ (Nat.le_add_right _ _)
def zipL (xs ys : List D) : List D := List.zipWith (fun a b => .tup [a, b]) xs ys
def seqD : D → HD → Option (List D × Src)
  | .tup xs, _ => some (xs, [])
  | .loc l, h => match h[l]? with
    | some (.lst xs) => some (xs, [(l, xs)])
    | none => none
  | _, _ => none
def zipD : List D → HD → Out (List D × Src) := fun ds h => match ds with
  | [x, y] => match seqD x h, seqD y h with
    | some (xs, s1), some (ys, s2) => .ok (zipL xs ys, s1 ++ s2) h
    | _, _ => .stuck
  | _ => .stuck
def mIZip (fa : MA) : MI := fun ρ h => (fa ρ h).bind zipD
theorem seqD_at {m : List Addr} {h : HD} {d : D} {v : V} {H : Hp} {xs : List D} {sr : Src} (hr : HR X.K m h H) (r : DV X.K m H d v) (e : seqD d h = some (xs, sr)) :
    ∃ k t, v = .ref t ∧ ∀ m2 h2 H2, m <+: m2 → Kp H H2 → HR X.K m2 h2 H2 → (∀ p ∈ sr, h2[p.1]? = some (.lst p.2)) → ∃ vs, SqK k X.K H2 t vs ∧ DVs X.K m2 H2 xs vs := by
  cases d with
  | tup zs =>
    simp only [seqD, Option.some.injEq, Prod.mk.injEq] at e
    obtain ⟨rfl, rfl⟩ := e
    simp only [DV] at r
    obtain ⟨a, vs, rfl, ha, dv⟩ := r
    exact ⟨true, a, rfl, fun m2 h2 H2 p2 k2 hr2 _ => ⟨vs, SqT.of (k2 _ _ ha rfl), dv.keep p2 k2⟩⟩
  | loc l =>
    simp only [seqD] at e
    split at e
    · rename_i zs el
      simp only [Option.some.injEq, Prod.mk.injEq] at e
      obtain ⟨rfl, rfl⟩ := e
      simp only [DV] at r
      obtain ⟨a, rfl, ha⟩ := r
      refine ⟨false, a, rfl, fun m2 h2 H2 p2 k2 hr2 hs => ?_⟩
      obtain ⟨ws, hw, dw⟩ := hr2.cells l _ a (hs _ List.mem_cons_self) (pre_get p2 ha)
      exact ⟨ws, SqL.of hw, dw⟩
    · cases e
  | _ => simp [seqD] at e
theorem seqD_src {h : HD} {d : D} {xs : List D} {sr : Src} (e : seqD d h = some (xs, sr)) : ∀ p ∈ sr, h[p.1]? = some (.lst p.2) := by
  cases d with
  | tup zs =>
    simp only [seqD, Option.some.injEq, Prod.mk.injEq] at e
    obtain ⟨rfl, rfl⟩ := e
    exact fun p hp => nomatch hp
  | loc l =>
    simp only [seqD] at e
    split at e
    · rename_i zs el
      simp only [Option.some.injEq, Prod.mk.injEq] at e
      obtain ⟨rfl, rfl⟩ := e
      intro p hp
      rw [List.mem_singleton] at hp
      subst hp
      exact el
    · cases e
  | _ => simp [seqD] at e
theorem evI_zip {elts : List Expr} {kt : Nat} {tpos p pos : Pos} {a b : Expr} {fa : MA} (hg : Gl X "zip") (hm : X.mg "zip" = none) (ha : EvA X E [a, b] fa) (hs : starEach [a, b] X.env = [(false, eval a X.env), (false, eval b X.env)] := by rfl) (hs2 : starEach [b] X.env = [(false, eval b X.env)] := by rfl) :
    EvI X E (.Tuple elts kt tpos) (.Call (.Name "zip" p) [a, b] [] pos) (mIZip fa) :=
  pi_imp (pi_zip hg hm ha hs hs2) fun σ H R ⟨m, ρ, h, hr, er, p⟩ => ⟨m, ρ, h, hr, er, Post.bind p fun x h1 v m1 H1 eo p1 k1 hr1 r1 q1 => by
    clear eo
    unfold zipD at q1
    split at q1
    · rename_i d1 d2
      split at q1
      · rename_i xs s1 ys s2 e1 e2
        simp only [rDs, DVs] at r1
        obtain ⟨v1, w1, rfl, rv1, v2, w2, rfl, rv2, rfl⟩ := r1
        obtain ⟨kd1, t, rfl, f1⟩ := seqD_at hr1 rv1 e1
        obtain ⟨kd2, u, rfl, f2⟩ := seqD_at hr1 rv2 e2
        obtain ⟨vs1, sq1, _⟩ := f1 m1 h1 H1 (List.prefix_refl _) (.refl _) hr1 (seqD_src e1)
        obtain ⟨vs2, sq2, _⟩ := f2 m1 h1 H1 (List.prefix_refl _) (.refl _) hr1 (seqD_src e2)
        refine ⟨kd1, kd2, t, u, vs1, vs2, rfl, sq1, sq2, q1 _ m1 H1 (List.prefix_refl _) (.refl _) hr1 fun i m2 h2 H2 p2 k2 hr2 hsr => ?_⟩
        obtain ⟨ws1, sw1, dw1⟩ := f1 m2 h2 H2 p2 k2 hr2 fun p hp => hsr p (List.mem_append_left _ hp)
        obtain ⟨ws2, sw2, dw2⟩ := f2 m2 h2 H2 p2 k2 hr2 fun p hp => hsr p (List.mem_append_right _ hp)
        have n1 := dw1.len
        have n2 := dw2.len
        have nl : (zipL xs ys).length = min xs.length ys.length := by simp [zipL]
        refine ⟨fun hi => ?_, fun hi => ⟨ws1, ws2, sw1, sw2, by dsimp only at hi; omega⟩⟩
        dsimp only at hi
        have i1 : i < xs.length := by omega
        have i2 : i < ys.length := by omega
        refine ⟨⟨ws1, ws2, sw1, sw2, by omega, by omega⟩, fun y H3 ⟨pp, vv, vv', hp, ey, ev, ev', eH⟩ => ?_⟩
        subst ey eH
        have g1 : xs[i]? = some xs[i] := List.getElem?_eq_getElem i1
        have g2 : ys[i]? = some ys[i] := List.getElem?_eq_getElem i2
        obtain ⟨c1, z1, r1'⟩ := dw1.get g1
        obtain ⟨c2, z2, r2'⟩ := dw2.get g2
        rw [ev ws1 sw1] at z1
        rw [ev' ws2 sw2] at z2
        cases z1
        cases z2
        refine ⟨.new hp, hr2.new hp, .tup [xs[i], ys[i]], ?_, ?_⟩
        · simp [zipL, List.getElem?_zipWith, g1, g2]
        · simp only [DV]
          exact ⟨pp, _, rfl, upd_same, .cons (DV.keep (List.prefix_refl _) (.new hp) r1') (.cons (DV.keep (List.prefix_refl _) (.new hp) r2') .nil)⟩
      · exact q1.elim
    · exact q1.elim⟩
end
end LS

namespace LS
open PySem PySem.Spec PyProof.Rows L2
section
variable {ρ : Rho} {h : HD} {QI : (List D × Src) → HD → Prop} {Q : D → HD → Prop} {QO : Option Int → HD → Prop} {QS : Fl × Rho → HD → Prop} {f fo fi fv : ME} {lo hi : MO} {fa : MA}
@[simp] theorem wp_ienum2 : Wp (mIEnum2 fa ρ h) QI = Wp (fa ρ h) fun d h1 => Wp (enumD2 d h1) QI := by unfold mIEnum2; rw [wp_bind]
@[simp] theorem wp_izip : Wp (mIZip fa ρ h) QI = Wp (fa ρ h) fun d h1 => Wp (zipD d h1) QI := by unfold mIZip; rw [wp_bind]
@[simp] theorem wp_slice : Wp (mSlice f lo hi ρ h) Q = Wp (f ρ h) fun x h1 => Wp (lo ρ h1) fun l h2 => Wp (hi ρ h2) fun u h3 => Wp (slD x l u h3) Q := by unfold mSlice; simp only [wp_bind]
@[simp] theorem wp_noPart : Wp (mNoPart ρ h) QO = QO none h := id rfl
@[simp] theorem wp_part : Wp (mPart f ρ h) QO = Wp (f ρ h) fun x h1 => Wp (match x with
  | .int i => (.ok (some i) h1 : Out (Option Int))
  | _ => .stuck) QO := by unfold mPart; rw [wp_bind] <;> rfl
@[simp] theorem wp_augIx : Wp (mAugIx fo fi fv ρ h) QS = Wp (fo ρ h) fun o h1 => Wp (fi ρ h1) fun i h2 => Wp (augGet o i h2) fun x h3 => Wp (fv ρ h3) fun y h4 => Wp (augK o i x y ρ h4) QS := by unfold mAugIx; simp only [wp_bind]
theorem enum_rng {n : Nat} {e : Nat → D} : enumL ((List.range n).map e) = (List.range n).map fun k => D.tup [.int ((k : Nat) : Int), e k] := by
  unfold enumL
  apply List.ext_getElem
  · simp
  · intro i h1 h2; simp
theorem enum2_ok {n : Nat} {e : Nat → D} : enumD2 [.tup ((List.range n).map e)] h = .ok ((List.range n).map fun k => D.tup [.int ((k : Nat) : Int), e k], []) h := by
  simp only [enumD2, enum_rng]
theorem enum2_loc {n l : Nat} {e : Nat → D} (he : h[l]? = some (.lst ((List.range n).map e))) : enumD2 [.loc l] h = .ok ((List.range n).map fun k => D.tup [.int ((k : Nat) : Int), e k], [(l, (List.range n).map e)]) h := by
  simp only [enumD2, he, enum_rng]
theorem zip_rng {n : Nat} {e e' : Nat → D} : zipL ((List.range n).map e) ((List.range n).map e') = (List.range n).map fun k => D.tup [e k, e' k] := by
  unfold zipL
  apply List.ext_getElem
  · simp
  · intro i h1 h2; simp
theorem zip_ok {n : Nat} {e e' : Nat → D} {x y : D} {s1 s2 : Src} (hx : seqD x h = some ((List.range n).map e, s1)) (hy : seqD y h = some ((List.range n).map e', s2)) :
    zipD [x, y] h = .ok ((List.range n).map fun k => D.tup [e k, e' k], s1 ++ s2) h := by
  simp only [zipD, hx, hy, zip_rng]
theorem seq_tup {ds : List D} : seqD (.tup ds) h = some (ds, []) := rfl
theorem seq_loc {l : Nat} {ds : List D} (e : h[l]? = some (.lst ds)) : seqD (.loc l) h = some (ds, [(l, ds)]) := by simp only [seqD, e]
theorem ext_ok {l : Nat} {F : List Int → Int} {ns : List Int} (e : h[l]? = some (.lst (ns.map D.int))) (hn : ns ≠ []) : extD F (.loc l) h = .ok (.int (F ns)) h := by
  simp only [extD, e, List.map_map]
  rw [allSome_map (f := asInt ∘ D.int) (g := id) (fun x _ => rfl)]
  simp only [List.map_id, if_neg hn]
theorem iseq_loc {l : Nat} {ds : List D} (e : h[l]? = some (.lst ds)) : iSeqD (.loc l) h = .ok (ds, [(l, ds)]) h := by
  simp only [iSeqD, itemsD, e, srcD]
theorem add_loc {l k : Nat} {xs ys : List D} (e : h[l]? = some (.lst xs)) (e' : h[k]? = some (.lst ys)) : addD (.loc l) (.loc k) h = newL (xs ++ ys) h := by
  simp only [addD, e, e']
theorem add_tup {xs ys : List D} (hn : xs.length + ys.length ≤ sizeLine) : addD (.tup xs) (.tup ys) h = .ok (.tup (xs ++ ys)) h := by
  simp only [addD]; rw [if_pos hn]
theorem len_loc {l : Nat} {ds : List D} (e : h[l]? = some (.lst ds)) : lenD (.loc l) h = .ok (.int ds.length) h := by
  simp only [lenD, itemsD, e]
theorem flat_rep {a : D} : ∀ n : Nat, (List.replicate n [a]).flatten = List.replicate n a
  | 0 => rfl
  | n + 1 => by rw [List.replicate_succ, List.flatten_cons, flat_rep n]; rfl
theorem rep_loc {l n : Nat} {a : D} (e : h[l]? = some (.lst [a])) (hn : n ≤ 1000) : mulD' (.loc l) (.int (n : Nat)) h = newL (List.replicate n a) h := by
  have : (-(2 ^ 63) : Int) ≤ (n : Int) ∧ (n : Int) < 2 ^ 63 := by omega
  simp only [mulD', e]
  rw [if_pos this]
  simp [flat_rep]
theorem aug_get {l k : Nat} {ds : List D} {d : D} (e : h[l]? = some (.lst ds)) (ek : ds[k]? = some d) : augGet (.loc l) (.int (k : Nat)) h = .ok d h := by
  simp only [augGet, e]
  rw [if_pos (by omega)]
  simp [ek]
theorem aug_set {l k : Nat} {ds : List D} {a b : Int} (e : h[l]? = some (.lst ds)) (hk : k < ds.length) : augK (.loc l) (.int (k : Nat)) (.int a) (.int b) ρ h = .ok (.nx, ρ) (h.set l (.lst (ds.set k (.int (a + b))))) := by
  simp only [augK]
  exact set_loc e hk
end

noncomputable def xSum (cs : List (Option Nat)) (it : MI) (sg : MG) (t : MT) (f : ME) : ME := mCall (ar1 sumD) (mCons (mComp cs it sg t f) mNil)
noncomputable def xExt (F : List Int → Int) (cs : List (Option Nat)) (it : MI) (sg : MG) (t : MT) (f : ME) : ME := mCall (ar1 (extD F)) (mCons (mComp cs it sg t f) mNil)
section
variable {α : Type} {cs : List (Option Nat)} {it : MI} {sg : MG} {t : MT} {f : ME} {ρ : Rho} {h : HD} {src : Src} {xs : List α} {φ : α → D} {F : List Int → Int}
@[simp] theorem xSum_fold : mCall (ar1 sumD) (mCons (mComp cs it sg t f) mNil) ρ h = xSum cs it sg t f ρ h := rfl
@[simp] theorem xExt_fold : mCall (ar1 (extD F)) (mCons (mComp cs it sg t f) mNil) ρ h = xExt F cs it sg t f ρ h := rfl
theorem p_xSum (n : α → Int) (ρ1 : α → Rho) (hi : It0 (it ρ h) h (xs.map φ) src) (hg : ∀ x ∈ xs, sg (φ x) (cRho cs ρ) = some (ρ1 x)) (hf : ∀ x ∈ xs, ∀ h', Sm h h' → Pu (f (ρ1 x) h') h' (.int (n x))) (hn : xs.length ≤ sizeLine) :
    Pu (xSum cs it sg mTrue f ρ h) h (.int (xs.map n).sum) := by
  unfold Pu xSum
  rw [wp_call, wp_cons]
  refine comp_wp (fun _ => true) (fun x => .int (n x)) ρ1 hi hn hg (fun x hx h' s' => (.ok : Pu (.ok true h') h' true)) (fun x hx _ h' s' => hf x hx h' s') fun l h' s' e' => ?_
  rw [filter_tt] at e'
  rw [wp_nil]
  simp only [ar1, sumD, itemsD, e', List.map_map]
  rw [allSome_map (f := asInt ∘ fun x => D.int (n x)) (g := n) (fun x _ => rfl)]
  exact ⟨rfl, s'⟩
theorem p_xExt (n : α → Int) (ρ1 : α → Rho) (hi : It0 (it ρ h) h (xs.map φ) src) (hg : ∀ x ∈ xs, sg (φ x) (cRho cs ρ) = some (ρ1 x)) (hf : ∀ x ∈ xs, ∀ h', Sm h h' → Pu (f (ρ1 x) h') h' (.int (n x))) (hn : xs.length ≤ sizeLine) (hne : xs ≠ []) :
    Pu (xExt F cs it sg mTrue f ρ h) h (.int (F (xs.map n))) := by
  unfold Pu xExt
  rw [wp_call, wp_cons]
  refine comp_wp (fun _ => true) (fun x => .int (n x)) ρ1 hi hn hg (fun x hx h' s' => (.ok : Pu (.ok true h') h' true)) (fun x hx _ h' s' => hf x hx h' s') fun l h' s' e' => ?_
  rw [filter_tt] at e'
  rw [wp_nil, ar1_ok, ext_ok (ns := xs.map n) (by rw [e', List.map_map]; rfl) (by simpa using hne)]
  exact ⟨rfl, s'⟩
theorem it0_loc {l : Nat} {ds : List D} {o : Out D} {h1 : HD} (e : o = .ok (.loc l) h1) (s : Sm h h1) (el : h1[l]? = some (.lst ds)) : It0 (o.bind iSeqD) h ds [(l, ds)] := by
  subst e
  simp only [Out.bind_ok, iseq_loc el, It0, wp_ok]
  exact ⟨trivial, s, fun h2 s2 => src1 (s2 _ _ el)⟩
end
end LS


namespace LK
open LS
def rsum (n : Nat) (r : Nat → Bool) : Int := ((List.range n).map fun j => if r j then (1 : Int) else 0).sum
theorem sum_add {α : Type} {f g : α → Int} : ∀ {xs : List α}, (xs.map fun x => f x + g x).sum = (xs.map f).sum + (xs.map g).sum
  | [] => rfl
  | x :: xs => by simp only [List.map_cons, List.sum_cons, sum_add (xs := xs)]; omega
theorem sum_zero {α : Type} : ∀ {xs : List α}, (xs.map fun _ => (0 : Int)).sum = 0
  | [] => rfl
  | x :: xs => by simp only [List.map_cons, List.sum_cons, sum_zero (xs := xs)]; rfl
theorem sum_swap {α β : Type} {f : α → β → Int} {ys : List β} : ∀ {xs : List α}, (xs.map fun x => (ys.map fun y => f x y).sum).sum = (ys.map fun y => (xs.map fun x => f x y).sum).sum
  | [] => by simp [sum_zero]
  | x :: xs => by
    simp only [List.map_cons, List.sum_cons, sum_swap (xs := xs)]
    rw [← sum_add]
theorem sum_le {α : Type} {f g : α → Int} : ∀ {xs : List α}, (∀ x ∈ xs, f x ≤ g x) → (xs.map f).sum ≤ (xs.map g).sum
  | [], _ => Int.le_refl _
  | x :: xs, h => by
    simp only [List.map_cons, List.sum_cons]
    have := h x List.mem_cons_self
    have := sum_le (xs := xs) fun y hy => h y (List.mem_cons_of_mem _ hy)
    omega
theorem sum_congr {α : Type} {f g : α → Int} {xs : List α} (h : ∀ x ∈ xs, f x = g x) : (xs.map f).sum = (xs.map g).sum := by
  rw [List.map_congr_left h]
theorem rsum_congr {n : Nat} {r r' : Nat → Bool} (h : ∀ i, i < n → r i = r' i) : rsum n r = rsum n r' :=
  sum_congr fun i hi => by rw [h i (by simpa using hi)]
theorem rsum_not {n : Nat} {r : Nat → Bool} : rsum n (fun i => !r i) = n - rsum n r := by
  have : rsum n (fun i => !r i) + rsum n r = n := by
    unfold rsum
    rw [← sum_add]
    have : ∀ m : Nat, ((List.range m).map fun i => (if (!r i) = true then (1 : Int) else 0) + if r i = true then 1 else 0).sum = m := fun m => by
      induction m with
      | zero => rfl
      | succ m ih =>
        rw [List.range_succ, List.map_append, List.sum_append, ih]
        cases e : r m <;> simp [e]
    exact this n
  omega
theorem rsum_bd {n : Nat} {r : Nat → Bool} : 0 ≤ rsum n r ∧ rsum n r ≤ n := by
  unfold rsum
  induction n with
  | zero => simp
  | succ n ih =>
    rw [List.range_succ, List.map_append, List.sum_append]
    cases r n <;> simp <;> omega
/-- how many are lit in column j when the rows R are switched -/
def cc (H : Nat) (f : Nat → Nat → Bool) (R : Nat → Bool) (j : Nat) : Int := rsum H fun i => Bool.xor (f i j) (R i)
def tot (W : Nat) (H : Int) (c : Nat → Int) (C : Nat → Bool) : Int := ((List.range W).map fun j => if C j then H - c j else c j).sum
def few (W : Nat) (H : Int) (c : Nat → Int) : Int := ((List.range W).map fun j => if H - c j < c j then H - c j else c j).sum
def TT (H W : Nat) (f : Nat → Nat → Bool) (R C : Nat → Bool) : Int := tot W H (cc H f R) C
theorem cc_congr {H : Nat} {f : Nat → Nat → Bool} {R R' : Nat → Bool} {j : Nat} (h : ∀ i, i < H → R i = R' i) : cc H f R j = cc H f R' j := rsum_congr fun i hi => by rw [h i hi]
theorem TT_congr {H W : Nat} {f : Nat → Nat → Bool} {R R' C C' : Nat → Bool} (h : ∀ i, i < H → R i = R' i) (h' : ∀ j, j < W → C j = C' j) : TT H W f R C = TT H W f R' C' :=
  sum_congr fun j hj => by rw [cc_congr h, h' j (by simpa using hj)]
theorem TT_eq {H W : Nat} {f : Nat → Nat → Bool} {R C : Nat → Bool} : TT H W f R C = ((List.range W).map fun j => rsum H fun i => Bool.xor (f i j) (Bool.xor (R i) (C j))).sum := by
  refine sum_congr fun j _ => ?_
  cases C j
  · simp only [Bool.false_eq_true, if_false, Bool.xor_false]; rfl
  · simp only [if_true, cc]
    rw [← rsum_not]
    exact rsum_congr fun i _ => by cases f i j <;> cases R i <;> rfl
theorem TT_lit {H W : Nat} {f : Nat → Nat → Bool} {R C : Nat → Bool} : ((List.range H).map fun i => rsum W fun j => Bool.xor (f i j) (Bool.xor (R i) (C j))).sum = TT H W f R C := by
  rw [TT_eq]; exact sum_swap
theorem TT_turn {H W : Nat} {f : Nat → Nat → Bool} {R C : Nat → Bool} : TT W H (fun i j => f j i) C R = TT H W f R C := by
  rw [TT_eq, ← TT_lit]
  exact sum_congr fun i _ => rsum_congr fun j _ => by cases f i j <;> cases R i <;> cases C j <;> rfl
theorem TT_sw {H W : Nat} {f : Nat → Nat → Bool} {p q R C : Nat → Bool} : TT H W (fun i j => Bool.xor (f i j) (Bool.xor (p i) (q j))) R C = TT H W f (fun i => Bool.xor (R i) (p i)) (fun j => Bool.xor (C j) (q j)) := by
  rw [TT_eq, TT_eq]
  exact sum_congr fun j _ => rsum_congr fun i _ => by cases f i j <;> cases R i <;> cases C j <;> cases p i <;> cases q j <;> rfl
theorem TT_not {H W : Nat} {f : Nat → Nat → Bool} {R C : Nat → Bool} : TT H W f (fun i => !R i) (fun j => !C j) = TT H W f R C := by
  rw [TT_eq, TT_eq]
  exact sum_congr fun j _ => rsum_congr fun i _ => by cases f i j <;> cases R i <;> cases C j <;> rfl
theorem few_le {W : Nat} {H : Int} {c : Nat → Int} {C : Nat → Bool} : few W H c ≤ tot W H c C :=
  sum_le fun j _ => by split <;> split <;> omega
/-- the columns with more lit lights than dark ones -/
def fuc (H : Int) (c : Nat → Int) (j : Nat) : Bool := decide (H < 2 * c j)
theorem tot_fuc {W : Nat} {H : Int} {c : Nat → Int} : tot W H c (fuc H c) = few W H c :=
  sum_congr fun j _ => by
    unfold fuc
    by_cases h : H < 2 * c j
    · rw [if_pos (by simpa using h), if_pos (by omega)]
    · rw [if_neg (by simpa using h), if_neg (by omega)]

def ext (n : Nat) (R : Nat → Bool) : Nat → Bool := fun i => if i = n then true else R i
def LL (s : Nat) : Nat → List (Nat → Bool)
  | 0 => [fun _ => false]
  | k + 1 => LL s k ++ (LL s k).map (ext (s + k))
theorem LL_out {s : Nat} : ∀ {k : Nat} {R : Nat → Bool}, R ∈ LL s k → ∀ i, i < s ∨ s + k ≤ i → R i = false
  | 0, R, h, i, _ => by
    simp only [LL, List.mem_singleton] at h
    subst h; rfl
  | k + 1, R, h, i, hi => by
    rcases List.mem_append.mp h with z | z
    · exact LL_out z i (by omega)
    · obtain ⟨R', z1, rfl⟩ := List.mem_map.mp z
      unfold ext
      rw [if_neg (by omega)]
      exact LL_out z1 i (by omega)
theorem LL_has {s : Nat} (R : Nat → Bool) : ∀ k : Nat, ∃ R' ∈ LL s k, ∀ i, s ≤ i → i < s + k → R' i = R i
  | 0 => ⟨_, List.mem_cons_self, fun i h1 h2 => by omega⟩
  | k + 1 => by
    obtain ⟨R', h1, h2⟩ := LL_has R k
    cases e : R (s + k) with
    | false =>
      refine ⟨R', List.mem_append_left _ h1, fun i hi hi2 => ?_⟩
      by_cases hz : i = s + k
      · rw [hz, e]; exact LL_out h1 _ (by omega)
      · exact h2 i hi (by omega)
    | true =>
      refine ⟨ext (s + k) R', List.mem_append_right _ (List.mem_map.mpr ⟨R', h1, rfl⟩), fun i hi hi2 => ?_⟩
      unfold ext
      by_cases hz : i = s + k
      · rw [if_pos hz, hz, e]
      · rw [if_neg hz]; exact h2 i hi (by omega)
theorem LL_len {s : Nat} : ∀ k, (LL s k).length = 2 ^ k
  | 0 => rfl
  | k + 1 => by simp only [LL, List.length_append, List.length_map, LL_len k]; omega
/-- what is left -/
def left (H W : Nat) (f : Nat → Nat → Bool) : Int := leastL ((LL 1 (H - 1)).map fun R => few W H (cc H f R))
theorem LL_ne {s k : Nat} : LL s k ≠ [] := fun h => by
  have := LL_len (s := s) k
  rw [h] at this
  have : 0 < 2 ^ k := Nat.two_pow_pos k
  simp_all
theorem left_at {H W : Nat} {f : Nat → Nat → Bool} : ∃ R ∈ LL 1 (H - 1), few W H (cc H f R) = left H W f := by
  have := leastL_mem (ns := (LL 1 (H - 1)).map fun R => few W H (cc H f R)) (by simp [LL_ne])
  obtain ⟨R, h, e⟩ := List.mem_map.mp this
  exact ⟨R, h, e⟩
theorem left_le_few {H W : Nat} {f : Nat → Nat → Bool} {R : Nat → Bool} (h : R ∈ LL 1 (H - 1)) : left H W f ≤ few W H (cc H f R) := leastL_le (List.mem_map.mpr ⟨R, h, rfl⟩)
theorem left_le {H W : Nat} {f : Nat → Nat → Bool} (hH : 1 ≤ H) (R C : Nat → Bool) : left H W f ≤ TT H W f R C := by
  have key : ∀ R C : Nat → Bool, R 0 = false → left H W f ≤ TT H W f R C := fun R C h0 => by
    obtain ⟨R', h1, h2⟩ := LL_has (s := 1) R (H - 1)
    have : ∀ i, i < H → R i = R' i := fun i hi => by
      by_cases hz : i = 0
      · rw [hz, h0]; exact (LL_out h1 0 (by omega)).symm
      · exact (h2 i (by omega) (by omega)).symm
    rw [TT_congr this (fun _ _ => rfl)]
    exact Int.le_trans (left_le_few h1) few_le
  cases h : R 0 with
  | false => exact key R C h
  | true =>
    rw [← TT_not]
    exact key _ _ (by simp [h])
theorem left_ex {H W : Nat} (f : Nat → Nat → Bool) : ∃ R C, TT H W f R C = left H W f := by
  obtain ⟨R, _, e⟩ := left_at (H := H) (W := W) (f := f)
  exact ⟨R, fuc H (cc H f R), by rw [← e]; exact tot_fuc⟩
theorem left_sw {H W : Nat} {f : Nat → Nat → Bool} {p q : Nat → Bool} (hH : 1 ≤ H) : left H W (fun i j => Bool.xor (f i j) (Bool.xor (p i) (q j))) = left H W f := by
  refine Int.le_antisymm ?_ ?_
  · obtain ⟨R, C, e⟩ := left_ex (H := H) (W := W) f
    rw [← e]
    have := left_le (W := W) (f := fun i j => Bool.xor (f i j) (Bool.xor (p i) (q j))) hH (fun i => Bool.xor (R i) (p i)) (fun j => Bool.xor (C j) (q j))
    rw [TT_sw] at this
    refine Int.le_trans this (Int.le_of_eq (TT_congr (fun i _ => ?_) (fun j _ => ?_)))
    · cases R i <;> cases p i <;> rfl
    · cases C j <;> cases q j <;> rfl
  · obtain ⟨R, C, e⟩ := left_ex (H := H) (W := W) (fun i j => Bool.xor (f i j) (Bool.xor (p i) (q j)))
    rw [← e, TT_sw]
    exact left_le hH _ _
theorem left_turn {H W : Nat} {f : Nat → Nat → Bool} (hH : 1 ≤ H) (hW : 1 ≤ W) : left W H (fun i j => f j i) = left H W f := by
  refine Int.le_antisymm ?_ ?_
  · obtain ⟨R, C, e⟩ := left_ex (H := H) (W := W) f
    rw [← e, ← TT_turn]
    exact left_le hW _ _
  · obtain ⟨C, R, e⟩ := left_ex (H := W) (W := H) (fun i j => f j i)
    rw [← e, TT_turn]
    exact left_le hH _ _
theorem rsum_near {n : Nat} {r r' : Nat → Bool} (k : Nat) (h : ∀ i, i ≠ k → r i = r' i) : rsum n r ≤ rsum n r' + 1 := by
  have key : ∀ m : Nat, (m ≤ k → rsum m r = rsum m r') ∧ rsum m r ≤ rsum m r' + 1 := fun m => by
    induction m with
    | zero => simp [rsum]
    | succ m ih =>
      have s1 : ∀ r : Nat → Bool, rsum (m + 1) r = rsum m r + if r m then 1 else 0 := fun r => by
        unfold rsum
        rw [List.range_succ, List.map_append, List.sum_append]
        simp
      rw [s1, s1]
      refine ⟨fun hm => ?_, ?_⟩
      · rw [ih.1 (by omega), h m (by omega)]
      · by_cases hz : m = k
        · rw [ih.1 (by omega)]
          cases r m <;> cases r' m <;> simp <;> omega
        · rw [h m hz]
          have := ih.2
          omega
  exact (key n).2
theorem TT_near {H W : Nat} {f f' : Nat → Nat → Bool} {R C : Nat → Bool} (a b : Nat) (h : ∀ i j, ¬ (i = a ∧ j = b) → f i j = f' i j) : TT H W f R C ≤ TT H W f' R C + 1 := by
  rw [TT_eq, TT_eq]
  have key : ∀ m : Nat, (m ≤ b → ((List.range m).map fun j => rsum H fun i => Bool.xor (f i j) (Bool.xor (R i) (C j))).sum = ((List.range m).map fun j => rsum H fun i => Bool.xor (f' i j) (Bool.xor (R i) (C j))).sum) ∧
      ((List.range m).map fun j => rsum H fun i => Bool.xor (f i j) (Bool.xor (R i) (C j))).sum ≤ ((List.range m).map fun j => rsum H fun i => Bool.xor (f' i j) (Bool.xor (R i) (C j))).sum + 1 := fun m => by
    induction m with
    | zero => simp
    | succ m ih =>
      simp only [List.range_succ, List.map_append, List.sum_append, List.map_cons, List.map_nil, List.sum_cons, List.sum_nil]
      refine ⟨fun hm => ?_, ?_⟩
      · rw [ih.1 (by omega), rsum_congr fun i _ => by rw [h i m (by omega)]]
      · by_cases hz : m = b
        · rw [ih.1 (by omega)]
          have := rsum_near (n := H) (r := fun i => Bool.xor (f i m) (Bool.xor (R i) (C m))) (r' := fun i => Bool.xor (f' i m) (Bool.xor (R i) (C m))) a (fun i hi => by rw [h i m (by omega)])
          omega
        · have : (rsum H fun i => Bool.xor (f i m) (Bool.xor (R i) (C m))) = rsum H fun i => Bool.xor (f' i m) (Bool.xor (R i) (C m)) := rsum_congr fun i _ => by rw [h i m (by omega)]
          have := ih.2
          omega
  exact (key W).2
theorem left_near {H W : Nat} {f f' : Nat → Nat → Bool} (hH : 1 ≤ H) (a b : Nat) (h : ∀ i j, ¬ (i = a ∧ j = b) → f i j = f' i j) : left H W f ≤ left H W f' + 1 := by
  obtain ⟨R, C, e⟩ := left_ex (H := H) (W := W) f'
  rw [← e]
  exact Int.le_trans (left_le hH R C) (TT_near a b h)
end LK

namespace LK
open LS
def setb (n : Nat) (b : Bool) (R : Nat → Bool) : Nat → Bool := fun i => if i = n then b else R i
def Dep (n : Nat) (g : (Nat → Bool) → Int) : Prop := ∀ R R' : Nat → Bool, (∀ i, i < n → R i = R' i) → g R = g R'
theorem Dep.setb {n : Nat} {g : (Nat → Bool) → Int} (d : Dep (n + 1) g) (b : Bool) : Dep n fun R => g (setb n b R) := fun R R' h => d _ _ fun i hi => by
  unfold LK.setb
  by_cases hz : i = n
  · rw [if_pos hz, if_pos hz]
  · rw [if_neg hz, if_neg hz]; exact h i (by omega)
theorem sum_app {g : (Nat → Bool) → Int} {xs ys : List (Nat → Bool)} : ((xs ++ ys).map g).sum = (xs.map g).sum + (ys.map g).sum := by rw [List.map_append, List.sum_append]
theorem sumA : ∀ (n : Nat) (g : (Nat → Bool) → Int) (p : Nat → Bool), Dep n g → ((LL 0 n).map fun R => g fun i => Bool.xor (R i) (p i)).sum = ((LL 0 n).map g).sum
  | 0, g, p, d => by
    simp only [LL, List.map_cons, List.map_nil]
    rw [d (fun i => Bool.xor false (p i)) (fun _ => false) fun i h => by omega]
  | n + 1, g, p, d => by
    simp only [LL, sum_app, List.map_map, Nat.zero_add]
    have e0 : ∀ R ∈ LL 0 n, g R = g (setb n false R) := fun R h => d _ _ fun i hi => by
      unfold setb
      by_cases hz : i = n
      · rw [if_pos hz, hz]; exact LL_out h n (by omega)
      · rw [if_neg hz]
    have e1 : ∀ R ∈ LL 0 n, (g ∘ ext n) R = g (setb n true R) := fun R h => rfl
    have x0 : ∀ R ∈ LL 0 n, (g fun i => Bool.xor (R i) (p i)) = g (setb n (p n) fun i => Bool.xor (R i) (p i)) := fun R h => d _ _ fun i hi => by
      unfold setb
      by_cases hz : i = n
      · rw [if_pos hz, hz, LL_out h n (by omega)]; simp
      · rw [if_neg hz]
    have x1 : ∀ R ∈ LL 0 n, ((fun R => g fun i => Bool.xor (R i) (p i)) ∘ ext n) R = g (setb n (!p n) fun i => Bool.xor (R i) (p i)) := fun R h => d _ _ fun i hi => by
      unfold setb ext
      by_cases hz : i = n
      · rw [if_pos hz, if_pos hz, hz]; simp
      · rw [if_neg hz, if_neg hz]
    rw [sum_congr e0, sum_congr e1, sum_congr x0, sum_congr x1, sumA n _ p (d.setb (p n)), sumA n _ p (d.setb (!p n))]
    cases p n
    · rfl
    · simp only [Bool.not_true]; omega
theorem sumB : ∀ (n : Nat) (g : (Nat → Bool) → Int), Dep (n + 1) g → ((LL 0 (n + 1)).map g).sum = ((LL 1 n).map g).sum + ((LL 1 n).map fun R => g fun i => !R i).sum
  | 0, g, d => by
    simp only [LL, sum_app, List.map_cons, List.map_nil, List.sum_cons, List.sum_nil, List.nil_append, List.cons_append]
    rw [d (ext (0 + 0) fun _ => false) (fun i => !false) fun i h => by
      have : i = 0 := by omega
      subst this; rfl]
    omega
  | n + 1, g, d => by
    have hL : LL 0 (n + 1 + 1) = LL 0 (n + 1) ++ (LL 0 (n + 1)).map (ext (n + 1)) := by rw [LL]; simp
    have hR : LL 1 (n + 1) = LL 1 n ++ (LL 1 n).map (ext (n + 1)) := by rw [LL, Nat.add_comm 1 n]
    rw [hL, hR]
    simp only [sum_app, List.map_map]
    have e0 : ∀ R ∈ LL 0 (n + 1), g R = g (setb (n + 1) false R) := fun R h => d _ _ fun i hi => by
      unfold setb
      by_cases hz : i = n + 1
      · rw [if_pos hz, hz]; exact LL_out h _ (by omega)
      · rw [if_neg hz]
    have e1 : ∀ R ∈ LL 0 (n + 1), (g ∘ ext (n + 1)) R = g (setb (n + 1) true R) := fun R h => rfl
    have f0 : ∀ R ∈ LL 1 n, g R = g (setb (n + 1) false R) := fun R h => d _ _ fun i hi => by
      unfold setb
      by_cases hz : i = n + 1
      · rw [if_pos hz, hz]; exact LL_out h _ (by omega)
      · rw [if_neg hz]
    have f1 : ∀ R ∈ LL 1 n, (g ∘ ext (n + 1)) R = g (setb (n + 1) true R) := fun R h => rfl
    have f2 : ∀ R ∈ LL 1 n, (g fun i => !R i) = g (setb (n + 1) true fun i => !R i) := fun R h => d _ _ fun i hi => by
      unfold setb
      by_cases hz : i = n + 1
      · rw [if_pos hz, hz, LL_out h _ (by omega)]; rfl
      · rw [if_neg hz]
    have f3 : ∀ R ∈ LL 1 n, ((fun R => g fun i => !R i) ∘ ext (n + 1)) R = g (setb (n + 1) false fun i => !R i) := fun R h => d _ _ fun i hi => by
      unfold setb ext
      by_cases hz : i = n + 1
      · rw [if_pos hz, if_pos hz]; rfl
      · rw [if_neg hz, if_neg hz]
    rw [sum_congr e0, sum_congr e1, sum_congr f0, sum_congr f1, sum_congr f2, sum_congr f3, sumB n _ (d.setb false), sumB n _ (d.setb true)]
    omega
/-- how many of a list are k -/
def cnt (L : List Int) (k : Int) : Int := (L.map fun x => if x = k then (1 : Int) else 0).sum
/-- of a board, with the rows R: how many lots of columns leave k -/
def hk (H W : Nat) (f : Nat → Nat → Bool) (k : Int) (R : Nat → Bool) : Int := cnt ((LL 0 W).map (TT H W f R)) k
def NN (H W : Nat) (f : Nat → Nat → Bool) (k : Int) : Int := ((LL 1 (H - 1)).map (hk H W f k)).sum
theorem hk_eq {H W : Nat} {f : Nat → Nat → Bool} {k : Int} {R : Nat → Bool} : hk H W f k R = ((LL 0 W).map fun C => if TT H W f R C = k then (1 : Int) else 0).sum := by
  unfold hk cnt
  rw [List.map_map]
  rfl
theorem hk_sw {H W : Nat} {f : Nat → Nat → Bool} {k : Int} {R p q : Nat → Bool} : hk H W (fun i j => Bool.xor (f i j) (Bool.xor (p i) (q j))) k R = hk H W f k fun i => Bool.xor (R i) (p i) := by
  rw [hk_eq, hk_eq]
  have := sumA W (fun C => if TT H W f (fun i => Bool.xor (R i) (p i)) C = k then (1 : Int) else 0) q fun C C' h => by dsimp only; rw [TT_congr (fun _ _ => rfl) h]
  rw [← this]
  exact sum_congr fun C _ => by rw [TT_sw]
theorem hk_not {H W : Nat} {f : Nat → Nat → Bool} {k : Int} {R : Nat → Bool} : hk H W f k (fun i => !R i) = hk H W f k R := by
  rw [hk_eq, hk_eq]
  have := sumA W (fun C => if TT H W f (fun i => !R i) C = k then (1 : Int) else 0) (fun _ => true) fun C C' h => by dsimp only; rw [TT_congr (fun _ _ => rfl) h]
  rw [← this]
  refine sum_congr fun C _ => ?_
  rw [← TT_not (R := R) (C := C)]
  rw [TT_congr (R := fun i => !R i) (R' := fun i => !R i) (C := fun i => Bool.xor (C i) true) (C' := fun j => !C j) (fun _ _ => rfl) fun j _ => by cases C j <;> rfl]
theorem hk_dep {H W : Nat} {f : Nat → Nat → Bool} {k : Int} : Dep H (hk H W f k) := fun R R' h => by
  rw [hk_eq, hk_eq]
  exact sum_congr fun C _ => by rw [TT_congr h fun _ _ => rfl]
theorem NN_two {H W : Nat} {f : Nat → Nat → Bool} {k : Int} (hH : 1 ≤ H) : ((LL 0 H).map (hk H W f k)).sum = 2 * NN H W f k := by
  obtain ⟨n, rfl⟩ : ∃ n, H = n + 1 := ⟨H - 1, by omega⟩
  rw [sumB n _ hk_dep]
  have : ((LL 1 n).map fun R => hk (n + 1) W f k fun i => !R i).sum = ((LL 1 n).map (hk (n + 1) W f k)).sum := sum_congr fun R _ => hk_not
  rw [this]
  show _ = 2 * ((LL 1 n).map (hk (n + 1) W f k)).sum
  omega
theorem NN_sw {H W : Nat} {f : Nat → Nat → Bool} {k : Int} {p q : Nat → Bool} (hH : 1 ≤ H) : NN H W (fun i j => Bool.xor (f i j) (Bool.xor (p i) (q j))) k = NN H W f k := by
  have h1 := NN_two (W := W) (f := fun i j => Bool.xor (f i j) (Bool.xor (p i) (q j))) (k := k) hH
  have h2 := NN_two (W := W) (f := f) (k := k) hH
  have h3 : ((LL 0 H).map (hk H W (fun i j => Bool.xor (f i j) (Bool.xor (p i) (q j))) k)).sum = ((LL 0 H).map (hk H W f k)).sum := by
    rw [← sumA H (hk H W f k) p hk_dep]
    exact sum_congr fun R _ => hk_sw
  omega
theorem cnt_nn {L : List Int} {k : Int} : 0 ≤ cnt L k := by
  unfold cnt
  induction L with
  | nil => simp
  | cons x L ih =>
    simp only [List.map_cons, List.sum_cons]
    split <;> omega
theorem cnt_pos {L : List Int} {k : Int} (h : k ∈ L) : 0 < cnt L k := by
  induction L with
  | nil => cases h
  | cons x L ih =>
    have := cnt_nn (L := L) (k := k)
    unfold cnt at *
    simp only [List.map_cons, List.sum_cons]
    rcases List.mem_cons.mp h with z | z
    · subst z; simp; omega
    · have := ih z
      split <;> omega
theorem cnt_zero {L : List Int} {k : Int} (h : k ∉ L) : cnt L k = 0 := by
  unfold cnt
  rw [show L.map (fun x => if x = k then (1 : Int) else 0) = L.map fun _ => (0 : Int) from List.map_congr_left fun x hx => by
    rw [if_neg]; intro z; subst z; exact h hx]
  exact sum_zero
theorem sum_nn {α : Type} {f : α → Int} {xs : List α} (h : ∀ x ∈ xs, 0 ≤ f x) : 0 ≤ (xs.map f).sum := by
  have := sum_le (f := fun _ => 0) h
  rw [sum_zero] at this
  exact this
theorem sum_pos {α : Type} {f : α → Int} : ∀ {xs : List α}, (∀ x ∈ xs, 0 ≤ f x) → (∃ x ∈ xs, 0 < f x) → 0 < (xs.map f).sum
  | [], _, h => by obtain ⟨x, hx, _⟩ := h; cases hx
  | y :: xs, h, ⟨x, hx, hp⟩ => by
    simp only [List.map_cons, List.sum_cons]
    have h0 := h y List.mem_cons_self
    have h1 := sum_nn (xs := xs) fun z hz => h z (List.mem_cons_of_mem _ hz)
    rcases List.mem_cons.mp hx with z | z
    · subst z; omega
    · have := sum_pos (xs := xs) (fun w hw => h w (List.mem_cons_of_mem _ hw)) ⟨x, z, hp⟩
      omega
theorem LL0_has {n : Nat} (C : Nat → Bool) : ∃ C' ∈ LL 0 n, ∀ j, j < n → C' j = C j := by
  obtain ⟨C', h1, h2⟩ := LL_has (s := 0) C n
  exact ⟨C', h1, fun j hj => h2 j (by omega) (by omega)⟩
theorem NN_pos {H W : Nat} {f : Nat → Nat → Bool} {R C : Nat → Bool} (hR : R ∈ LL 1 (H - 1)) : 0 < NN H W f (TT H W f R C) := by
  refine sum_pos (fun _ _ => cnt_nn) ⟨R, hR, cnt_pos ?_⟩
  obtain ⟨C', h1, h2⟩ := LL0_has (n := W) C
  refine List.mem_map.mpr ⟨C', h1, TT_congr (fun _ _ => rfl) h2⟩
theorem NN_low {H W : Nat} {f : Nat → Nat → Bool} {k : Int} (hH : 1 ≤ H) (hk : k < left H W f) : NN H W f k = 0 := by
  unfold NN
  rw [show (LL 1 (H - 1)).map (LK.hk H W f k) = (LL 1 (H - 1)).map fun _ => (0 : Int) from List.map_congr_left fun R _ => cnt_zero fun z => by
    obtain ⟨C, _, e⟩ := List.mem_map.mp z
    have := left_le (W := W) (f := f) hH R C
    omega]
  exact sum_zero
theorem TT_bd {H W : Nat} {f : Nat → Nat → Bool} {R C : Nat → Bool} : 0 ≤ TT H W f R C ∧ TT H W f R C ≤ H * W := by
  rw [TT_eq]
  refine ⟨sum_nn fun j _ => rsum_bd.1, ?_⟩
  refine Int.le_trans (sum_le (g := fun _ => (H : Int)) fun j _ => rsum_bd.2) ?_
  have : ∀ n : Nat, ((List.range n).map fun _ => (H : Int)).sum = H * n := fun n => by
    induction n with
    | zero => simp
    | succ n ih =>
      rw [List.range_succ, List.map_append, List.sum_append, ih]
      simp [Int.mul_add]
  rw [this W]
  exact Int.le_refl _
theorem cnt_all {L : List Int} {n : Nat} (h : ∀ x ∈ L, 0 ≤ x ∧ x < n) : ((List.range n).map fun k => cnt L ((k : Nat) : Int)).sum = L.length := by
  unfold cnt
  rw [sum_swap (xs := List.range n) (ys := L) (f := fun k x => if x = ((k : Nat) : Int) then (1 : Int) else 0)]
  induction L with
  | nil => simp
  | cons x L ih =>
    simp only [List.map_cons, List.sum_cons]
    rw [ih fun y hy => h y (List.mem_cons_of_mem _ hy)]
    obtain ⟨h0, h1⟩ := h x List.mem_cons_self
    have one : ∀ m : Nat, ((List.range m).map fun k => if x = ((k : Nat) : Int) then (1 : Int) else 0).sum = if x < m then 1 else 0 := fun m => by
      induction m with
      | zero => simp; omega
      | succ m ih2 =>
        rw [List.range_succ, List.map_append, List.sum_append, ih2]
        simp only [List.map_cons, List.map_nil, List.sum_cons, List.sum_nil]
        by_cases a : x < m
        · rw [if_pos a, if_neg (by omega), if_pos (by omega)]; rfl
        · rw [if_neg a]
          by_cases b : x = m
          · rw [if_pos b, if_pos (by omega)]; rfl
          · rw [if_neg b, if_neg (by omega)]; rfl
    rw [one n, if_pos h1]
    simp
    omega
theorem NN_all {H W : Nat} {f : Nat → Nat → Bool} : ((List.range (H * W + 1)).map fun k => NN H W f ((k : Nat) : Int)).sum = 2 ^ (H - 1) * 2 ^ W := by
  unfold NN
  rw [sum_swap (xs := List.range (H * W + 1)) (ys := LL 1 (H - 1)) (f := fun k R => hk H W f ((k : Nat) : Int) R)]
  have : ∀ R ∈ LL 1 (H - 1), ((List.range (H * W + 1)).map fun k => hk H W f ((k : Nat) : Int) R).sum = (2 : Int) ^ W := fun R _ => by
    unfold hk
    rw [cnt_all (L := (LL 0 W).map (TT H W f R)) fun x hx => by
      obtain ⟨C, _, rfl⟩ := List.mem_map.mp hx
      have := TT_bd (H := H) (W := W) (f := f) (R := R) (C := C)
      refine ⟨this.1, ?_⟩
      have h2 := this.2
      have : ((H * W + 1 : Nat) : Int) = H * W + 1 := by simp
      omega]
    rw [List.length_map, LL_len]
    simp
  rw [sum_congr this]
  have len := LL_len (s := 1) (H - 1)
  generalize LL 1 (H - 1) = xs at len
  have : ∀ xs : List (Nat → Bool), (xs.map fun _ => (2 : Int) ^ W).sum = xs.length * 2 ^ W := fun xs => by
    induction xs with
    | nil => simp
    | cons x xs ih =>
      simp only [List.map_cons, List.sum_cons, ih, List.length_cons]
      push_cast
      rw [Int.add_mul]
      omega
  rw [this xs, len]
  simp
end LK

set_option maxHeartbeats 0

namespace LK
open PySem PySem.Spec PyProof.Rows L2 LS
def top (i : Nat) : Stmt := PySem.Challenge.pw_lineswitch_k34_whole_what_is_left.main.body.getD i (.Pass ⟨0, 0, 0, 0⟩)
structure Bl (mg : Str → Option Value) : Prop where
  n_all : mg "all" = none
  n_bool : mg "bool" = none
  n_divmod : mg "divmod" = none
  n_enumerate : mg "enumerate" = none
  n_int : mg "int" = none
  n_isinstance : mg "isinstance" = none
  n_len : mg "len" = none
  n_max : mg "max" = none
  n_min : mg "min" = none
  n_range : mg "range" = none
  n_sum : mg "sum" = none
  n_tuple : mg "tuple" = none
  n_zip : mg "zip" = none
theorem boot_all' : bootBuiltins "all" = some (.builtin "all") := by decide +kernel
theorem boot_bool' : bootBuiltins "bool" = some (.type "bool") := by decide +kernel
theorem boot_divmod' : bootBuiltins "divmod" = some (.builtin "divmod") := by decide +kernel
theorem boot_int' : bootBuiltins "int" = some (.type "int") := by decide +kernel
theorem boot_isinstance' : bootBuiltins "isinstance" = some (.builtin "isinstance") := by decide +kernel
theorem boot_len' : bootBuiltins "len" = some (.builtin "len") := by decide +kernel
theorem boot_max' : bootBuiltins "max" = some (.builtin "max") := by decide +kernel
theorem boot_min' : bootBuiltins "min" = some (.builtin "min") := by decide +kernel
theorem boot_sum' : bootBuiltins "sum" = some (.builtin "sum") := by decide +kernel
theorem boot_tuple' : bootBuiltins "tuple" = some (.type "tuple") := by decide +kernel

abbrev s_is_whole : Stmt := top 7
theorem sc_is_whole : FnScope ["thing"] ["thing"] (defScope s_is_whole) := ⟨rfl, rfl, rfl, by decide +kernel, rfl, by decide +kernel, by decide +kernel⟩
noncomputable abbrev g_is_whole : MS := mRet (mAndV (mCall (ar2 instD) (mCons (mVar 0) (mCons (mC (.ty "int")) (mNil)))) (mNotV (mCall (ar2 instD) (mCons (mVar 0) (mCons (mC (.ty "bool")) (mNil))))))
theorem b_is_whole {P : Program} {w : World} {K : PySem.W.Frag} {mg : Str → Option Value} {base : Heap} (B : Bl mg) (f : Addr) (cdv : Value) (A : Around) (outer : List Env) (s : Shared) (H : Hp) (E : XK) (hr : Room 0 (A.deeper (envOfC "is_whole" (defScope s_is_whole) s.heap.objs.size f cdv))) :
    Exs (cxOf CX0 P w K mg base ["thing"] "is_whole" (defScope s_is_whole) f cdv A outer s H E).nox E0 (defBody s_is_whole) (g_is_whole) :=
  exs_one (ex_ret (ev_and (ev_callB instM rfl B.n_isinstance boot_isinstance' (evA_cons (ev_var (pv 0)) (evA_cons (ev_ty rfl B.n_int boot_int') (evA_nil)))) (ev_one (ev_not (ev_callB instM rfl B.n_isinstance boot_isinstance' (evA_cons (ev_var (pv 0)) (evA_cons (ev_ty rfl B.n_bool boot_bool') (evA_nil))))))))


abbrev s_is_line_tuple : Stmt := top 10
theorem sc_is_line_tuple : FnScope ["thing"] ["thing"] (defScope s_is_line_tuple) := ⟨rfl, rfl, rfl, by decide +kernel, rfl, by decide +kernel, by decide +kernel⟩
noncomputable abbrev g_is_line_tuple : MS := mRet (mAndV (mCall (ar2 instD) (mCons (mVar 0) (mCons (mC (.ty "tuple")) (mNil)))) (mChain leD leD (mC (.int 1)) (mCall (ar1 lenD) (mCons (mVar 0) (mNil))) (mC (.int 8))))
theorem b_is_line_tuple {P : Program} {w : World} {K : PySem.W.Frag} {mg : Str → Option Value} {base : Heap} (B : Bl mg) {t_MOST_LINES : Tok} (m_MOST_LINES : mg "MOST_LINES" = some (.int 8 t_MOST_LINES)) (f : Addr) (cdv : Value) (A : Around) (outer : List Env) (s : Shared) (H : Hp) (E : XK) (hr : Room 0 (A.deeper (envOfC "is_line_tuple" (defScope s_is_line_tuple) s.heap.objs.size f cdv))) :
    Exs (cxOf CX0 P w K mg base ["thing"] "is_line_tuple" (defScope s_is_line_tuple) f cdv A outer s H E).nox E0 (defBody s_is_line_tuple) (g_is_line_tuple) :=
  exs_one (ex_ret (ev_and (ev_callB instM rfl B.n_isinstance boot_isinstance' (evA_cons (ev_var (pv 0)) (evA_cons (ev_ty rfl B.n_tuple boot_tuple') (evA_nil)))) (ev_one (ev_chain leM leM (ev_int) (ev_callB lenM rfl B.n_len boot_len' (evA_cons (ev_var (pv 0)) (evA_nil))) (ev_globI rfl m_MOST_LINES)))))


abbrev s_row_switched : Stmt := top 20
theorem sc_row_switched : FnScope ["row", "columns", "is_turned"] ["row", "columns", "is_turned"] (defScope s_row_switched) := ⟨rfl, rfl, rfl, by decide +kernel, rfl, by decide +kernel, by decide +kernel⟩
noncomputable abbrev g_row_switched : MS := mRet (mCall (ar1 tupOfD) (mCons (mComp [none, none, some 1, some 2] (mIEnum2 (mCons (mVar 0) (mNil))) (sPair 0 1) (mTrue) (mIf (mTb (mOp eqD (mOp (inD false) (mVar 0) (mVar 2)) (mVar 3))) (mVar 1) (mOp subD (mC (.int 1)) (mVar 1)))) (mNil)))
theorem b_row_switched {P : Program} {w : World} {K : PySem.W.Frag} {mg : Str → Option Value} {base : Heap} (B : Bl mg) (f : Addr) (cdv : Value) (A : Around) (outer : List Env) (s : Shared) (H : Hp) (E : XK) (hr : Room 0 (A.deeper (envOfC "row_switched" (defScope s_row_switched) s.heap.objs.size f cdv))) :
    Exs (cxOf CX0 P w K mg base ["row", "columns", "is_turned"] "row_switched" (defScope s_row_switched) f cdv A outer s H E).nox E0 (defBody s_row_switched) (g_row_switched) :=
  exs_one (ex_ret (ev_callT tupOfM rfl B.n_tuple boot_tuple' (evA_cons (ev_comp (Nc := ["number", "light", "columns", "is_turned"]) (cs := [none, none, some 1, some 2]) rfl (CSc.ok ⟨rfl, by decide +kernel, by kernel_rfl, by decide +kernel, rfl, by kernel_rfl⟩) (evI_enum2 rfl B.n_enumerate (evA_cons (ev_var (pv 0)) (evA_nil))) (gokc_pair rfl rfl) (fun C D cells fp s₀ H₀ pins => ⟨pair_pg rfl (pg_name (i := 0) (show (["number", "light", "columns", "is_turned"] : List Str).Nodup from by decide +kernel) rfl (by first | exact Or.inl rfl | exact Or.inr rfl) (by first | exact .inl rfl | exact .inr rfl)) (pg_name (i := 1) (show (["number", "light", "columns", "is_turned"] : List Str).Nodup from by decide +kernel) rfl (by first | exact Or.inl rfl | exact Or.inr rfl) (by first | exact .inl rfl | exact .inr rfl)), evTs_nil, ev_ifExp (evT_cmp (eqM hr.units) (ev_cmp inM (ev_var (pv 0)) (ev_var (pv 2)) (by with_unfolding_all rfl)) (ev_var (pv 3)) (nomark _)) (ev_var (pv 1)) (ev_op subM (ev_int) (ev_var (pv 1)))⟩)) (evA_nil))))


abbrev s_counts_with_row : Stmt := top 24
theorem sc_counts_with_row : FnScope ["counts", "row"] ["counts", "row"] (defScope s_counts_with_row) := ⟨rfl, rfl, rfl, by decide +kernel, rfl, by decide +kernel, by decide +kernel⟩
noncomputable abbrev g_counts_with_row : MS := mRet (mCall (ar1 tupOfD) (mCons (mComp [none, none] (mIZip (mCons (mVar 0) (mCons (mVar 1) (mNil)))) (sPair 0 1) (mTrue) (mOp subD (mOp addD (mVar 0) (mC (.int 1))) (mOp mulD' (mC (.int 2)) (mVar 1)))) (mNil)))
theorem b_counts_with_row {P : Program} {w : World} {K : PySem.W.Frag} {mg : Str → Option Value} {base : Heap} (B : Bl mg) (f : Addr) (cdv : Value) (A : Around) (outer : List Env) (s : Shared) (H : Hp) (E : XK) (hr : Room 0 (A.deeper (envOfC "counts_with_row" (defScope s_counts_with_row) s.heap.objs.size f cdv))) :
    Exs (cxOf CX0 P w K mg base ["counts", "row"] "counts_with_row" (defScope s_counts_with_row) f cdv A outer s H E).nox E0 (defBody s_counts_with_row) (g_counts_with_row) :=
  exs_one (ex_ret (ev_callT tupOfM rfl B.n_tuple boot_tuple' (evA_cons (ev_comp (Nc := ["count", "light"]) (cs := [none, none]) rfl (CSc.ok ⟨rfl, by decide +kernel, by kernel_rfl, by decide +kernel, rfl, by kernel_rfl⟩) (evI_zip rfl B.n_zip (evA_cons (ev_var (pv 0)) (evA_cons (ev_var (pv 1)) (evA_nil)))) (gokc_pair rfl rfl) (fun C D cells fp s₀ H₀ pins => ⟨pair_pg rfl (pg_name (i := 0) (show (["count", "light"] : List Str).Nodup from by decide +kernel) rfl (by first | exact Or.inl rfl | exact Or.inr rfl) (by first | exact .inl rfl | exact .inr rfl)) (pg_name (i := 1) (show (["count", "light"] : List Str).Nodup from by decide +kernel) rfl (by first | exact Or.inl rfl | exact Or.inr rfl) (by first | exact .inl rfl | exact .inr rfl)), evTs_nil, ev_op subM (ev_op addM (ev_var (pv 0)) (ev_int)) (ev_op mulM' (ev_int) (ev_var (pv 1)))⟩)) (evA_nil))))


abbrev s_fewest_lit : Stmt := top 26
theorem sc_fewest_lit : FnScope ["counts", "high"] ["counts", "high"] (defScope s_fewest_lit) := ⟨rfl, rfl, rfl, by decide +kernel, rfl, by decide +kernel, by decide +kernel⟩
noncomputable abbrev g_fewest_lit : MS := mRet (mCall (ar1 sumD) (mCons (mComp [none, some 1] (mISeq (mVar 0)) (sName 0) (mTrue) (mCall (ar2 minD) (mCons (mVar 0) (mCons (mOp subD (mVar 1) (mVar 0)) (mNil))))) (mNil)))
theorem b_fewest_lit {P : Program} {w : World} {K : PySem.W.Frag} {mg : Str → Option Value} {base : Heap} (B : Bl mg) (f : Addr) (cdv : Value) (A : Around) (outer : List Env) (s : Shared) (H : Hp) (E : XK) (hr : Room 0 (A.deeper (envOfC "fewest_lit" (defScope s_fewest_lit) s.heap.objs.size f cdv))) :
    Exs (cxOf CX0 P w K mg base ["counts", "high"] "fewest_lit" (defScope s_fewest_lit) f cdv A outer s H E).nox E0 (defBody s_fewest_lit) (g_fewest_lit) :=
  exs_one (ex_ret (ev_callB (sumM rfl) rfl B.n_sum boot_sum' (evA_cons (ev_comp (Nc := ["count", "high"]) (cs := [none, some 1]) rfl (CSc.ok ⟨rfl, by decide +kernel, by kernel_rfl, by decide +kernel, rfl, by kernel_rfl⟩) (evI_seq (ev_var (pv 0))) (gokc_name rfl) (fun C D cells fp s₀ H₀ pins => ⟨pg_name (i := 0) (show (["count", "high"] : List Str).Nodup from by decide +kernel) rfl (by first | exact Or.inl rfl | exact Or.inr rfl) (by first | exact .inl rfl | exact .inr rfl), evTs_nil, ev_callB (minM rfl) rfl B.n_min boot_min' (evA_cons (ev_var (pv 0)) (evA_cons (ev_op subM (ev_var (pv 1)) (ev_var (pv 0))) (evA_nil)))⟩)) (evA_nil))))


abbrev s_fuller_columns : Stmt := top 27
theorem sc_fuller_columns : FnScope ["counts", "high"] ["counts", "high"] (defScope s_fuller_columns) := ⟨rfl, rfl, rfl, by decide +kernel, rfl, by decide +kernel, by decide +kernel⟩
noncomputable abbrev g_fuller_columns : MS := mRet (mCall (ar1 tupOfD) (mCons (mComp [none, none, some 1] (mIEnum2 (mCons (mVar 0) (mNil))) (sPair 0 1) (mTb (mOp gtD (mOp mulD' (mC (.int 2)) (mVar 1)) (mVar 2))) (mVar 0)) (mNil)))
theorem b_fuller_columns {P : Program} {w : World} {K : PySem.W.Frag} {mg : Str → Option Value} {base : Heap} (B : Bl mg) (f : Addr) (cdv : Value) (A : Around) (outer : List Env) (s : Shared) (H : Hp) (E : XK) (hr : Room 0 (A.deeper (envOfC "fuller_columns" (defScope s_fuller_columns) s.heap.objs.size f cdv))) :
    Exs (cxOf CX0 P w K mg base ["counts", "high"] "fuller_columns" (defScope s_fuller_columns) f cdv A outer s H E).nox E0 (defBody s_fuller_columns) (g_fuller_columns) :=
  exs_one (ex_ret (ev_callT tupOfM rfl B.n_tuple boot_tuple' (evA_cons (ev_comp (Nc := ["number", "count", "high"]) (cs := [none, none, some 1]) rfl (CSc.ok ⟨rfl, by decide +kernel, by kernel_rfl, by decide +kernel, rfl, by kernel_rfl⟩) (evI_enum2 rfl B.n_enumerate (evA_cons (ev_var (pv 0)) (evA_nil))) (gokc_pair rfl rfl) (fun C D cells fp s₀ H₀ pins => ⟨pair_pg rfl (pg_name (i := 0) (show (["number", "count", "high"] : List Str).Nodup from by decide +kernel) rfl (by first | exact Or.inl rfl | exact Or.inr rfl) (by first | exact .inl rfl | exact .inr rfl)) (pg_name (i := 1) (show (["number", "count", "high"] : List Str).Nodup from by decide +kernel) rfl (by first | exact Or.inl rfl | exact Or.inr rfl) (by first | exact .inl rfl | exact .inr rfl)), evTs_one (evT_cmp gtM (ev_op mulM' (ev_int) (ev_var (pv 1))) (ev_var (pv 2)) (nomark _)), ev_var (pv 0)⟩)) (evA_nil))))


abbrev s_ways_with_column : Stmt := top 34
theorem sc_ways_with_column : FnScope ["ways", "count", "high", "more", "lit", "many"] ["ways", "count", "high"] (defScope s_ways_with_column) := ⟨rfl, rfl, rfl, by decide +kernel, rfl, by decide +kernel, by decide +kernel⟩
noncomputable abbrev g_ways_with_column : MS := mSeq (mSet 3 (mOp mulD' (mLst (mCons (mC (.int 0)) (mNil))) (mOp addD (mCall (ar1 lenD) (mCons (mVar 0) (mNil))) (mVar 2)))) (mSeq (mFor (mIEnum2 (mCons (mVar 0) (mNil))) (sPair 4 5) (mSeq (mAugIx (mVar 3) (mOp addD (mVar 4) (mVar 1)) (mVar 5)) (mAugIx (mVar 3) (mOp subD (mOp addD (mVar 4) (mVar 2)) (mVar 1)) (mVar 5)))) (mRet (mVar 3)))
theorem b_ways_with_column {P : Program} {w : World} {K : PySem.W.Frag} {mg : Str → Option Value} {base : Heap} (B : Bl mg) (f : Addr) (cdv : Value) (A : Around) (outer : List Env) (s : Shared) (H : Hp) (E : XK) (hr : Room 0 (A.deeper (envOfC "ways_with_column" (defScope s_ways_with_column) s.heap.objs.size f cdv))) :
    Exs (cxOf CX0 P w K mg base ["ways", "count", "high", "more", "lit", "many"] "ways_with_column" (defScope s_ways_with_column) f cdv A outer s H E).nox E0 (defBody s_ways_with_column) (g_ways_with_column) :=
  exs_cons (ex_set (i := 3) sc_ways_with_column.nd rfl (by first | exact Or.inl rfl | exact Or.inr rfl) (ev_op mulM' (ev_lst (evA_cons (ev_int) (evA_nil))) (ev_op addM (ev_callB lenM rfl B.n_len boot_len' (evA_cons (ev_var (pv 0)) (evA_nil))) (ev_var (pv 2))))) (exs_cons (ex_for PassesOwn.never rfl (evI_enum2 rfl B.n_enumerate (evA_cons (ev_var (pv 0)) (evA_nil))) (evG_pair (pair_pg rfl (pg_name (i := 4) (sc_ways_with_column.nd) rfl (by first | exact Or.inl rfl | exact Or.inr rfl) (by first | exact .inl rfl | exact .inr rfl)) (pg_name (i := 5) (sc_ways_with_column.nd) rfl (by first | exact Or.inl rfl | exact Or.inr rfl) (by first | exact .inl rfl | exact .inr rfl)))) (exs_cons (ex_augIx (ev_var (pv 3)) (ev_op addM (ev_var (pv 4)) (ev_var (pv 1))) (ev_var (pv 5))) (exs_one (ex_augIx (ev_var (pv 3)) (ev_op subM (ev_op addM (ev_var (pv 4)) (ev_var (pv 2))) (ev_var (pv 1))) (ev_var (pv 5)))))) (exs_one (ex_ret (ev_var (pv 3)))))


abbrev s__law_cell : Stmt := top 40
theorem sc__law_cell : FnScope ["_law_script", "_law_k"] ["_law_script", "_law_k"] (defScope s__law_cell) := ⟨rfl, rfl, rfl, by decide +kernel, rfl, by decide +kernel, by decide +kernel⟩
noncomputable abbrev g__law_cell : MS := mSeq (mIfS (mTb (mOp ltD (mVar 1) (mCall (ar1 lenD) (mCons (mVar 0) (mNil))))) (mRet (mOp ixD (mVar 0) (mVar 1))) (mSkip)) (mRet (mOp addD (mOp mulD' (mC (.int 6151)) (mVar 1)) (mC (.int 29))))
theorem b__law_cell {P : Program} {w : World} {K : PySem.W.Frag} {mg : Str → Option Value} {base : Heap} (B : Bl mg) (f : Addr) (cdv : Value) (A : Around) (outer : List Env) (s : Shared) (H : Hp) (E : XK) (hr : Room 0 (A.deeper (envOfC "_law_cell" (defScope s__law_cell) s.heap.objs.size f cdv))) :
    Exs (cxOf CX0 P w K mg base ["_law_script", "_law_k"] "_law_cell" (defScope s__law_cell) f cdv A outer s H E).nox E0 (defBody s__law_cell) (g__law_cell) :=
  exs_cons (ex_if (evT_cmp ltM (ev_var (pv 1)) (ev_callB lenM rfl B.n_len boot_len' (evA_cons (ev_var (pv 0)) (evA_nil))) (nomark _)) (exs_one (ex_ret (ev_ix (ev_var (pv 0)) (ev_var (pv 1)) (fun _ _ => rfl)))) (exs_nil)) (exs_one (ex_ret (ev_op addM (ev_op mulM' (ev_int) (ev_var (pv 1))) (ev_int))))


abbrev s__law_mix : Stmt := top 41
theorem sc__law_mix : FnScope ["_law_cell_here", "_law_k", "_law_number"] ["_law_cell_here", "_law_k"] (defScope s__law_mix) := ⟨rfl, rfl, rfl, by decide +kernel, rfl, by decide +kernel, by decide +kernel⟩
noncomputable abbrev g__law_mix : MS := mSeq (mSet 2 (mOp addD (mOp mulD' (mOp addD (mVar 0) (mC (.int 1))) (mC (.int 40692))) (mOp mulD' (mC (.int 104729)) (mVar 1)))) (mSeq (mSet 2 (mOp addD (mOp modD (mOp mulD' (mVar 2) (mVar 2)) (mC (.int 2147483399))) (mVar 1))) (mRet (mOp modD (mOp mulD' (mVar 2) (mOp addD (mVar 2) (mC (.int 31)))) (mC (.int 2147483563)))))
theorem b__law_mix {P : Program} {w : World} {K : PySem.W.Frag} {mg : Str → Option Value} {base : Heap} (B : Bl mg) (f : Addr) (cdv : Value) (A : Around) (outer : List Env) (s : Shared) (H : Hp) (E : XK) (hr : Room 0 (A.deeper (envOfC "_law_mix" (defScope s__law_mix) s.heap.objs.size f cdv))) :
    Exs (cxOf CX0 P w K mg base ["_law_cell_here", "_law_k", "_law_number"] "_law_mix" (defScope s__law_mix) f cdv A outer s H E).nox E0 (defBody s__law_mix) (g__law_mix) :=
  exs_cons (ex_set (i := 2) sc__law_mix.nd rfl (by first | exact Or.inl rfl | exact Or.inr rfl) (ev_op addM (ev_op mulM' (ev_op addM (ev_var (pv 0)) (ev_int)) (ev_int)) (ev_op mulM' (ev_int) (ev_var (pv 1))))) (exs_cons (ex_set (i := 2) sc__law_mix.nd rfl (by first | exact Or.inl rfl | exact Or.inr rfl) (ev_op addM (ev_op modM (ev_op mulM' (ev_var (pv 2)) (ev_var (pv 2))) (ev_int)) (ev_var (pv 1)))) (exs_one (ex_ret (ev_op modM (ev_op mulM' (ev_var (pv 2)) (ev_op addM (ev_var (pv 2)) (ev_int))) (ev_int)))))


abbrev s__law_take : Stmt := top 43
theorem sc__law_take : FnScope ["_law_box_here", "_law_many", "_law_left", "_law_digit"] ["_law_box_here", "_law_many"] (defScope s__law_take) := ⟨rfl, rfl, rfl, by decide +kernel, rfl, by decide +kernel, by decide +kernel⟩
noncomputable abbrev g__law_take : MS := mSeq (mUnp (sPair 2 3) (mCall (ar2 divmodD) (mCons (mOp ixD (mVar 0) (mC (.int 0))) (mCons (mVar 1) (mNil))))) (mSeq (mSetIx (mVar 0) (mC (.int 0)) (mVar 2)) (mRet (mVar 3)))
theorem b__law_take {P : Program} {w : World} {K : PySem.W.Frag} {mg : Str → Option Value} {base : Heap} (B : Bl mg) (f : Addr) (cdv : Value) (A : Around) (outer : List Env) (s : Shared) (H : Hp) (E : XK) (hr : Room 0 (A.deeper (envOfC "_law_take" (defScope s__law_take) s.heap.objs.size f cdv))) :
    Exs (cxOf CX0 P w K mg base ["_law_box_here", "_law_many", "_law_left", "_law_digit"] "_law_take" (defScope s__law_take) f cdv A outer s H E).nox E0 (defBody s__law_take) (g__law_take) :=
  exs_cons (ex_unp (ev_callB divmodM rfl B.n_divmod boot_divmod' (evA_cons (ev_ix (ev_var (pv 0)) (ev_int) (fun _ _ => rfl)) (evA_cons (ev_var (pv 1)) (evA_nil)))) (evG_pair (pair_pg rfl (pg_name (i := 2) (sc__law_take.nd) rfl (by first | exact Or.inl rfl | exact Or.inr rfl) (by first | exact .inl rfl | exact .inr rfl)) (pg_name (i := 3) (sc__law_take.nd) rfl (by first | exact Or.inl rfl | exact Or.inr rfl) (by first | exact .inl rfl | exact .inr rfl))))) (exs_cons (ex_setIx (ev_var (pv 0)) (ev_int) (ev_var (pv 2))) (exs_one (ex_ret (ev_var (pv 3)))))


abbrev s_is_between : Stmt := top 8
theorem sc_is_between : FnScope ["thing", "least", "most"] ["thing", "least", "most"] (defScope s_is_between) := ⟨rfl, rfl, rfl, by decide +kernel, rfl, by decide +kernel, by decide +kernel⟩
noncomputable abbrev g_is_between (F_is_whole : List D → HD → Out D) : MS := mRet (mAndV (mCall F_is_whole (mCons (mVar 0) (mNil))) (mChain leD leD (mVar 1) (mVar 0) (mVar 2)))
theorem b_is_between {P : Program} {w : World} {K : PySem.W.Frag} {mg : Str → Option Value} {base : Heap} (B : Bl mg) {F_is_whole : List D → HD → Out D} (c_is_whole : Ca P w K mg base "is_whole" 1 F_is_whole) (f : Addr) (cdv : Value) (A : Around) (outer : List Env) (s : Shared) (H : Hp) (E : XK) (hr : Room 1 (A.deeper (envOfC "is_between" (defScope s_is_between) s.heap.objs.size f cdv))) :
    Exs (cxOf CX0 P w K mg base ["thing", "least", "most"] "is_between" (defScope s_is_between) f cdv A outer s H E).nox E0 (defBody s_is_between) (g_is_between F_is_whole) :=
  exs_one (ex_ret (ev_and (ev_ca c_is_whole hr (evA_cons (ev_var (pv 0)) (evA_nil))) (ev_one (ev_chain leM leM (ev_var (pv 1)) (ev_var (pv 0)) (ev_var (pv 2))))))


abbrev s_is_lot : Stmt := top 17
theorem sc_is_lot : FnScope ["thing", "size", "last", "number"] ["thing", "size"] (defScope s_is_lot) := ⟨rfl, rfl, rfl, by decide +kernel, rfl, by decide +kernel, by decide +kernel⟩
noncomputable abbrev g_is_lot (F_is_whole : List D → HD → Out D) : MS := mSeq (mIfS (mNot (mTru (mCall (ar2 instD) (mCons (mVar 0) (mCons (mC (.ty "tuple")) (mNil)))))) (mRet (mC (.bl false))) (mSkip)) (mSeq (mSet 2 (mNeg (mC (.int 1)))) (mSeq (mFor (mISeq (mVar 0)) (sName 3) (mSeq (mIfS (mOr (mNot (mTru (mCall F_is_whole (mCons (mVar 3) (mNil))))) (mNot (mTb (mChain ltD ltD (mVar 2) (mVar 3) (mVar 1))))) (mRet (mC (.bl false))) (mSkip)) (mSet 2 (mVar 3)))) (mRet (mC (.bl true)))))
theorem b_is_lot {P : Program} {w : World} {K : PySem.W.Frag} {mg : Str → Option Value} {base : Heap} (B : Bl mg) {F_is_whole : List D → HD → Out D} (c_is_whole : Ca P w K mg base "is_whole" 1 F_is_whole) (f : Addr) (cdv : Value) (A : Around) (outer : List Env) (s : Shared) (H : Hp) (E : XK) (hr : Room 1 (A.deeper (envOfC "is_lot" (defScope s_is_lot) s.heap.objs.size f cdv))) :
    Exs (cxOf CX0 P w K mg base ["thing", "size", "last", "number"] "is_lot" (defScope s_is_lot) f cdv A outer s H E).nox E0 (defBody s_is_lot) (g_is_lot F_is_whole) :=
  exs_cons (ex_if (evT_not (evT_val (ev_callB instM rfl B.n_isinstance boot_isinstance' (evA_cons (ev_var (pv 0)) (evA_cons (ev_ty rfl B.n_tuple boot_tuple') (evA_nil)))))) (exs_one (ex_ret (ev_bl))) (exs_nil)) (exs_cons (ex_set (i := 2) sc_is_lot.nd rfl (by first | exact Or.inl rfl | exact Or.inr rfl) (ev_neg (ev_int))) (exs_cons (ex_for PassesOwn.never rfl (evI_seq (ev_var (pv 0))) (evG_name (pg_name (i := 3) (sc_is_lot.nd) rfl (by first | exact Or.inl rfl | exact Or.inr rfl) (by first | exact .inl rfl | exact .inr rfl))) (exs_cons (ex_if (evT_w (evW_or (evT_not (evT_val (ev_ca c_is_whole hr (evA_cons (ev_var (pv 3)) (evA_nil))))) (evW_or1 (evT_not (evT_chain ltM ltM (ev_var (pv 2)) (ev_var (pv 3)) (ev_var (pv 1))))))) (exs_one (ex_ret (ev_bl))) (exs_nil)) (exs_one (ex_set (i := 2) sc_is_lot.nd rfl (by first | exact Or.inl rfl | exact Or.inr rfl) (ev_var (pv 3)))))) (exs_one (ex_ret (ev_bl)))))


abbrev s_ways_of_counts : Stmt := top 35
theorem sc_ways_of_counts : FnScope ["counts", "high", "ways", "count"] ["counts", "high"] (defScope s_ways_of_counts) := ⟨rfl, rfl, rfl, by decide +kernel, rfl, by decide +kernel, by decide +kernel⟩
noncomputable abbrev g_ways_of_counts (F_ways_with_column : List D → HD → Out D) : MS := mSeq (mSet 2 (mLst (mCons (mC (.int 1)) (mNil)))) (mSeq (mFor (mISeq (mVar 0)) (sName 3) (mSet 2 (mCall F_ways_with_column (mCons (mVar 2) (mCons (mVar 3) (mCons (mVar 1) (mNil))))))) (mRet (mVar 2)))
theorem b_ways_of_counts {P : Program} {w : World} {K : PySem.W.Frag} {mg : Str → Option Value} {base : Heap} (B : Bl mg) {F_ways_with_column : List D → HD → Out D} (c_ways_with_column : Ca P w K mg base "ways_with_column" 1 F_ways_with_column) (f : Addr) (cdv : Value) (A : Around) (outer : List Env) (s : Shared) (H : Hp) (E : XK) (hr : Room 1 (A.deeper (envOfC "ways_of_counts" (defScope s_ways_of_counts) s.heap.objs.size f cdv))) :
    Exs (cxOf CX0 P w K mg base ["counts", "high", "ways", "count"] "ways_of_counts" (defScope s_ways_of_counts) f cdv A outer s H E).nox E0 (defBody s_ways_of_counts) (g_ways_of_counts F_ways_with_column) :=
  exs_cons (ex_set (i := 2) sc_ways_of_counts.nd rfl (by first | exact Or.inl rfl | exact Or.inr rfl) (ev_lst (evA_cons (ev_int) (evA_nil)))) (exs_cons (ex_for PassesOwn.never rfl (evI_seq (ev_var (pv 0))) (evG_name (pg_name (i := 3) (sc_ways_of_counts.nd) rfl (by first | exact Or.inl rfl | exact Or.inr rfl) (by first | exact .inl rfl | exact .inr rfl))) (exs_one (ex_set (i := 2) sc_ways_of_counts.nd rfl (by first | exact Or.inl rfl | exact Or.inr rfl) (ev_ca c_ways_with_column hr (evA_cons (ev_var (pv 2)) (evA_cons (ev_var (pv 3)) (evA_cons (ev_var (pv 1)) (evA_nil)))))))) (exs_one (ex_ret (ev_var (pv 2)))))


abbrev s__law_box : Stmt := top 42
theorem sc__law_box : FnScope ["_law_script", "_law_k", "_law_here", "_law_number", "_law_j"] ["_law_script", "_law_k"] (defScope s__law_box) := ⟨rfl, rfl, rfl, by decide +kernel, rfl, by decide +kernel, by decide +kernel⟩
noncomputable abbrev g__law_box (F__law_cell : List D → HD → Out D) (F__law_mix : List D → HD → Out D) : MS := mSeq (mSet 2 (mCall F__law_cell (mCons (mVar 0) (mCons (mVar 1) (mNil))))) (mSeq (mIfS (mTb (mOp eqD (mOp modD (mVar 2) (mC (.int 2))) (mC (.int 0)))) (mRet (mLst (mCons (mOp fdivD' (mVar 2) (mC (.int 2))) (mNil)))) (mSkip)) (mSeq (mSet 3 (mC (.int 0))) (mSeq (mFor (mIRng1 (mCons (mC (.int 24)) (mNil))) (sName 4) (mSet 3 (mOp addD (mOp mulD' (mVar 3) (mC (.int 2147483647))) (mCall F__law_mix (mCons (mVar 2) (mCons (mVar 4) (mNil))))))) (mRet (mLst (mCons (mVar 3) (mNil)))))))
theorem b__law_box {P : Program} {w : World} {K : PySem.W.Frag} {mg : Str → Option Value} {base : Heap} (B : Bl mg) {F__law_cell : List D → HD → Out D} {F__law_mix : List D → HD → Out D} (c__law_cell : Ca P w K mg base "_law_cell" 1 F__law_cell) (c__law_mix : Ca P w K mg base "_law_mix" 1 F__law_mix) (f : Addr) (cdv : Value) (A : Around) (outer : List Env) (s : Shared) (H : Hp) (E : XK) (hr : Room 1 (A.deeper (envOfC "_law_box" (defScope s__law_box) s.heap.objs.size f cdv))) :
    Exs (cxOf CX0 P w K mg base ["_law_script", "_law_k", "_law_here", "_law_number", "_law_j"] "_law_box" (defScope s__law_box) f cdv A outer s H E).nox E0 (defBody s__law_box) (g__law_box F__law_cell F__law_mix) :=
  exs_cons (ex_set (i := 2) sc__law_box.nd rfl (by first | exact Or.inl rfl | exact Or.inr rfl) (ev_ca c__law_cell hr (evA_cons (ev_var (pv 0)) (evA_cons (ev_var (pv 1)) (evA_nil))))) (exs_cons (ex_if (evT_cmp (eqM hr.units) (ev_op modM (ev_var (pv 2)) (ev_int)) (ev_int) (nomark _)) (exs_one (ex_ret (ev_lst (evA_cons (ev_op fdivM' (ev_var (pv 2)) (ev_int)) (evA_nil))))) (exs_nil)) (exs_cons (ex_set (i := 3) sc__law_box.nd rfl (by first | exact Or.inl rfl | exact Or.inr rfl) (ev_int)) (exs_cons (ex_for PassesOwn.never rfl (evI_range1 rfl B.n_range (evA_cons (ev_int) (evA_nil))) (evG_name (pg_name (i := 4) (sc__law_box.nd) rfl (by first | exact Or.inl rfl | exact Or.inr rfl) (by first | exact .inl rfl | exact .inr rfl))) (exs_one (ex_set (i := 3) sc__law_box.nd rfl (by first | exact Or.inl rfl | exact Or.inr rfl) (ev_op addM (ev_op mulM' (ev_var (pv 3)) (ev_int)) (ev_ca c__law_mix hr (evA_cons (ev_var (pv 2)) (evA_cons (ev_var (pv 4)) (evA_nil)))))))) (exs_one (ex_ret (ev_lst (evA_cons (ev_var (pv 3)) (evA_nil))))))))


abbrev s__law_wide_box : Stmt := top 44
theorem sc__law_wide_box : FnScope ["_law_box_here", "_law_number", "_law_many", "_law_j"] ["_law_box_here"] (defScope s__law_wide_box) := ⟨rfl, rfl, rfl, by decide +kernel, rfl, by decide +kernel, by decide +kernel⟩
noncomputable abbrev g__law_wide_box (F__law_take : List D → HD → Out D) : MS := mSeq (mPar 1 2 (mCons (mCall F__law_take (mCons (mVar 0) (mCons (mC (.int 2147483647)) (mNil)))) (mCons (mC (.int 0)) (mNil)))) (mSeq (mFor (mIRng1 (mCons (mC (.int 24)) (mNil))) (sName 3) (mSeq (mSet 1 (mOp modD (mOp addD (mOp addD (mOp mulD' (mVar 1) (mC (.int 48271))) (mC (.int 11))) (mVar 3)) (mC (.int 2147483647)))) (mSet 2 (mOp addD (mOp mulD' (mVar 2) (mC (.int 2147483647))) (mVar 1))))) (mRet (mLst (mCons (mVar 2) (mNil)))))
theorem b__law_wide_box {P : Program} {w : World} {K : PySem.W.Frag} {mg : Str → Option Value} {base : Heap} (B : Bl mg) {F__law_take : List D → HD → Out D} (c__law_take : Ca P w K mg base "_law_take" 1 F__law_take) (f : Addr) (cdv : Value) (A : Around) (outer : List Env) (s : Shared) (H : Hp) (E : XK) (hr : Room 1 (A.deeper (envOfC "_law_wide_box" (defScope s__law_wide_box) s.heap.objs.size f cdv))) :
    Exs (cxOf CX0 P w K mg base ["_law_box_here", "_law_number", "_law_many", "_law_j"] "_law_wide_box" (defScope s__law_wide_box) f cdv A outer s H E).nox E0 (defBody s__law_wide_box) (g__law_wide_box F__law_take) :=
  exs_cons (ex_par (i := 1) (j := 2) rfl sc__law_wide_box.nd rfl rfl (by decide) rfl rfl (evA_cons (ev_ca c__law_take hr (evA_cons (ev_var (pv 0)) (evA_cons (ev_int) (evA_nil)))) (evA_cons (ev_int) (evA_nil))) (by first | rfl | with_unfolding_all rfl)) (exs_cons (ex_for PassesOwn.never rfl (evI_range1 rfl B.n_range (evA_cons (ev_int) (evA_nil))) (evG_name (pg_name (i := 3) (sc__law_wide_box.nd) rfl (by first | exact Or.inl rfl | exact Or.inr rfl) (by first | exact .inl rfl | exact .inr rfl))) (exs_cons (ex_set (i := 1) sc__law_wide_box.nd rfl (by first | exact Or.inl rfl | exact Or.inr rfl) (ev_op modM (ev_op addM (ev_op addM (ev_op mulM' (ev_var (pv 1)) (ev_int)) (ev_int)) (ev_var (pv 3))) (ev_int))) (exs_one (ex_set (i := 2) sc__law_wide_box.nd rfl (by first | exact Or.inl rfl | exact Or.inr rfl) (ev_op addM (ev_op mulM' (ev_var (pv 2)) (ev_int)) (ev_var (pv 1))))))) (exs_one (ex_ret (ev_lst (evA_cons (ev_var (pv 2)) (evA_nil))))))


abbrev s__law_lot : Stmt := top 46
theorem sc__law_lot : FnScope ["_law_box_here", "_law_size"] ["_law_box_here", "_law_size"] (defScope s__law_lot) := ⟨rfl, rfl, rfl, by decide +kernel, rfl, by decide +kernel, by decide +kernel⟩
noncomputable abbrev g__law_lot (F__law_take : List D → HD → Out D) : MS := mRet (mCall (ar1 tupOfD) (mCons (mComp [none, some 0] (mIRng1 (mCons (mVar 1) (mNil))) (sName 0) (mTb (mOp eqD (mCall F__law_take (mCons (mVar 1) (mCons (mC (.int 2)) (mNil)))) (mC (.int 1)))) (mVar 0)) (mNil)))
theorem b__law_lot {P : Program} {w : World} {K : PySem.W.Frag} {mg : Str → Option Value} {base : Heap} (B : Bl mg) {F__law_take : List D → HD → Out D} (c__law_take : Ca P w K mg base "_law_take" 1 F__law_take) (f : Addr) (cdv : Value) (A : Around) (outer : List Env) (s : Shared) (H : Hp) (E : XK) (hr : Room 1 (A.deeper (envOfC "_law_lot" (defScope s__law_lot) s.heap.objs.size f cdv))) :
    Exs (cxOf CX0 P w K mg base ["_law_box_here", "_law_size"] "_law_lot" (defScope s__law_lot) f cdv A outer s H E).nox E0 (defBody s__law_lot) (g__law_lot F__law_take) :=
  exs_one (ex_ret (ev_callT tupOfM rfl B.n_tuple boot_tuple' (evA_cons (ev_comp (Nc := ["_law_number", "_law_box_here"]) (cs := [none, some 0]) rfl (CSc.ok ⟨rfl, by decide +kernel, by kernel_rfl, by decide +kernel, rfl, by kernel_rfl⟩) (evI_range1 rfl B.n_range (evA_cons (ev_var (pv 1)) (evA_nil))) (gokc_name rfl) (fun C D cells fp s₀ H₀ pins => ⟨pg_name (i := 0) (show (["_law_number", "_law_box_here"] : List Str).Nodup from by decide +kernel) rfl (by first | exact Or.inl rfl | exact Or.inr rfl) (by first | exact .inl rfl | exact .inr rfl), evTs_one (evT_cmp (eqM hr.units) (ev_ca c__law_take hr (evA_cons (ev_var (pv 1)) (evA_cons (ev_int) (evA_nil)))) (ev_int) (nomark _)), ev_var (pv 0)⟩)) (evA_nil))))


abbrev s_is_light : Stmt := top 9
theorem sc_is_light : FnScope ["thing"] ["thing"] (defScope s_is_light) := ⟨rfl, rfl, rfl, by decide +kernel, rfl, by decide +kernel, by decide +kernel⟩
noncomputable abbrev g_is_light (F_is_between : List D → HD → Out D) : MS := mRet (mCall F_is_between (mCons (mVar 0) (mCons (mC (.int 0)) (mCons (mC (.int 1)) (mNil)))))
theorem b_is_light {P : Program} {w : World} {K : PySem.W.Frag} {mg : Str → Option Value} {base : Heap} (B : Bl mg) {F_is_between : List D → HD → Out D} (c_is_between : Ca P w K mg base "is_between" 2 F_is_between) (f : Addr) (cdv : Value) (A : Around) (outer : List Env) (s : Shared) (H : Hp) (E : XK) (hr : Room 2 (A.deeper (envOfC "is_light" (defScope s_is_light) s.heap.objs.size f cdv))) :
    Exs (cxOf CX0 P w K mg base ["thing"] "is_light" (defScope s_is_light) f cdv A outer s H E).nox E0 (defBody s_is_light) (g_is_light F_is_between) :=
  exs_one (ex_ret (ev_ca c_is_between hr (evA_cons (ev_var (pv 0)) (evA_cons (ev_int) (evA_cons (ev_int) (evA_nil))))))


abbrev s__law_board : Stmt := top 45
theorem sc__law_board : FnScope ["_law_box_here", "_law_high", "_law_wide", "_law_way", "_law_digits", "_law_dense", "_law_rows", "_law_number"] ["_law_box_here", "_law_high", "_law_wide"] (defScope s__law_board) := ⟨rfl, rfl, rfl, by decide +kernel, rfl, by decide +kernel, by decide +kernel⟩
noncomputable abbrev g__law_board (F__law_take : List D → HD → Out D) (F__law_wide_box : List D → HD → Out D) : MS := mSeq (mSet 3 (mCall F__law_take (mCons (mVar 0) (mCons (mC (.int 5)) (mNil))))) (mSeq (mSet 4 (mCall F__law_wide_box (mCons (mVar 0) (mNil)))) (mSeq (mSet 5 (mOp ixD (mLst (mCons (mC (.int 3)) (mCons (mC (.int 1)) (mCons (mC (.int 5)) (mCons (mC (.int 3)) (mCons (mC (.int 2)) (mNil))))))) (mVar 3))) (mSeq (mSet 6 (mLst (mNil))) (mSeq (mFor (mIRng1 (mCons (mVar 1) (mNil))) (sName 7) (mExpr (mApp (mVar 6) (mCall (ar1 tupOfD) (mCons (mComp [none, some 4, some 5] (mIRng1 (mCons (mVar 2) (mNil))) (sName 0) (mTrue) (mCall (ar1 intOfD) (mCons (mOp ltD (mCall F__law_take (mCons (mVar 1) (mCons (mC (.int 6)) (mNil)))) (mVar 2)) (mNil)))) (mNil)))))) (mSeq (mIfS (mTb (mOp eqD (mVar 3) (mC (.int 3)))) (mSet 6 (mOp mulD' (mLst (mCons (mOp ixD (mVar 6) (mC (.int 0))) (mNil))) (mVar 1))) (mSkip)) (mRet (mCall (ar1 tupOfD) (mCons (mVar 6) (mNil)))))))))
theorem b__law_board {P : Program} {w : World} {K : PySem.W.Frag} {mg : Str → Option Value} {base : Heap} (B : Bl mg) {F__law_take : List D → HD → Out D} {F__law_wide_box : List D → HD → Out D} (c__law_take : Ca P w K mg base "_law_take" 1 F__law_take) (c__law_wide_box : Ca P w K mg base "_law_wide_box" 2 F__law_wide_box) (f : Addr) (cdv : Value) (A : Around) (outer : List Env) (s : Shared) (H : Hp) (E : XK) (hr : Room 2 (A.deeper (envOfC "_law_board" (defScope s__law_board) s.heap.objs.size f cdv))) :
    Exs (cxOf CX0 P w K mg base ["_law_box_here", "_law_high", "_law_wide", "_law_way", "_law_digits", "_law_dense", "_law_rows", "_law_number"] "_law_board" (defScope s__law_board) f cdv A outer s H E).nox E0 (defBody s__law_board) (g__law_board F__law_take F__law_wide_box) :=
  exs_cons (ex_set (i := 3) sc__law_board.nd rfl (by first | exact Or.inl rfl | exact Or.inr rfl) (ev_ca c__law_take hr (evA_cons (ev_var (pv 0)) (evA_cons (ev_int) (evA_nil))))) (exs_cons (ex_set (i := 4) sc__law_board.nd rfl (by first | exact Or.inl rfl | exact Or.inr rfl) (ev_ca c__law_wide_box hr (evA_cons (ev_var (pv 0)) (evA_nil)))) (exs_cons (ex_set (i := 5) sc__law_board.nd rfl (by first | exact Or.inl rfl | exact Or.inr rfl) (ev_ix (ev_lst (evA_cons (ev_int) (evA_cons (ev_int) (evA_cons (ev_int) (evA_cons (ev_int) (evA_cons (ev_int) (evA_nil))))))) (ev_var (pv 3)) (fun _ _ => rfl))) (exs_cons (ex_set (i := 6) sc__law_board.nd rfl (by first | exact Or.inl rfl | exact Or.inr rfl) (ev_lst (evA_nil))) (exs_cons (ex_for PassesOwn.never rfl (evI_range1 rfl B.n_range (evA_cons (ev_var (pv 1)) (evA_nil))) (evG_name (pg_name (i := 7) (sc__law_board.nd) rfl (by first | exact Or.inl rfl | exact Or.inr rfl) (by first | exact .inl rfl | exact .inr rfl))) (exs_one (ex_expr (ev_append (ev_var (pv 6)) (ev_callT tupOfM rfl B.n_tuple boot_tuple' (evA_cons (ev_comp (Nc := ["_law_place", "_law_digits", "_law_dense"]) (cs := [none, some 4, some 5]) rfl (CSc.ok ⟨rfl, by decide +kernel, by kernel_rfl, by decide +kernel, rfl, by kernel_rfl⟩) (evI_range1 rfl B.n_range (evA_cons (ev_var (pv 2)) (evA_nil))) (gokc_name rfl) (fun C D cells fp s₀ H₀ pins => ⟨pg_name (i := 0) (show (["_law_place", "_law_digits", "_law_dense"] : List Str).Nodup from by decide +kernel) rfl (by first | exact Or.inl rfl | exact Or.inr rfl) (by first | exact .inl rfl | exact .inr rfl), evTs_nil, ev_callT intOfM rfl B.n_int boot_int' (evA_cons (ev_cmp ltM (ev_ca c__law_take hr (evA_cons (ev_var (pv 1)) (evA_cons (ev_int) (evA_nil)))) (ev_var (pv 2)) (nomark _)) (evA_nil))⟩)) (evA_nil))))))) (exs_cons (ex_if (evT_cmp (eqM hr.units) (ev_var (pv 3)) (ev_int) (nomark _)) (exs_one (ex_set (i := 6) sc__law_board.nd rfl (by first | exact Or.inl rfl | exact Or.inr rfl) (ev_op mulM' (ev_lst (evA_cons (ev_ix (ev_var (pv 6)) (ev_int) (fun _ _ => rfl)) (evA_nil))) (ev_var (pv 1))))) (exs_nil)) (exs_one (ex_ret (ev_callT tupOfM rfl B.n_tuple boot_tuple' (evA_cons (ev_var (pv 6)) (evA_nil))))))))))


abbrev s_is_row : Stmt := top 11
theorem sc_is_row : FnScope ["thing"] ["thing"] (defScope s_is_row) := ⟨rfl, rfl, rfl, by decide +kernel, rfl, by decide +kernel, by decide +kernel⟩
noncomputable abbrev g_is_row (F_is_line_tuple : List D → HD → Out D) (F_is_light : List D → HD → Out D) : MS := mRet (mAndV (mCall F_is_line_tuple (mCons (mVar 0) (mNil))) (mCall (ar1 allD) (mCons (mComp [none] (mISeq (mVar 0)) (sName 0) (mTrue) (mCall F_is_light (mCons (mVar 0) (mNil)))) (mNil))))
theorem b_is_row {P : Program} {w : World} {K : PySem.W.Frag} {mg : Str → Option Value} {base : Heap} (B : Bl mg) {F_is_line_tuple : List D → HD → Out D} {F_is_light : List D → HD → Out D} (c_is_line_tuple : Ca P w K mg base "is_line_tuple" 1 F_is_line_tuple) (c_is_light : Ca P w K mg base "is_light" 3 F_is_light) (f : Addr) (cdv : Value) (A : Around) (outer : List Env) (s : Shared) (H : Hp) (E : XK) (hr : Room 3 (A.deeper (envOfC "is_row" (defScope s_is_row) s.heap.objs.size f cdv))) :
    Exs (cxOf CX0 P w K mg base ["thing"] "is_row" (defScope s_is_row) f cdv A outer s H E).nox E0 (defBody s_is_row) (g_is_row F_is_line_tuple F_is_light) :=
  exs_one (ex_ret (ev_and (ev_ca c_is_line_tuple hr (evA_cons (ev_var (pv 0)) (evA_nil))) (ev_one (ev_callB (allM rfl) rfl B.n_all boot_all' (evA_cons (ev_comp (Nc := ["light"]) (cs := [none]) rfl (CSc.ok ⟨rfl, by decide +kernel, by kernel_rfl, by decide +kernel, rfl, by kernel_rfl⟩) (evI_seq (ev_var (pv 0))) (gokc_name rfl) (fun C D cells fp s₀ H₀ pins => ⟨pg_name (i := 0) (show (["light"] : List Str).Nodup from by decide +kernel) rfl (by first | exact Or.inl rfl | exact Or.inr rfl) (by first | exact .inl rfl | exact .inr rfl), evTs_nil, ev_ca c_is_light hr (evA_cons (ev_var (pv 0)) (evA_nil))⟩)) (evA_nil))))))


abbrev s_is_board : Stmt := top 12
theorem sc_is_board : FnScope ["thing"] ["thing"] (defScope s_is_board) := ⟨rfl, rfl, rfl, by decide +kernel, rfl, by decide +kernel, by decide +kernel⟩
noncomputable abbrev g_is_board (F_is_line_tuple : List D → HD → Out D) (F_is_row : List D → HD → Out D) : MS := mSeq (mIfS (mOr (mNot (mTru (mCall F_is_line_tuple (mCons (mVar 0) (mNil))))) (mNot (mTru (mCall (ar1 allD) (mCons (mComp [none] (mISeq (mVar 0)) (sName 0) (mTrue) (mCall F_is_row (mCons (mVar 0) (mNil)))) (mNil)))))) (mRet (mC (.bl false))) (mSkip)) (mRet (mCall (ar1 allD) (mCons (mComp [none, some 0] (mISeq (mVar 0)) (sName 0) (mTrue) (mOp eqD (mCall (ar1 lenD) (mCons (mVar 0) (mNil))) (mCall (ar1 lenD) (mCons (mOp ixD (mVar 1) (mC (.int 0))) (mNil))))) (mNil))))
theorem b_is_board {P : Program} {w : World} {K : PySem.W.Frag} {mg : Str → Option Value} {base : Heap} (B : Bl mg) {F_is_line_tuple : List D → HD → Out D} {F_is_row : List D → HD → Out D} (c_is_line_tuple : Ca P w K mg base "is_line_tuple" 1 F_is_line_tuple) (c_is_row : Ca P w K mg base "is_row" 4 F_is_row) (f : Addr) (cdv : Value) (A : Around) (outer : List Env) (s : Shared) (H : Hp) (E : XK) (hr : Room 4 (A.deeper (envOfC "is_board" (defScope s_is_board) s.heap.objs.size f cdv))) :
    Exs (cxOf CX0 P w K mg base ["thing"] "is_board" (defScope s_is_board) f cdv A outer s H E).nox E0 (defBody s_is_board) (g_is_board F_is_line_tuple F_is_row) :=
  exs_cons (ex_if (evT_w (evW_or (evT_not (evT_val (ev_ca c_is_line_tuple hr (evA_cons (ev_var (pv 0)) (evA_nil))))) (evW_or1 (evT_not (evT_val (ev_callB (allM rfl) rfl B.n_all boot_all' (evA_cons (ev_comp (Nc := ["row"]) (cs := [none]) rfl (CSc.ok ⟨rfl, by decide +kernel, by kernel_rfl, by decide +kernel, rfl, by kernel_rfl⟩) (evI_seq (ev_var (pv 0))) (gokc_name rfl) (fun C D cells fp s₀ H₀ pins => ⟨pg_name (i := 0) (show (["row"] : List Str).Nodup from by decide +kernel) rfl (by first | exact Or.inl rfl | exact Or.inr rfl) (by first | exact .inl rfl | exact .inr rfl), evTs_nil, ev_ca c_is_row hr (evA_cons (ev_var (pv 0)) (evA_nil))⟩)) (evA_nil)))))))) (exs_one (ex_ret (ev_bl))) (exs_nil)) (exs_one (ex_ret (ev_callB (allM rfl) rfl B.n_all boot_all' (evA_cons (ev_comp (Nc := ["row", "thing"]) (cs := [none, some 0]) rfl (CSc.ok ⟨rfl, by decide +kernel, by kernel_rfl, by decide +kernel, rfl, by kernel_rfl⟩) (evI_seq (ev_var (pv 0))) (gokc_name rfl) (fun C D cells fp s₀ H₀ pins => ⟨pg_name (i := 0) (show (["row", "thing"] : List Str).Nodup from by decide +kernel) rfl (by first | exact Or.inl rfl | exact Or.inr rfl) (by first | exact .inl rfl | exact .inr rfl), evTs_nil, ev_cmp (eqM hr.units) (ev_callB lenM rfl B.n_len boot_len' (evA_cons (ev_var (pv 0)) (evA_nil))) (ev_callB lenM rfl B.n_len boot_len' (evA_cons (ev_ix (ev_var (pv 1)) (ev_int) (fun _ _ => rfl)) (evA_nil))) (nomark _)⟩)) (evA_nil)))))


abbrev s_need_board : Stmt := top 13
theorem sc_need_board : FnScope ["thing"] ["thing"] (defScope s_need_board) := ⟨rfl, rfl, rfl, by decide +kernel, rfl, by decide +kernel, by decide +kernel⟩
noncomputable abbrev g_need_board (F_is_board : List D → HD → Out D) : MS := mIfS (mNot (mTru (mCall F_is_board (mCons (mVar 0) (mNil))))) (mNever) (mSkip)
theorem b_need_board {P : Program} {w : World} {K : PySem.W.Frag} {mg : Str → Option Value} {base : Heap} (B : Bl mg) {F_is_board : List D → HD → Out D} (c_is_board : Ca P w K mg base "is_board" 5 F_is_board) (f : Addr) (cdv : Value) (A : Around) (outer : List Env) (s : Shared) (H : Hp) (E : XK) (hr : Room 5 (A.deeper (envOfC "need_board" (defScope s_need_board) s.heap.objs.size f cdv))) :
    Exs (cxOf CX0 P w K mg base ["thing"] "need_board" (defScope s_need_board) f cdv A outer s H E).nox E0 (defBody s_need_board) (g_need_board F_is_board) :=
  exs_one (ex_if (evT_not (evT_val (ev_ca c_is_board hr (evA_cons (ev_var (pv 0)) (evA_nil))))) (exs_one (ex_never)) (exs_nil))


abbrev s_row_counts : Stmt := top 15
theorem sc_row_counts : FnScope ["board"] ["board"] (defScope s_row_counts) := ⟨rfl, rfl, rfl, by decide +kernel, rfl, by decide +kernel, by decide +kernel⟩
noncomputable abbrev g_row_counts (F_need_board : List D → HD → Out D) : MS := mSeq (mExpr (mCall F_need_board (mCons (mVar 0) (mNil)))) (mRet (mCall (ar1 tupOfD) (mCons (mComp [none] (mISeq (mVar 0)) (sName 0) (mTrue) (mCall (ar1 sumD) (mCons (mVar 0) (mNil)))) (mNil))))
theorem b_row_counts {P : Program} {w : World} {K : PySem.W.Frag} {mg : Str → Option Value} {base : Heap} (B : Bl mg) {F_need_board : List D → HD → Out D} (c_need_board : Ca P w K mg base "need_board" 6 F_need_board) (f : Addr) (cdv : Value) (A : Around) (outer : List Env) (s : Shared) (H : Hp) (E : XK) (hr : Room 6 (A.deeper (envOfC "row_counts" (defScope s_row_counts) s.heap.objs.size f cdv))) :
    Exs (cxOf CX0 P w K mg base ["board"] "row_counts" (defScope s_row_counts) f cdv A outer s H E).nox E0 (defBody s_row_counts) (g_row_counts F_need_board) :=
  exs_cons (ex_expr (ev_ca c_need_board hr (evA_cons (ev_var (pv 0)) (evA_nil)))) (exs_one (ex_ret (ev_callT tupOfM rfl B.n_tuple boot_tuple' (evA_cons (ev_comp (Nc := ["row"]) (cs := [none]) rfl (CSc.ok ⟨rfl, by decide +kernel, by kernel_rfl, by decide +kernel, rfl, by kernel_rfl⟩) (evI_seq (ev_var (pv 0))) (gokc_name rfl) (fun C D cells fp s₀ H₀ pins => ⟨pg_name (i := 0) (show (["row"] : List Str).Nodup from by decide +kernel) rfl (by first | exact Or.inl rfl | exact Or.inr rfl) (by first | exact .inl rfl | exact .inr rfl), evTs_nil, ev_callB (sumM rfl) rfl B.n_sum boot_sum' (evA_cons (ev_var (pv 0)) (evA_nil))⟩)) (evA_nil)))))


abbrev s_is_switching : Stmt := top 18
theorem sc_is_switching : FnScope ["board", "thing"] ["board", "thing"] (defScope s_is_switching) := ⟨rfl, rfl, rfl, by decide +kernel, rfl, by decide +kernel, by decide +kernel⟩
noncomputable abbrev g_is_switching (F_need_board : List D → HD → Out D) (F_is_lot : List D → HD → Out D) : MS := mSeq (mExpr (mCall F_need_board (mCons (mVar 0) (mNil)))) (mSeq (mIfS (mOr (mNot (mTru (mCall (ar2 instD) (mCons (mVar 1) (mCons (mC (.ty "tuple")) (mNil)))))) (mTb (mOp neD (mCall (ar1 lenD) (mCons (mVar 1) (mNil))) (mC (.int 2))))) (mRet (mC (.bl false))) (mSkip)) (mRet (mAndV (mCall F_is_lot (mCons (mOp ixD (mVar 1) (mC (.int 0))) (mCons (mCall (ar1 lenD) (mCons (mVar 0) (mNil))) (mNil)))) (mCall F_is_lot (mCons (mOp ixD (mVar 1) (mC (.int 1))) (mCons (mCall (ar1 lenD) (mCons (mOp ixD (mVar 0) (mC (.int 0))) (mNil))) (mNil)))))))
theorem b_is_switching {P : Program} {w : World} {K : PySem.W.Frag} {mg : Str → Option Value} {base : Heap} (B : Bl mg) {F_need_board : List D → HD → Out D} {F_is_lot : List D → HD → Out D} (c_need_board : Ca P w K mg base "need_board" 6 F_need_board) (c_is_lot : Ca P w K mg base "is_lot" 2 F_is_lot) (f : Addr) (cdv : Value) (A : Around) (outer : List Env) (s : Shared) (H : Hp) (E : XK) (hr : Room 6 (A.deeper (envOfC "is_switching" (defScope s_is_switching) s.heap.objs.size f cdv))) :
    Exs (cxOf CX0 P w K mg base ["board", "thing"] "is_switching" (defScope s_is_switching) f cdv A outer s H E).nox E0 (defBody s_is_switching) (g_is_switching F_need_board F_is_lot) :=
  exs_cons (ex_expr (ev_ca c_need_board hr (evA_cons (ev_var (pv 0)) (evA_nil)))) (exs_cons (ex_if (evT_w (evW_or (evT_not (evT_val (ev_callB instM rfl B.n_isinstance boot_isinstance' (evA_cons (ev_var (pv 1)) (evA_cons (ev_ty rfl B.n_tuple boot_tuple') (evA_nil)))))) (evW_or1 (evT_cmp (neM hr.units) (ev_callB lenM rfl B.n_len boot_len' (evA_cons (ev_var (pv 1)) (evA_nil))) (ev_int) (nomark _))))) (exs_one (ex_ret (ev_bl))) (exs_nil)) (exs_one (ex_ret (ev_and (ev_ca c_is_lot hr (evA_cons (ev_ix (ev_var (pv 1)) (ev_int) (fun _ _ => rfl)) (evA_cons (ev_callB lenM rfl B.n_len boot_len' (evA_cons (ev_var (pv 0)) (evA_nil))) (evA_nil)))) (ev_one (ev_ca c_is_lot hr (evA_cons (ev_ix (ev_var (pv 1)) (ev_int) (fun _ _ => rfl)) (evA_cons (ev_callB lenM rfl B.n_len boot_len' (evA_cons (ev_ix (ev_var (pv 0)) (ev_int) (fun _ _ => rfl)) (evA_nil))) (evA_nil)))))))))


abbrev s_turned : Stmt := top 22
theorem sc_turned : FnScope ["board"] ["board"] (defScope s_turned) := ⟨rfl, rfl, rfl, by decide +kernel, rfl, by decide +kernel, by decide +kernel⟩
noncomputable abbrev g_turned (F_need_board : List D → HD → Out D) : MS := mSeq (mExpr (mCall F_need_board (mCons (mVar 0) (mNil)))) (mRet (mCall (ar1 tupOfD) (mCons (mComp [none, some 0] (mIRng1 (mCons (mCall (ar1 lenD) (mCons (mOp ixD (mVar 0) (mC (.int 0))) (mNil))) (mNil))) (sName 0) (mTrue) (mCall (ar1 tupOfD) (mCons (mComp [none, some 0] (mISeq (mVar 1)) (sName 0) (mTrue) (mOp ixD (mVar 0) (mVar 1))) (mNil)))) (mNil))))
theorem b_turned {P : Program} {w : World} {K : PySem.W.Frag} {mg : Str → Option Value} {base : Heap} (B : Bl mg) {F_need_board : List D → HD → Out D} (c_need_board : Ca P w K mg base "need_board" 6 F_need_board) (f : Addr) (cdv : Value) (A : Around) (outer : List Env) (s : Shared) (H : Hp) (E : XK) (hr : Room 6 (A.deeper (envOfC "turned" (defScope s_turned) s.heap.objs.size f cdv))) :
    Exs (cxOf CX0 P w K mg base ["board"] "turned" (defScope s_turned) f cdv A outer s H E).nox E0 (defBody s_turned) (g_turned F_need_board) :=
  exs_cons (ex_expr (ev_ca c_need_board hr (evA_cons (ev_var (pv 0)) (evA_nil)))) (exs_one (ex_ret (ev_callT tupOfM rfl B.n_tuple boot_tuple' (evA_cons (ev_comp (Nc := ["number", "board"]) (cs := [none, some 0]) rfl (CSc.ok ⟨rfl, by decide +kernel, by kernel_rfl, by decide +kernel, rfl, by kernel_rfl⟩) (evI_range1 rfl B.n_range (evA_cons (ev_callB lenM rfl B.n_len boot_len' (evA_cons (ev_ix (ev_var (pv 0)) (ev_int) (fun _ _ => rfl)) (evA_nil))) (evA_nil))) (gokc_name rfl) (fun C D cells fp s₀ H₀ pins => ⟨pg_name (i := 0) (show (["number", "board"] : List Str).Nodup from by decide +kernel) rfl (by first | exact Or.inl rfl | exact Or.inr rfl) (by first | exact .inl rfl | exact .inr rfl), evTs_nil, ev_callT tupOfM rfl B.n_tuple boot_tuple' (evA_cons (ev_comp (Nc := ["row", "number"]) (cs := [none, some 0]) rfl (CSc.ok ⟨rfl, by decide +kernel, by kernel_rfl, by decide +kernel, rfl, by kernel_rfl⟩) (evI_seq (ev_var (pv 1))) (gokc_name rfl) (fun C D cells fp s₀ H₀ pins => ⟨pg_name (i := 0) (show (["row", "number"] : List Str).Nodup from by decide +kernel) rfl (by first | exact Or.inl rfl | exact Or.inr rfl) (by first | exact .inl rfl | exact .inr rfl), evTs_nil, ev_ix (ev_var (pv 0)) (ev_var (pv 1)) (fun _ _ => rfl)⟩)) (evA_nil))⟩)) (evA_nil)))))


abbrev s_alike_many : Stmt := top 38
theorem sc_alike_many : FnScope ["board"] ["board"] (defScope s_alike_many) := ⟨rfl, rfl, rfl, by decide +kernel, rfl, by decide +kernel, by decide +kernel⟩
noncomputable abbrev g_alike_many (F_need_board : List D → HD → Out D) : MS := mSeq (mExpr (mCall F_need_board (mCons (mVar 0) (mNil)))) (mRet (mOp shlD (mC (.int 1)) (mOp subD (mOp addD (mCall (ar1 lenD) (mCons (mVar 0) (mNil))) (mCall (ar1 lenD) (mCons (mOp ixD (mVar 0) (mC (.int 0))) (mNil)))) (mC (.int 1)))))
theorem b_alike_many {P : Program} {w : World} {K : PySem.W.Frag} {mg : Str → Option Value} {base : Heap} (B : Bl mg) {F_need_board : List D → HD → Out D} (c_need_board : Ca P w K mg base "need_board" 6 F_need_board) (f : Addr) (cdv : Value) (A : Around) (outer : List Env) (s : Shared) (H : Hp) (E : XK) (hr : Room 6 (A.deeper (envOfC "alike_many" (defScope s_alike_many) s.heap.objs.size f cdv))) :
    Exs (cxOf CX0 P w K mg base ["board"] "alike_many" (defScope s_alike_many) f cdv A outer s H E).nox E0 (defBody s_alike_many) (g_alike_many F_need_board) :=
  exs_cons (ex_expr (ev_ca c_need_board hr (evA_cons (ev_var (pv 0)) (evA_nil)))) (exs_one (ex_ret (ev_op shlM (ev_int) (ev_op subM (ev_op addM (ev_callB lenM rfl B.n_len boot_len' (evA_cons (ev_var (pv 0)) (evA_nil))) (ev_callB lenM rfl B.n_len boot_len' (evA_cons (ev_ix (ev_var (pv 0)) (ev_int) (fun _ _ => rfl)) (evA_nil)))) (ev_int)))))


abbrev s_lit_many : Stmt := top 14
theorem sc_lit_many : FnScope ["board"] ["board"] (defScope s_lit_many) := ⟨rfl, rfl, rfl, by decide +kernel, rfl, by decide +kernel, by decide +kernel⟩
noncomputable abbrev g_lit_many (F_row_counts : List D → HD → Out D) : MS := mRet (mCall (ar1 sumD) (mCons (mCall F_row_counts (mCons (mVar 0) (mNil))) (mNil)))
theorem b_lit_many {P : Program} {w : World} {K : PySem.W.Frag} {mg : Str → Option Value} {base : Heap} (B : Bl mg) {F_row_counts : List D → HD → Out D} (c_row_counts : Ca P w K mg base "row_counts" 7 F_row_counts) (f : Addr) (cdv : Value) (A : Around) (outer : List Env) (s : Shared) (H : Hp) (E : XK) (hr : Room 7 (A.deeper (envOfC "lit_many" (defScope s_lit_many) s.heap.objs.size f cdv))) :
    Exs (cxOf CX0 P w K mg base ["board"] "lit_many" (defScope s_lit_many) f cdv A outer s H E).nox E0 (defBody s_lit_many) (g_lit_many F_row_counts) :=
  exs_one (ex_ret (ev_callB (sumM rfl) rfl B.n_sum boot_sum' (evA_cons (ev_ca c_row_counts hr (evA_cons (ev_var (pv 0)) (evA_nil))) (evA_nil))))


abbrev s_column_counts : Stmt := top 16
theorem sc_column_counts : FnScope ["board"] ["board"] (defScope s_column_counts) := ⟨rfl, rfl, rfl, by decide +kernel, rfl, by decide +kernel, by decide +kernel⟩
noncomputable abbrev g_column_counts (F_turned : List D → HD → Out D) (F_row_counts : List D → HD → Out D) : MS := mRet (mCall F_row_counts (mCons (mCall F_turned (mCons (mVar 0) (mNil))) (mNil)))
theorem b_column_counts {P : Program} {w : World} {K : PySem.W.Frag} {mg : Str → Option Value} {base : Heap} (B : Bl mg) {F_turned : List D → HD → Out D} {F_row_counts : List D → HD → Out D} (c_turned : Ca P w K mg base "turned" 7 F_turned) (c_row_counts : Ca P w K mg base "row_counts" 7 F_row_counts) (f : Addr) (cdv : Value) (A : Around) (outer : List Env) (s : Shared) (H : Hp) (E : XK) (hr : Room 7 (A.deeper (envOfC "column_counts" (defScope s_column_counts) s.heap.objs.size f cdv))) :
    Exs (cxOf CX0 P w K mg base ["board"] "column_counts" (defScope s_column_counts) f cdv A outer s H E).nox E0 (defBody s_column_counts) (g_column_counts F_turned F_row_counts) :=
  exs_one (ex_ret (ev_ca c_row_counts hr (evA_cons (ev_ca c_turned hr (evA_cons (ev_var (pv 0)) (evA_nil))) (evA_nil))))


abbrev s_need_switching : Stmt := top 19
theorem sc_need_switching : FnScope ["board", "thing"] ["board", "thing"] (defScope s_need_switching) := ⟨rfl, rfl, rfl, by decide +kernel, rfl, by decide +kernel, by decide +kernel⟩
noncomputable abbrev g_need_switching (F_is_switching : List D → HD → Out D) : MS := mIfS (mNot (mTru (mCall F_is_switching (mCons (mVar 0) (mCons (mVar 1) (mNil)))))) (mNever) (mSkip)
theorem b_need_switching {P : Program} {w : World} {K : PySem.W.Frag} {mg : Str → Option Value} {base : Heap} (B : Bl mg) {F_is_switching : List D → HD → Out D} (c_is_switching : Ca P w K mg base "is_switching" 7 F_is_switching) (f : Addr) (cdv : Value) (A : Around) (outer : List Env) (s : Shared) (H : Hp) (E : XK) (hr : Room 7 (A.deeper (envOfC "need_switching" (defScope s_need_switching) s.heap.objs.size f cdv))) :
    Exs (cxOf CX0 P w K mg base ["board", "thing"] "need_switching" (defScope s_need_switching) f cdv A outer s H E).nox E0 (defBody s_need_switching) (g_need_switching F_is_switching) :=
  exs_one (ex_if (evT_not (evT_val (ev_ca c_is_switching hr (evA_cons (ev_var (pv 0)) (evA_cons (ev_var (pv 1)) (evA_nil)))))) (exs_one (ex_never)) (exs_nil))


abbrev s_switched : Stmt := top 21
theorem sc_switched : FnScope ["board", "switching", "rows", "columns"] ["board", "switching"] (defScope s_switched) := ⟨rfl, rfl, rfl, by decide +kernel, rfl, by decide +kernel, by decide +kernel⟩
noncomputable abbrev g_switched (F_need_switching : List D → HD → Out D) (F_row_switched : List D → HD → Out D) : MS := mSeq (mExpr (mCall F_need_switching (mCons (mVar 0) (mCons (mVar 1) (mNil))))) (mSeq (mUnp (sPair 2 3) (mVar 1)) (mRet (mCall (ar1 tupOfD) (mCons (mComp [none, none, some 3, some 2] (mIEnum2 (mCons (mVar 0) (mNil))) (sPair 0 1) (mTrue) (mCall F_row_switched (mCons (mVar 1) (mCons (mVar 2) (mCons (mOp (inD false) (mVar 0) (mVar 3)) (mNil)))))) (mNil)))))
theorem b_switched {P : Program} {w : World} {K : PySem.W.Frag} {mg : Str → Option Value} {base : Heap} (B : Bl mg) {F_need_switching : List D → HD → Out D} {F_row_switched : List D → HD → Out D} (c_need_switching : Ca P w K mg base "need_switching" 8 F_need_switching) (c_row_switched : Ca P w K mg base "row_switched" 1 F_row_switched) (f : Addr) (cdv : Value) (A : Around) (outer : List Env) (s : Shared) (H : Hp) (E : XK) (hr : Room 8 (A.deeper (envOfC "switched" (defScope s_switched) s.heap.objs.size f cdv))) :
    Exs (cxOf CX0 P w K mg base ["board", "switching", "rows", "columns"] "switched" (defScope s_switched) f cdv A outer s H E).nox E0 (defBody s_switched) (g_switched F_need_switching F_row_switched) :=
  exs_cons (ex_expr (ev_ca c_need_switching hr (evA_cons (ev_var (pv 0)) (evA_cons (ev_var (pv 1)) (evA_nil))))) (exs_cons (ex_unp (ev_var (pv 1)) (evG_pair (pair_pg rfl (pg_name (i := 2) (sc_switched.nd) rfl (by first | exact Or.inl rfl | exact Or.inr rfl) (by first | exact .inl rfl | exact .inr rfl)) (pg_name (i := 3) (sc_switched.nd) rfl (by first | exact Or.inl rfl | exact Or.inr rfl) (by first | exact .inl rfl | exact .inr rfl))))) (exs_one (ex_ret (ev_callT tupOfM rfl B.n_tuple boot_tuple' (evA_cons (ev_comp (Nc := ["number", "row", "columns", "rows"]) (cs := [none, none, some 3, some 2]) rfl (CSc.ok ⟨rfl, by decide +kernel, by kernel_rfl, by decide +kernel, rfl, by kernel_rfl⟩) (evI_enum2 rfl B.n_enumerate (evA_cons (ev_var (pv 0)) (evA_nil))) (gokc_pair rfl rfl) (fun C D cells fp s₀ H₀ pins => ⟨pair_pg rfl (pg_name (i := 0) (show (["number", "row", "columns", "rows"] : List Str).Nodup from by decide +kernel) rfl (by first | exact Or.inl rfl | exact Or.inr rfl) (by first | exact .inl rfl | exact .inr rfl)) (pg_name (i := 1) (show (["number", "row", "columns", "rows"] : List Str).Nodup from by decide +kernel) rfl (by first | exact Or.inl rfl | exact Or.inr rfl) (by first | exact .inl rfl | exact .inr rfl)), evTs_nil, ev_ca c_row_switched hr (evA_cons (ev_var (pv 1)) (evA_cons (ev_var (pv 2)) (evA_cons (ev_cmp inM (ev_var (pv 0)) (ev_var (pv 3)) (by with_unfolding_all rfl)) (evA_nil))))⟩)) (evA_nil))))))


abbrev s_lots_with_counts : Stmt := top 25
theorem sc_lots_with_counts : FnScope ["board", "found", "number"] ["board"] (defScope s_lots_with_counts) := ⟨rfl, rfl, rfl, by decide +kernel, rfl, by decide +kernel, by decide +kernel⟩
noncomputable abbrev g_lots_with_counts (F_column_counts : List D → HD → Out D) (F_counts_with_row : List D → HD → Out D) : MS := mSeq (mSet 1 (mLst (mCons (mTup (mCons (mTup (mNil)) (mCons (mCall F_column_counts (mCons (mVar 0) (mNil))) (mNil)))) (mNil)))) (mSeq (mFor (mIRng2 (mCons (mC (.int 1)) (mCons (mCall (ar1 lenD) (mCons (mVar 0) (mNil))) (mNil)))) (sName 2) (mSet 1 (mOp addD (mVar 1) (mComp [none, none, some 2, some 0] (mISeq (mVar 1)) (sPair 0 1) (mTrue) (mTup (mCons (mOp addD (mVar 0) (mTup (mCons (mVar 2) (mNil)))) (mCons (mCall F_counts_with_row (mCons (mVar 1) (mCons (mOp ixD (mVar 3) (mVar 2)) (mNil)))) (mNil)))))))) (mRet (mVar 1)))
theorem b_lots_with_counts {P : Program} {w : World} {K : PySem.W.Frag} {mg : Str → Option Value} {base : Heap} (B : Bl mg) {F_column_counts : List D → HD → Out D} {F_counts_with_row : List D → HD → Out D} (c_column_counts : Ca P w K mg base "column_counts" 8 F_column_counts) (c_counts_with_row : Ca P w K mg base "counts_with_row" 1 F_counts_with_row) (f : Addr) (cdv : Value) (A : Around) (outer : List Env) (s : Shared) (H : Hp) (E : XK) (hr : Room 8 (A.deeper (envOfC "lots_with_counts" (defScope s_lots_with_counts) s.heap.objs.size f cdv))) :
    Exs (cxOf CX0 P w K mg base ["board", "found", "number"] "lots_with_counts" (defScope s_lots_with_counts) f cdv A outer s H E).nox E0 (defBody s_lots_with_counts) (g_lots_with_counts F_column_counts F_counts_with_row) :=
  exs_cons (ex_set (i := 1) sc_lots_with_counts.nd rfl (by first | exact Or.inl rfl | exact Or.inr rfl) (ev_lst (evA_cons (ev_tup (evA_cons (ev_tup (evA_nil)) (evA_cons (ev_ca c_column_counts hr (evA_cons (ev_var (pv 0)) (evA_nil))) (evA_nil)))) (evA_nil)))) (exs_cons (ex_for PassesOwn.never rfl (evI_range2 rfl B.n_range (evA_cons (ev_int) (evA_cons (ev_callB lenM rfl B.n_len boot_len' (evA_cons (ev_var (pv 0)) (evA_nil))) (evA_nil)))) (evG_name (pg_name (i := 2) (sc_lots_with_counts.nd) rfl (by first | exact Or.inl rfl | exact Or.inr rfl) (by first | exact .inl rfl | exact .inr rfl))) (exs_one (ex_set (i := 1) sc_lots_with_counts.nd rfl (by first | exact Or.inl rfl | exact Or.inr rfl) (ev_op addM (ev_var (pv 1)) (ev_comp (Nc := ["lot", "counts", "number", "board"]) (cs := [none, none, some 2, some 0]) rfl (CSc.ok ⟨rfl, by decide +kernel, by kernel_rfl, by decide +kernel, rfl, by kernel_rfl⟩) (evI_seq (ev_var (pv 1))) (gokc_pair rfl rfl) (fun C D cells fp s₀ H₀ pins => ⟨pair_pg rfl (pg_name (i := 0) (show (["lot", "counts", "number", "board"] : List Str).Nodup from by decide +kernel) rfl (by first | exact Or.inl rfl | exact Or.inr rfl) (by first | exact .inl rfl | exact .inr rfl)) (pg_name (i := 1) (show (["lot", "counts", "number", "board"] : List Str).Nodup from by decide +kernel) rfl (by first | exact Or.inl rfl | exact Or.inr rfl) (by first | exact .inl rfl | exact .inr rfl)), evTs_nil, ev_tup (evA_cons (ev_op addM (ev_var (pv 0)) (ev_tup (evA_cons (ev_var (pv 2)) (evA_nil)))) (evA_cons (ev_ca c_counts_with_row hr (evA_cons (ev_var (pv 1)) (evA_cons (ev_ix (ev_var (pv 3)) (ev_var (pv 2)) (fun _ _ => rfl)) (evA_nil)))) (evA_nil)))⟩)))))) (exs_one (ex_ret (ev_var (pv 1)))))


abbrev s_counts_by : Stmt := top 31
theorem sc_counts_by : FnScope ["board", "rows", "counts", "number"] ["board", "rows"] (defScope s_counts_by) := ⟨rfl, rfl, rfl, by decide +kernel, rfl, by decide +kernel, by decide +kernel⟩
noncomputable abbrev g_counts_by (F_need_board : List D → HD → Out D) (F_is_lot : List D → HD → Out D) (F_column_counts : List D → HD → Out D) (F_counts_with_row : List D → HD → Out D) : MS := mSeq (mExpr (mCall F_need_board (mCons (mVar 0) (mNil)))) (mSeq (mIfS (mNot (mTru (mCall F_is_lot (mCons (mVar 1) (mCons (mCall (ar1 lenD) (mCons (mVar 0) (mNil))) (mNil)))))) (mNever) (mSkip)) (mSeq (mSet 2 (mCall F_column_counts (mCons (mVar 0) (mNil)))) (mSeq (mFor (mISeq (mVar 1)) (sName 3) (mSet 2 (mCall F_counts_with_row (mCons (mVar 2) (mCons (mOp ixD (mVar 0) (mVar 3)) (mNil)))))) (mRet (mVar 2)))))
theorem b_counts_by {P : Program} {w : World} {K : PySem.W.Frag} {mg : Str → Option Value} {base : Heap} (B : Bl mg) {F_need_board : List D → HD → Out D} {F_is_lot : List D → HD → Out D} {F_column_counts : List D → HD → Out D} {F_counts_with_row : List D → HD → Out D} (c_need_board : Ca P w K mg base "need_board" 6 F_need_board) (c_is_lot : Ca P w K mg base "is_lot" 2 F_is_lot) (c_column_counts : Ca P w K mg base "column_counts" 8 F_column_counts) (c_counts_with_row : Ca P w K mg base "counts_with_row" 1 F_counts_with_row) (f : Addr) (cdv : Value) (A : Around) (outer : List Env) (s : Shared) (H : Hp) (E : XK) (hr : Room 8 (A.deeper (envOfC "counts_by" (defScope s_counts_by) s.heap.objs.size f cdv))) :
    Exs (cxOf CX0 P w K mg base ["board", "rows", "counts", "number"] "counts_by" (defScope s_counts_by) f cdv A outer s H E).nox E0 (defBody s_counts_by) (g_counts_by F_need_board F_is_lot F_column_counts F_counts_with_row) :=
  exs_cons (ex_expr (ev_ca c_need_board hr (evA_cons (ev_var (pv 0)) (evA_nil)))) (exs_cons (ex_if (evT_not (evT_val (ev_ca c_is_lot hr (evA_cons (ev_var (pv 1)) (evA_cons (ev_callB lenM rfl B.n_len boot_len' (evA_cons (ev_var (pv 0)) (evA_nil))) (evA_nil)))))) (exs_one (ex_never)) (exs_nil)) (exs_cons (ex_set (i := 2) sc_counts_by.nd rfl (by first | exact Or.inl rfl | exact Or.inr rfl) (ev_ca c_column_counts hr (evA_cons (ev_var (pv 0)) (evA_nil)))) (exs_cons (ex_for PassesOwn.never rfl (evI_seq (ev_var (pv 1))) (evG_name (pg_name (i := 3) (sc_counts_by.nd) rfl (by first | exact Or.inl rfl | exact Or.inr rfl) (by first | exact .inl rfl | exact .inr rfl))) (exs_one (ex_set (i := 2) sc_counts_by.nd rfl (by first | exact Or.inl rfl | exact Or.inr rfl) (ev_ca c_counts_with_row hr (evA_cons (ev_var (pv 2)) (evA_cons (ev_ix (ev_var (pv 0)) (ev_var (pv 3)) (fun _ _ => rfl)) (evA_nil))))))) (exs_one (ex_ret (ev_var (pv 2)))))))


abbrev s_left_many : Stmt := top 28
theorem sc_left_many : FnScope ["board"] ["board"] (defScope s_left_many) := ⟨rfl, rfl, rfl, by decide +kernel, rfl, by decide +kernel, by decide +kernel⟩
noncomputable abbrev g_left_many (F_lots_with_counts : List D → HD → Out D) (F_fewest_lit : List D → HD → Out D) : MS := mRet (mCall (ar1 (extD leastL)) (mCons (mComp [none, none, some 0] (mISeq (mCall F_lots_with_counts (mCons (mVar 0) (mNil)))) (sPair 0 1) (mTrue) (mCall F_fewest_lit (mCons (mVar 1) (mCons (mCall (ar1 lenD) (mCons (mVar 2) (mNil))) (mNil))))) (mNil)))
theorem b_left_many {P : Program} {w : World} {K : PySem.W.Frag} {mg : Str → Option Value} {base : Heap} (B : Bl mg) {F_lots_with_counts : List D → HD → Out D} {F_fewest_lit : List D → HD → Out D} (c_lots_with_counts : Ca P w K mg base "lots_with_counts" 9 F_lots_with_counts) (c_fewest_lit : Ca P w K mg base "fewest_lit" 1 F_fewest_lit) (f : Addr) (cdv : Value) (A : Around) (outer : List Env) (s : Shared) (H : Hp) (E : XK) (hr : Room 9 (A.deeper (envOfC "left_many" (defScope s_left_many) s.heap.objs.size f cdv))) :
    Exs (cxOf CX0 P w K mg base ["board"] "left_many" (defScope s_left_many) f cdv A outer s H E).nox E0 (defBody s_left_many) (g_left_many F_lots_with_counts F_fewest_lit) :=
  exs_one (ex_ret (ev_callB (minLM rfl) rfl B.n_min boot_min' (evA_cons (ev_comp (Nc := ["lot", "counts", "board"]) (cs := [none, none, some 0]) rfl (CSc.ok ⟨rfl, by decide +kernel, by kernel_rfl, by decide +kernel, rfl, by kernel_rfl⟩) (evI_seq (ev_ca c_lots_with_counts hr (evA_cons (ev_var (pv 0)) (evA_nil)))) (gokc_pair rfl rfl) (fun C D cells fp s₀ H₀ pins => ⟨pair_pg rfl (pg_name (i := 0) (show (["lot", "counts", "board"] : List Str).Nodup from by decide +kernel) rfl (by first | exact Or.inl rfl | exact Or.inr rfl) (by first | exact .inl rfl | exact .inr rfl)) (pg_name (i := 1) (show (["lot", "counts", "board"] : List Str).Nodup from by decide +kernel) rfl (by first | exact Or.inl rfl | exact Or.inr rfl) (by first | exact .inl rfl | exact .inr rfl)), evTs_nil, ev_ca c_fewest_lit hr (evA_cons (ev_var (pv 1)) (evA_cons (ev_callB lenM rfl B.n_len boot_len' (evA_cons (ev_var (pv 2)) (evA_nil))) (evA_nil)))⟩)) (evA_nil))))


abbrev s_best_columns : Stmt := top 32
theorem sc_best_columns : FnScope ["board", "rows"] ["board", "rows"] (defScope s_best_columns) := ⟨rfl, rfl, rfl, by decide +kernel, rfl, by decide +kernel, by decide +kernel⟩
noncomputable abbrev g_best_columns (F_counts_by : List D → HD → Out D) (F_fuller_columns : List D → HD → Out D) : MS := mRet (mCall F_fuller_columns (mCons (mCall F_counts_by (mCons (mVar 0) (mCons (mVar 1) (mNil)))) (mCons (mCall (ar1 lenD) (mCons (mVar 0) (mNil))) (mNil))))
theorem b_best_columns {P : Program} {w : World} {K : PySem.W.Frag} {mg : Str → Option Value} {base : Heap} (B : Bl mg) {F_counts_by : List D → HD → Out D} {F_fuller_columns : List D → HD → Out D} (c_counts_by : Ca P w K mg base "counts_by" 9 F_counts_by) (c_fuller_columns : Ca P w K mg base "fuller_columns" 1 F_fuller_columns) (f : Addr) (cdv : Value) (A : Around) (outer : List Env) (s : Shared) (H : Hp) (E : XK) (hr : Room 9 (A.deeper (envOfC "best_columns" (defScope s_best_columns) s.heap.objs.size f cdv))) :
    Exs (cxOf CX0 P w K mg base ["board", "rows"] "best_columns" (defScope s_best_columns) f cdv A outer s H E).nox E0 (defBody s_best_columns) (g_best_columns F_counts_by F_fuller_columns) :=
  exs_one (ex_ret (ev_ca c_fuller_columns hr (evA_cons (ev_ca c_counts_by hr (evA_cons (ev_var (pv 0)) (evA_cons (ev_var (pv 1)) (evA_nil)))) (evA_cons (ev_callB lenM rfl B.n_len boot_len' (evA_cons (ev_var (pv 0)) (evA_nil))) (evA_nil)))))


abbrev s_left_by : Stmt := top 33
theorem sc_left_by : FnScope ["board", "rows"] ["board", "rows"] (defScope s_left_by) := ⟨rfl, rfl, rfl, by decide +kernel, rfl, by decide +kernel, by decide +kernel⟩
noncomputable abbrev g_left_by (F_counts_by : List D → HD → Out D) (F_fewest_lit : List D → HD → Out D) : MS := mRet (mCall F_fewest_lit (mCons (mCall F_counts_by (mCons (mVar 0) (mCons (mVar 1) (mNil)))) (mCons (mCall (ar1 lenD) (mCons (mVar 0) (mNil))) (mNil))))
theorem b_left_by {P : Program} {w : World} {K : PySem.W.Frag} {mg : Str → Option Value} {base : Heap} (B : Bl mg) {F_counts_by : List D → HD → Out D} {F_fewest_lit : List D → HD → Out D} (c_counts_by : Ca P w K mg base "counts_by" 9 F_counts_by) (c_fewest_lit : Ca P w K mg base "fewest_lit" 1 F_fewest_lit) (f : Addr) (cdv : Value) (A : Around) (outer : List Env) (s : Shared) (H : Hp) (E : XK) (hr : Room 9 (A.deeper (envOfC "left_by" (defScope s_left_by) s.heap.objs.size f cdv))) :
    Exs (cxOf CX0 P w K mg base ["board", "rows"] "left_by" (defScope s_left_by) f cdv A outer s H E).nox E0 (defBody s_left_by) (g_left_by F_counts_by F_fewest_lit) :=
  exs_one (ex_ret (ev_ca c_fewest_lit hr (evA_cons (ev_ca c_counts_by hr (evA_cons (ev_var (pv 0)) (evA_cons (ev_var (pv 1)) (evA_nil)))) (evA_cons (ev_callB lenM rfl B.n_len boot_len' (evA_cons (ev_var (pv 0)) (evA_nil))) (evA_nil)))))


abbrev s_left_counts : Stmt := top 36
theorem sc_left_counts : FnScope ["board", "high", "totals", "lot", "counts", "ways"] ["board"] (defScope s_left_counts) := ⟨rfl, rfl, rfl, by decide +kernel, rfl, by decide +kernel, by decide +kernel⟩
noncomputable abbrev g_left_counts (F_need_board : List D → HD → Out D) (F_lots_with_counts : List D → HD → Out D) (F_ways_of_counts : List D → HD → Out D) : MS := mSeq (mExpr (mCall F_need_board (mCons (mVar 0) (mNil)))) (mSeq (mSet 1 (mCall (ar1 lenD) (mCons (mVar 0) (mNil)))) (mSeq (mSet 2 (mOp mulD' (mLst (mCons (mC (.int 0)) (mNil))) (mOp addD (mOp mulD' (mVar 1) (mCall (ar1 lenD) (mCons (mOp ixD (mVar 0) (mC (.int 0))) (mNil)))) (mC (.int 1))))) (mSeq (mFor (mISeq (mCall F_lots_with_counts (mCons (mVar 0) (mNil)))) (sPair 3 4) (mSeq (mSet 5 (mCall F_ways_of_counts (mCons (mVar 4) (mCons (mVar 1) (mNil))))) (mSet 2 (mComp [none, none] (mIZip (mCons (mVar 2) (mCons (mVar 5) (mNil)))) (sPair 0 1) (mTrue) (mOp addD (mVar 0) (mVar 1)))))) (mRet (mVar 2)))))
theorem b_left_counts {P : Program} {w : World} {K : PySem.W.Frag} {mg : Str → Option Value} {base : Heap} (B : Bl mg) {F_need_board : List D → HD → Out D} {F_lots_with_counts : List D → HD → Out D} {F_ways_of_counts : List D → HD → Out D} (c_need_board : Ca P w K mg base "need_board" 6 F_need_board) (c_lots_with_counts : Ca P w K mg base "lots_with_counts" 9 F_lots_with_counts) (c_ways_of_counts : Ca P w K mg base "ways_of_counts" 2 F_ways_of_counts) (f : Addr) (cdv : Value) (A : Around) (outer : List Env) (s : Shared) (H : Hp) (E : XK) (hr : Room 9 (A.deeper (envOfC "left_counts" (defScope s_left_counts) s.heap.objs.size f cdv))) :
    Exs (cxOf CX0 P w K mg base ["board", "high", "totals", "lot", "counts", "ways"] "left_counts" (defScope s_left_counts) f cdv A outer s H E).nox E0 (defBody s_left_counts) (g_left_counts F_need_board F_lots_with_counts F_ways_of_counts) :=
  exs_cons (ex_expr (ev_ca c_need_board hr (evA_cons (ev_var (pv 0)) (evA_nil)))) (exs_cons (ex_set (i := 1) sc_left_counts.nd rfl (by first | exact Or.inl rfl | exact Or.inr rfl) (ev_callB lenM rfl B.n_len boot_len' (evA_cons (ev_var (pv 0)) (evA_nil)))) (exs_cons (ex_set (i := 2) sc_left_counts.nd rfl (by first | exact Or.inl rfl | exact Or.inr rfl) (ev_op mulM' (ev_lst (evA_cons (ev_int) (evA_nil))) (ev_op addM (ev_op mulM' (ev_var (pv 1)) (ev_callB lenM rfl B.n_len boot_len' (evA_cons (ev_ix (ev_var (pv 0)) (ev_int) (fun _ _ => rfl)) (evA_nil)))) (ev_int)))) (exs_cons (ex_for PassesOwn.never rfl (evI_seq (ev_ca c_lots_with_counts hr (evA_cons (ev_var (pv 0)) (evA_nil)))) (evG_pair (pair_pg rfl (pg_name (i := 3) (sc_left_counts.nd) rfl (by first | exact Or.inl rfl | exact Or.inr rfl) (by first | exact .inl rfl | exact .inr rfl)) (pg_name (i := 4) (sc_left_counts.nd) rfl (by first | exact Or.inl rfl | exact Or.inr rfl) (by first | exact .inl rfl | exact .inr rfl)))) (exs_cons (ex_set (i := 5) sc_left_counts.nd rfl (by first | exact Or.inl rfl | exact Or.inr rfl) (ev_ca c_ways_of_counts hr (evA_cons (ev_var (pv 4)) (evA_cons (ev_var (pv 1)) (evA_nil))))) (exs_one (ex_setC (i := 2) (Nc := ["total", "many"]) (cs := [none, none]) rfl sc_left_counts.nd rfl (by first | exact Or.inl rfl | exact Or.inr rfl) (CSc.ok ⟨rfl, by decide +kernel, by kernel_rfl, by decide +kernel, rfl, by kernel_rfl⟩) (evI_zip rfl B.n_zip (evA_cons (ev_var (pv 2)) (evA_cons (ev_var (pv 5)) (evA_nil)))) (gokc_pair rfl rfl) (fun C D cells fp s₀ H₀ pins => ⟨pair_pg rfl (pg_name (i := 0) (show (["total", "many"] : List Str).Nodup from by decide +kernel) rfl (by first | exact Or.inl rfl | exact Or.inr rfl) (by first | exact .inl rfl | exact .inr rfl)) (pg_name (i := 1) (show (["total", "many"] : List Str).Nodup from by decide +kernel) rfl (by first | exact Or.inl rfl | exact Or.inr rfl) (by first | exact .inl rfl | exact .inr rfl)), evTs_nil, ev_op addM (ev_var (pv 0)) (ev_var (pv 1))⟩))))) (exs_one (ex_ret (ev_var (pv 2)))))))


abbrev s_best_switching : Stmt := top 29
theorem sc_best_switching : FnScope ["board", "fewest", "high"] ["board"] (defScope s_best_switching) := ⟨rfl, rfl, rfl, by decide +kernel, rfl, by decide +kernel, by decide +kernel⟩
noncomputable abbrev g_best_switching (F_left_many : List D → HD → Out D) (F_lots_with_counts : List D → HD → Out D) (F_fewest_lit : List D → HD → Out D) (F_fuller_columns : List D → HD → Out D) : MS := mSeq (mSet 1 (mCall F_left_many (mCons (mVar 0) (mNil)))) (mSeq (mSet 2 (mCall (ar1 lenD) (mCons (mVar 0) (mNil)))) (mRet (mOp ixD (mComp [none, none, some 2, some 1] (mISeq (mCall F_lots_with_counts (mCons (mVar 0) (mNil)))) (sPair 0 1) (mTb (mOp eqD (mCall F_fewest_lit (mCons (mVar 1) (mCons (mVar 2) (mNil)))) (mVar 3))) (mTup (mCons (mVar 0) (mCons (mCall F_fuller_columns (mCons (mVar 1) (mCons (mVar 2) (mNil)))) (mNil))))) (mC (.int 0)))))
theorem b_best_switching {P : Program} {w : World} {K : PySem.W.Frag} {mg : Str → Option Value} {base : Heap} (B : Bl mg) {F_left_many : List D → HD → Out D} {F_lots_with_counts : List D → HD → Out D} {F_fewest_lit : List D → HD → Out D} {F_fuller_columns : List D → HD → Out D} (c_left_many : Ca P w K mg base "left_many" 10 F_left_many) (c_lots_with_counts : Ca P w K mg base "lots_with_counts" 9 F_lots_with_counts) (c_fewest_lit : Ca P w K mg base "fewest_lit" 1 F_fewest_lit) (c_fuller_columns : Ca P w K mg base "fuller_columns" 1 F_fuller_columns) (f : Addr) (cdv : Value) (A : Around) (outer : List Env) (s : Shared) (H : Hp) (E : XK) (hr : Room 10 (A.deeper (envOfC "best_switching" (defScope s_best_switching) s.heap.objs.size f cdv))) :
    Exs (cxOf CX0 P w K mg base ["board", "fewest", "high"] "best_switching" (defScope s_best_switching) f cdv A outer s H E).nox E0 (defBody s_best_switching) (g_best_switching F_left_many F_lots_with_counts F_fewest_lit F_fuller_columns) :=
  exs_cons (ex_set (i := 1) sc_best_switching.nd rfl (by first | exact Or.inl rfl | exact Or.inr rfl) (ev_ca c_left_many hr (evA_cons (ev_var (pv 0)) (evA_nil)))) (exs_cons (ex_set (i := 2) sc_best_switching.nd rfl (by first | exact Or.inl rfl | exact Or.inr rfl) (ev_callB lenM rfl B.n_len boot_len' (evA_cons (ev_var (pv 0)) (evA_nil)))) (exs_one (ex_ret (ev_ix (ev_comp (Nc := ["lot", "counts", "high", "fewest"]) (cs := [none, none, some 2, some 1]) rfl (CSc.ok ⟨rfl, by decide +kernel, by kernel_rfl, by decide +kernel, rfl, by kernel_rfl⟩) (evI_seq (ev_ca c_lots_with_counts hr (evA_cons (ev_var (pv 0)) (evA_nil)))) (gokc_pair rfl rfl) (fun C D cells fp s₀ H₀ pins => ⟨pair_pg rfl (pg_name (i := 0) (show (["lot", "counts", "high", "fewest"] : List Str).Nodup from by decide +kernel) rfl (by first | exact Or.inl rfl | exact Or.inr rfl) (by first | exact .inl rfl | exact .inr rfl)) (pg_name (i := 1) (show (["lot", "counts", "high", "fewest"] : List Str).Nodup from by decide +kernel) rfl (by first | exact Or.inl rfl | exact Or.inr rfl) (by first | exact .inl rfl | exact .inr rfl)), evTs_one (evT_cmp (eqM hr.units) (ev_ca c_fewest_lit hr (evA_cons (ev_var (pv 1)) (evA_cons (ev_var (pv 2)) (evA_nil)))) (ev_var (pv 3)) (nomark _)), ev_tup (evA_cons (ev_var (pv 0)) (evA_cons (ev_ca c_fuller_columns hr (evA_cons (ev_var (pv 1)) (evA_cons (ev_var (pv 2)) (evA_nil)))) (evA_nil)))⟩)) (ev_int) (fun _ _ => rfl)))))


abbrev s_is_best : Stmt := top 30
theorem sc_is_best : FnScope ["board", "switching"] ["board", "switching"] (defScope s_is_best) := ⟨rfl, rfl, rfl, by decide +kernel, rfl, by decide +kernel, by decide +kernel⟩
noncomputable abbrev g_is_best (F_switched : List D → HD → Out D) (F_lit_many : List D → HD → Out D) (F_left_many : List D → HD → Out D) : MS := mRet (mOp eqD (mCall F_lit_many (mCons (mCall F_switched (mCons (mVar 0) (mCons (mVar 1) (mNil)))) (mNil))) (mCall F_left_many (mCons (mVar 0) (mNil))))
theorem b_is_best {P : Program} {w : World} {K : PySem.W.Frag} {mg : Str → Option Value} {base : Heap} (B : Bl mg) {F_switched : List D → HD → Out D} {F_lit_many : List D → HD → Out D} {F_left_many : List D → HD → Out D} (c_switched : Ca P w K mg base "switched" 9 F_switched) (c_lit_many : Ca P w K mg base "lit_many" 8 F_lit_many) (c_left_many : Ca P w K mg base "left_many" 10 F_left_many) (f : Addr) (cdv : Value) (A : Around) (outer : List Env) (s : Shared) (H : Hp) (E : XK) (hr : Room 10 (A.deeper (envOfC "is_best" (defScope s_is_best) s.heap.objs.size f cdv))) :
    Exs (cxOf CX0 P w K mg base ["board", "switching"] "is_best" (defScope s_is_best) f cdv A outer s H E).nox E0 (defBody s_is_best) (g_is_best F_switched F_lit_many F_left_many) :=
  exs_one (ex_ret (ev_cmp (eqM hr.units) (ev_ca c_lit_many hr (evA_cons (ev_ca c_switched hr (evA_cons (ev_var (pv 0)) (evA_cons (ev_var (pv 1)) (evA_nil)))) (evA_nil))) (ev_ca c_left_many hr (evA_cons (ev_var (pv 0)) (evA_nil))) (nomark _)))


abbrev s_law : Stmt := top 47
theorem sc_law : FnScope ["_law_script", "_law_k", "_law_box_here", "_law_high", "_law_wide", "_law_board_here", "_law_many", "_law_some", "_law_rows", "_law_here", "_law_found", "_law_counts", "_law_at", "_law_place", "_law_line"] ["_law_script"] (defScope s_law) := ⟨rfl, rfl, rfl, by decide +kernel, rfl, by decide +kernel, by decide +kernel⟩
noncomputable abbrev g_law (F__law_box : List D → HD → Out D) (F__law_take : List D → HD → Out D) (F__law_board : List D → HD → Out D) (F__law_lot : List D → HD → Out D) (F_left_many : List D → HD → Out D) (F_switched : List D → HD → Out D) (F_turned : List D → HD → Out D) (F_best_columns : List D → HD → Out D) (F_left_by : List D → HD → Out D) (F_lit_many : List D → HD → Out D) (F_best_switching : List D → HD → Out D) (F_is_best : List D → HD → Out D) (F_left_counts : List D → HD → Out D) (F_alike_many : List D → HD → Out D) : MS := mSeq (mFor (mIRng1 (mCons (mCall (ar2 maxD) (mCons (mC (.int 1)) (mCons (mCall (ar2 minD) (mCons (mCall (ar1 lenD) (mCons (mVar 0) (mNil))) (mCons (mC (.int 4)) (mNil)))) (mNil)))) (mNil))) (sName 1) (mSeq (mSet 2 (mCall F__law_box (mCons (mVar 0) (mCons (mVar 1) (mNil))))) (mSeq (mPar 3 4 (mCons (mOp addD (mC (.int 1)) (mCall F__law_take (mCons (mVar 2) (mCons (mC (.int 8)) (mNil))))) (mCons (mOp addD (mC (.int 1)) (mCall F__law_take (mCons (mVar 2) (mCons (mC (.int 8)) (mNil))))) (mNil)))) (mSeq (mSet 5 (mCall F__law_board (mCons (mVar 2) (mCons (mVar 3) (mCons (mVar 4) (mNil)))))) (mSeq (mPar 6 7 (mCons (mCall F_left_many (mCons (mVar 5) (mNil))) (mCons (mTup (mCons (mCall F__law_lot (mCons (mVar 2) (mCons (mVar 3) (mNil)))) (mCons (mCall F__law_lot (mCons (mVar 2) (mCons (mVar 4) (mNil)))) (mNil)))) (mNil)))) (mSeq (mIfS (mOr (mTb (mOp neD (mCall F_left_many (mCons (mCall F_switched (mCons (mVar 5) (mCons (mVar 7) (mNil)))) (mNil))) (mVar 6))) (mTb (mOp neD (mCall F_left_many (mCons (mCall F_turned (mCons (mVar 5) (mNil))) (mNil))) (mVar 6)))) (mRet (mC (.bl false))) (mSkip)) (mSeq (mFor (mISeq (mLst (mCons (mOp ixD (mVar 7) (mC (.int 0))) (mCons (mTup (mNil)) (mCons (mCall F__law_lot (mCons (mVar 2) (mCons (mVar 3) (mNil)))) (mNil)))))) (sName 8) (mSeq (mSet 9 (mCall F_switched (mCons (mVar 5) (mCons (mTup (mCons (mVar 8) (mCons (mCall F_best_columns (mCons (mVar 5) (mCons (mVar 8) (mNil)))) (mNil)))) (mNil))))) (mIfS (mOr (mTb (mOp ltD (mCall F_left_by (mCons (mVar 5) (mCons (mVar 8) (mNil)))) (mVar 6))) (mTb (mOp neD (mCall F_lit_many (mCons (mVar 9) (mNil))) (mCall F_left_by (mCons (mVar 5) (mCons (mVar 8) (mNil))))))) (mRet (mC (.bl false))) (mSkip)))) (mSeq (mSet 10 (mCall F_best_switching (mCons (mVar 5) (mNil)))) (mSeq (mIfS (mOr (mTb (mOp neD (mCall F_lit_many (mCons (mCall F_switched (mCons (mVar 5) (mCons (mVar 10) (mNil)))) (mNil))) (mVar 6))) (mTb (mOp isnotD (mCall F_is_best (mCons (mVar 5) (mCons (mVar 10) (mNil)))) (mC (.bl true))))) (mRet (mC (.bl false))) (mSkip)) (mSeq (mIfS (mTb (mOp neD (mCall F_is_best (mCons (mVar 5) (mCons (mVar 7) (mNil)))) (mOp eqD (mCall F_lit_many (mCons (mCall F_switched (mCons (mVar 5) (mCons (mVar 7) (mNil)))) (mNil))) (mVar 6)))) (mRet (mC (.bl false))) (mSkip)) (mSeq (mSet 11 (mCall F_left_counts (mCons (mVar 5) (mNil)))) (mSeq (mIfS (mOr (mTb (mOp neD (mCall (ar1 sumD) (mCons (mSlice (mVar 11) (mNoPart) (mPart (mVar 6))) (mNil))) (mC (.int 0)))) (mOr (mTb (mOp eqD (mOp ixD (mVar 11) (mVar 6)) (mC (.int 0)))) (mTb (mOp neD (mCall (ar1 sumD) (mCons (mVar 11) (mNil))) (mCall F_alike_many (mCons (mVar 5) (mNil))))))) (mRet (mC (.bl false))) (mSkip)) (mSeq (mIfS (mOr (mTb (mOp eqD (mOp ixD (mVar 11) (mCall F_lit_many (mCons (mVar 5) (mNil)))) (mC (.int 0)))) (mTb (mOp neD (mCall F_left_counts (mCons (mCall F_switched (mCons (mVar 5) (mCons (mVar 7) (mNil)))) (mNil))) (mVar 11)))) (mRet (mC (.bl false))) (mSkip)) (mSeq (mPar 12 13 (mCons (mCall F__law_take (mCons (mVar 2) (mCons (mVar 3) (mNil)))) (mCons (mCall F__law_take (mCons (mVar 2) (mCons (mVar 4) (mNil)))) (mNil)))) (mSeq (mSet 14 (mOp addD (mOp addD (mSlice (mOp ixD (mVar 5) (mVar 12)) (mNoPart) (mPart (mVar 13))) (mTup (mCons (mOp subD (mC (.int 1)) (mOp ixD (mOp ixD (mVar 5) (mVar 12)) (mVar 13))) (mNil)))) (mSlice (mOp ixD (mVar 5) (mVar 12)) (mPart (mOp addD (mVar 13) (mC (.int 1)))) (mNoPart)))) (mIfS (mNot (mTb (mChain leD leD (mNeg (mC (.int 1))) (mOp subD (mCall F_left_many (mCons (mOp addD (mOp addD (mSlice (mVar 5) (mNoPart) (mPart (mVar 12))) (mTup (mCons (mVar 14) (mNil)))) (mSlice (mVar 5) (mPart (mOp addD (mVar 12) (mC (.int 1)))) (mNoPart))) (mNil))) (mVar 6)) (mC (.int 1))))) (mRet (mC (.bl false))) (mSkip))))))))))))))))) (mRet (mC (.bl true)))
theorem b_law {P : Program} {w : World} {K : PySem.W.Frag} {mg : Str → Option Value} {base : Heap} (B : Bl mg) {F__law_box : List D → HD → Out D} {F__law_take : List D → HD → Out D} {F__law_board : List D → HD → Out D} {F__law_lot : List D → HD → Out D} {F_left_many : List D → HD → Out D} {F_switched : List D → HD → Out D} {F_turned : List D → HD → Out D} {F_best_columns : List D → HD → Out D} {F_left_by : List D → HD → Out D} {F_lit_many : List D → HD → Out D} {F_best_switching : List D → HD → Out D} {F_is_best : List D → HD → Out D} {F_left_counts : List D → HD → Out D} {F_alike_many : List D → HD → Out D} (c__law_box : Ca P w K mg base "_law_box" 2 F__law_box) (c__law_take : Ca P w K mg base "_law_take" 1 F__law_take) (c__law_board : Ca P w K mg base "_law_board" 3 F__law_board) (c__law_lot : Ca P w K mg base "_law_lot" 2 F__law_lot) (c_left_many : Ca P w K mg base "left_many" 10 F_left_many) (c_switched : Ca P w K mg base "switched" 9 F_switched) (c_turned : Ca P w K mg base "turned" 7 F_turned) (c_best_columns : Ca P w K mg base "best_columns" 10 F_best_columns) (c_left_by : Ca P w K mg base "left_by" 10 F_left_by) (c_lit_many : Ca P w K mg base "lit_many" 8 F_lit_many) (c_best_switching : Ca P w K mg base "best_switching" 11 F_best_switching) (c_is_best : Ca P w K mg base "is_best" 11 F_is_best) (c_left_counts : Ca P w K mg base "left_counts" 10 F_left_counts) (c_alike_many : Ca P w K mg base "alike_many" 7 F_alike_many) (f : Addr) (cdv : Value) (A : Around) (outer : List Env) (s : Shared) (H : Hp) (E : XK) (hr : Room 11 (A.deeper (envOfC "law" (defScope s_law) s.heap.objs.size f cdv))) :
    Exs (cxOf CX0 P w K mg base ["_law_script", "_law_k", "_law_box_here", "_law_high", "_law_wide", "_law_board_here", "_law_many", "_law_some", "_law_rows", "_law_here", "_law_found", "_law_counts", "_law_at", "_law_place", "_law_line"] "law" (defScope s_law) f cdv A outer s H E).nox E0 (defBody s_law) (g_law F__law_box F__law_take F__law_board F__law_lot F_left_many F_switched F_turned F_best_columns F_left_by F_lit_many F_best_switching F_is_best F_left_counts F_alike_many) :=
  exs_cons (ex_for PassesOwn.never rfl (evI_range1 rfl B.n_range (evA_cons (ev_callB (maxM rfl) rfl B.n_max boot_max' (evA_cons (ev_int) (evA_cons (ev_callB (minM rfl) rfl B.n_min boot_min' (evA_cons (ev_callB lenM rfl B.n_len boot_len' (evA_cons (ev_var (pv 0)) (evA_nil))) (evA_cons (ev_int) (evA_nil)))) (evA_nil)))) (evA_nil))) (evG_name (pg_name (i := 1) (sc_law.nd) rfl (by first | exact Or.inl rfl | exact Or.inr rfl) (by first | exact .inl rfl | exact .inr rfl))) (exs_cons (ex_set (i := 2) sc_law.nd rfl (by first | exact Or.inl rfl | exact Or.inr rfl) (ev_ca c__law_box hr (evA_cons (ev_var (pv 0)) (evA_cons (ev_var (pv 1)) (evA_nil))))) (exs_cons (ex_par (i := 3) (j := 4) rfl sc_law.nd rfl rfl (by decide) rfl rfl (evA_cons (ev_op addM (ev_int) (ev_ca c__law_take hr (evA_cons (ev_var (pv 2)) (evA_cons (ev_int) (evA_nil))))) (evA_cons (ev_op addM (ev_int) (ev_ca c__law_take hr (evA_cons (ev_var (pv 2)) (evA_cons (ev_int) (evA_nil))))) (evA_nil))) (by first | rfl | with_unfolding_all rfl)) (exs_cons (ex_set (i := 5) sc_law.nd rfl (by first | exact Or.inl rfl | exact Or.inr rfl) (ev_ca c__law_board hr (evA_cons (ev_var (pv 2)) (evA_cons (ev_var (pv 3)) (evA_cons (ev_var (pv 4)) (evA_nil)))))) (exs_cons (ex_par (i := 6) (j := 7) rfl sc_law.nd rfl rfl (by decide) rfl rfl (evA_cons (ev_ca c_left_many hr (evA_cons (ev_var (pv 5)) (evA_nil))) (evA_cons (ev_tup (evA_cons (ev_ca c__law_lot hr (evA_cons (ev_var (pv 2)) (evA_cons (ev_var (pv 3)) (evA_nil)))) (evA_cons (ev_ca c__law_lot hr (evA_cons (ev_var (pv 2)) (evA_cons (ev_var (pv 4)) (evA_nil)))) (evA_nil)))) (evA_nil))) (by first | rfl | with_unfolding_all rfl)) (exs_cons (ex_if (evT_w (evW_or (evT_cmp (neM hr.units) (ev_ca c_left_many hr (evA_cons (ev_ca c_switched hr (evA_cons (ev_var (pv 5)) (evA_cons (ev_var (pv 7)) (evA_nil)))) (evA_nil))) (ev_var (pv 6)) (nomark _)) (evW_or1 (evT_cmp (neM hr.units) (ev_ca c_left_many hr (evA_cons (ev_ca c_turned hr (evA_cons (ev_var (pv 5)) (evA_nil))) (evA_nil))) (ev_var (pv 6)) (nomark _))))) (exs_one (ex_ret (ev_bl))) (exs_nil)) (exs_cons (ex_for PassesOwn.never rfl (evI_seq (ev_lst (evA_cons (ev_ix (ev_var (pv 7)) (ev_int) (fun _ _ => rfl)) (evA_cons (ev_tup (evA_nil)) (evA_cons (ev_ca c__law_lot hr (evA_cons (ev_var (pv 2)) (evA_cons (ev_var (pv 3)) (evA_nil)))) (evA_nil)))))) (evG_name (pg_name (i := 8) (sc_law.nd) rfl (by first | exact Or.inl rfl | exact Or.inr rfl) (by first | exact .inl rfl | exact .inr rfl))) (exs_cons (ex_set (i := 9) sc_law.nd rfl (by first | exact Or.inl rfl | exact Or.inr rfl) (ev_ca c_switched hr (evA_cons (ev_var (pv 5)) (evA_cons (ev_tup (evA_cons (ev_var (pv 8)) (evA_cons (ev_ca c_best_columns hr (evA_cons (ev_var (pv 5)) (evA_cons (ev_var (pv 8)) (evA_nil)))) (evA_nil)))) (evA_nil))))) (exs_one (ex_if (evT_w (evW_or (evT_cmp ltM (ev_ca c_left_by hr (evA_cons (ev_var (pv 5)) (evA_cons (ev_var (pv 8)) (evA_nil)))) (ev_var (pv 6)) (nomark _)) (evW_or1 (evT_cmp (neM hr.units) (ev_ca c_lit_many hr (evA_cons (ev_var (pv 9)) (evA_nil))) (ev_ca c_left_by hr (evA_cons (ev_var (pv 5)) (evA_cons (ev_var (pv 8)) (evA_nil)))) (nomark _))))) (exs_one (ex_ret (ev_bl))) (exs_nil))))) (exs_cons (ex_set (i := 10) sc_law.nd rfl (by first | exact Or.inl rfl | exact Or.inr rfl) (ev_ca c_best_switching hr (evA_cons (ev_var (pv 5)) (evA_nil)))) (exs_cons (ex_if (evT_w (evW_or (evT_cmp (neM hr.units) (ev_ca c_lit_many hr (evA_cons (ev_ca c_switched hr (evA_cons (ev_var (pv 5)) (evA_cons (ev_var (pv 10)) (evA_nil)))) (evA_nil))) (ev_var (pv 6)) (nomark _)) (evW_or1 (evT_cmp isnotM (ev_ca c_is_best hr (evA_cons (ev_var (pv 5)) (evA_cons (ev_var (pv 10)) (evA_nil)))) (ev_bl) (nomark _))))) (exs_one (ex_ret (ev_bl))) (exs_nil)) (exs_cons (ex_if (evT_cmp (neM hr.units) (ev_ca c_is_best hr (evA_cons (ev_var (pv 5)) (evA_cons (ev_var (pv 7)) (evA_nil)))) (ev_cmp (eqM hr.units) (ev_ca c_lit_many hr (evA_cons (ev_ca c_switched hr (evA_cons (ev_var (pv 5)) (evA_cons (ev_var (pv 7)) (evA_nil)))) (evA_nil))) (ev_var (pv 6)) (nomark _)) (nomark _)) (exs_one (ex_ret (ev_bl))) (exs_nil)) (exs_cons (ex_set (i := 11) sc_law.nd rfl (by first | exact Or.inl rfl | exact Or.inr rfl) (ev_ca c_left_counts hr (evA_cons (ev_var (pv 5)) (evA_nil)))) (exs_cons (ex_if (evT_w (evW_or (evT_cmp (neM hr.units) (ev_callB (sumM rfl) rfl B.n_sum boot_sum' (evA_cons (ev_slice (ev_var (pv 11)) (evO_none) (evO_some (ev_var (pv 6)))) (evA_nil))) (ev_int) (nomark _)) (evW_or (evT_cmp (eqM hr.units) (ev_ix (ev_var (pv 11)) (ev_var (pv 6)) (fun _ _ => rfl)) (ev_int) (nomark _)) (evW_or1 (evT_cmp (neM hr.units) (ev_callB (sumM rfl) rfl B.n_sum boot_sum' (evA_cons (ev_var (pv 11)) (evA_nil))) (ev_ca c_alike_many hr (evA_cons (ev_var (pv 5)) (evA_nil))) (nomark _)))))) (exs_one (ex_ret (ev_bl))) (exs_nil)) (exs_cons (ex_if (evT_w (evW_or (evT_cmp (eqM hr.units) (ev_ix (ev_var (pv 11)) (ev_ca c_lit_many hr (evA_cons (ev_var (pv 5)) (evA_nil))) (fun _ _ => rfl)) (ev_int) (nomark _)) (evW_or1 (evT_cmp (neM hr.units) (ev_ca c_left_counts hr (evA_cons (ev_ca c_switched hr (evA_cons (ev_var (pv 5)) (evA_cons (ev_var (pv 7)) (evA_nil)))) (evA_nil))) (ev_var (pv 11)) (nomark _))))) (exs_one (ex_ret (ev_bl))) (exs_nil)) (exs_cons (ex_par (i := 12) (j := 13) rfl sc_law.nd rfl rfl (by decide) rfl rfl (evA_cons (ev_ca c__law_take hr (evA_cons (ev_var (pv 2)) (evA_cons (ev_var (pv 3)) (evA_nil)))) (evA_cons (ev_ca c__law_take hr (evA_cons (ev_var (pv 2)) (evA_cons (ev_var (pv 4)) (evA_nil)))) (evA_nil))) (by first | rfl | with_unfolding_all rfl)) (exs_cons (ex_set (i := 14) sc_law.nd rfl (by first | exact Or.inl rfl | exact Or.inr rfl) (ev_op addM (ev_op addM (ev_slice (ev_ix (ev_var (pv 5)) (ev_var (pv 12)) (fun _ _ => rfl)) (evO_none) (evO_some (ev_var (pv 13)))) (ev_tup (evA_cons (ev_op subM (ev_int) (ev_ix (ev_ix (ev_var (pv 5)) (ev_var (pv 12)) (fun _ _ => rfl)) (ev_var (pv 13)) (fun _ _ => rfl))) (evA_nil)))) (ev_slice (ev_ix (ev_var (pv 5)) (ev_var (pv 12)) (fun _ _ => rfl)) (evO_some (ev_op addM (ev_var (pv 13)) (ev_int))) (evO_none)))) (exs_one (ex_if (evT_not (evT_chain leM leM (ev_neg (ev_int)) (ev_op subM (ev_ca c_left_many hr (evA_cons (ev_op addM (ev_op addM (ev_slice (ev_var (pv 5)) (evO_none) (evO_some (ev_var (pv 12)))) (ev_tup (evA_cons (ev_var (pv 14)) (evA_nil)))) (ev_slice (ev_var (pv 5)) (evO_some (ev_op addM (ev_var (pv 12)) (ev_int))) (evO_none))) (evA_nil))) (ev_var (pv 6))) (ev_int))) (exs_one (ex_ret (ev_bl))) (exs_nil)))))))))))))))))) (exs_one (ex_ret (ev_bl)))

noncomputable def F_is_whole : List D → HD → Out D := fun ds h => if ds.length = 1 then mBody 1 (g_is_whole) ds h else .stuck
theorem ok_is_whole {P : Program} {w : World} {K : PySem.W.Frag} {mg : Str → Option Value} {base : Heap} (B : Bl mg) {f : Addr} {fd : FuncData} (D : Fun K "is_whole" "is_whole" s_is_whole f fd) : FnOk P w K mg base CX0 1 f fd ["thing"] (spM K F_is_whole) :=
  fn_mirror D sc_is_whole (fun ds h e => if_neg e) (fun ds h e => if_pos e) (fun cdv A outer s H E hr => b_is_whole B f cdv A outer s H E hr)
theorem ca_is_whole {P : Program} {w : World} {K : PySem.W.Frag} {mg : Str → Option Value} {base : Heap} (B : Bl mg) {f : Addr} {fd : FuncData} (D : Dn K mg "is_whole" ["thing"] s_is_whole f fd) : Ca P w K mg base "is_whole" 1 F_is_whole :=
  ⟨f, fd, _, ok_is_whole B D.fn, D.bd, D.mg, D.fn.kp⟩

noncomputable def F_is_line_tuple : List D → HD → Out D := fun ds h => if ds.length = 1 then mBody 1 (g_is_line_tuple) ds h else .stuck
theorem ok_is_line_tuple {P : Program} {w : World} {K : PySem.W.Frag} {mg : Str → Option Value} {base : Heap} (B : Bl mg) {t_MOST_LINES : Tok} (m_MOST_LINES : mg "MOST_LINES" = some (.int 8 t_MOST_LINES)) {f : Addr} {fd : FuncData} (D : Fun K "is_line_tuple" "is_line_tuple" s_is_line_tuple f fd) : FnOk P w K mg base CX0 1 f fd ["thing"] (spM K F_is_line_tuple) :=
  fn_mirror D sc_is_line_tuple (fun ds h e => if_neg e) (fun ds h e => if_pos e) (fun cdv A outer s H E hr => b_is_line_tuple B m_MOST_LINES f cdv A outer s H E hr)
theorem ca_is_line_tuple {P : Program} {w : World} {K : PySem.W.Frag} {mg : Str → Option Value} {base : Heap} (B : Bl mg) {t_MOST_LINES : Tok} (m_MOST_LINES : mg "MOST_LINES" = some (.int 8 t_MOST_LINES)) {f : Addr} {fd : FuncData} (D : Dn K mg "is_line_tuple" ["thing"] s_is_line_tuple f fd) : Ca P w K mg base "is_line_tuple" 1 F_is_line_tuple :=
  ⟨f, fd, _, ok_is_line_tuple B m_MOST_LINES D.fn, D.bd, D.mg, D.fn.kp⟩

noncomputable def F_row_switched : List D → HD → Out D := fun ds h => if ds.length = 3 then mBody 3 (g_row_switched) ds h else .stuck
theorem ok_row_switched {P : Program} {w : World} {K : PySem.W.Frag} {mg : Str → Option Value} {base : Heap} (B : Bl mg) {f : Addr} {fd : FuncData} (D : Fun K "row_switched" "row_switched" s_row_switched f fd) : FnOk P w K mg base CX0 1 f fd ["row", "columns", "is_turned"] (spM K F_row_switched) :=
  fn_mirror D sc_row_switched (fun ds h e => if_neg e) (fun ds h e => if_pos e) (fun cdv A outer s H E hr => b_row_switched B f cdv A outer s H E hr)
theorem ca_row_switched {P : Program} {w : World} {K : PySem.W.Frag} {mg : Str → Option Value} {base : Heap} (B : Bl mg) {f : Addr} {fd : FuncData} (D : Dn K mg "row_switched" ["row", "columns", "is_turned"] s_row_switched f fd) : Ca P w K mg base "row_switched" 1 F_row_switched :=
  ⟨f, fd, _, ok_row_switched B D.fn, D.bd, D.mg, D.fn.kp⟩

noncomputable def F_counts_with_row : List D → HD → Out D := fun ds h => if ds.length = 2 then mBody 2 (g_counts_with_row) ds h else .stuck
theorem ok_counts_with_row {P : Program} {w : World} {K : PySem.W.Frag} {mg : Str → Option Value} {base : Heap} (B : Bl mg) {f : Addr} {fd : FuncData} (D : Fun K "counts_with_row" "counts_with_row" s_counts_with_row f fd) : FnOk P w K mg base CX0 1 f fd ["counts", "row"] (spM K F_counts_with_row) :=
  fn_mirror D sc_counts_with_row (fun ds h e => if_neg e) (fun ds h e => if_pos e) (fun cdv A outer s H E hr => b_counts_with_row B f cdv A outer s H E hr)
theorem ca_counts_with_row {P : Program} {w : World} {K : PySem.W.Frag} {mg : Str → Option Value} {base : Heap} (B : Bl mg) {f : Addr} {fd : FuncData} (D : Dn K mg "counts_with_row" ["counts", "row"] s_counts_with_row f fd) : Ca P w K mg base "counts_with_row" 1 F_counts_with_row :=
  ⟨f, fd, _, ok_counts_with_row B D.fn, D.bd, D.mg, D.fn.kp⟩

noncomputable def F_fewest_lit : List D → HD → Out D := fun ds h => if ds.length = 2 then mBody 2 (g_fewest_lit) ds h else .stuck
theorem ok_fewest_lit {P : Program} {w : World} {K : PySem.W.Frag} {mg : Str → Option Value} {base : Heap} (B : Bl mg) {f : Addr} {fd : FuncData} (D : Fun K "fewest_lit" "fewest_lit" s_fewest_lit f fd) : FnOk P w K mg base CX0 1 f fd ["counts", "high"] (spM K F_fewest_lit) :=
  fn_mirror D sc_fewest_lit (fun ds h e => if_neg e) (fun ds h e => if_pos e) (fun cdv A outer s H E hr => b_fewest_lit B f cdv A outer s H E hr)
theorem ca_fewest_lit {P : Program} {w : World} {K : PySem.W.Frag} {mg : Str → Option Value} {base : Heap} (B : Bl mg) {f : Addr} {fd : FuncData} (D : Dn K mg "fewest_lit" ["counts", "high"] s_fewest_lit f fd) : Ca P w K mg base "fewest_lit" 1 F_fewest_lit :=
  ⟨f, fd, _, ok_fewest_lit B D.fn, D.bd, D.mg, D.fn.kp⟩

noncomputable def F_fuller_columns : List D → HD → Out D := fun ds h => if ds.length = 2 then mBody 2 (g_fuller_columns) ds h else .stuck
theorem ok_fuller_columns {P : Program} {w : World} {K : PySem.W.Frag} {mg : Str → Option Value} {base : Heap} (B : Bl mg) {f : Addr} {fd : FuncData} (D : Fun K "fuller_columns" "fuller_columns" s_fuller_columns f fd) : FnOk P w K mg base CX0 1 f fd ["counts", "high"] (spM K F_fuller_columns) :=
  fn_mirror D sc_fuller_columns (fun ds h e => if_neg e) (fun ds h e => if_pos e) (fun cdv A outer s H E hr => b_fuller_columns B f cdv A outer s H E hr)
theorem ca_fuller_columns {P : Program} {w : World} {K : PySem.W.Frag} {mg : Str → Option Value} {base : Heap} (B : Bl mg) {f : Addr} {fd : FuncData} (D : Dn K mg "fuller_columns" ["counts", "high"] s_fuller_columns f fd) : Ca P w K mg base "fuller_columns" 1 F_fuller_columns :=
  ⟨f, fd, _, ok_fuller_columns B D.fn, D.bd, D.mg, D.fn.kp⟩

noncomputable def F_ways_with_column : List D → HD → Out D := fun ds h => if ds.length = 3 then mBody 6 (g_ways_with_column) ds h else .stuck
theorem ok_ways_with_column {P : Program} {w : World} {K : PySem.W.Frag} {mg : Str → Option Value} {base : Heap} (B : Bl mg) {f : Addr} {fd : FuncData} (D : Fun K "ways_with_column" "ways_with_column" s_ways_with_column f fd) : FnOk P w K mg base CX0 1 f fd ["ways", "count", "high"] (spM K F_ways_with_column) :=
  fn_mirror D sc_ways_with_column (fun ds h e => if_neg e) (fun ds h e => if_pos e) (fun cdv A outer s H E hr => b_ways_with_column B f cdv A outer s H E hr)
theorem ca_ways_with_column {P : Program} {w : World} {K : PySem.W.Frag} {mg : Str → Option Value} {base : Heap} (B : Bl mg) {f : Addr} {fd : FuncData} (D : Dn K mg "ways_with_column" ["ways", "count", "high"] s_ways_with_column f fd) : Ca P w K mg base "ways_with_column" 1 F_ways_with_column :=
  ⟨f, fd, _, ok_ways_with_column B D.fn, D.bd, D.mg, D.fn.kp⟩

noncomputable def F__law_cell : List D → HD → Out D := fun ds h => if ds.length = 2 then mBody 2 (g__law_cell) ds h else .stuck
theorem ok__law_cell {P : Program} {w : World} {K : PySem.W.Frag} {mg : Str → Option Value} {base : Heap} (B : Bl mg) {f : Addr} {fd : FuncData} (D : Fun K "_law_cell" "_law_cell" s__law_cell f fd) : FnOk P w K mg base CX0 1 f fd ["_law_script", "_law_k"] (spM K F__law_cell) :=
  fn_mirror D sc__law_cell (fun ds h e => if_neg e) (fun ds h e => if_pos e) (fun cdv A outer s H E hr => b__law_cell B f cdv A outer s H E hr)
theorem ca__law_cell {P : Program} {w : World} {K : PySem.W.Frag} {mg : Str → Option Value} {base : Heap} (B : Bl mg) {f : Addr} {fd : FuncData} (D : Dn K mg "_law_cell" ["_law_script", "_law_k"] s__law_cell f fd) : Ca P w K mg base "_law_cell" 1 F__law_cell :=
  ⟨f, fd, _, ok__law_cell B D.fn, D.bd, D.mg, D.fn.kp⟩

noncomputable def F__law_mix : List D → HD → Out D := fun ds h => if ds.length = 2 then mBody 3 (g__law_mix) ds h else .stuck
theorem ok__law_mix {P : Program} {w : World} {K : PySem.W.Frag} {mg : Str → Option Value} {base : Heap} (B : Bl mg) {f : Addr} {fd : FuncData} (D : Fun K "_law_mix" "_law_mix" s__law_mix f fd) : FnOk P w K mg base CX0 1 f fd ["_law_cell_here", "_law_k"] (spM K F__law_mix) :=
  fn_mirror D sc__law_mix (fun ds h e => if_neg e) (fun ds h e => if_pos e) (fun cdv A outer s H E hr => b__law_mix B f cdv A outer s H E hr)
theorem ca__law_mix {P : Program} {w : World} {K : PySem.W.Frag} {mg : Str → Option Value} {base : Heap} (B : Bl mg) {f : Addr} {fd : FuncData} (D : Dn K mg "_law_mix" ["_law_cell_here", "_law_k"] s__law_mix f fd) : Ca P w K mg base "_law_mix" 1 F__law_mix :=
  ⟨f, fd, _, ok__law_mix B D.fn, D.bd, D.mg, D.fn.kp⟩

noncomputable def F__law_take : List D → HD → Out D := fun ds h => if ds.length = 2 then mBody 4 (g__law_take) ds h else .stuck
theorem ok__law_take {P : Program} {w : World} {K : PySem.W.Frag} {mg : Str → Option Value} {base : Heap} (B : Bl mg) {f : Addr} {fd : FuncData} (D : Fun K "_law_take" "_law_take" s__law_take f fd) : FnOk P w K mg base CX0 1 f fd ["_law_box_here", "_law_many"] (spM K F__law_take) :=
  fn_mirror D sc__law_take (fun ds h e => if_neg e) (fun ds h e => if_pos e) (fun cdv A outer s H E hr => b__law_take B f cdv A outer s H E hr)
theorem ca__law_take {P : Program} {w : World} {K : PySem.W.Frag} {mg : Str → Option Value} {base : Heap} (B : Bl mg) {f : Addr} {fd : FuncData} (D : Dn K mg "_law_take" ["_law_box_here", "_law_many"] s__law_take f fd) : Ca P w K mg base "_law_take" 1 F__law_take :=
  ⟨f, fd, _, ok__law_take B D.fn, D.bd, D.mg, D.fn.kp⟩

noncomputable def F_is_between : List D → HD → Out D := fun ds h => if ds.length = 3 then mBody 3 (g_is_between F_is_whole) ds h else .stuck
theorem ok_is_between {P : Program} {w : World} {K : PySem.W.Frag} {mg : Str → Option Value} {base : Heap} (B : Bl mg) (c_is_whole : Ca P w K mg base "is_whole" 1 F_is_whole) {f : Addr} {fd : FuncData} (D : Fun K "is_between" "is_between" s_is_between f fd) : FnOk P w K mg base CX0 2 f fd ["thing", "least", "most"] (spM K F_is_between) :=
  fn_mirror D sc_is_between (fun ds h e => if_neg e) (fun ds h e => if_pos e) (fun cdv A outer s H E hr => b_is_between B c_is_whole f cdv A outer s H E hr)
theorem ca_is_between {P : Program} {w : World} {K : PySem.W.Frag} {mg : Str → Option Value} {base : Heap} (B : Bl mg) (c_is_whole : Ca P w K mg base "is_whole" 1 F_is_whole) {f : Addr} {fd : FuncData} (D : Dn K mg "is_between" ["thing", "least", "most"] s_is_between f fd) : Ca P w K mg base "is_between" 2 F_is_between :=
  ⟨f, fd, _, ok_is_between B c_is_whole D.fn, D.bd, D.mg, D.fn.kp⟩

noncomputable def F_is_lot : List D → HD → Out D := fun ds h => if ds.length = 2 then mBody 4 (g_is_lot F_is_whole) ds h else .stuck
theorem ok_is_lot {P : Program} {w : World} {K : PySem.W.Frag} {mg : Str → Option Value} {base : Heap} (B : Bl mg) (c_is_whole : Ca P w K mg base "is_whole" 1 F_is_whole) {f : Addr} {fd : FuncData} (D : Fun K "is_lot" "is_lot" s_is_lot f fd) : FnOk P w K mg base CX0 2 f fd ["thing", "size"] (spM K F_is_lot) :=
  fn_mirror D sc_is_lot (fun ds h e => if_neg e) (fun ds h e => if_pos e) (fun cdv A outer s H E hr => b_is_lot B c_is_whole f cdv A outer s H E hr)
theorem ca_is_lot {P : Program} {w : World} {K : PySem.W.Frag} {mg : Str → Option Value} {base : Heap} (B : Bl mg) (c_is_whole : Ca P w K mg base "is_whole" 1 F_is_whole) {f : Addr} {fd : FuncData} (D : Dn K mg "is_lot" ["thing", "size"] s_is_lot f fd) : Ca P w K mg base "is_lot" 2 F_is_lot :=
  ⟨f, fd, _, ok_is_lot B c_is_whole D.fn, D.bd, D.mg, D.fn.kp⟩

noncomputable def F_ways_of_counts : List D → HD → Out D := fun ds h => if ds.length = 2 then mBody 4 (g_ways_of_counts F_ways_with_column) ds h else .stuck
theorem ok_ways_of_counts {P : Program} {w : World} {K : PySem.W.Frag} {mg : Str → Option Value} {base : Heap} (B : Bl mg) (c_ways_with_column : Ca P w K mg base "ways_with_column" 1 F_ways_with_column) {f : Addr} {fd : FuncData} (D : Fun K "ways_of_counts" "ways_of_counts" s_ways_of_counts f fd) : FnOk P w K mg base CX0 2 f fd ["counts", "high"] (spM K F_ways_of_counts) :=
  fn_mirror D sc_ways_of_counts (fun ds h e => if_neg e) (fun ds h e => if_pos e) (fun cdv A outer s H E hr => b_ways_of_counts B c_ways_with_column f cdv A outer s H E hr)
theorem ca_ways_of_counts {P : Program} {w : World} {K : PySem.W.Frag} {mg : Str → Option Value} {base : Heap} (B : Bl mg) (c_ways_with_column : Ca P w K mg base "ways_with_column" 1 F_ways_with_column) {f : Addr} {fd : FuncData} (D : Dn K mg "ways_of_counts" ["counts", "high"] s_ways_of_counts f fd) : Ca P w K mg base "ways_of_counts" 2 F_ways_of_counts :=
  ⟨f, fd, _, ok_ways_of_counts B c_ways_with_column D.fn, D.bd, D.mg, D.fn.kp⟩

noncomputable def F__law_box : List D → HD → Out D := fun ds h => if ds.length = 2 then mBody 5 (g__law_box F__law_cell F__law_mix) ds h else .stuck
theorem ok__law_box {P : Program} {w : World} {K : PySem.W.Frag} {mg : Str → Option Value} {base : Heap} (B : Bl mg) (c__law_cell : Ca P w K mg base "_law_cell" 1 F__law_cell) (c__law_mix : Ca P w K mg base "_law_mix" 1 F__law_mix) {f : Addr} {fd : FuncData} (D : Fun K "_law_box" "_law_box" s__law_box f fd) : FnOk P w K mg base CX0 2 f fd ["_law_script", "_law_k"] (spM K F__law_box) :=
  fn_mirror D sc__law_box (fun ds h e => if_neg e) (fun ds h e => if_pos e) (fun cdv A outer s H E hr => b__law_box B c__law_cell c__law_mix f cdv A outer s H E hr)
theorem ca__law_box {P : Program} {w : World} {K : PySem.W.Frag} {mg : Str → Option Value} {base : Heap} (B : Bl mg) (c__law_cell : Ca P w K mg base "_law_cell" 1 F__law_cell) (c__law_mix : Ca P w K mg base "_law_mix" 1 F__law_mix) {f : Addr} {fd : FuncData} (D : Dn K mg "_law_box" ["_law_script", "_law_k"] s__law_box f fd) : Ca P w K mg base "_law_box" 2 F__law_box :=
  ⟨f, fd, _, ok__law_box B c__law_cell c__law_mix D.fn, D.bd, D.mg, D.fn.kp⟩

noncomputable def F__law_wide_box : List D → HD → Out D := fun ds h => if ds.length = 1 then mBody 4 (g__law_wide_box F__law_take) ds h else .stuck
theorem ok__law_wide_box {P : Program} {w : World} {K : PySem.W.Frag} {mg : Str → Option Value} {base : Heap} (B : Bl mg) (c__law_take : Ca P w K mg base "_law_take" 1 F__law_take) {f : Addr} {fd : FuncData} (D : Fun K "_law_wide_box" "_law_wide_box" s__law_wide_box f fd) : FnOk P w K mg base CX0 2 f fd ["_law_box_here"] (spM K F__law_wide_box) :=
  fn_mirror D sc__law_wide_box (fun ds h e => if_neg e) (fun ds h e => if_pos e) (fun cdv A outer s H E hr => b__law_wide_box B c__law_take f cdv A outer s H E hr)
theorem ca__law_wide_box {P : Program} {w : World} {K : PySem.W.Frag} {mg : Str → Option Value} {base : Heap} (B : Bl mg) (c__law_take : Ca P w K mg base "_law_take" 1 F__law_take) {f : Addr} {fd : FuncData} (D : Dn K mg "_law_wide_box" ["_law_box_here"] s__law_wide_box f fd) : Ca P w K mg base "_law_wide_box" 2 F__law_wide_box :=
  ⟨f, fd, _, ok__law_wide_box B c__law_take D.fn, D.bd, D.mg, D.fn.kp⟩

noncomputable def F__law_lot : List D → HD → Out D := fun ds h => if ds.length = 2 then mBody 2 (g__law_lot F__law_take) ds h else .stuck
theorem ok__law_lot {P : Program} {w : World} {K : PySem.W.Frag} {mg : Str → Option Value} {base : Heap} (B : Bl mg) (c__law_take : Ca P w K mg base "_law_take" 1 F__law_take) {f : Addr} {fd : FuncData} (D : Fun K "_law_lot" "_law_lot" s__law_lot f fd) : FnOk P w K mg base CX0 2 f fd ["_law_box_here", "_law_size"] (spM K F__law_lot) :=
  fn_mirror D sc__law_lot (fun ds h e => if_neg e) (fun ds h e => if_pos e) (fun cdv A outer s H E hr => b__law_lot B c__law_take f cdv A outer s H E hr)
theorem ca__law_lot {P : Program} {w : World} {K : PySem.W.Frag} {mg : Str → Option Value} {base : Heap} (B : Bl mg) (c__law_take : Ca P w K mg base "_law_take" 1 F__law_take) {f : Addr} {fd : FuncData} (D : Dn K mg "_law_lot" ["_law_box_here", "_law_size"] s__law_lot f fd) : Ca P w K mg base "_law_lot" 2 F__law_lot :=
  ⟨f, fd, _, ok__law_lot B c__law_take D.fn, D.bd, D.mg, D.fn.kp⟩

noncomputable def F_is_light : List D → HD → Out D := fun ds h => if ds.length = 1 then mBody 1 (g_is_light F_is_between) ds h else .stuck
theorem ok_is_light {P : Program} {w : World} {K : PySem.W.Frag} {mg : Str → Option Value} {base : Heap} (B : Bl mg) (c_is_between : Ca P w K mg base "is_between" 2 F_is_between) {f : Addr} {fd : FuncData} (D : Fun K "is_light" "is_light" s_is_light f fd) : FnOk P w K mg base CX0 3 f fd ["thing"] (spM K F_is_light) :=
  fn_mirror D sc_is_light (fun ds h e => if_neg e) (fun ds h e => if_pos e) (fun cdv A outer s H E hr => b_is_light B c_is_between f cdv A outer s H E hr)
theorem ca_is_light {P : Program} {w : World} {K : PySem.W.Frag} {mg : Str → Option Value} {base : Heap} (B : Bl mg) (c_is_between : Ca P w K mg base "is_between" 2 F_is_between) {f : Addr} {fd : FuncData} (D : Dn K mg "is_light" ["thing"] s_is_light f fd) : Ca P w K mg base "is_light" 3 F_is_light :=
  ⟨f, fd, _, ok_is_light B c_is_between D.fn, D.bd, D.mg, D.fn.kp⟩

noncomputable def F__law_board : List D → HD → Out D := fun ds h => if ds.length = 3 then mBody 8 (g__law_board F__law_take F__law_wide_box) ds h else .stuck
theorem ok__law_board {P : Program} {w : World} {K : PySem.W.Frag} {mg : Str → Option Value} {base : Heap} (B : Bl mg) (c__law_take : Ca P w K mg base "_law_take" 1 F__law_take) (c__law_wide_box : Ca P w K mg base "_law_wide_box" 2 F__law_wide_box) {f : Addr} {fd : FuncData} (D : Fun K "_law_board" "_law_board" s__law_board f fd) : FnOk P w K mg base CX0 3 f fd ["_law_box_here", "_law_high", "_law_wide"] (spM K F__law_board) :=
  fn_mirror D sc__law_board (fun ds h e => if_neg e) (fun ds h e => if_pos e) (fun cdv A outer s H E hr => b__law_board B c__law_take c__law_wide_box f cdv A outer s H E hr)
theorem ca__law_board {P : Program} {w : World} {K : PySem.W.Frag} {mg : Str → Option Value} {base : Heap} (B : Bl mg) (c__law_take : Ca P w K mg base "_law_take" 1 F__law_take) (c__law_wide_box : Ca P w K mg base "_law_wide_box" 2 F__law_wide_box) {f : Addr} {fd : FuncData} (D : Dn K mg "_law_board" ["_law_box_here", "_law_high", "_law_wide"] s__law_board f fd) : Ca P w K mg base "_law_board" 3 F__law_board :=
  ⟨f, fd, _, ok__law_board B c__law_take c__law_wide_box D.fn, D.bd, D.mg, D.fn.kp⟩

noncomputable def F_is_row : List D → HD → Out D := fun ds h => if ds.length = 1 then mBody 1 (g_is_row F_is_line_tuple F_is_light) ds h else .stuck
theorem ok_is_row {P : Program} {w : World} {K : PySem.W.Frag} {mg : Str → Option Value} {base : Heap} (B : Bl mg) (c_is_line_tuple : Ca P w K mg base "is_line_tuple" 1 F_is_line_tuple) (c_is_light : Ca P w K mg base "is_light" 3 F_is_light) {f : Addr} {fd : FuncData} (D : Fun K "is_row" "is_row" s_is_row f fd) : FnOk P w K mg base CX0 4 f fd ["thing"] (spM K F_is_row) :=
  fn_mirror D sc_is_row (fun ds h e => if_neg e) (fun ds h e => if_pos e) (fun cdv A outer s H E hr => b_is_row B c_is_line_tuple c_is_light f cdv A outer s H E hr)
theorem ca_is_row {P : Program} {w : World} {K : PySem.W.Frag} {mg : Str → Option Value} {base : Heap} (B : Bl mg) (c_is_line_tuple : Ca P w K mg base "is_line_tuple" 1 F_is_line_tuple) (c_is_light : Ca P w K mg base "is_light" 3 F_is_light) {f : Addr} {fd : FuncData} (D : Dn K mg "is_row" ["thing"] s_is_row f fd) : Ca P w K mg base "is_row" 4 F_is_row :=
  ⟨f, fd, _, ok_is_row B c_is_line_tuple c_is_light D.fn, D.bd, D.mg, D.fn.kp⟩

noncomputable def F_is_board : List D → HD → Out D := fun ds h => if ds.length = 1 then mBody 1 (g_is_board F_is_line_tuple F_is_row) ds h else .stuck
theorem ok_is_board {P : Program} {w : World} {K : PySem.W.Frag} {mg : Str → Option Value} {base : Heap} (B : Bl mg) (c_is_line_tuple : Ca P w K mg base "is_line_tuple" 1 F_is_line_tuple) (c_is_row : Ca P w K mg base "is_row" 4 F_is_row) {f : Addr} {fd : FuncData} (D : Fun K "is_board" "is_board" s_is_board f fd) : FnOk P w K mg base CX0 5 f fd ["thing"] (spM K F_is_board) :=
  fn_mirror D sc_is_board (fun ds h e => if_neg e) (fun ds h e => if_pos e) (fun cdv A outer s H E hr => b_is_board B c_is_line_tuple c_is_row f cdv A outer s H E hr)
theorem ca_is_board {P : Program} {w : World} {K : PySem.W.Frag} {mg : Str → Option Value} {base : Heap} (B : Bl mg) (c_is_line_tuple : Ca P w K mg base "is_line_tuple" 1 F_is_line_tuple) (c_is_row : Ca P w K mg base "is_row" 4 F_is_row) {f : Addr} {fd : FuncData} (D : Dn K mg "is_board" ["thing"] s_is_board f fd) : Ca P w K mg base "is_board" 5 F_is_board :=
  ⟨f, fd, _, ok_is_board B c_is_line_tuple c_is_row D.fn, D.bd, D.mg, D.fn.kp⟩

noncomputable def F_need_board : List D → HD → Out D := fun ds h => if ds.length = 1 then mBody 1 (g_need_board F_is_board) ds h else .stuck
theorem ok_need_board {P : Program} {w : World} {K : PySem.W.Frag} {mg : Str → Option Value} {base : Heap} (B : Bl mg) (c_is_board : Ca P w K mg base "is_board" 5 F_is_board) {f : Addr} {fd : FuncData} (D : Fun K "need_board" "need_board" s_need_board f fd) : FnOk P w K mg base CX0 6 f fd ["thing"] (spM K F_need_board) :=
  fn_mirror D sc_need_board (fun ds h e => if_neg e) (fun ds h e => if_pos e) (fun cdv A outer s H E hr => b_need_board B c_is_board f cdv A outer s H E hr)
theorem ca_need_board {P : Program} {w : World} {K : PySem.W.Frag} {mg : Str → Option Value} {base : Heap} (B : Bl mg) (c_is_board : Ca P w K mg base "is_board" 5 F_is_board) {f : Addr} {fd : FuncData} (D : Dn K mg "need_board" ["thing"] s_need_board f fd) : Ca P w K mg base "need_board" 6 F_need_board :=
  ⟨f, fd, _, ok_need_board B c_is_board D.fn, D.bd, D.mg, D.fn.kp⟩

noncomputable def F_row_counts : List D → HD → Out D := fun ds h => if ds.length = 1 then mBody 1 (g_row_counts F_need_board) ds h else .stuck
theorem ok_row_counts {P : Program} {w : World} {K : PySem.W.Frag} {mg : Str → Option Value} {base : Heap} (B : Bl mg) (c_need_board : Ca P w K mg base "need_board" 6 F_need_board) {f : Addr} {fd : FuncData} (D : Fun K "row_counts" "row_counts" s_row_counts f fd) : FnOk P w K mg base CX0 7 f fd ["board"] (spM K F_row_counts) :=
  fn_mirror D sc_row_counts (fun ds h e => if_neg e) (fun ds h e => if_pos e) (fun cdv A outer s H E hr => b_row_counts B c_need_board f cdv A outer s H E hr)
theorem ca_row_counts {P : Program} {w : World} {K : PySem.W.Frag} {mg : Str → Option Value} {base : Heap} (B : Bl mg) (c_need_board : Ca P w K mg base "need_board" 6 F_need_board) {f : Addr} {fd : FuncData} (D : Dn K mg "row_counts" ["board"] s_row_counts f fd) : Ca P w K mg base "row_counts" 7 F_row_counts :=
  ⟨f, fd, _, ok_row_counts B c_need_board D.fn, D.bd, D.mg, D.fn.kp⟩

noncomputable def F_is_switching : List D → HD → Out D := fun ds h => if ds.length = 2 then mBody 2 (g_is_switching F_need_board F_is_lot) ds h else .stuck
theorem ok_is_switching {P : Program} {w : World} {K : PySem.W.Frag} {mg : Str → Option Value} {base : Heap} (B : Bl mg) (c_need_board : Ca P w K mg base "need_board" 6 F_need_board) (c_is_lot : Ca P w K mg base "is_lot" 2 F_is_lot) {f : Addr} {fd : FuncData} (D : Fun K "is_switching" "is_switching" s_is_switching f fd) : FnOk P w K mg base CX0 7 f fd ["board", "thing"] (spM K F_is_switching) :=
  fn_mirror D sc_is_switching (fun ds h e => if_neg e) (fun ds h e => if_pos e) (fun cdv A outer s H E hr => b_is_switching B c_need_board c_is_lot f cdv A outer s H E hr)
theorem ca_is_switching {P : Program} {w : World} {K : PySem.W.Frag} {mg : Str → Option Value} {base : Heap} (B : Bl mg) (c_need_board : Ca P w K mg base "need_board" 6 F_need_board) (c_is_lot : Ca P w K mg base "is_lot" 2 F_is_lot) {f : Addr} {fd : FuncData} (D : Dn K mg "is_switching" ["board", "thing"] s_is_switching f fd) : Ca P w K mg base "is_switching" 7 F_is_switching :=
  ⟨f, fd, _, ok_is_switching B c_need_board c_is_lot D.fn, D.bd, D.mg, D.fn.kp⟩

noncomputable def F_turned : List D → HD → Out D := fun ds h => if ds.length = 1 then mBody 1 (g_turned F_need_board) ds h else .stuck
theorem ok_turned {P : Program} {w : World} {K : PySem.W.Frag} {mg : Str → Option Value} {base : Heap} (B : Bl mg) (c_need_board : Ca P w K mg base "need_board" 6 F_need_board) {f : Addr} {fd : FuncData} (D : Fun K "turned" "turned" s_turned f fd) : FnOk P w K mg base CX0 7 f fd ["board"] (spM K F_turned) :=
  fn_mirror D sc_turned (fun ds h e => if_neg e) (fun ds h e => if_pos e) (fun cdv A outer s H E hr => b_turned B c_need_board f cdv A outer s H E hr)
theorem ca_turned {P : Program} {w : World} {K : PySem.W.Frag} {mg : Str → Option Value} {base : Heap} (B : Bl mg) (c_need_board : Ca P w K mg base "need_board" 6 F_need_board) {f : Addr} {fd : FuncData} (D : Dn K mg "turned" ["board"] s_turned f fd) : Ca P w K mg base "turned" 7 F_turned :=
  ⟨f, fd, _, ok_turned B c_need_board D.fn, D.bd, D.mg, D.fn.kp⟩

noncomputable def F_alike_many : List D → HD → Out D := fun ds h => if ds.length = 1 then mBody 1 (g_alike_many F_need_board) ds h else .stuck
theorem ok_alike_many {P : Program} {w : World} {K : PySem.W.Frag} {mg : Str → Option Value} {base : Heap} (B : Bl mg) (c_need_board : Ca P w K mg base "need_board" 6 F_need_board) {f : Addr} {fd : FuncData} (D : Fun K "alike_many" "alike_many" s_alike_many f fd) : FnOk P w K mg base CX0 7 f fd ["board"] (spM K F_alike_many) :=
  fn_mirror D sc_alike_many (fun ds h e => if_neg e) (fun ds h e => if_pos e) (fun cdv A outer s H E hr => b_alike_many B c_need_board f cdv A outer s H E hr)
theorem ca_alike_many {P : Program} {w : World} {K : PySem.W.Frag} {mg : Str → Option Value} {base : Heap} (B : Bl mg) (c_need_board : Ca P w K mg base "need_board" 6 F_need_board) {f : Addr} {fd : FuncData} (D : Dn K mg "alike_many" ["board"] s_alike_many f fd) : Ca P w K mg base "alike_many" 7 F_alike_many :=
  ⟨f, fd, _, ok_alike_many B c_need_board D.fn, D.bd, D.mg, D.fn.kp⟩

noncomputable def F_lit_many : List D → HD → Out D := fun ds h => if ds.length = 1 then mBody 1 (g_lit_many F_row_counts) ds h else .stuck
theorem ok_lit_many {P : Program} {w : World} {K : PySem.W.Frag} {mg : Str → Option Value} {base : Heap} (B : Bl mg) (c_row_counts : Ca P w K mg base "row_counts" 7 F_row_counts) {f : Addr} {fd : FuncData} (D : Fun K "lit_many" "lit_many" s_lit_many f fd) : FnOk P w K mg base CX0 8 f fd ["board"] (spM K F_lit_many) :=
  fn_mirror D sc_lit_many (fun ds h e => if_neg e) (fun ds h e => if_pos e) (fun cdv A outer s H E hr => b_lit_many B c_row_counts f cdv A outer s H E hr)
theorem ca_lit_many {P : Program} {w : World} {K : PySem.W.Frag} {mg : Str → Option Value} {base : Heap} (B : Bl mg) (c_row_counts : Ca P w K mg base "row_counts" 7 F_row_counts) {f : Addr} {fd : FuncData} (D : Dn K mg "lit_many" ["board"] s_lit_many f fd) : Ca P w K mg base "lit_many" 8 F_lit_many :=
  ⟨f, fd, _, ok_lit_many B c_row_counts D.fn, D.bd, D.mg, D.fn.kp⟩

noncomputable def F_column_counts : List D → HD → Out D := fun ds h => if ds.length = 1 then mBody 1 (g_column_counts F_turned F_row_counts) ds h else .stuck
theorem ok_column_counts {P : Program} {w : World} {K : PySem.W.Frag} {mg : Str → Option Value} {base : Heap} (B : Bl mg) (c_turned : Ca P w K mg base "turned" 7 F_turned) (c_row_counts : Ca P w K mg base "row_counts" 7 F_row_counts) {f : Addr} {fd : FuncData} (D : Fun K "column_counts" "column_counts" s_column_counts f fd) : FnOk P w K mg base CX0 8 f fd ["board"] (spM K F_column_counts) :=
  fn_mirror D sc_column_counts (fun ds h e => if_neg e) (fun ds h e => if_pos e) (fun cdv A outer s H E hr => b_column_counts B c_turned c_row_counts f cdv A outer s H E hr)
theorem ca_column_counts {P : Program} {w : World} {K : PySem.W.Frag} {mg : Str → Option Value} {base : Heap} (B : Bl mg) (c_turned : Ca P w K mg base "turned" 7 F_turned) (c_row_counts : Ca P w K mg base "row_counts" 7 F_row_counts) {f : Addr} {fd : FuncData} (D : Dn K mg "column_counts" ["board"] s_column_counts f fd) : Ca P w K mg base "column_counts" 8 F_column_counts :=
  ⟨f, fd, _, ok_column_counts B c_turned c_row_counts D.fn, D.bd, D.mg, D.fn.kp⟩

noncomputable def F_need_switching : List D → HD → Out D := fun ds h => if ds.length = 2 then mBody 2 (g_need_switching F_is_switching) ds h else .stuck
theorem ok_need_switching {P : Program} {w : World} {K : PySem.W.Frag} {mg : Str → Option Value} {base : Heap} (B : Bl mg) (c_is_switching : Ca P w K mg base "is_switching" 7 F_is_switching) {f : Addr} {fd : FuncData} (D : Fun K "need_switching" "need_switching" s_need_switching f fd) : FnOk P w K mg base CX0 8 f fd ["board", "thing"] (spM K F_need_switching) :=
  fn_mirror D sc_need_switching (fun ds h e => if_neg e) (fun ds h e => if_pos e) (fun cdv A outer s H E hr => b_need_switching B c_is_switching f cdv A outer s H E hr)
theorem ca_need_switching {P : Program} {w : World} {K : PySem.W.Frag} {mg : Str → Option Value} {base : Heap} (B : Bl mg) (c_is_switching : Ca P w K mg base "is_switching" 7 F_is_switching) {f : Addr} {fd : FuncData} (D : Dn K mg "need_switching" ["board", "thing"] s_need_switching f fd) : Ca P w K mg base "need_switching" 8 F_need_switching :=
  ⟨f, fd, _, ok_need_switching B c_is_switching D.fn, D.bd, D.mg, D.fn.kp⟩

noncomputable def F_switched : List D → HD → Out D := fun ds h => if ds.length = 2 then mBody 4 (g_switched F_need_switching F_row_switched) ds h else .stuck
theorem ok_switched {P : Program} {w : World} {K : PySem.W.Frag} {mg : Str → Option Value} {base : Heap} (B : Bl mg) (c_need_switching : Ca P w K mg base "need_switching" 8 F_need_switching) (c_row_switched : Ca P w K mg base "row_switched" 1 F_row_switched) {f : Addr} {fd : FuncData} (D : Fun K "switched" "switched" s_switched f fd) : FnOk P w K mg base CX0 9 f fd ["board", "switching"] (spM K F_switched) :=
  fn_mirror D sc_switched (fun ds h e => if_neg e) (fun ds h e => if_pos e) (fun cdv A outer s H E hr => b_switched B c_need_switching c_row_switched f cdv A outer s H E hr)
theorem ca_switched {P : Program} {w : World} {K : PySem.W.Frag} {mg : Str → Option Value} {base : Heap} (B : Bl mg) (c_need_switching : Ca P w K mg base "need_switching" 8 F_need_switching) (c_row_switched : Ca P w K mg base "row_switched" 1 F_row_switched) {f : Addr} {fd : FuncData} (D : Dn K mg "switched" ["board", "switching"] s_switched f fd) : Ca P w K mg base "switched" 9 F_switched :=
  ⟨f, fd, _, ok_switched B c_need_switching c_row_switched D.fn, D.bd, D.mg, D.fn.kp⟩

noncomputable def F_lots_with_counts : List D → HD → Out D := fun ds h => if ds.length = 1 then mBody 3 (g_lots_with_counts F_column_counts F_counts_with_row) ds h else .stuck
theorem ok_lots_with_counts {P : Program} {w : World} {K : PySem.W.Frag} {mg : Str → Option Value} {base : Heap} (B : Bl mg) (c_column_counts : Ca P w K mg base "column_counts" 8 F_column_counts) (c_counts_with_row : Ca P w K mg base "counts_with_row" 1 F_counts_with_row) {f : Addr} {fd : FuncData} (D : Fun K "lots_with_counts" "lots_with_counts" s_lots_with_counts f fd) : FnOk P w K mg base CX0 9 f fd ["board"] (spM K F_lots_with_counts) :=
  fn_mirror D sc_lots_with_counts (fun ds h e => if_neg e) (fun ds h e => if_pos e) (fun cdv A outer s H E hr => b_lots_with_counts B c_column_counts c_counts_with_row f cdv A outer s H E hr)
theorem ca_lots_with_counts {P : Program} {w : World} {K : PySem.W.Frag} {mg : Str → Option Value} {base : Heap} (B : Bl mg) (c_column_counts : Ca P w K mg base "column_counts" 8 F_column_counts) (c_counts_with_row : Ca P w K mg base "counts_with_row" 1 F_counts_with_row) {f : Addr} {fd : FuncData} (D : Dn K mg "lots_with_counts" ["board"] s_lots_with_counts f fd) : Ca P w K mg base "lots_with_counts" 9 F_lots_with_counts :=
  ⟨f, fd, _, ok_lots_with_counts B c_column_counts c_counts_with_row D.fn, D.bd, D.mg, D.fn.kp⟩

noncomputable def F_counts_by : List D → HD → Out D := fun ds h => if ds.length = 2 then mBody 4 (g_counts_by F_need_board F_is_lot F_column_counts F_counts_with_row) ds h else .stuck
theorem ok_counts_by {P : Program} {w : World} {K : PySem.W.Frag} {mg : Str → Option Value} {base : Heap} (B : Bl mg) (c_need_board : Ca P w K mg base "need_board" 6 F_need_board) (c_is_lot : Ca P w K mg base "is_lot" 2 F_is_lot) (c_column_counts : Ca P w K mg base "column_counts" 8 F_column_counts) (c_counts_with_row : Ca P w K mg base "counts_with_row" 1 F_counts_with_row) {f : Addr} {fd : FuncData} (D : Fun K "counts_by" "counts_by" s_counts_by f fd) : FnOk P w K mg base CX0 9 f fd ["board", "rows"] (spM K F_counts_by) :=
  fn_mirror D sc_counts_by (fun ds h e => if_neg e) (fun ds h e => if_pos e) (fun cdv A outer s H E hr => b_counts_by B c_need_board c_is_lot c_column_counts c_counts_with_row f cdv A outer s H E hr)
theorem ca_counts_by {P : Program} {w : World} {K : PySem.W.Frag} {mg : Str → Option Value} {base : Heap} (B : Bl mg) (c_need_board : Ca P w K mg base "need_board" 6 F_need_board) (c_is_lot : Ca P w K mg base "is_lot" 2 F_is_lot) (c_column_counts : Ca P w K mg base "column_counts" 8 F_column_counts) (c_counts_with_row : Ca P w K mg base "counts_with_row" 1 F_counts_with_row) {f : Addr} {fd : FuncData} (D : Dn K mg "counts_by" ["board", "rows"] s_counts_by f fd) : Ca P w K mg base "counts_by" 9 F_counts_by :=
  ⟨f, fd, _, ok_counts_by B c_need_board c_is_lot c_column_counts c_counts_with_row D.fn, D.bd, D.mg, D.fn.kp⟩

noncomputable def F_left_many : List D → HD → Out D := fun ds h => if ds.length = 1 then mBody 1 (g_left_many F_lots_with_counts F_fewest_lit) ds h else .stuck
theorem ok_left_many {P : Program} {w : World} {K : PySem.W.Frag} {mg : Str → Option Value} {base : Heap} (B : Bl mg) (c_lots_with_counts : Ca P w K mg base "lots_with_counts" 9 F_lots_with_counts) (c_fewest_lit : Ca P w K mg base "fewest_lit" 1 F_fewest_lit) {f : Addr} {fd : FuncData} (D : Fun K "left_many" "left_many" s_left_many f fd) : FnOk P w K mg base CX0 10 f fd ["board"] (spM K F_left_many) :=
  fn_mirror D sc_left_many (fun ds h e => if_neg e) (fun ds h e => if_pos e) (fun cdv A outer s H E hr => b_left_many B c_lots_with_counts c_fewest_lit f cdv A outer s H E hr)
theorem ca_left_many {P : Program} {w : World} {K : PySem.W.Frag} {mg : Str → Option Value} {base : Heap} (B : Bl mg) (c_lots_with_counts : Ca P w K mg base "lots_with_counts" 9 F_lots_with_counts) (c_fewest_lit : Ca P w K mg base "fewest_lit" 1 F_fewest_lit) {f : Addr} {fd : FuncData} (D : Dn K mg "left_many" ["board"] s_left_many f fd) : Ca P w K mg base "left_many" 10 F_left_many :=
  ⟨f, fd, _, ok_left_many B c_lots_with_counts c_fewest_lit D.fn, D.bd, D.mg, D.fn.kp⟩

noncomputable def F_best_columns : List D → HD → Out D := fun ds h => if ds.length = 2 then mBody 2 (g_best_columns F_counts_by F_fuller_columns) ds h else .stuck
theorem ok_best_columns {P : Program} {w : World} {K : PySem.W.Frag} {mg : Str → Option Value} {base : Heap} (B : Bl mg) (c_counts_by : Ca P w K mg base "counts_by" 9 F_counts_by) (c_fuller_columns : Ca P w K mg base "fuller_columns" 1 F_fuller_columns) {f : Addr} {fd : FuncData} (D : Fun K "best_columns" "best_columns" s_best_columns f fd) : FnOk P w K mg base CX0 10 f fd ["board", "rows"] (spM K F_best_columns) :=
  fn_mirror D sc_best_columns (fun ds h e => if_neg e) (fun ds h e => if_pos e) (fun cdv A outer s H E hr => b_best_columns B c_counts_by c_fuller_columns f cdv A outer s H E hr)
theorem ca_best_columns {P : Program} {w : World} {K : PySem.W.Frag} {mg : Str → Option Value} {base : Heap} (B : Bl mg) (c_counts_by : Ca P w K mg base "counts_by" 9 F_counts_by) (c_fuller_columns : Ca P w K mg base "fuller_columns" 1 F_fuller_columns) {f : Addr} {fd : FuncData} (D : Dn K mg "best_columns" ["board", "rows"] s_best_columns f fd) : Ca P w K mg base "best_columns" 10 F_best_columns :=
  ⟨f, fd, _, ok_best_columns B c_counts_by c_fuller_columns D.fn, D.bd, D.mg, D.fn.kp⟩

noncomputable def F_left_by : List D → HD → Out D := fun ds h => if ds.length = 2 then mBody 2 (g_left_by F_counts_by F_fewest_lit) ds h else .stuck
theorem ok_left_by {P : Program} {w : World} {K : PySem.W.Frag} {mg : Str → Option Value} {base : Heap} (B : Bl mg) (c_counts_by : Ca P w K mg base "counts_by" 9 F_counts_by) (c_fewest_lit : Ca P w K mg base "fewest_lit" 1 F_fewest_lit) {f : Addr} {fd : FuncData} (D : Fun K "left_by" "left_by" s_left_by f fd) : FnOk P w K mg base CX0 10 f fd ["board", "rows"] (spM K F_left_by) :=
  fn_mirror D sc_left_by (fun ds h e => if_neg e) (fun ds h e => if_pos e) (fun cdv A outer s H E hr => b_left_by B c_counts_by c_fewest_lit f cdv A outer s H E hr)
theorem ca_left_by {P : Program} {w : World} {K : PySem.W.Frag} {mg : Str → Option Value} {base : Heap} (B : Bl mg) (c_counts_by : Ca P w K mg base "counts_by" 9 F_counts_by) (c_fewest_lit : Ca P w K mg base "fewest_lit" 1 F_fewest_lit) {f : Addr} {fd : FuncData} (D : Dn K mg "left_by" ["board", "rows"] s_left_by f fd) : Ca P w K mg base "left_by" 10 F_left_by :=
  ⟨f, fd, _, ok_left_by B c_counts_by c_fewest_lit D.fn, D.bd, D.mg, D.fn.kp⟩

noncomputable def F_left_counts : List D → HD → Out D := fun ds h => if ds.length = 1 then mBody 6 (g_left_counts F_need_board F_lots_with_counts F_ways_of_counts) ds h else .stuck
theorem ok_left_counts {P : Program} {w : World} {K : PySem.W.Frag} {mg : Str → Option Value} {base : Heap} (B : Bl mg) (c_need_board : Ca P w K mg base "need_board" 6 F_need_board) (c_lots_with_counts : Ca P w K mg base "lots_with_counts" 9 F_lots_with_counts) (c_ways_of_counts : Ca P w K mg base "ways_of_counts" 2 F_ways_of_counts) {f : Addr} {fd : FuncData} (D : Fun K "left_counts" "left_counts" s_left_counts f fd) : FnOk P w K mg base CX0 10 f fd ["board"] (spM K F_left_counts) :=
  fn_mirror D sc_left_counts (fun ds h e => if_neg e) (fun ds h e => if_pos e) (fun cdv A outer s H E hr => b_left_counts B c_need_board c_lots_with_counts c_ways_of_counts f cdv A outer s H E hr)
theorem ca_left_counts {P : Program} {w : World} {K : PySem.W.Frag} {mg : Str → Option Value} {base : Heap} (B : Bl mg) (c_need_board : Ca P w K mg base "need_board" 6 F_need_board) (c_lots_with_counts : Ca P w K mg base "lots_with_counts" 9 F_lots_with_counts) (c_ways_of_counts : Ca P w K mg base "ways_of_counts" 2 F_ways_of_counts) {f : Addr} {fd : FuncData} (D : Dn K mg "left_counts" ["board"] s_left_counts f fd) : Ca P w K mg base "left_counts" 10 F_left_counts :=
  ⟨f, fd, _, ok_left_counts B c_need_board c_lots_with_counts c_ways_of_counts D.fn, D.bd, D.mg, D.fn.kp⟩

noncomputable def F_best_switching : List D → HD → Out D := fun ds h => if ds.length = 1 then mBody 3 (g_best_switching F_left_many F_lots_with_counts F_fewest_lit F_fuller_columns) ds h else .stuck
theorem ok_best_switching {P : Program} {w : World} {K : PySem.W.Frag} {mg : Str → Option Value} {base : Heap} (B : Bl mg) (c_left_many : Ca P w K mg base "left_many" 10 F_left_many) (c_lots_with_counts : Ca P w K mg base "lots_with_counts" 9 F_lots_with_counts) (c_fewest_lit : Ca P w K mg base "fewest_lit" 1 F_fewest_lit) (c_fuller_columns : Ca P w K mg base "fuller_columns" 1 F_fuller_columns) {f : Addr} {fd : FuncData} (D : Fun K "best_switching" "best_switching" s_best_switching f fd) : FnOk P w K mg base CX0 11 f fd ["board"] (spM K F_best_switching) :=
  fn_mirror D sc_best_switching (fun ds h e => if_neg e) (fun ds h e => if_pos e) (fun cdv A outer s H E hr => b_best_switching B c_left_many c_lots_with_counts c_fewest_lit c_fuller_columns f cdv A outer s H E hr)
theorem ca_best_switching {P : Program} {w : World} {K : PySem.W.Frag} {mg : Str → Option Value} {base : Heap} (B : Bl mg) (c_left_many : Ca P w K mg base "left_many" 10 F_left_many) (c_lots_with_counts : Ca P w K mg base "lots_with_counts" 9 F_lots_with_counts) (c_fewest_lit : Ca P w K mg base "fewest_lit" 1 F_fewest_lit) (c_fuller_columns : Ca P w K mg base "fuller_columns" 1 F_fuller_columns) {f : Addr} {fd : FuncData} (D : Dn K mg "best_switching" ["board"] s_best_switching f fd) : Ca P w K mg base "best_switching" 11 F_best_switching :=
  ⟨f, fd, _, ok_best_switching B c_left_many c_lots_with_counts c_fewest_lit c_fuller_columns D.fn, D.bd, D.mg, D.fn.kp⟩

noncomputable def F_is_best : List D → HD → Out D := fun ds h => if ds.length = 2 then mBody 2 (g_is_best F_switched F_lit_many F_left_many) ds h else .stuck
theorem ok_is_best {P : Program} {w : World} {K : PySem.W.Frag} {mg : Str → Option Value} {base : Heap} (B : Bl mg) (c_switched : Ca P w K mg base "switched" 9 F_switched) (c_lit_many : Ca P w K mg base "lit_many" 8 F_lit_many) (c_left_many : Ca P w K mg base "left_many" 10 F_left_many) {f : Addr} {fd : FuncData} (D : Fun K "is_best" "is_best" s_is_best f fd) : FnOk P w K mg base CX0 11 f fd ["board", "switching"] (spM K F_is_best) :=
  fn_mirror D sc_is_best (fun ds h e => if_neg e) (fun ds h e => if_pos e) (fun cdv A outer s H E hr => b_is_best B c_switched c_lit_many c_left_many f cdv A outer s H E hr)
theorem ca_is_best {P : Program} {w : World} {K : PySem.W.Frag} {mg : Str → Option Value} {base : Heap} (B : Bl mg) (c_switched : Ca P w K mg base "switched" 9 F_switched) (c_lit_many : Ca P w K mg base "lit_many" 8 F_lit_many) (c_left_many : Ca P w K mg base "left_many" 10 F_left_many) {f : Addr} {fd : FuncData} (D : Dn K mg "is_best" ["board", "switching"] s_is_best f fd) : Ca P w K mg base "is_best" 11 F_is_best :=
  ⟨f, fd, _, ok_is_best B c_switched c_lit_many c_left_many D.fn, D.bd, D.mg, D.fn.kp⟩

noncomputable def F_law : List D → HD → Out D := fun ds h => if ds.length = 1 then mBody 15 (g_law F__law_box F__law_take F__law_board F__law_lot F_left_many F_switched F_turned F_best_columns F_left_by F_lit_many F_best_switching F_is_best F_left_counts F_alike_many) ds h else .stuck
theorem ok_law {P : Program} {w : World} {K : PySem.W.Frag} {mg : Str → Option Value} {base : Heap} (B : Bl mg) (c__law_box : Ca P w K mg base "_law_box" 2 F__law_box) (c__law_take : Ca P w K mg base "_law_take" 1 F__law_take) (c__law_board : Ca P w K mg base "_law_board" 3 F__law_board) (c__law_lot : Ca P w K mg base "_law_lot" 2 F__law_lot) (c_left_many : Ca P w K mg base "left_many" 10 F_left_many) (c_switched : Ca P w K mg base "switched" 9 F_switched) (c_turned : Ca P w K mg base "turned" 7 F_turned) (c_best_columns : Ca P w K mg base "best_columns" 10 F_best_columns) (c_left_by : Ca P w K mg base "left_by" 10 F_left_by) (c_lit_many : Ca P w K mg base "lit_many" 8 F_lit_many) (c_best_switching : Ca P w K mg base "best_switching" 11 F_best_switching) (c_is_best : Ca P w K mg base "is_best" 11 F_is_best) (c_left_counts : Ca P w K mg base "left_counts" 10 F_left_counts) (c_alike_many : Ca P w K mg base "alike_many" 7 F_alike_many) {f : Addr} {fd : FuncData} (D : Fun K "law" "law" s_law f fd) : FnOk P w K mg base CX0 12 f fd ["_law_script"] (spM K F_law) :=
  fn_mirror D sc_law (fun ds h e => if_neg e) (fun ds h e => if_pos e) (fun cdv A outer s H E hr => b_law B c__law_box c__law_take c__law_board c__law_lot c_left_many c_switched c_turned c_best_columns c_left_by c_lit_many c_best_switching c_is_best c_left_counts c_alike_many f cdv A outer s H E hr)
theorem all_mk {l : PySem.W.OpenLaw} {w : World} {K : PySem.W.Frag} {h : Heap} {mg : Str → Option Value} {fa : Addr} (X : K.In h) (G : h.Ns mainGlobals mg) (hfa : mg "law" = some (.ref fa))
    {f_is_whole : Addr} {od_is_whole an_is_whole : Option Addr} {sl_is_whole : Array (Option Value)} {oc_is_whole kV_is_whole dc_is_whole pm_is_whole cd_is_whole ct_is_whole : Value}
    {f_is_line_tuple : Addr} {od_is_line_tuple an_is_line_tuple : Option Addr} {sl_is_line_tuple : Array (Option Value)} {oc_is_line_tuple kV_is_line_tuple dc_is_line_tuple pm_is_line_tuple cd_is_line_tuple ct_is_line_tuple : Value}
    {f_row_switched : Addr} {od_row_switched an_row_switched : Option Addr} {sl_row_switched : Array (Option Value)} {oc_row_switched kV_row_switched dc_row_switched pm_row_switched cd_row_switched ct_row_switched : Value}
    {f_counts_with_row : Addr} {od_counts_with_row an_counts_with_row : Option Addr} {sl_counts_with_row : Array (Option Value)} {oc_counts_with_row kV_counts_with_row dc_counts_with_row pm_counts_with_row cd_counts_with_row ct_counts_with_row : Value}
    {f_fewest_lit : Addr} {od_fewest_lit an_fewest_lit : Option Addr} {sl_fewest_lit : Array (Option Value)} {oc_fewest_lit kV_fewest_lit dc_fewest_lit pm_fewest_lit cd_fewest_lit ct_fewest_lit : Value}
    {f_fuller_columns : Addr} {od_fuller_columns an_fuller_columns : Option Addr} {sl_fuller_columns : Array (Option Value)} {oc_fuller_columns kV_fuller_columns dc_fuller_columns pm_fuller_columns cd_fuller_columns ct_fuller_columns : Value}
    {f_ways_with_column : Addr} {od_ways_with_column an_ways_with_column : Option Addr} {sl_ways_with_column : Array (Option Value)} {oc_ways_with_column kV_ways_with_column dc_ways_with_column pm_ways_with_column cd_ways_with_column ct_ways_with_column : Value}
    {f__law_cell : Addr} {od__law_cell an__law_cell : Option Addr} {sl__law_cell : Array (Option Value)} {oc__law_cell kV__law_cell dc__law_cell pm__law_cell cd__law_cell ct__law_cell : Value}
    {f__law_mix : Addr} {od__law_mix an__law_mix : Option Addr} {sl__law_mix : Array (Option Value)} {oc__law_mix kV__law_mix dc__law_mix pm__law_mix cd__law_mix ct__law_mix : Value}
    {f__law_take : Addr} {od__law_take an__law_take : Option Addr} {sl__law_take : Array (Option Value)} {oc__law_take kV__law_take dc__law_take pm__law_take cd__law_take ct__law_take : Value}
    {f_is_between : Addr} {od_is_between an_is_between : Option Addr} {sl_is_between : Array (Option Value)} {oc_is_between kV_is_between dc_is_between pm_is_between cd_is_between ct_is_between : Value}
    {f_is_lot : Addr} {od_is_lot an_is_lot : Option Addr} {sl_is_lot : Array (Option Value)} {oc_is_lot kV_is_lot dc_is_lot pm_is_lot cd_is_lot ct_is_lot : Value}
    {f_ways_of_counts : Addr} {od_ways_of_counts an_ways_of_counts : Option Addr} {sl_ways_of_counts : Array (Option Value)} {oc_ways_of_counts kV_ways_of_counts dc_ways_of_counts pm_ways_of_counts cd_ways_of_counts ct_ways_of_counts : Value}
    {f__law_box : Addr} {od__law_box an__law_box : Option Addr} {sl__law_box : Array (Option Value)} {oc__law_box kV__law_box dc__law_box pm__law_box cd__law_box ct__law_box : Value}
    {f__law_wide_box : Addr} {od__law_wide_box an__law_wide_box : Option Addr} {sl__law_wide_box : Array (Option Value)} {oc__law_wide_box kV__law_wide_box dc__law_wide_box pm__law_wide_box cd__law_wide_box ct__law_wide_box : Value}
    {f__law_lot : Addr} {od__law_lot an__law_lot : Option Addr} {sl__law_lot : Array (Option Value)} {oc__law_lot kV__law_lot dc__law_lot pm__law_lot cd__law_lot ct__law_lot : Value}
    {f_is_light : Addr} {od_is_light an_is_light : Option Addr} {sl_is_light : Array (Option Value)} {oc_is_light kV_is_light dc_is_light pm_is_light cd_is_light ct_is_light : Value}
    {f__law_board : Addr} {od__law_board an__law_board : Option Addr} {sl__law_board : Array (Option Value)} {oc__law_board kV__law_board dc__law_board pm__law_board cd__law_board ct__law_board : Value}
    {f_is_row : Addr} {od_is_row an_is_row : Option Addr} {sl_is_row : Array (Option Value)} {oc_is_row kV_is_row dc_is_row pm_is_row cd_is_row ct_is_row : Value}
    {f_is_board : Addr} {od_is_board an_is_board : Option Addr} {sl_is_board : Array (Option Value)} {oc_is_board kV_is_board dc_is_board pm_is_board cd_is_board ct_is_board : Value}
    {f_need_board : Addr} {od_need_board an_need_board : Option Addr} {sl_need_board : Array (Option Value)} {oc_need_board kV_need_board dc_need_board pm_need_board cd_need_board ct_need_board : Value}
    {f_row_counts : Addr} {od_row_counts an_row_counts : Option Addr} {sl_row_counts : Array (Option Value)} {oc_row_counts kV_row_counts dc_row_counts pm_row_counts cd_row_counts ct_row_counts : Value}
    {f_is_switching : Addr} {od_is_switching an_is_switching : Option Addr} {sl_is_switching : Array (Option Value)} {oc_is_switching kV_is_switching dc_is_switching pm_is_switching cd_is_switching ct_is_switching : Value}
    {f_turned : Addr} {od_turned an_turned : Option Addr} {sl_turned : Array (Option Value)} {oc_turned kV_turned dc_turned pm_turned cd_turned ct_turned : Value}
    {f_alike_many : Addr} {od_alike_many an_alike_many : Option Addr} {sl_alike_many : Array (Option Value)} {oc_alike_many kV_alike_many dc_alike_many pm_alike_many cd_alike_many ct_alike_many : Value}
    {f_lit_many : Addr} {od_lit_many an_lit_many : Option Addr} {sl_lit_many : Array (Option Value)} {oc_lit_many kV_lit_many dc_lit_many pm_lit_many cd_lit_many ct_lit_many : Value}
    {f_column_counts : Addr} {od_column_counts an_column_counts : Option Addr} {sl_column_counts : Array (Option Value)} {oc_column_counts kV_column_counts dc_column_counts pm_column_counts cd_column_counts ct_column_counts : Value}
    {f_need_switching : Addr} {od_need_switching an_need_switching : Option Addr} {sl_need_switching : Array (Option Value)} {oc_need_switching kV_need_switching dc_need_switching pm_need_switching cd_need_switching ct_need_switching : Value}
    {f_switched : Addr} {od_switched an_switched : Option Addr} {sl_switched : Array (Option Value)} {oc_switched kV_switched dc_switched pm_switched cd_switched ct_switched : Value}
    {f_lots_with_counts : Addr} {od_lots_with_counts an_lots_with_counts : Option Addr} {sl_lots_with_counts : Array (Option Value)} {oc_lots_with_counts kV_lots_with_counts dc_lots_with_counts pm_lots_with_counts cd_lots_with_counts ct_lots_with_counts : Value}
    {f_counts_by : Addr} {od_counts_by an_counts_by : Option Addr} {sl_counts_by : Array (Option Value)} {oc_counts_by kV_counts_by dc_counts_by pm_counts_by cd_counts_by ct_counts_by : Value}
    {f_left_many : Addr} {od_left_many an_left_many : Option Addr} {sl_left_many : Array (Option Value)} {oc_left_many kV_left_many dc_left_many pm_left_many cd_left_many ct_left_many : Value}
    {f_best_columns : Addr} {od_best_columns an_best_columns : Option Addr} {sl_best_columns : Array (Option Value)} {oc_best_columns kV_best_columns dc_best_columns pm_best_columns cd_best_columns ct_best_columns : Value}
    {f_left_by : Addr} {od_left_by an_left_by : Option Addr} {sl_left_by : Array (Option Value)} {oc_left_by kV_left_by dc_left_by pm_left_by cd_left_by ct_left_by : Value}
    {f_left_counts : Addr} {od_left_counts an_left_counts : Option Addr} {sl_left_counts : Array (Option Value)} {oc_left_counts kV_left_counts dc_left_counts pm_left_counts cd_left_counts ct_left_counts : Value}
    {f_best_switching : Addr} {od_best_switching an_best_switching : Option Addr} {sl_best_switching : Array (Option Value)} {oc_best_switching kV_best_switching dc_best_switching pm_best_switching cd_best_switching ct_best_switching : Value}
    {f_is_best : Addr} {od_is_best an_is_best : Option Addr} {sl_is_best : Array (Option Value)} {oc_is_best kV_is_best dc_is_best pm_is_best cd_is_best ct_is_best : Value}
    {f_law : Addr} {od_law an_law : Option Addr} {sl_law : Array (Option Value)} {oc_law kV_law dc_law pm_law cd_law ct_law : Value} {t_MOST_LINES : Tok}
    (a_is_whole : PySem.W.nsIn K mainGlobals "is_whole" = some (some (.ref f_is_whole))) (l_is_whole : K.lookup f_is_whole = some ⟨oc_is_whole, od_is_whole, .func (PySem.W.fnOf "is_whole" "is_whole" (defArgs s_is_whole) (defBody s_is_whole) (defScope s_is_whole) .none kV_is_whole dc_is_whole pm_is_whole an_is_whole cd_is_whole ct_is_whole), sl_is_whole⟩) (c_is_whole : PySem.W.codeIn K cd_is_whole "is_whole" = true) (k_is_whole : PySem.W.keepIn K (.ref f_is_whole) = true)
    (a_is_line_tuple : PySem.W.nsIn K mainGlobals "is_line_tuple" = some (some (.ref f_is_line_tuple))) (l_is_line_tuple : K.lookup f_is_line_tuple = some ⟨oc_is_line_tuple, od_is_line_tuple, .func (PySem.W.fnOf "is_line_tuple" "is_line_tuple" (defArgs s_is_line_tuple) (defBody s_is_line_tuple) (defScope s_is_line_tuple) .none kV_is_line_tuple dc_is_line_tuple pm_is_line_tuple an_is_line_tuple cd_is_line_tuple ct_is_line_tuple), sl_is_line_tuple⟩) (c_is_line_tuple : PySem.W.codeIn K cd_is_line_tuple "is_line_tuple" = true) (k_is_line_tuple : PySem.W.keepIn K (.ref f_is_line_tuple) = true)
    (a_row_switched : PySem.W.nsIn K mainGlobals "row_switched" = some (some (.ref f_row_switched))) (l_row_switched : K.lookup f_row_switched = some ⟨oc_row_switched, od_row_switched, .func (PySem.W.fnOf "row_switched" "row_switched" (defArgs s_row_switched) (defBody s_row_switched) (defScope s_row_switched) .none kV_row_switched dc_row_switched pm_row_switched an_row_switched cd_row_switched ct_row_switched), sl_row_switched⟩) (c_row_switched : PySem.W.codeIn K cd_row_switched "row_switched" = true) (k_row_switched : PySem.W.keepIn K (.ref f_row_switched) = true)
    (a_counts_with_row : PySem.W.nsIn K mainGlobals "counts_with_row" = some (some (.ref f_counts_with_row))) (l_counts_with_row : K.lookup f_counts_with_row = some ⟨oc_counts_with_row, od_counts_with_row, .func (PySem.W.fnOf "counts_with_row" "counts_with_row" (defArgs s_counts_with_row) (defBody s_counts_with_row) (defScope s_counts_with_row) .none kV_counts_with_row dc_counts_with_row pm_counts_with_row an_counts_with_row cd_counts_with_row ct_counts_with_row), sl_counts_with_row⟩) (c_counts_with_row : PySem.W.codeIn K cd_counts_with_row "counts_with_row" = true) (k_counts_with_row : PySem.W.keepIn K (.ref f_counts_with_row) = true)
    (a_fewest_lit : PySem.W.nsIn K mainGlobals "fewest_lit" = some (some (.ref f_fewest_lit))) (l_fewest_lit : K.lookup f_fewest_lit = some ⟨oc_fewest_lit, od_fewest_lit, .func (PySem.W.fnOf "fewest_lit" "fewest_lit" (defArgs s_fewest_lit) (defBody s_fewest_lit) (defScope s_fewest_lit) .none kV_fewest_lit dc_fewest_lit pm_fewest_lit an_fewest_lit cd_fewest_lit ct_fewest_lit), sl_fewest_lit⟩) (c_fewest_lit : PySem.W.codeIn K cd_fewest_lit "fewest_lit" = true) (k_fewest_lit : PySem.W.keepIn K (.ref f_fewest_lit) = true)
    (a_fuller_columns : PySem.W.nsIn K mainGlobals "fuller_columns" = some (some (.ref f_fuller_columns))) (l_fuller_columns : K.lookup f_fuller_columns = some ⟨oc_fuller_columns, od_fuller_columns, .func (PySem.W.fnOf "fuller_columns" "fuller_columns" (defArgs s_fuller_columns) (defBody s_fuller_columns) (defScope s_fuller_columns) .none kV_fuller_columns dc_fuller_columns pm_fuller_columns an_fuller_columns cd_fuller_columns ct_fuller_columns), sl_fuller_columns⟩) (c_fuller_columns : PySem.W.codeIn K cd_fuller_columns "fuller_columns" = true) (k_fuller_columns : PySem.W.keepIn K (.ref f_fuller_columns) = true)
    (a_ways_with_column : PySem.W.nsIn K mainGlobals "ways_with_column" = some (some (.ref f_ways_with_column))) (l_ways_with_column : K.lookup f_ways_with_column = some ⟨oc_ways_with_column, od_ways_with_column, .func (PySem.W.fnOf "ways_with_column" "ways_with_column" (defArgs s_ways_with_column) (defBody s_ways_with_column) (defScope s_ways_with_column) .none kV_ways_with_column dc_ways_with_column pm_ways_with_column an_ways_with_column cd_ways_with_column ct_ways_with_column), sl_ways_with_column⟩) (c_ways_with_column : PySem.W.codeIn K cd_ways_with_column "ways_with_column" = true) (k_ways_with_column : PySem.W.keepIn K (.ref f_ways_with_column) = true)
    (a__law_cell : PySem.W.nsIn K mainGlobals "_law_cell" = some (some (.ref f__law_cell))) (l__law_cell : K.lookup f__law_cell = some ⟨oc__law_cell, od__law_cell, .func (PySem.W.fnOf "_law_cell" "_law_cell" (defArgs s__law_cell) (defBody s__law_cell) (defScope s__law_cell) .none kV__law_cell dc__law_cell pm__law_cell an__law_cell cd__law_cell ct__law_cell), sl__law_cell⟩) (c__law_cell : PySem.W.codeIn K cd__law_cell "_law_cell" = true) (k__law_cell : PySem.W.keepIn K (.ref f__law_cell) = true)
    (a__law_mix : PySem.W.nsIn K mainGlobals "_law_mix" = some (some (.ref f__law_mix))) (l__law_mix : K.lookup f__law_mix = some ⟨oc__law_mix, od__law_mix, .func (PySem.W.fnOf "_law_mix" "_law_mix" (defArgs s__law_mix) (defBody s__law_mix) (defScope s__law_mix) .none kV__law_mix dc__law_mix pm__law_mix an__law_mix cd__law_mix ct__law_mix), sl__law_mix⟩) (c__law_mix : PySem.W.codeIn K cd__law_mix "_law_mix" = true) (k__law_mix : PySem.W.keepIn K (.ref f__law_mix) = true)
    (a__law_take : PySem.W.nsIn K mainGlobals "_law_take" = some (some (.ref f__law_take))) (l__law_take : K.lookup f__law_take = some ⟨oc__law_take, od__law_take, .func (PySem.W.fnOf "_law_take" "_law_take" (defArgs s__law_take) (defBody s__law_take) (defScope s__law_take) .none kV__law_take dc__law_take pm__law_take an__law_take cd__law_take ct__law_take), sl__law_take⟩) (c__law_take : PySem.W.codeIn K cd__law_take "_law_take" = true) (k__law_take : PySem.W.keepIn K (.ref f__law_take) = true)
    (a_is_between : PySem.W.nsIn K mainGlobals "is_between" = some (some (.ref f_is_between))) (l_is_between : K.lookup f_is_between = some ⟨oc_is_between, od_is_between, .func (PySem.W.fnOf "is_between" "is_between" (defArgs s_is_between) (defBody s_is_between) (defScope s_is_between) .none kV_is_between dc_is_between pm_is_between an_is_between cd_is_between ct_is_between), sl_is_between⟩) (c_is_between : PySem.W.codeIn K cd_is_between "is_between" = true) (k_is_between : PySem.W.keepIn K (.ref f_is_between) = true)
    (a_is_lot : PySem.W.nsIn K mainGlobals "is_lot" = some (some (.ref f_is_lot))) (l_is_lot : K.lookup f_is_lot = some ⟨oc_is_lot, od_is_lot, .func (PySem.W.fnOf "is_lot" "is_lot" (defArgs s_is_lot) (defBody s_is_lot) (defScope s_is_lot) .none kV_is_lot dc_is_lot pm_is_lot an_is_lot cd_is_lot ct_is_lot), sl_is_lot⟩) (c_is_lot : PySem.W.codeIn K cd_is_lot "is_lot" = true) (k_is_lot : PySem.W.keepIn K (.ref f_is_lot) = true)
    (a_ways_of_counts : PySem.W.nsIn K mainGlobals "ways_of_counts" = some (some (.ref f_ways_of_counts))) (l_ways_of_counts : K.lookup f_ways_of_counts = some ⟨oc_ways_of_counts, od_ways_of_counts, .func (PySem.W.fnOf "ways_of_counts" "ways_of_counts" (defArgs s_ways_of_counts) (defBody s_ways_of_counts) (defScope s_ways_of_counts) .none kV_ways_of_counts dc_ways_of_counts pm_ways_of_counts an_ways_of_counts cd_ways_of_counts ct_ways_of_counts), sl_ways_of_counts⟩) (c_ways_of_counts : PySem.W.codeIn K cd_ways_of_counts "ways_of_counts" = true) (k_ways_of_counts : PySem.W.keepIn K (.ref f_ways_of_counts) = true)
    (a__law_box : PySem.W.nsIn K mainGlobals "_law_box" = some (some (.ref f__law_box))) (l__law_box : K.lookup f__law_box = some ⟨oc__law_box, od__law_box, .func (PySem.W.fnOf "_law_box" "_law_box" (defArgs s__law_box) (defBody s__law_box) (defScope s__law_box) .none kV__law_box dc__law_box pm__law_box an__law_box cd__law_box ct__law_box), sl__law_box⟩) (c__law_box : PySem.W.codeIn K cd__law_box "_law_box" = true) (k__law_box : PySem.W.keepIn K (.ref f__law_box) = true)
    (a__law_wide_box : PySem.W.nsIn K mainGlobals "_law_wide_box" = some (some (.ref f__law_wide_box))) (l__law_wide_box : K.lookup f__law_wide_box = some ⟨oc__law_wide_box, od__law_wide_box, .func (PySem.W.fnOf "_law_wide_box" "_law_wide_box" (defArgs s__law_wide_box) (defBody s__law_wide_box) (defScope s__law_wide_box) .none kV__law_wide_box dc__law_wide_box pm__law_wide_box an__law_wide_box cd__law_wide_box ct__law_wide_box), sl__law_wide_box⟩) (c__law_wide_box : PySem.W.codeIn K cd__law_wide_box "_law_wide_box" = true) (k__law_wide_box : PySem.W.keepIn K (.ref f__law_wide_box) = true)
    (a__law_lot : PySem.W.nsIn K mainGlobals "_law_lot" = some (some (.ref f__law_lot))) (l__law_lot : K.lookup f__law_lot = some ⟨oc__law_lot, od__law_lot, .func (PySem.W.fnOf "_law_lot" "_law_lot" (defArgs s__law_lot) (defBody s__law_lot) (defScope s__law_lot) .none kV__law_lot dc__law_lot pm__law_lot an__law_lot cd__law_lot ct__law_lot), sl__law_lot⟩) (c__law_lot : PySem.W.codeIn K cd__law_lot "_law_lot" = true) (k__law_lot : PySem.W.keepIn K (.ref f__law_lot) = true)
    (a_is_light : PySem.W.nsIn K mainGlobals "is_light" = some (some (.ref f_is_light))) (l_is_light : K.lookup f_is_light = some ⟨oc_is_light, od_is_light, .func (PySem.W.fnOf "is_light" "is_light" (defArgs s_is_light) (defBody s_is_light) (defScope s_is_light) .none kV_is_light dc_is_light pm_is_light an_is_light cd_is_light ct_is_light), sl_is_light⟩) (c_is_light : PySem.W.codeIn K cd_is_light "is_light" = true) (k_is_light : PySem.W.keepIn K (.ref f_is_light) = true)
    (a__law_board : PySem.W.nsIn K mainGlobals "_law_board" = some (some (.ref f__law_board))) (l__law_board : K.lookup f__law_board = some ⟨oc__law_board, od__law_board, .func (PySem.W.fnOf "_law_board" "_law_board" (defArgs s__law_board) (defBody s__law_board) (defScope s__law_board) .none kV__law_board dc__law_board pm__law_board an__law_board cd__law_board ct__law_board), sl__law_board⟩) (c__law_board : PySem.W.codeIn K cd__law_board "_law_board" = true) (k__law_board : PySem.W.keepIn K (.ref f__law_board) = true)
    (a_is_row : PySem.W.nsIn K mainGlobals "is_row" = some (some (.ref f_is_row))) (l_is_row : K.lookup f_is_row = some ⟨oc_is_row, od_is_row, .func (PySem.W.fnOf "is_row" "is_row" (defArgs s_is_row) (defBody s_is_row) (defScope s_is_row) .none kV_is_row dc_is_row pm_is_row an_is_row cd_is_row ct_is_row), sl_is_row⟩) (c_is_row : PySem.W.codeIn K cd_is_row "is_row" = true) (k_is_row : PySem.W.keepIn K (.ref f_is_row) = true)
    (a_is_board : PySem.W.nsIn K mainGlobals "is_board" = some (some (.ref f_is_board))) (l_is_board : K.lookup f_is_board = some ⟨oc_is_board, od_is_board, .func (PySem.W.fnOf "is_board" "is_board" (defArgs s_is_board) (defBody s_is_board) (defScope s_is_board) .none kV_is_board dc_is_board pm_is_board an_is_board cd_is_board ct_is_board), sl_is_board⟩) (c_is_board : PySem.W.codeIn K cd_is_board "is_board" = true) (k_is_board : PySem.W.keepIn K (.ref f_is_board) = true)
    (a_need_board : PySem.W.nsIn K mainGlobals "need_board" = some (some (.ref f_need_board))) (l_need_board : K.lookup f_need_board = some ⟨oc_need_board, od_need_board, .func (PySem.W.fnOf "need_board" "need_board" (defArgs s_need_board) (defBody s_need_board) (defScope s_need_board) .none kV_need_board dc_need_board pm_need_board an_need_board cd_need_board ct_need_board), sl_need_board⟩) (c_need_board : PySem.W.codeIn K cd_need_board "need_board" = true) (k_need_board : PySem.W.keepIn K (.ref f_need_board) = true)
    (a_row_counts : PySem.W.nsIn K mainGlobals "row_counts" = some (some (.ref f_row_counts))) (l_row_counts : K.lookup f_row_counts = some ⟨oc_row_counts, od_row_counts, .func (PySem.W.fnOf "row_counts" "row_counts" (defArgs s_row_counts) (defBody s_row_counts) (defScope s_row_counts) .none kV_row_counts dc_row_counts pm_row_counts an_row_counts cd_row_counts ct_row_counts), sl_row_counts⟩) (c_row_counts : PySem.W.codeIn K cd_row_counts "row_counts" = true) (k_row_counts : PySem.W.keepIn K (.ref f_row_counts) = true)
    (a_is_switching : PySem.W.nsIn K mainGlobals "is_switching" = some (some (.ref f_is_switching))) (l_is_switching : K.lookup f_is_switching = some ⟨oc_is_switching, od_is_switching, .func (PySem.W.fnOf "is_switching" "is_switching" (defArgs s_is_switching) (defBody s_is_switching) (defScope s_is_switching) .none kV_is_switching dc_is_switching pm_is_switching an_is_switching cd_is_switching ct_is_switching), sl_is_switching⟩) (c_is_switching : PySem.W.codeIn K cd_is_switching "is_switching" = true) (k_is_switching : PySem.W.keepIn K (.ref f_is_switching) = true)
    (a_turned : PySem.W.nsIn K mainGlobals "turned" = some (some (.ref f_turned))) (l_turned : K.lookup f_turned = some ⟨oc_turned, od_turned, .func (PySem.W.fnOf "turned" "turned" (defArgs s_turned) (defBody s_turned) (defScope s_turned) .none kV_turned dc_turned pm_turned an_turned cd_turned ct_turned), sl_turned⟩) (c_turned : PySem.W.codeIn K cd_turned "turned" = true) (k_turned : PySem.W.keepIn K (.ref f_turned) = true)
    (a_alike_many : PySem.W.nsIn K mainGlobals "alike_many" = some (some (.ref f_alike_many))) (l_alike_many : K.lookup f_alike_many = some ⟨oc_alike_many, od_alike_many, .func (PySem.W.fnOf "alike_many" "alike_many" (defArgs s_alike_many) (defBody s_alike_many) (defScope s_alike_many) .none kV_alike_many dc_alike_many pm_alike_many an_alike_many cd_alike_many ct_alike_many), sl_alike_many⟩) (c_alike_many : PySem.W.codeIn K cd_alike_many "alike_many" = true) (k_alike_many : PySem.W.keepIn K (.ref f_alike_many) = true)
    (a_lit_many : PySem.W.nsIn K mainGlobals "lit_many" = some (some (.ref f_lit_many))) (l_lit_many : K.lookup f_lit_many = some ⟨oc_lit_many, od_lit_many, .func (PySem.W.fnOf "lit_many" "lit_many" (defArgs s_lit_many) (defBody s_lit_many) (defScope s_lit_many) .none kV_lit_many dc_lit_many pm_lit_many an_lit_many cd_lit_many ct_lit_many), sl_lit_many⟩) (c_lit_many : PySem.W.codeIn K cd_lit_many "lit_many" = true) (k_lit_many : PySem.W.keepIn K (.ref f_lit_many) = true)
    (a_column_counts : PySem.W.nsIn K mainGlobals "column_counts" = some (some (.ref f_column_counts))) (l_column_counts : K.lookup f_column_counts = some ⟨oc_column_counts, od_column_counts, .func (PySem.W.fnOf "column_counts" "column_counts" (defArgs s_column_counts) (defBody s_column_counts) (defScope s_column_counts) .none kV_column_counts dc_column_counts pm_column_counts an_column_counts cd_column_counts ct_column_counts), sl_column_counts⟩) (c_column_counts : PySem.W.codeIn K cd_column_counts "column_counts" = true) (k_column_counts : PySem.W.keepIn K (.ref f_column_counts) = true)
    (a_need_switching : PySem.W.nsIn K mainGlobals "need_switching" = some (some (.ref f_need_switching))) (l_need_switching : K.lookup f_need_switching = some ⟨oc_need_switching, od_need_switching, .func (PySem.W.fnOf "need_switching" "need_switching" (defArgs s_need_switching) (defBody s_need_switching) (defScope s_need_switching) .none kV_need_switching dc_need_switching pm_need_switching an_need_switching cd_need_switching ct_need_switching), sl_need_switching⟩) (c_need_switching : PySem.W.codeIn K cd_need_switching "need_switching" = true) (k_need_switching : PySem.W.keepIn K (.ref f_need_switching) = true)
    (a_switched : PySem.W.nsIn K mainGlobals "switched" = some (some (.ref f_switched))) (l_switched : K.lookup f_switched = some ⟨oc_switched, od_switched, .func (PySem.W.fnOf "switched" "switched" (defArgs s_switched) (defBody s_switched) (defScope s_switched) .none kV_switched dc_switched pm_switched an_switched cd_switched ct_switched), sl_switched⟩) (c_switched : PySem.W.codeIn K cd_switched "switched" = true) (k_switched : PySem.W.keepIn K (.ref f_switched) = true)
    (a_lots_with_counts : PySem.W.nsIn K mainGlobals "lots_with_counts" = some (some (.ref f_lots_with_counts))) (l_lots_with_counts : K.lookup f_lots_with_counts = some ⟨oc_lots_with_counts, od_lots_with_counts, .func (PySem.W.fnOf "lots_with_counts" "lots_with_counts" (defArgs s_lots_with_counts) (defBody s_lots_with_counts) (defScope s_lots_with_counts) .none kV_lots_with_counts dc_lots_with_counts pm_lots_with_counts an_lots_with_counts cd_lots_with_counts ct_lots_with_counts), sl_lots_with_counts⟩) (c_lots_with_counts : PySem.W.codeIn K cd_lots_with_counts "lots_with_counts" = true) (k_lots_with_counts : PySem.W.keepIn K (.ref f_lots_with_counts) = true)
    (a_counts_by : PySem.W.nsIn K mainGlobals "counts_by" = some (some (.ref f_counts_by))) (l_counts_by : K.lookup f_counts_by = some ⟨oc_counts_by, od_counts_by, .func (PySem.W.fnOf "counts_by" "counts_by" (defArgs s_counts_by) (defBody s_counts_by) (defScope s_counts_by) .none kV_counts_by dc_counts_by pm_counts_by an_counts_by cd_counts_by ct_counts_by), sl_counts_by⟩) (c_counts_by : PySem.W.codeIn K cd_counts_by "counts_by" = true) (k_counts_by : PySem.W.keepIn K (.ref f_counts_by) = true)
    (a_left_many : PySem.W.nsIn K mainGlobals "left_many" = some (some (.ref f_left_many))) (l_left_many : K.lookup f_left_many = some ⟨oc_left_many, od_left_many, .func (PySem.W.fnOf "left_many" "left_many" (defArgs s_left_many) (defBody s_left_many) (defScope s_left_many) .none kV_left_many dc_left_many pm_left_many an_left_many cd_left_many ct_left_many), sl_left_many⟩) (c_left_many : PySem.W.codeIn K cd_left_many "left_many" = true) (k_left_many : PySem.W.keepIn K (.ref f_left_many) = true)
    (a_best_columns : PySem.W.nsIn K mainGlobals "best_columns" = some (some (.ref f_best_columns))) (l_best_columns : K.lookup f_best_columns = some ⟨oc_best_columns, od_best_columns, .func (PySem.W.fnOf "best_columns" "best_columns" (defArgs s_best_columns) (defBody s_best_columns) (defScope s_best_columns) .none kV_best_columns dc_best_columns pm_best_columns an_best_columns cd_best_columns ct_best_columns), sl_best_columns⟩) (c_best_columns : PySem.W.codeIn K cd_best_columns "best_columns" = true) (k_best_columns : PySem.W.keepIn K (.ref f_best_columns) = true)
    (a_left_by : PySem.W.nsIn K mainGlobals "left_by" = some (some (.ref f_left_by))) (l_left_by : K.lookup f_left_by = some ⟨oc_left_by, od_left_by, .func (PySem.W.fnOf "left_by" "left_by" (defArgs s_left_by) (defBody s_left_by) (defScope s_left_by) .none kV_left_by dc_left_by pm_left_by an_left_by cd_left_by ct_left_by), sl_left_by⟩) (c_left_by : PySem.W.codeIn K cd_left_by "left_by" = true) (k_left_by : PySem.W.keepIn K (.ref f_left_by) = true)
    (a_left_counts : PySem.W.nsIn K mainGlobals "left_counts" = some (some (.ref f_left_counts))) (l_left_counts : K.lookup f_left_counts = some ⟨oc_left_counts, od_left_counts, .func (PySem.W.fnOf "left_counts" "left_counts" (defArgs s_left_counts) (defBody s_left_counts) (defScope s_left_counts) .none kV_left_counts dc_left_counts pm_left_counts an_left_counts cd_left_counts ct_left_counts), sl_left_counts⟩) (c_left_counts : PySem.W.codeIn K cd_left_counts "left_counts" = true) (k_left_counts : PySem.W.keepIn K (.ref f_left_counts) = true)
    (a_best_switching : PySem.W.nsIn K mainGlobals "best_switching" = some (some (.ref f_best_switching))) (l_best_switching : K.lookup f_best_switching = some ⟨oc_best_switching, od_best_switching, .func (PySem.W.fnOf "best_switching" "best_switching" (defArgs s_best_switching) (defBody s_best_switching) (defScope s_best_switching) .none kV_best_switching dc_best_switching pm_best_switching an_best_switching cd_best_switching ct_best_switching), sl_best_switching⟩) (c_best_switching : PySem.W.codeIn K cd_best_switching "best_switching" = true) (k_best_switching : PySem.W.keepIn K (.ref f_best_switching) = true)
    (a_is_best : PySem.W.nsIn K mainGlobals "is_best" = some (some (.ref f_is_best))) (l_is_best : K.lookup f_is_best = some ⟨oc_is_best, od_is_best, .func (PySem.W.fnOf "is_best" "is_best" (defArgs s_is_best) (defBody s_is_best) (defScope s_is_best) .none kV_is_best dc_is_best pm_is_best an_is_best cd_is_best ct_is_best), sl_is_best⟩) (c_is_best : PySem.W.codeIn K cd_is_best "is_best" = true) (k_is_best : PySem.W.keepIn K (.ref f_is_best) = true)
    (a_law : PySem.W.nsIn K mainGlobals "law" = some (some (.ref f_law))) (l_law : K.lookup f_law = some ⟨oc_law, od_law, .func (PySem.W.fnOf "law" "law" (defArgs s_law) (defBody s_law) (defScope s_law) .none kV_law dc_law pm_law an_law cd_law ct_law), sl_law⟩) (c_law : PySem.W.codeIn K cd_law "law" = true) (k_law : PySem.W.keepIn K (.ref f_law) = true)
    (z_all : PySem.W.nsIn K mainGlobals "all" = some none) (z_bool : PySem.W.nsIn K mainGlobals "bool" = some none) (z_divmod : PySem.W.nsIn K mainGlobals "divmod" = some none) (z_enumerate : PySem.W.nsIn K mainGlobals "enumerate" = some none) (z_int : PySem.W.nsIn K mainGlobals "int" = some none) (z_isinstance : PySem.W.nsIn K mainGlobals "isinstance" = some none) (z_len : PySem.W.nsIn K mainGlobals "len" = some none) (z_max : PySem.W.nsIn K mainGlobals "max" = some none) (z_min : PySem.W.nsIn K mainGlobals "min" = some none) (z_range : PySem.W.nsIn K mainGlobals "range" = some none) (z_sum : PySem.W.nsIn K mainGlobals "sum" = some none) (z_tuple : PySem.W.nsIn K mainGlobals "tuple" = some none) (z_zip : PySem.W.nsIn K mainGlobals "zip" = some none) (v_MOST_LINES : PySem.W.nsIn K mainGlobals "MOST_LINES" = some (some (.int 8 t_MOST_LINES))) :
    ∃ fd : FuncData, (∀ (s : Shared) (v : Value), BindsTo s fd ⟨[v], []⟩ [("_law_script", v)]) ∧ ∀ base : Heap, K.In base → base.Ns mainGlobals mg → FnOk l.prog w K mg base CX0 12 fa fd ["_law_script"] (spM K F_law) := by
  have e := hfa.symm.trans (PySem.W.mg_of X G a_law)
  cases e
  have B : Bl mg := ⟨PySem.W.mg_none_of X G z_all, PySem.W.mg_none_of X G z_bool, PySem.W.mg_none_of X G z_divmod, PySem.W.mg_none_of X G z_enumerate, PySem.W.mg_none_of X G z_int, PySem.W.mg_none_of X G z_isinstance, PySem.W.mg_none_of X G z_len, PySem.W.mg_none_of X G z_max, PySem.W.mg_none_of X G z_min, PySem.W.mg_none_of X G z_range, PySem.W.mg_none_of X G z_sum, PySem.W.mg_none_of X G z_tuple, PySem.W.mg_none_of X G z_zip⟩
  have M_MOST_LINES := PySem.W.mg_of X G v_MOST_LINES
  have D_is_whole : Dn K mg "is_whole" ["thing"] s_is_whole f_is_whole _ := ⟨fun_mk (st := s_is_whole) l_is_whole c_is_whole k_is_whole, (fun_mk (st := s_is_whole) l_is_whole c_is_whole k_is_whole).binds (ps := ["thing"]) (fun _ _ _ _ _ _ us hl => match us, hl with | [_], _ => rfl), PySem.W.mg_of X G a_is_whole⟩
  have D_is_line_tuple : Dn K mg "is_line_tuple" ["thing"] s_is_line_tuple f_is_line_tuple _ := ⟨fun_mk (st := s_is_line_tuple) l_is_line_tuple c_is_line_tuple k_is_line_tuple, (fun_mk (st := s_is_line_tuple) l_is_line_tuple c_is_line_tuple k_is_line_tuple).binds (ps := ["thing"]) (fun _ _ _ _ _ _ us hl => match us, hl with | [_], _ => rfl), PySem.W.mg_of X G a_is_line_tuple⟩
  have D_row_switched : Dn K mg "row_switched" ["row", "columns", "is_turned"] s_row_switched f_row_switched _ := ⟨fun_mk (st := s_row_switched) l_row_switched c_row_switched k_row_switched, (fun_mk (st := s_row_switched) l_row_switched c_row_switched k_row_switched).binds (ps := ["row", "columns", "is_turned"]) (fun _ _ _ _ _ _ us hl => match us, hl with | [_, _, _], _ => rfl), PySem.W.mg_of X G a_row_switched⟩
  have D_counts_with_row : Dn K mg "counts_with_row" ["counts", "row"] s_counts_with_row f_counts_with_row _ := ⟨fun_mk (st := s_counts_with_row) l_counts_with_row c_counts_with_row k_counts_with_row, (fun_mk (st := s_counts_with_row) l_counts_with_row c_counts_with_row k_counts_with_row).binds (ps := ["counts", "row"]) (fun _ _ _ _ _ _ us hl => match us, hl with | [_, _], _ => rfl), PySem.W.mg_of X G a_counts_with_row⟩
  have D_fewest_lit : Dn K mg "fewest_lit" ["counts", "high"] s_fewest_lit f_fewest_lit _ := ⟨fun_mk (st := s_fewest_lit) l_fewest_lit c_fewest_lit k_fewest_lit, (fun_mk (st := s_fewest_lit) l_fewest_lit c_fewest_lit k_fewest_lit).binds (ps := ["counts", "high"]) (fun _ _ _ _ _ _ us hl => match us, hl with | [_, _], _ => rfl), PySem.W.mg_of X G a_fewest_lit⟩
  have D_fuller_columns : Dn K mg "fuller_columns" ["counts", "high"] s_fuller_columns f_fuller_columns _ := ⟨fun_mk (st := s_fuller_columns) l_fuller_columns c_fuller_columns k_fuller_columns, (fun_mk (st := s_fuller_columns) l_fuller_columns c_fuller_columns k_fuller_columns).binds (ps := ["counts", "high"]) (fun _ _ _ _ _ _ us hl => match us, hl with | [_, _], _ => rfl), PySem.W.mg_of X G a_fuller_columns⟩
  have D_ways_with_column : Dn K mg "ways_with_column" ["ways", "count", "high"] s_ways_with_column f_ways_with_column _ := ⟨fun_mk (st := s_ways_with_column) l_ways_with_column c_ways_with_column k_ways_with_column, (fun_mk (st := s_ways_with_column) l_ways_with_column c_ways_with_column k_ways_with_column).binds (ps := ["ways", "count", "high"]) (fun _ _ _ _ _ _ us hl => match us, hl with | [_, _, _], _ => rfl), PySem.W.mg_of X G a_ways_with_column⟩
  have D__law_cell : Dn K mg "_law_cell" ["_law_script", "_law_k"] s__law_cell f__law_cell _ := ⟨fun_mk (st := s__law_cell) l__law_cell c__law_cell k__law_cell, (fun_mk (st := s__law_cell) l__law_cell c__law_cell k__law_cell).binds (ps := ["_law_script", "_law_k"]) (fun _ _ _ _ _ _ us hl => match us, hl with | [_, _], _ => rfl), PySem.W.mg_of X G a__law_cell⟩
  have D__law_mix : Dn K mg "_law_mix" ["_law_cell_here", "_law_k"] s__law_mix f__law_mix _ := ⟨fun_mk (st := s__law_mix) l__law_mix c__law_mix k__law_mix, (fun_mk (st := s__law_mix) l__law_mix c__law_mix k__law_mix).binds (ps := ["_law_cell_here", "_law_k"]) (fun _ _ _ _ _ _ us hl => match us, hl with | [_, _], _ => rfl), PySem.W.mg_of X G a__law_mix⟩
  have D__law_take : Dn K mg "_law_take" ["_law_box_here", "_law_many"] s__law_take f__law_take _ := ⟨fun_mk (st := s__law_take) l__law_take c__law_take k__law_take, (fun_mk (st := s__law_take) l__law_take c__law_take k__law_take).binds (ps := ["_law_box_here", "_law_many"]) (fun _ _ _ _ _ _ us hl => match us, hl with | [_, _], _ => rfl), PySem.W.mg_of X G a__law_take⟩
  have D_is_between : Dn K mg "is_between" ["thing", "least", "most"] s_is_between f_is_between _ := ⟨fun_mk (st := s_is_between) l_is_between c_is_between k_is_between, (fun_mk (st := s_is_between) l_is_between c_is_between k_is_between).binds (ps := ["thing", "least", "most"]) (fun _ _ _ _ _ _ us hl => match us, hl with | [_, _, _], _ => rfl), PySem.W.mg_of X G a_is_between⟩
  have D_is_lot : Dn K mg "is_lot" ["thing", "size"] s_is_lot f_is_lot _ := ⟨fun_mk (st := s_is_lot) l_is_lot c_is_lot k_is_lot, (fun_mk (st := s_is_lot) l_is_lot c_is_lot k_is_lot).binds (ps := ["thing", "size"]) (fun _ _ _ _ _ _ us hl => match us, hl with | [_, _], _ => rfl), PySem.W.mg_of X G a_is_lot⟩
  have D_ways_of_counts : Dn K mg "ways_of_counts" ["counts", "high"] s_ways_of_counts f_ways_of_counts _ := ⟨fun_mk (st := s_ways_of_counts) l_ways_of_counts c_ways_of_counts k_ways_of_counts, (fun_mk (st := s_ways_of_counts) l_ways_of_counts c_ways_of_counts k_ways_of_counts).binds (ps := ["counts", "high"]) (fun _ _ _ _ _ _ us hl => match us, hl with | [_, _], _ => rfl), PySem.W.mg_of X G a_ways_of_counts⟩
  have D__law_box : Dn K mg "_law_box" ["_law_script", "_law_k"] s__law_box f__law_box _ := ⟨fun_mk (st := s__law_box) l__law_box c__law_box k__law_box, (fun_mk (st := s__law_box) l__law_box c__law_box k__law_box).binds (ps := ["_law_script", "_law_k"]) (fun _ _ _ _ _ _ us hl => match us, hl with | [_, _], _ => rfl), PySem.W.mg_of X G a__law_box⟩
  have D__law_wide_box : Dn K mg "_law_wide_box" ["_law_box_here"] s__law_wide_box f__law_wide_box _ := ⟨fun_mk (st := s__law_wide_box) l__law_wide_box c__law_wide_box k__law_wide_box, (fun_mk (st := s__law_wide_box) l__law_wide_box c__law_wide_box k__law_wide_box).binds (ps := ["_law_box_here"]) (fun _ _ _ _ _ _ us hl => match us, hl with | [_], _ => rfl), PySem.W.mg_of X G a__law_wide_box⟩
  have D__law_lot : Dn K mg "_law_lot" ["_law_box_here", "_law_size"] s__law_lot f__law_lot _ := ⟨fun_mk (st := s__law_lot) l__law_lot c__law_lot k__law_lot, (fun_mk (st := s__law_lot) l__law_lot c__law_lot k__law_lot).binds (ps := ["_law_box_here", "_law_size"]) (fun _ _ _ _ _ _ us hl => match us, hl with | [_, _], _ => rfl), PySem.W.mg_of X G a__law_lot⟩
  have D_is_light : Dn K mg "is_light" ["thing"] s_is_light f_is_light _ := ⟨fun_mk (st := s_is_light) l_is_light c_is_light k_is_light, (fun_mk (st := s_is_light) l_is_light c_is_light k_is_light).binds (ps := ["thing"]) (fun _ _ _ _ _ _ us hl => match us, hl with | [_], _ => rfl), PySem.W.mg_of X G a_is_light⟩
  have D__law_board : Dn K mg "_law_board" ["_law_box_here", "_law_high", "_law_wide"] s__law_board f__law_board _ := ⟨fun_mk (st := s__law_board) l__law_board c__law_board k__law_board, (fun_mk (st := s__law_board) l__law_board c__law_board k__law_board).binds (ps := ["_law_box_here", "_law_high", "_law_wide"]) (fun _ _ _ _ _ _ us hl => match us, hl with | [_, _, _], _ => rfl), PySem.W.mg_of X G a__law_board⟩
  have D_is_row : Dn K mg "is_row" ["thing"] s_is_row f_is_row _ := ⟨fun_mk (st := s_is_row) l_is_row c_is_row k_is_row, (fun_mk (st := s_is_row) l_is_row c_is_row k_is_row).binds (ps := ["thing"]) (fun _ _ _ _ _ _ us hl => match us, hl with | [_], _ => rfl), PySem.W.mg_of X G a_is_row⟩
  have D_is_board : Dn K mg "is_board" ["thing"] s_is_board f_is_board _ := ⟨fun_mk (st := s_is_board) l_is_board c_is_board k_is_board, (fun_mk (st := s_is_board) l_is_board c_is_board k_is_board).binds (ps := ["thing"]) (fun _ _ _ _ _ _ us hl => match us, hl with | [_], _ => rfl), PySem.W.mg_of X G a_is_board⟩
  have D_need_board : Dn K mg "need_board" ["thing"] s_need_board f_need_board _ := ⟨fun_mk (st := s_need_board) l_need_board c_need_board k_need_board, (fun_mk (st := s_need_board) l_need_board c_need_board k_need_board).binds (ps := ["thing"]) (fun _ _ _ _ _ _ us hl => match us, hl with | [_], _ => rfl), PySem.W.mg_of X G a_need_board⟩
  have D_row_counts : Dn K mg "row_counts" ["board"] s_row_counts f_row_counts _ := ⟨fun_mk (st := s_row_counts) l_row_counts c_row_counts k_row_counts, (fun_mk (st := s_row_counts) l_row_counts c_row_counts k_row_counts).binds (ps := ["board"]) (fun _ _ _ _ _ _ us hl => match us, hl with | [_], _ => rfl), PySem.W.mg_of X G a_row_counts⟩
  have D_is_switching : Dn K mg "is_switching" ["board", "thing"] s_is_switching f_is_switching _ := ⟨fun_mk (st := s_is_switching) l_is_switching c_is_switching k_is_switching, (fun_mk (st := s_is_switching) l_is_switching c_is_switching k_is_switching).binds (ps := ["board", "thing"]) (fun _ _ _ _ _ _ us hl => match us, hl with | [_, _], _ => rfl), PySem.W.mg_of X G a_is_switching⟩
  have D_turned : Dn K mg "turned" ["board"] s_turned f_turned _ := ⟨fun_mk (st := s_turned) l_turned c_turned k_turned, (fun_mk (st := s_turned) l_turned c_turned k_turned).binds (ps := ["board"]) (fun _ _ _ _ _ _ us hl => match us, hl with | [_], _ => rfl), PySem.W.mg_of X G a_turned⟩
  have D_alike_many : Dn K mg "alike_many" ["board"] s_alike_many f_alike_many _ := ⟨fun_mk (st := s_alike_many) l_alike_many c_alike_many k_alike_many, (fun_mk (st := s_alike_many) l_alike_many c_alike_many k_alike_many).binds (ps := ["board"]) (fun _ _ _ _ _ _ us hl => match us, hl with | [_], _ => rfl), PySem.W.mg_of X G a_alike_many⟩
  have D_lit_many : Dn K mg "lit_many" ["board"] s_lit_many f_lit_many _ := ⟨fun_mk (st := s_lit_many) l_lit_many c_lit_many k_lit_many, (fun_mk (st := s_lit_many) l_lit_many c_lit_many k_lit_many).binds (ps := ["board"]) (fun _ _ _ _ _ _ us hl => match us, hl with | [_], _ => rfl), PySem.W.mg_of X G a_lit_many⟩
  have D_column_counts : Dn K mg "column_counts" ["board"] s_column_counts f_column_counts _ := ⟨fun_mk (st := s_column_counts) l_column_counts c_column_counts k_column_counts, (fun_mk (st := s_column_counts) l_column_counts c_column_counts k_column_counts).binds (ps := ["board"]) (fun _ _ _ _ _ _ us hl => match us, hl with | [_], _ => rfl), PySem.W.mg_of X G a_column_counts⟩
  have D_need_switching : Dn K mg "need_switching" ["board", "thing"] s_need_switching f_need_switching _ := ⟨fun_mk (st := s_need_switching) l_need_switching c_need_switching k_need_switching, (fun_mk (st := s_need_switching) l_need_switching c_need_switching k_need_switching).binds (ps := ["board", "thing"]) (fun _ _ _ _ _ _ us hl => match us, hl with | [_, _], _ => rfl), PySem.W.mg_of X G a_need_switching⟩
  have D_switched : Dn K mg "switched" ["board", "switching"] s_switched f_switched _ := ⟨fun_mk (st := s_switched) l_switched c_switched k_switched, (fun_mk (st := s_switched) l_switched c_switched k_switched).binds (ps := ["board", "switching"]) (fun _ _ _ _ _ _ us hl => match us, hl with | [_, _], _ => rfl), PySem.W.mg_of X G a_switched⟩
  have D_lots_with_counts : Dn K mg "lots_with_counts" ["board"] s_lots_with_counts f_lots_with_counts _ := ⟨fun_mk (st := s_lots_with_counts) l_lots_with_counts c_lots_with_counts k_lots_with_counts, (fun_mk (st := s_lots_with_counts) l_lots_with_counts c_lots_with_counts k_lots_with_counts).binds (ps := ["board"]) (fun _ _ _ _ _ _ us hl => match us, hl with | [_], _ => rfl), PySem.W.mg_of X G a_lots_with_counts⟩
  have D_counts_by : Dn K mg "counts_by" ["board", "rows"] s_counts_by f_counts_by _ := ⟨fun_mk (st := s_counts_by) l_counts_by c_counts_by k_counts_by, (fun_mk (st := s_counts_by) l_counts_by c_counts_by k_counts_by).binds (ps := ["board", "rows"]) (fun _ _ _ _ _ _ us hl => match us, hl with | [_, _], _ => rfl), PySem.W.mg_of X G a_counts_by⟩
  have D_left_many : Dn K mg "left_many" ["board"] s_left_many f_left_many _ := ⟨fun_mk (st := s_left_many) l_left_many c_left_many k_left_many, (fun_mk (st := s_left_many) l_left_many c_left_many k_left_many).binds (ps := ["board"]) (fun _ _ _ _ _ _ us hl => match us, hl with | [_], _ => rfl), PySem.W.mg_of X G a_left_many⟩
  have D_best_columns : Dn K mg "best_columns" ["board", "rows"] s_best_columns f_best_columns _ := ⟨fun_mk (st := s_best_columns) l_best_columns c_best_columns k_best_columns, (fun_mk (st := s_best_columns) l_best_columns c_best_columns k_best_columns).binds (ps := ["board", "rows"]) (fun _ _ _ _ _ _ us hl => match us, hl with | [_, _], _ => rfl), PySem.W.mg_of X G a_best_columns⟩
  have D_left_by : Dn K mg "left_by" ["board", "rows"] s_left_by f_left_by _ := ⟨fun_mk (st := s_left_by) l_left_by c_left_by k_left_by, (fun_mk (st := s_left_by) l_left_by c_left_by k_left_by).binds (ps := ["board", "rows"]) (fun _ _ _ _ _ _ us hl => match us, hl with | [_, _], _ => rfl), PySem.W.mg_of X G a_left_by⟩
  have D_left_counts : Dn K mg "left_counts" ["board"] s_left_counts f_left_counts _ := ⟨fun_mk (st := s_left_counts) l_left_counts c_left_counts k_left_counts, (fun_mk (st := s_left_counts) l_left_counts c_left_counts k_left_counts).binds (ps := ["board"]) (fun _ _ _ _ _ _ us hl => match us, hl with | [_], _ => rfl), PySem.W.mg_of X G a_left_counts⟩
  have D_best_switching : Dn K mg "best_switching" ["board"] s_best_switching f_best_switching _ := ⟨fun_mk (st := s_best_switching) l_best_switching c_best_switching k_best_switching, (fun_mk (st := s_best_switching) l_best_switching c_best_switching k_best_switching).binds (ps := ["board"]) (fun _ _ _ _ _ _ us hl => match us, hl with | [_], _ => rfl), PySem.W.mg_of X G a_best_switching⟩
  have D_is_best : Dn K mg "is_best" ["board", "switching"] s_is_best f_is_best _ := ⟨fun_mk (st := s_is_best) l_is_best c_is_best k_is_best, (fun_mk (st := s_is_best) l_is_best c_is_best k_is_best).binds (ps := ["board", "switching"]) (fun _ _ _ _ _ _ us hl => match us, hl with | [_, _], _ => rfl), PySem.W.mg_of X G a_is_best⟩
  refine ⟨PySem.W.fnOf "law" "law" (defArgs s_law) (defBody s_law) (defScope s_law) .none kV_law dc_law pm_law an_law cd_law ct_law, fun s v => .of_eq rfl, fun base _ _ => ?_⟩
  have C_is_whole : Ca l.prog w K mg base "is_whole" 1 F_is_whole := ca_is_whole B D_is_whole
  have C_is_line_tuple : Ca l.prog w K mg base "is_line_tuple" 1 F_is_line_tuple := ca_is_line_tuple B M_MOST_LINES D_is_line_tuple
  have C_row_switched : Ca l.prog w K mg base "row_switched" 1 F_row_switched := ca_row_switched B D_row_switched
  have C_counts_with_row : Ca l.prog w K mg base "counts_with_row" 1 F_counts_with_row := ca_counts_with_row B D_counts_with_row
  have C_fewest_lit : Ca l.prog w K mg base "fewest_lit" 1 F_fewest_lit := ca_fewest_lit B D_fewest_lit
  have C_fuller_columns : Ca l.prog w K mg base "fuller_columns" 1 F_fuller_columns := ca_fuller_columns B D_fuller_columns
  have C_ways_with_column : Ca l.prog w K mg base "ways_with_column" 1 F_ways_with_column := ca_ways_with_column B D_ways_with_column
  have C__law_cell : Ca l.prog w K mg base "_law_cell" 1 F__law_cell := ca__law_cell B D__law_cell
  have C__law_mix : Ca l.prog w K mg base "_law_mix" 1 F__law_mix := ca__law_mix B D__law_mix
  have C__law_take : Ca l.prog w K mg base "_law_take" 1 F__law_take := ca__law_take B D__law_take
  have C_is_between : Ca l.prog w K mg base "is_between" 2 F_is_between := ca_is_between B C_is_whole D_is_between
  have C_is_lot : Ca l.prog w K mg base "is_lot" 2 F_is_lot := ca_is_lot B C_is_whole D_is_lot
  have C_ways_of_counts : Ca l.prog w K mg base "ways_of_counts" 2 F_ways_of_counts := ca_ways_of_counts B C_ways_with_column D_ways_of_counts
  have C__law_box : Ca l.prog w K mg base "_law_box" 2 F__law_box := ca__law_box B C__law_cell C__law_mix D__law_box
  have C__law_wide_box : Ca l.prog w K mg base "_law_wide_box" 2 F__law_wide_box := ca__law_wide_box B C__law_take D__law_wide_box
  have C__law_lot : Ca l.prog w K mg base "_law_lot" 2 F__law_lot := ca__law_lot B C__law_take D__law_lot
  have C_is_light : Ca l.prog w K mg base "is_light" 3 F_is_light := ca_is_light B C_is_between D_is_light
  have C__law_board : Ca l.prog w K mg base "_law_board" 3 F__law_board := ca__law_board B C__law_take C__law_wide_box D__law_board
  have C_is_row : Ca l.prog w K mg base "is_row" 4 F_is_row := ca_is_row B C_is_line_tuple C_is_light D_is_row
  have C_is_board : Ca l.prog w K mg base "is_board" 5 F_is_board := ca_is_board B C_is_line_tuple C_is_row D_is_board
  have C_need_board : Ca l.prog w K mg base "need_board" 6 F_need_board := ca_need_board B C_is_board D_need_board
  have C_row_counts : Ca l.prog w K mg base "row_counts" 7 F_row_counts := ca_row_counts B C_need_board D_row_counts
  have C_is_switching : Ca l.prog w K mg base "is_switching" 7 F_is_switching := ca_is_switching B C_need_board C_is_lot D_is_switching
  have C_turned : Ca l.prog w K mg base "turned" 7 F_turned := ca_turned B C_need_board D_turned
  have C_alike_many : Ca l.prog w K mg base "alike_many" 7 F_alike_many := ca_alike_many B C_need_board D_alike_many
  have C_lit_many : Ca l.prog w K mg base "lit_many" 8 F_lit_many := ca_lit_many B C_row_counts D_lit_many
  have C_column_counts : Ca l.prog w K mg base "column_counts" 8 F_column_counts := ca_column_counts B C_turned C_row_counts D_column_counts
  have C_need_switching : Ca l.prog w K mg base "need_switching" 8 F_need_switching := ca_need_switching B C_is_switching D_need_switching
  have C_switched : Ca l.prog w K mg base "switched" 9 F_switched := ca_switched B C_need_switching C_row_switched D_switched
  have C_lots_with_counts : Ca l.prog w K mg base "lots_with_counts" 9 F_lots_with_counts := ca_lots_with_counts B C_column_counts C_counts_with_row D_lots_with_counts
  have C_counts_by : Ca l.prog w K mg base "counts_by" 9 F_counts_by := ca_counts_by B C_need_board C_is_lot C_column_counts C_counts_with_row D_counts_by
  have C_left_many : Ca l.prog w K mg base "left_many" 10 F_left_many := ca_left_many B C_lots_with_counts C_fewest_lit D_left_many
  have C_best_columns : Ca l.prog w K mg base "best_columns" 10 F_best_columns := ca_best_columns B C_counts_by C_fuller_columns D_best_columns
  have C_left_by : Ca l.prog w K mg base "left_by" 10 F_left_by := ca_left_by B C_counts_by C_fewest_lit D_left_by
  have C_left_counts : Ca l.prog w K mg base "left_counts" 10 F_left_counts := ca_left_counts B C_need_board C_lots_with_counts C_ways_of_counts D_left_counts
  have C_best_switching : Ca l.prog w K mg base "best_switching" 11 F_best_switching := ca_best_switching B C_left_many C_lots_with_counts C_fewest_lit C_fuller_columns D_best_switching
  have C_is_best : Ca l.prog w K mg base "is_best" 11 F_is_best := ca_is_best B C_switched C_lit_many C_left_many D_is_best
  exact ok_law B C__law_box C__law_take C__law_board C__law_lot C_left_many C_switched C_turned C_best_columns C_left_by C_lit_many C_best_switching C_is_best C_left_counts C_alike_many (fun_mk (st := s_law) l_law c_law k_law)

end LK

namespace LK
open PySem PySem.Spec PyProof.Rows L2 LS
def lit (x : Bool) : D := .int (if x then 1 else 0)
def rowD (w : Nat) (f : Nat → Bool) : D := .tup ((List.range w).map fun j => lit (f j))
def bD (h w : Nat) (f : Nat → Nat → Bool) : D := .tup ((List.range h).map fun i => rowD w (f i))
def lotD (n : Nat) (p : Nat → Bool) : D := .tup (((List.range n).filter p).map fun i => .int ((i : Nat) : Int))
def swD (h w : Nat) (p q : Nat → Bool) : D := .tup [lotD h p, lotD w q]
theorem e_is_whole {i : Int} {h : HD} : F_is_whole [.int i] h = .ok (.bl true) h := rfl
theorem p_is_between {i a b : Int} {h : HD} : Pu (F_is_between [.int i, .int a, .int b] h) h (.bl (decide (a ≤ i) && decide (i ≤ b))) := by
  change Wp (mBody 3 (g_is_between F_is_whole) [.int i, .int a, .int b] h) _
  rw [wp_body]
  simp [e_is_whole]
  by_cases h1 : a ≤ i <;> simp [h1, wp_bind, Sm.refl]
theorem p_is_light {x : Bool} {h : HD} : Pu (F_is_light [lit x] h) h (.bl true) := by
  change Wp (mBody 1 (g_is_light F_is_between) [lit x] h) _
  rw [wp_body]
  simp
  refine p_is_between.wp fun h' s => ?_
  cases x <;> simp [s]
theorem p_is_line_tuple {ds : List D} {h : HD} (h1 : 1 ≤ ds.length) (h2 : ds.length ≤ 8) : Pu (F_is_line_tuple [.tup ds] h) h (.bl true) := by
  change Wp (mBody 1 g_is_line_tuple [.tup ds] h) _
  rw [wp_body]
  have a1 : (1 : Int) ≤ ds.length := by omega
  have a2 : (ds.length : Int) ≤ 8 := by omega
  simp [a1, a2, wp_bind, Sm.refl]
section
variable {H W : Nat} {h : HD} {f : Nat → Nat → Bool} {r : Nat → Bool}
theorem sz {n : Nat} (hn : n ≤ 8) : (List.range n).length ≤ sizeLine := by
  rw [List.length_range]; unfold sizeLine; omega
theorem p_is_row (hw : 1 ≤ W ∧ W ≤ 8) : Pu (F_is_row [rowD W r] h) h (.bl true) := by
  change Wp (mBody 1 (g_is_row F_is_line_tuple F_is_light) [rowD W r] h) _
  rw [wp_body]
  simp
  refine (p_is_line_tuple (by simp [hw]) (by simp [hw])).wp fun h1 s1 => ?_
  simp
  refine Pu.wp (p_xAll (src := []) (xs := List.range W) (φ := fun j => lit (r j)) (fun _ => true) (fun j => [some (lit (r j))]) it0_tup (fun x _ => rfl) (fun x _ h' s' => ?_) (sz hw.2)) fun h2 s2 => ?_
  · simp [Pu]
    exact p_is_light
  · simp [s1.trans s2]
theorem p_is_board (hh : 1 ≤ H ∧ H ≤ 8) (hw : 1 ≤ W ∧ W ≤ 8) : Pu (F_is_board [bD H W f] h) h (.bl true) := by
  change Wp (mBody 1 (g_is_board F_is_line_tuple F_is_row) [bD H W f] h) _
  rw [wp_body]
  simp
  refine (p_is_line_tuple (by simp [hh]) (by simp [hh])).wp fun h1 s1 => ?_
  simp
  refine Pu.wp (p_xAll (src := []) (xs := List.range H) (φ := fun i => rowD W (f i)) (fun _ => true) (fun i => [some (rowD W (f i))]) it0_tup (fun x _ => rfl) (fun x _ h' s' => ?_) (sz hh.2)) fun h2 s2 => ?_
  · simp [Pu]
    exact p_is_row hw
  · simp
    refine Pu.wp (p_xAll (src := []) (xs := List.range H) (φ := fun i => rowD W (f i)) (fun _ => true) (fun i => [some (rowD W (f i)), some (bD H W f)]) it0_tup (fun x _ => rfl) (fun x _ h' s' => ?_) (sz hh.2)) fun h3 s3 => ?_
    · simp [Pu, rowD, bD]
      rw [ix_rng0 (by omega)]
      simp [Sm.refl]
    · simp [(s1.trans s2).trans s3]
theorem p_need_board (hh : 1 ≤ H ∧ H ≤ 8) (hw : 1 ≤ W ∧ W ≤ 8) : Pu (F_need_board [bD H W f] h) h .non := by
  change Wp (mBody 1 (g_need_board F_is_board) [bD H W f] h) _
  rw [wp_body]
  simp
  refine (p_is_board hh hw).wp fun h1 s1 => ?_
  simp [s1]
theorem p_turned (hh : 1 ≤ H ∧ H ≤ 8) (hw : 1 ≤ W ∧ W ≤ 8) : Pu (F_turned [bD H W f] h) h (bD W H fun i j => f j i) := by
  change Wp (mBody 1 (g_turned F_need_board) [bD H W f] h) _
  rw [wp_body]
  simp
  refine (p_need_board hh hw).wp fun h1 s1 => ?_
  refine Pu.wp (p_xTup' (src := []) (xs := List.range W) (φ := fun j => .int ((j : Nat) : Int)) (fun j => rowD H fun i => f i j) (fun j => [some (.int ((j : Nat) : Int)), some (bD H W f)]) ?_ (fun x _ => rfl) (fun x hx h' s' => ?_) (sz hw.2)) fun h2 s2 => ?_
  · simp [It0, bD, ix_rng0 (show 0 < H by omega)]
    simp [rowD]
    rw [rng1_ok (by omega)]
    simp [Sm.refl, srcOk]
  · simp [Pu]
    refine (p_xTup' (src := []) (xs := List.range H) (φ := fun i => rowD W (f i)) (fun i => lit (f i x)) (fun i => [some (rowD W (f i)), some (.int ((x : Nat) : Int))]) ?_ (fun x _ => rfl) (fun y hy h' s' => ?_) (sz hh.2))
    · simp [It0, bD, Sm.refl, srcOk]
    · simp [Pu, rowD]
      rw [ix_rng (by simpa using hx)]
      simp [Sm.refl]
  · exact ⟨rfl, s1.trans s2⟩
theorem sum_row : sumD (rowD W r) h = .ok (.int (rsum W r)) h := sum_ints
theorem p_row_counts (hh : 1 ≤ H ∧ H ≤ 8) (hw : 1 ≤ W ∧ W ≤ 8) : Pu (F_row_counts [bD H W f] h) h (.tup ((List.range H).map fun i => .int (rsum W (f i)))) := by
  change Wp (mBody 1 (g_row_counts F_need_board) [bD H W f] h) _
  rw [wp_body]
  simp
  refine (p_need_board hh hw).wp fun h1 s1 => ?_
  refine Pu.wp (p_xTup' (src := []) (xs := List.range H) (φ := fun i => rowD W (f i)) (fun i => .int (rsum W (f i))) (fun i => [some (rowD W (f i))]) it0_tup (fun x _ => rfl) (fun x hx h' s' => ?_) (sz hh.2)) fun h2 s2 => ?_
  · simp [Pu, sum_row, Sm.refl]
  · exact ⟨rfl, s1.trans s2⟩
theorem p_lit_many (hh : 1 ≤ H ∧ H ≤ 8) (hw : 1 ≤ W ∧ W ≤ 8) : Pu (F_lit_many [bD H W f] h) h (.int ((List.range H).map fun i => rsum W (f i)).sum) := by
  change Wp (mBody 1 (g_lit_many F_row_counts) [bD H W f] h) _
  rw [wp_body]
  simp
  refine (p_row_counts hh hw).wp fun h1 s1 => ?_
  simp [sum_ints, s1]
theorem p_column_counts (hh : 1 ≤ H ∧ H ≤ 8) (hw : 1 ≤ W ∧ W ≤ 8) : Pu (F_column_counts [bD H W f] h) h (.tup ((List.range W).map fun j => .int (rsum H fun i => f i j))) := by
  change Wp (mBody 1 (g_column_counts F_turned F_row_counts) [bD H W f] h) _
  rw [wp_body]
  simp
  refine (p_turned hh hw).wp fun h1 s1 => ?_
  refine (p_row_counts hw hh).wp fun h2 s2 => ?_
  simp [s1.trans s2]
end

section
variable {H W n : Nat} {h : HD} {f : Nat → Nat → Bool} {r p q p' q' : Nat → Bool}
theorem p_is_lot_of {ks : List Nat} (hp : ks.Pairwise (· < ·)) (hb : ∀ k ∈ ks, k < n) : Pu (F_is_lot [.tup (ks.map fun i => .int ((i : Nat) : Int)), .int (n : Nat)] h) h (.bl true) := by
  change Wp (mBody 4 (g_is_lot F_is_whole) [.tup (ks.map fun i => .int ((i : Nat) : Int)), .int (n : Nat)] h) _
  rw [wp_body]
  simp
  refine for_wp (src := []) (xs := ks) (fun i => .int ((i : Nat) : Int)) (fun xs ρ h' => ∃ (last : Int) (x : Option D), ρ = [some (.tup (ks.map fun i => .int ((i : Nat) : Int))), some (.int (n : Nat)), some (.int last), x] ∧ h' = h ∧ xs.Pairwise (· < ·) ∧ ∀ k ∈ xs, last < (k : Int) ∧ k < n) ?_ (fun ys ρ h' _ => src0) ?_ ?_
  · simp
    exact ⟨hp, fun k hk => ⟨by omega, hb k hk⟩⟩
  · rintro x xs ρ h' ⟨last, y, rfl, rfl, hs, hl⟩
    refine ⟨_, rfl, ?_⟩
    have h1 := (hl x List.mem_cons_self).1
    have h2 : (x : Int) < n := by have := (hl x List.mem_cons_self).2; omega
    simp [e_is_whole, h1, h2, wp_bind, kLoop]
    rw [List.pairwise_cons] at hs
    exact ⟨hs.2, fun k hk => ⟨hs.1 k hk, (hl k (List.mem_cons_of_mem _ hk)).2⟩⟩
  · rintro ρ h' ⟨last, y, rfl, rfl, _⟩
    simp [Sm.refl]
theorem p_is_lot : Pu (F_is_lot [lotD n p, .int (n : Nat)] h) h (.bl true) :=
  p_is_lot_of (List.Pairwise.filter _ List.pairwise_lt_range) (fun k hk => by simpa using (List.mem_filter.mp hk).1)
theorem p_is_switching (hh : 1 ≤ H ∧ H ≤ 8) (hw : 1 ≤ W ∧ W ≤ 8) : Pu (F_is_switching [bD H W f, swD H W p q] h) h (.bl true) := by
  change Wp (mBody 2 (g_is_switching F_need_board F_is_lot) [bD H W f, swD H W p q] h) _
  rw [wp_body]
  simp
  refine (p_need_board hh hw).wp fun h1 s1 => ?_
  simp [swD]
  simp [bD]
  refine p_is_lot.wp fun h2 s2 => ?_
  simp
  rw [ix_rng0 (by omega)]
  simp [rowD]
  refine p_is_lot.wp fun h3 s3 => ?_
  simp [(s1.trans s2).trans s3]
theorem p_need_switching (hh : 1 ≤ H ∧ H ≤ 8) (hw : 1 ≤ W ∧ W ≤ 8) : Pu (F_need_switching [bD H W f, swD H W p q] h) h .non := by
  change Wp (mBody 2 (g_need_switching F_is_switching) [bD H W f, swD H W p q] h) _
  rw [wp_body]
  simp
  refine (p_is_switching hh hw).wp fun h1 s1 => ?_
  simp [s1]
theorem has_lot {k : Nat} (hk : k < n) : ((List.range n).filter p).contains k = p k := by
  rw [Bool.eq_iff_iff]
  simp [hk]
theorem in_lot {neg : Bool} {k : Nat} (hk : k < n) : inD neg (.int (k : Nat)) (lotD n p) h = .ok (.bl (if neg then !p k else p k)) h := by
  unfold lotD
  rw [in_ints, has_lot hk]
theorem p_row_switched {b : Bool} (hw : W ≤ 8) : Pu (F_row_switched [rowD W r, lotD W q, .bl b] h) h (rowD W fun j => Bool.xor (r j) (Bool.xor b (q j))) := by
  change Wp (mBody 3 g_row_switched [rowD W r, lotD W q, .bl b] h) _
  rw [wp_body]
  simp
  refine Pu.wp (p_xTup' (src := []) (xs := List.range W) (φ := fun j => .tup [.int ((j : Nat) : Int), lit (r j)]) (fun j => lit (Bool.xor (r j) (Bool.xor b (q j)))) (fun j => [some (.int ((j : Nat) : Int)), some (lit (r j)), some (lotD W q), some (.bl b)]) ?_ (fun x _ => rfl) (fun x hx h' s' => ?_) (sz hw)) fun h2 s2 => ?_
  · simp [It0, rowD, enum2_ok, Sm.refl, srcOk]
  · simp [Pu, in_lot (show x < W by simpa using hx)]
    cases r x <;> cases b <;> cases q x <;> simp [lit, Sm.refl]
  · exact ⟨rfl, s2⟩
theorem p_switched (hh : 1 ≤ H ∧ H ≤ 8) (hw : 1 ≤ W ∧ W ≤ 8) : Pu (F_switched [bD H W f, swD H W p q] h) h (bD H W fun i j => Bool.xor (f i j) (Bool.xor (p i) (q j))) := by
  change Wp (mBody 4 (g_switched F_need_switching F_row_switched) [bD H W f, swD H W p q] h) _
  rw [wp_body]
  simp
  refine (p_need_switching hh hw).wp fun h1 s1 => ?_
  simp [swD]
  refine Pu.wp (p_xTup' (src := []) (xs := List.range H) (φ := fun i => .tup [.int ((i : Nat) : Int), rowD W (f i)]) (fun i => rowD W fun j => Bool.xor (f i j) (Bool.xor (p i) (q j))) (fun i => [some (.int ((i : Nat) : Int)), some (rowD W (f i)), some (lotD W q), some (lotD H p)]) ?_ (fun x _ => rfl) (fun x hx h' s' => ?_) (sz hh.2)) fun h2 s2 => ?_
  · simp [It0, bD, enum2_ok, Sm.refl, srcOk]
  · simp [Pu, in_lot (show x < H by simpa using hx)]
    exact p_row_switched hw.2
  · exact ⟨rfl, s1.trans s2⟩
end
end LK

namespace LK
open PySem PySem.Spec PyProof.Rows L2 LS
section
variable {H W n : Nat} {h : HD} {f : Nat → Nat → Bool} {r p q p' q' : Nat → Bool}
end

open PySem.Builtin.Int in
theorem p_cell {ns : List Int} {k : Nat} (hb : ∀ i ∈ ns, Builtin.Int.intBits i ≤ 2 ^ 20) (hk : k ≤ 1000) : ∃ c : Int, Builtin.Int.intBits c ≤ 2 ^ 20 ∧ ∀ h, Pu (F__law_cell [.scr ns, .int (k : Nat)] h) h (.int c) := by
  by_cases hl : k < ns.length
  · refine ⟨ns[k], hb _ (List.getElem_mem hl), fun h => ?_⟩
    change Wp (mBody 2 g__law_cell [.scr ns, .int (k : Nat)] h) _
    rw [wp_body]
    have : (k : Int) < ns.length := by omega
    simp [this]
    rw [ix_scr (List.getElem?_eq_getElem hl)]
    simp [Sm.refl]
  · refine ⟨6151 * (k : Int) + 29, ?_, fun h => ?_⟩
    · rw [intBits_le_iff]
      have h1 : (6151 * (k : Int) + 29).natAbs < 2 ^ 30 := by omega
      exact Nat.lt_of_lt_of_le h1 (Nat.pow_le_pow_right (by decide) (by omega))
    · change Wp (mBody 2 g__law_cell [.scr ns, .int (k : Nat)] h) _
      rw [wp_body]
      have : ¬ (k : Int) < ns.length := by omega
      simp [this]
      rw [mul_l (by decide) (by decide)]
      simp [Sm.refl]
def mixX (c : Int) (k : Nat) : Int := (((c + 1) * 40692 + 104729 * (k : Int)) * ((c + 1) * 40692 + 104729 * (k : Int))) % 2147483399 + (k : Int)
theorem rng24 {h : HD} : rng1D [.int 24] h = .ok ((List.range 24).map fun k => D.int ((k : Nat) : Int), []) h := rng1_ok (n := 24) (by decide)
theorem p_mix {c : Int} {k : Nat} (hc : Builtin.Int.intBits c ≤ 2 ^ 20) (hk : k ≤ 1000) : ∃ r : Int, ∀ h, Pu (F__law_mix [.int c, .int (k : Nat)] h) h (.int r) := by
  refine ⟨mixX c k * (mixX c k + 31) % 2147483563, fun h => ?_⟩
  change Wp (mBody 3 g__law_mix [.int c, .int (k : Nat)] h) _
  rw [wp_body]
  have bX : Builtin.Int.intBits ((c + 1) * 40692 + 104729 * (k : Int)) ≤ 16777216 := by
    have hk' : Builtin.Int.intBits ((k : Nat) : Int) ≤ 10 := PySem.intBits_le_iff.mpr (by omega)
    have := PySem.intBits_add_le (PySem.intBits_mul_le (PySem.intBits_add_le hc (show Builtin.Int.intBits 1 ≤ 1 by decide)) (show Builtin.Int.intBits 40692 ≤ 16 by decide)) (PySem.intBits_mul_le (show Builtin.Int.intBits 104729 ≤ 17 by decide) hk')
    exact Nat.le_trans this (by decide)
  have h1 := Int.emod_nonneg (((c + 1) * 40692 + 104729 * (k : Int)) * ((c + 1) * 40692 + 104729 * (k : Int))) (show (2147483399 : Int) ≠ 0 by decide)
  have h2 := Int.emod_lt_of_pos (((c + 1) * 40692 + 104729 * (k : Int)) * ((c + 1) * 40692 + 104729 * (k : Int))) (show (0 : Int) < 2147483399 by decide)
  simp
  rw [mul_r (by decide) (by decide)]
  simp
  rw [mul_l (by decide) (by decide)]
  simp
  rw [mul_b bX bX]
  simp
  rw [mod_p (by decide)]
  simp
  rw [mul_l (by omega) (by omega)]
  simp
  rw [mod_p (by decide)]
  simp
  exact ⟨rfl, .refl _⟩
def BoxAt (h : HD) (b : Nat) : Prop := ∃ n : Int, h[b]? = some (.lst [.int n])
theorem wp_box {ns : List Int} {k : Nat} {h : HD} {Q : D → HD → Prop} (hb : ∀ i ∈ ns, Builtin.Int.intBits i ≤ 2 ^ 20) (hk : k ≤ 1000) (q : ∀ l h', BoxAt h' l → Q (.loc l) h') : Wp (F__law_box [.scr ns, .int (k : Nat)] h) Q := by
  change Wp (mBody 5 (g__law_box F__law_cell F__law_mix) [.scr ns, .int (k : Nat)] h) _
  rw [wp_body]
  obtain ⟨c, bc, pc⟩ := p_cell (k := k) hb hk
  simp
  refine (pc h).wp fun h1 s1 => ?_
  rw [mod_p (by decide)]
  simp
  by_cases hz : c % 2 = 0
  · simp [hz]
    rw [fdiv_p (by decide) (by decide)]
    simp
    exact wp_newL (by simp) fun l h' s e _ _ => q l h' ⟨_, e⟩
  · simp [hz]
    refine for_wp (src := []) (xs := List.range 24) (fun i => .int ((i : Nat) : Int)) (fun xs ρ h' => ∃ (N : Int) (x : Option D), ρ = [some (.scr ns), some (.int (k : Nat)), some (.int c), some (.int N), x] ∧ ∀ j ∈ xs, j < 24) ?_ (fun ys ρ h' _ => src0) ?_ ?_
    · simp [rng24]
    · rintro x xs ρ h' ⟨N, y, rfl, hx⟩
      refine ⟨_, rfl, ?_⟩
      obtain ⟨m, pm⟩ := p_mix (k := x) bc (by have := hx x List.mem_cons_self; omega)
      simp
      rw [mul_r (by decide) (by decide)]
      simp
      refine (pm h').wp fun h2 s2 => ?_
      simp [kLoop]
      exact fun j hj => hx j (List.mem_cons_of_mem _ hj)
    · rintro ρ h' ⟨N, y, rfl, _⟩
      simp
      exact wp_newL (by simp) fun l h' s e _ _ => q l h' ⟨_, e⟩
/-- all cells but one as they were -/
def Smx (b : Nat) (h h' : HD) : Prop := ∀ (l : Nat) (c : Cell), l ≠ b → h[l]? = some c → h'[l]? = some c
theorem Smx.refl (b : Nat) (h : HD) : Smx b h h := fun _ _ _ e => e
theorem Smx.trans {b : Nat} {h h1 h2 : HD} (a : Smx b h h1) (c : Smx b h1 h2) : Smx b h h2 := fun l x n e => c l x n (a l x n e)
theorem smx_of {b : Nat} {h h' : HD} (s : Sm h h') : Smx b h h' := fun l c _ e => s l c e
theorem wp_take {b : Nat} {m : Int} {h : HD} {Q : D → HD → Prop} (hx : BoxAt h b) (h1 : 0 < m) (h2 : m < 18446744073709551616) (q : ∀ d h', 0 ≤ d → d < m → BoxAt h' b → Smx b h h' → Q (.int d) h') : Wp (F__law_take [.loc b, .int m] h) Q := by
  change Wp (mBody 4 g__law_take [.loc b, .int m] h) _
  rw [wp_body]
  obtain ⟨N, e⟩ := hx
  simp
  rw [show (0 : Int) = ((0 : Nat) : Int) from rfl, ix_loc e (k := 0) rfl]
  simp
  rw [divmod_p h1 h2]
  simp
  rw [show (0 : Int) = ((0 : Nat) : Int) from rfl, set_loc e (by simp)]
  simp
  have hl : b < h.length := (List.getElem?_eq_some_iff.mp e).1
  refine q _ _ (Int.emod_nonneg _ (by omega)) (Int.emod_lt_of_pos _ h1) ⟨_, by rw [List.getElem?_set_self hl]⟩ fun l c ne el => ?_
  rw [List.getElem?_set_ne (Ne.symm ne)]
  exact el
theorem BoxAt.sm {b : Nat} {h h' : HD} (x : BoxAt h b) (s : Sm h h') : BoxAt h' b := let ⟨n, e⟩ := x; ⟨n, s _ _ e⟩
theorem BoxAt.smx {a b : Nat} {h h' : HD} (x : BoxAt h b) (s : Smx a h h') (ne : b ≠ a) : BoxAt h' b := let ⟨n, e⟩ := x; ⟨n, s _ _ ne e⟩
theorem BoxAt.new {b : Nat} {h : HD} {c : Cell} (x : BoxAt h b) : BoxAt (h ++ [c]) b := x.sm (.app _ _)
theorem wp_wide_box {b : Nat} {h : HD} {Q : D → HD → Prop} (hx : BoxAt h b) (q : ∀ l h', BoxAt h' b → BoxAt h' l → l ≠ b → Smx b h h' → Q (.loc l) h') : Wp (F__law_wide_box [.loc b] h) Q := by
  change Wp (mBody 4 (g__law_wide_box F__law_take) [.loc b] h) _
  rw [wp_body]
  simp
  refine wp_take hx (by decide) (by decide) fun d h1 d0 d1 x1 s1 => ?_
  refine for_wp (src := []) (xs := List.range 24) (fun i => .int ((i : Nat) : Int)) (fun xs ρ h' => ∃ (N M : Int) (x : Option D), ρ = [some (.loc b), some (.int N), some (.int M), x] ∧ h' = h1) ?_ (fun ys ρ h' _ => src0) ?_ ?_
  · simp [rng24]
  · rintro x xs ρ h' ⟨N, M, y, rfl, rfl⟩
    refine ⟨_, rfl, ?_⟩
    simp
    rw [mul_r (by decide) (by decide)]
    simp
    rw [mod_p (by decide)]
    simp
    rw [mul_r (by decide) (by decide)]
    simp [kLoop]
  · rintro ρ h' ⟨N, M, y, rfl, rfl⟩
    simp
    refine wp_newL (by simp) fun l h2 s e el _ => ?_
    refine q l h2 (x1.sm s) ⟨_, e⟩ ?_ (s1.trans (smx_of s))
    obtain ⟨n, e1⟩ := x1
    have := (List.getElem?_eq_some_iff.mp e1).1
    omega
theorem wp_lot {b n : Nat} {h : HD} {Q : D → HD → Prop} (hx : BoxAt h b) (hn : n ≤ 8) (q : ∀ p h', BoxAt h' b → Q (lotD n p) h') : Wp (F__law_lot [.loc b, .int (n : Nat)] h) Q := by
  change Wp (mBody 2 (g__law_lot F__law_take) [.loc b, .int (n : Nat)] h) _
  rw [wp_body]
  simp
  refine compN_tup (src := []) (xs := List.range n) (fun i => .int ((i : Nat) : Int)) (fun h => BoxAt h b) (fun _ _ => True) (fun i d => d = .int ((i : Nat) : Int)) (fun i => [some (.int ((i : Nat) : Int)), some (.loc b)]) ?_ (fun _ _ => src0) (fun h c x => x.new) List.nodup_range (sz hn) (fun x _ => rfl) ?_ ?_
  · simp [rng1_ok (show n ≤ 1000 by omega), hx]
  · intro x hx h i
    simp
    refine wp_take i (by decide) (by decide) fun d h1 d0 d1 x1 s1 => ?_
    simp [x1]
  · intro h' g e x1 hr _
    have : ((List.range n).filter g).map e = ((List.range n).filter g).map fun i => D.int ((i : Nat) : Int) := List.map_congr_left fun x hx => hr x (List.mem_filter.mp hx).1 (List.mem_filter.mp hx).2
    rw [this]
    exact q g h' x1
theorem rows_bD {W : Nat} {rows : List (Nat → Bool)} {H : Nat} (e : rows.length = H) : D.tup (rows.map (rowD W)) = bD H W fun i => rows.getD i fun _ => false := by
  unfold bD
  congr 1
  apply List.ext_getElem
  · simp [e]
  · intro i h1 h2
    simp at h1 h2
    simp [List.getD_eq_getElem?_getD, List.getElem?_eq_getElem h1]
theorem wp_board {b H W : Nat} {h : HD} {Q : D → HD → Prop} (hx : BoxAt h b) (hh : 1 ≤ H ∧ H ≤ 8) (hw : 1 ≤ W ∧ W ≤ 8) (q : ∀ f h', BoxAt h' b → Q (bD H W f) h') : Wp (F__law_board [.loc b, .int (H : Nat), .int (W : Nat)] h) Q := by
  change Wp (mBody 8 (g__law_board F__law_take F__law_wide_box) [.loc b, .int (H : Nat), .int (W : Nat)] h) _
  rw [wp_body]
  simp [-kSeq_nx]
  refine wp_take hx (by decide) (by decide) fun way h1 d0 d1 x1 _ => ?_
  simp [-kSeq_nx, kSeq_nx (g := mSeq (mSet 4 _) _)]
  refine wp_wide_box x1 fun l2 h2 x2 y2 n2 _ => ?_
  rw [kSeq_nx]
  simp [-kSeq_nx]
  refine wp_newL (by simp) fun l h3 s3 e3 _ _ => ?_
  obtain ⟨dense, ed⟩ : ∃ dense : Int, ixD (.loc l) (.int way) h3 = .ok (.int dense) h3 := by
    obtain ⟨w, rfl⟩ : ∃ w : Nat, way = (w : Int) := ⟨way.toNat, by omega⟩
    have hw5 : w < 5 := by omega
    match w, hw5 with
    | 0, _ => exact ⟨_, ix_loc e3 (k := 0) rfl⟩
    | 1, _ => exact ⟨_, ix_loc e3 (k := 1) rfl⟩
    | 2, _ => exact ⟨_, ix_loc e3 (k := 2) rfl⟩
    | 3, _ => exact ⟨_, ix_loc e3 (k := 3) rfl⟩
    | 4, _ => exact ⟨_, ix_loc e3 (k := 4) rfl⟩
  rw [ed, wp_ok, kSeq_nx]
  simp [-kSeq_nx]
  refine wp_newL (by simp) fun l3 h4 s4 e4 el4 _ => ?_
  have x4 : BoxAt h4 b := (x2.sm s3).sm s4
  have y4 : BoxAt h4 l2 := (y2.sm s3).sm s4
  have n3 : l3 ≠ b := by
    obtain ⟨n, e⟩ := x2.sm s3
    have := (List.getElem?_eq_some_iff.mp e).1
    omega
  have n4 : l3 ≠ l2 := by
    obtain ⟨n, e⟩ := y2.sm s3
    have := (List.getElem?_eq_some_iff.mp e).1
    omega
  rw [kSeq_nx]
  simp [-kSeq_nx]
  refine for_wp (src := []) (xs := List.range H) (fun i => .int ((i : Nat) : Int)) (fun xs ρ h' => ∃ (x : Option D) (rows : List (Nat → Bool)), ρ = [some (.loc b), some (.int (H : Nat)), some (.int (W : Nat)), some (.int way), some (.loc l2), some (.int dense), some (.loc l3), x] ∧ BoxAt h' b ∧ BoxAt h' l2 ∧ h'[l3]? = some (.lst (rows.map (rowD W))) ∧ rows.length + xs.length = H) ?_ (fun ys ρ h' _ => src0) ?_ ?_
  · simp [rng1_ok (show H ≤ 1000 by omega)]
    exact ⟨x4, y4, e4⟩
  · rintro x xs ρ h' ⟨y, rows, rfl, x5, y5, e5, hl⟩
    refine ⟨_, rfl, ?_⟩
    simp [loc_isLst e5]
    refine compN_tup (src := []) (xs := List.range W) (fun i => .int ((i : Nat) : Int)) (fun h => BoxAt h b ∧ BoxAt h l2 ∧ h[l3]? = some (.lst (rows.map (rowD W)))) (fun _ b => b = true) (fun i d => ∃ r : Bool, d = lit r) (fun i => [some (.int ((i : Nat) : Int)), some (.loc l2), some (.int dense)]) ?_ (fun _ _ => src0) (fun h c x => ⟨x.1.new, x.2.1.new, Sm.app _ _ _ _ x.2.2⟩) List.nodup_range (sz hw.2) (fun x _ => rfl) ?_ ?_
    · simp [rng1_ok (show W ≤ 1000 by omega)]
      exact ⟨x5, y5, e5⟩
    · intro x hx h i
      simp
      refine wp_take i.2.1 (by decide) (by decide) fun d h1 d0 d1 x1 s1 => ?_
      simp only [wp_ok, wp_varS, wp_var0, int0_ii, wp_nil, wp_op, ar1_ok, intOf_bl]
      exact ⟨⟨i.1.smx s1 (Ne.symm n2), x1, s1 _ _ n4 i.2.2⟩, by by_cases hd : d < dense <;> simp [hd, lit]⟩
    · intro h6 g e x6 hr tr
      have hr' : ∃ r : Nat → Bool, ∀ x ∈ List.range W, e x = lit (r x) := by
        refine ⟨fun x => if h : x ∈ List.range W then (hr x h (tr x h)).choose else false, fun x hx => ?_⟩
        simp only [dif_pos hx]
        exact (hr x hx (tr x hx)).choose_spec
      obtain ⟨r, er⟩ := hr'
      have ef : (List.range W).filter g = List.range W := List.filter_eq_self.mpr tr
      have em : D.tup (((List.range W).filter g).map e) = rowD W r := by
        rw [ef]; unfold rowD; congr 1; exact List.map_congr_left er
      rw [em]
      simp [loc_app x6.2.2 (show (rows.map (rowD W)).length < sizeLine by simp; unfold sizeLine; omega), kLoop]
      have hl3 : l3 < h6.length := (List.getElem?_eq_some_iff.mp x6.2.2).1
      refine ⟨?_, ?_, rows ++ [r], ?_, ?_⟩
      · obtain ⟨n, e⟩ := x6.1
        exact ⟨n, by rw [List.getElem?_set_ne n3]; exact e⟩
      · obtain ⟨n, e⟩ := x6.2.1
        exact ⟨n, by rw [List.getElem?_set_ne n4]; exact e⟩
      · rw [List.getElem?_set_self hl3]
        simp
      · simp at hl ⊢
        omega
  · rintro ρ h' ⟨y, rows, rfl, x5, y5, e5, hl⟩
    simp at hl
    simp
    by_cases h3 : way = 3
    · simp [h3]
      obtain ⟨r0, rest, rfl⟩ : ∃ r0 rest, rows = r0 :: rest := by
        cases rows with
        | nil => simp at hl; omega
        | cons a r => exact ⟨a, r, rfl⟩
      rw [show (0 : Int) = ((0 : Nat) : Int) from rfl, ix_loc e5 (k := 0) (a := rowD W r0) rfl]
      simp
      refine wp_newL (by simp) fun l5 h5 s5 e6 _ _ => ?_
      rw [rep_loc e6 (by omega)]
      refine wp_newL (by simp; unfold sizeLine; omega) fun l6 h6 s6 e7 _ _ => ?_
      simp [loc_tup e7]
      have : D.tup (List.replicate H (rowD W r0)) = bD H W fun _ => r0 := by
        unfold bD
        congr 1
        apply List.ext_getElem
        · simp
        · intro i h1 h2; simp
      rw [this]
      exact q _ _ ((x5.sm s5).sm s6)
    · simp [h3, loc_tup e5]
      rw [rows_bD hl]
      exact q _ _ x5
end LK

namespace LK
open PySem PySem.Spec PyProof.Rows L2 LS
theorem rng2_ok {a n : Nat} {h : HD} (ha : a ≤ 1000) (hn : n ≤ 1000) : rng2D [.int (a : Int), .int (n : Int)] h = .ok ((List.range (n - a)).map fun k => D.int ((a : Int) + ((k : Nat) : Int)), []) h := by
  have : ((-(2 ^ 62) : Int) ≤ (a : Int) ∧ (a : Int) < 2 ^ 62) ∧ (-(2 ^ 62) : Int) ≤ (n : Int) ∧ (n : Int) < 2 ^ 62 := by omega
  unfold rng2D
  simp only
  rw [if_pos this]
  have e : ((n : Int) - (a : Int)).toNat = n - a := by omega
  rw [e]
  simp [rngL]
theorem drop_cons {n k x : Nat} {xs : List Nat} (h : (List.range n).drop k = x :: xs) : x = k ∧ k < n ∧ xs = (List.range n).drop (k + 1) := by
  have hk : k < n := by
    have := congrArg List.length h
    simp at this
    omega
  rw [List.drop_eq_getElem_cons (by simpa using hk)] at h
  simp at h
  exact ⟨h.1.symm, hk, h.2.symm⟩
theorem drop_nil {n k : Nat} (hk : k ≤ n) (h : (List.range n).drop k = []) : k = n := by
  have := congrArg List.length h
  simp at this
  omega
def cntD (W : Nat) (c : Nat → Int) : D := .tup ((List.range W).map fun j => .int (c j))
theorem cntD_congr {W : Nat} {c c' : Nat → Int} (h : ∀ j, j < W → c j = c' j) : cntD W c = cntD W c' := by
  unfold cntD
  congr 1
  exact List.map_congr_left fun j hj => by rw [h j (by simpa using hj)]
theorem p_counts_with_row {W : Nat} {c : Nat → Int} {r : Nat → Bool} {h : HD} (hw : W ≤ 8) : Pu (F_counts_with_row [cntD W c, rowD W r] h) h (cntD W fun j => c j + 1 - 2 * (if r j then 1 else 0)) := by
  change Wp (mBody 2 g_counts_with_row [cntD W c, rowD W r] h) _
  rw [wp_body]
  simp
  refine Pu.wp (p_xTup' (src := []) (xs := List.range W) (φ := fun j => .tup [.int (c j), lit (r j)]) (fun j => .int (c j + 1 - 2 * (if r j then 1 else 0))) (fun j => [some (.int (c j)), some (lit (r j))]) ?_ (fun x _ => rfl) (fun x hx h' s' => ?_) (sz hw)) fun h2 s2 => ?_
  · simp [It0, cntD, rowD]
    rw [zip_ok (e := fun j => .int (c j)) (e' := fun j => lit (r j)) seq_tup seq_tup]
    simp [Sm.refl, srcOk]
  · simp [Pu, lit]
    rw [mul_l (by decide) (by decide)]
    simp [Sm.refl]
  · exact ⟨rfl, s2⟩
theorem p_fewest {W H : Nat} {c : Nat → Int} {h : HD} (hw : W ≤ 8) : Pu (F_fewest_lit [cntD W c, .int (H : Nat)] h) h (.int (few W H c)) := by
  change Wp (mBody 2 g_fewest_lit [cntD W c, .int (H : Nat)] h) _
  rw [wp_body]
  simp
  refine Pu.wp (p_xSum (src := []) (xs := List.range W) (φ := fun j => .int (c j)) (fun j => if (H : Int) - c j < c j then (H : Int) - c j else c j) (fun j => [some (.int (c j)), some (.int (H : Nat))]) it0_tup (fun x _ => rfl) (fun x hx h' s' => ?_) (sz hw)) fun h2 s2 => ?_
  · simp [Pu, Sm.refl]
  · exact ⟨rfl, s2⟩
theorem p_fuller {W H : Nat} {c : Nat → Int} {h : HD} (hw : W ≤ 8) : Pu (F_fuller_columns [cntD W c, .int (H : Nat)] h) h (lotD W (fuc H c)) := by
  change Wp (mBody 2 g_fuller_columns [cntD W c, .int (H : Nat)] h) _
  rw [wp_body]
  simp
  refine Pu.wp (p_xTup (src := []) (xs := List.range W) (φ := fun j => .tup [.int ((j : Nat) : Int), .int (c j)]) (fuc H c) (fun j => .int ((j : Nat) : Int)) (fun j => [some (.int ((j : Nat) : Int)), some (.int (c j)), some (.int (H : Nat))]) ?_ (fun x _ => rfl) (fun x hx h' s' => ?_) (fun x hx _ h' s' => ?_) (sz hw)) fun h2 s2 => ?_
  · simp [It0, cntD, enum2_ok, Sm.refl, srcOk]
  · simp [Pu]
    rw [mul_l (by decide) (by decide)]
    simp [Sm.refl, fuc]
  · simp [Pu, Sm.refl]
  · exact ⟨rfl, s2⟩
theorem rsum_flip {n m : Nat} {r r' : Nat → Bool} (hm : m < n) (h : ∀ i, i ≠ m → r' i = r i) (hn : r' m = !r m) : rsum n r' = rsum n r + 1 - 2 * (if r m then 1 else 0) := by
  have s1 : ∀ k (r : Nat → Bool), rsum (k + 1) r = rsum k r + if r k then 1 else 0 := fun k r => by
    unfold rsum
    rw [List.range_succ, List.map_append, List.sum_append]
    simp
  have key : ∀ k : Nat, (k ≤ m → rsum k r' = rsum k r) ∧ (m < k → rsum k r' = rsum k r + 1 - 2 * (if r m then 1 else 0)) := fun k => by
    induction k with
    | zero => exact ⟨fun _ => rfl, fun z => by omega⟩
    | succ k ih =>
      rw [s1, s1]
      refine ⟨fun hk => ?_, fun hk => ?_⟩
      · rw [ih.1 (by omega), h k (by omega)]
      · by_cases hz : k = m
        · subst hz
          rw [ih.1 (by omega), hn]
          cases r k <;> simp <;> omega
        · rw [ih.2 (by omega), h k hz]
          omega
  exact (key n).2 hm
theorem cc_ext {H n : Nat} {f : Nat → Nat → Bool} {R : Nat → Bool} {j : Nat} (hn : n < H) (h0 : R n = false) : cc H f (ext n R) j = cc H f R j + 1 - 2 * (if f n j then 1 else 0) := by
  unfold cc
  rw [rsum_flip (r := fun i => Bool.xor (f i j) (R i)) hn (fun i hi => by simp [ext, hi]) (by simp [ext, h0])]
  simp [h0]
theorem lotD_snoc {n : Nat} {R : Nat → Bool} : lotD (n + 1) (ext n R) = .tup (((List.range n).filter R).map (fun i => D.int ((i : Nat) : Int)) ++ [.int ((n : Nat) : Int)]) := by
  unfold lotD
  rw [List.range_succ, List.filter_append]
  have e1 : (List.range n).filter (ext n R) = (List.range n).filter R := List.filter_congr fun i hi => by
    have : i < n := by simpa using hi
    simp [ext, show i ≠ n by omega]
  have e2 : [n].filter (ext n R) = [n] := by simp [ext]
  rw [e1, e2]
  simp
theorem lotD_keep {n : Nat} {R : Nat → Bool} (h : R n = false) : lotD (n + 1) R = lotD n R := by
  unfold lotD
  rw [List.range_succ, List.filter_append]
  simp [h]
def lwD (H W k : Nat) (f : Nat → Nat → Bool) : List D := (LL 1 k).map fun R => .tup [lotD (k + 1) R, cntD W (cc H f R)]
theorem LL_small {k : Nat} (hk : k ≤ 7) : (LL 1 k).length ≤ 128 := by
  rw [LL_len]
  exact Nat.pow_le_pow_right (n := 2) (by decide) hk
theorem sl128 {n : Nat} (h : n ≤ 1000) : n ≤ sizeLine := by unfold sizeLine; omega
def LwI (H W : Nat) (f : Nat → Nat → Bool) (h : HD) (xs : List Nat) (ρ : Rho) (h' : HD) : Prop := ∃ (k l : Nat) (x : Option D), xs = (List.range (H - 1)).drop k ∧ k ≤ H - 1 ∧ ρ = [some (bD H W f), some (.loc l), x] ∧ Sm h h' ∧ h'[l]? = some (.lst (lwD H W k f))
theorem ix_rngI {n k : Nat} {e : Nat → D} {i : Int} {h : HD} (hi : i = (k : Int)) (hk : k < n) : ixD (.tup ((List.range n).map e)) (.int i) h = .ok (e k) h := by
  subst hi; exact ix_rng hk
theorem wp_lots {H W : Nat} {f : Nat → Nat → Bool} {h : HD} (hh : 1 ≤ H ∧ H ≤ 8) (hw : 1 ≤ W ∧ W ≤ 8) : ∃ l h1, F_lots_with_counts [bD H W f] h = .ok (.loc l) h1 ∧ Sm h h1 ∧ h1[l]? = some (.lst (lwD H W (H - 1) f)) := by
  suffices hs : Wp (F_lots_with_counts [bD H W f] h) (fun d h1 => ∃ l, d = .loc l ∧ Sm h h1 ∧ h1[l]? = some (.lst (lwD H W (H - 1) f))) by
    obtain ⟨d, h1, e, l, rfl, q⟩ := hs.ex
    exact ⟨l, h1, e, q⟩
  change Wp (mBody 3 (g_lots_with_counts F_column_counts F_counts_with_row) [bD H W f] h) _
  rw [wp_body]
  simp [-kSeq_nx]
  refine (p_column_counts hh hw).wp fun h1 s1 => ?_
  refine wp_newL (by simp) fun l h2 s2 e2 _ _ => ?_
  rw [kSeq_nx]
  simp [-kSeq_nx]
  refine for_wp (src := []) (xs := List.range (H - 1)) (fun k => .int (1 + (k : Int))) (LwI H W f h) ?_ (fun ys ρ h' _ => src0) ?_ ?_
  · have eH : lenD (bD H W f) h2 = .ok (.int ((H : Nat) : Int)) h2 := by simp [bD]
    simp [eH]
    rw [show (1 : Int) = ((1 : Nat) : Int) from rfl, rng2_ok (by omega) (by omega)]
    simp
    refine ⟨0, l, none, by simp, by omega, rfl, s1.trans s2, ?_⟩
    rw [e2]
    simp [lwD, LL, lotD]
    exact cntD_congr (W := W) fun j _ => rsum_congr fun i _ => by simp
  · rintro x xs ρ h' ⟨k, l', y, ex, hk, rfl, s', e'⟩
    obtain ⟨rfl, hk', rfl⟩ := drop_cons ex.symm
    refine ⟨_, rfl, ?_⟩
    simp
    refine comp_wp (src := [(l', lwD H W x f)]) (xs := LL 1 x) (φ := fun R => .tup [lotD (x + 1) R, cntD W (cc H f R)]) (fun _ => true) (fun R => .tup [lotD (x + 1 + 1) (ext (1 + x) R), cntD W (cc H f (ext (1 + x) R))]) (fun R => [some (lotD (x + 1) R), some (cntD W (cc H f R)), some (.int (1 + (x : Int))), some (bD H W f)]) ?_ (sl128 (Nat.le_trans (LL_small (by omega)) (by decide))) (fun R _ => rfl) (fun R _ h2 s2 => (.ok : Pu (.ok true h2) h2 true)) (fun R hR _ h2 s2 => ?_) fun l3 h3 s3 e3 => ?_
    · simp [iseq_loc e', lwD]
      exact ⟨.refl _, fun h2 s2 => src1 (s2 _ _ e')⟩
    · have h0 : R (1 + x) = false := LL_out hR _ (by omega)
      simp [Pu]
      unfold lotD
      rw [add_tup (sl128 (by
        have := List.length_filter_le R (List.range (x + 1))
        simp at this ⊢
        omega))]
      simp
      unfold bD
      rw [ix_rngI (k := 1 + x) (by omega) (by omega)]
      simp
      refine (p_counts_with_row hw.2).wp fun h3 s3 => ?_
      simp [s3]
      refine ⟨?_, cntD_congr fun j _ => (cc_ext (by omega) h0).symm⟩
      have e1 : lotD (x + 1 + 1) (ext (1 + x) R) = lotD (x + 1 + 1) (ext (x + 1) R) := by rw [Nat.add_comm 1 x]
      have e2 := e1.trans (lotD_snoc (n := x + 1) (R := R))
      unfold lotD at e2
      have e3 := D.tup.inj e2
      rw [e3, show (1 + (x : Int)) = (((x + 1 : Nat)) : Int) from by omega]
    · rw [filter_tt] at e3
      rw [add_loc (s3 _ _ e') e3]
      have hlen := LL_small (k := x) (by omega)
      refine wp_newL (sl128 (by simp [lwD]; omega)) fun l4 h4 s4 e4 _ _ => ?_
      simp only [kLoop]
      refine ⟨x + 1, l4, _, rfl, by omega, rfl, s'.trans (s3.trans s4), ?_⟩
      rw [e4]
      have ea : lwD H W x f = (LL 1 x).map fun R => .tup [lotD (x + 1 + 1) R, cntD W (cc H f R)] := List.map_congr_left fun R hR => by rw [lotD_keep (n := x + 1) (LL_out hR _ (by omega))]
      rw [ea]
      show _ = some (Cell.lst ((LL 1 (x + 1)).map fun R => .tup [lotD (x + 1 + 1) R, cntD W (cc H f R)]))
      rw [LL, List.map_append, List.map_map]
      rfl
  · rintro ρ h' ⟨k, l', y, ex, hk, rfl, s', e'⟩
    have : k = H - 1 := drop_nil hk ex.symm
    subst this
    simp
    exact ⟨s', e'⟩
end LK

namespace LK
open PySem PySem.Spec PyProof.Rows L2 LS
section
variable {H W : Nat} {f : Nat → Nat → Bool} {p q : Nat → Bool} {h : HD}
theorem len_bD : lenD (bD H W f) h = .ok (.int ((H : Nat) : Int)) h := by simp [bD]
theorem it_lots {ρ : Rho} {l : Nat} {h1 : HD} (e : F_lots_with_counts [bD H W f] h = .ok (.loc l) h1) (s : Sm h h1) (el : h1[l]? = some (.lst (lwD H W (H - 1) f))) :
    It0 (mISeq (mCall F_lots_with_counts (mCons (mVar 0) mNil)) (some (bD H W f) :: ρ) h) h ((LL 1 (H - 1)).map fun R => .tup [lotD (H - 1 + 1) R, cntD W (cc H f R)]) [(l, lwD H W (H - 1) f)] := by
  have : mISeq (mCall F_lots_with_counts (mCons (mVar 0) mNil)) (some (bD H W f) :: ρ) h = (F_lots_with_counts [bD H W f] h).bind iSeqD := rfl
  rw [this]
  exact it0_loc e s el
theorem LLs (hh : 1 ≤ H ∧ H ≤ 8) : (LL 1 (H - 1)).length ≤ sizeLine := sl128 (Nat.le_trans (LL_small (by omega)) (by decide))
theorem p_left_many (hh : 1 ≤ H ∧ H ≤ 8) (hw : 1 ≤ W ∧ W ≤ 8) : Pu (F_left_many [bD H W f] h) h (.int (left H W f)) := by
  change Wp (mBody 1 (g_left_many F_lots_with_counts F_fewest_lit) [bD H W f] h) _
  rw [wp_body]
  simp
  obtain ⟨l, h1, e, s1, el⟩ := wp_lots (f := f) (h := h) hh hw
  refine Pu.wp (p_xExt (src := [(l, lwD H W (H - 1) f)]) (xs := LL 1 (H - 1)) (φ := fun R => .tup [lotD (H - 1 + 1) R, cntD W (cc H f R)]) (fun R => few W H (cc H f R)) (fun R => [some (lotD (H - 1 + 1) R), some (cntD W (cc H f R)), some (bD H W f)]) (it_lots e s1 el) (fun R _ => rfl) (fun R hR h' s' => ?_) (LLs hh) LL_ne) fun h2 s2 => ?_
  · simp [Pu, len_bD]
    exact p_fewest hw.2
  · exact ⟨rfl, s2⟩
theorem p_best_switching (hh : 1 ≤ H ∧ H ≤ 8) (hw : 1 ≤ W ∧ W ≤ 8) : ∃ R ∈ LL 1 (H - 1), few W H (cc H f R) = left H W f ∧ ∀ h, Pu (F_best_switching [bD H W f] h) h (swD H W R (fuc H (cc H f R))) := by
  have hne : (LL 1 (H - 1)).filter (fun R => few W H (cc H f R) == left H W f) ≠ [] := fun z => by
    obtain ⟨R, hR, e⟩ := left_at (H := H) (W := W) (f := f)
    have := List.filter_eq_nil_iff.mp z R hR
    simp [e] at this
  obtain ⟨R, rest, eR⟩ : ∃ R rest, (LL 1 (H - 1)).filter (fun R => few W H (cc H f R) == left H W f) = R :: rest := by
    cases hc : (LL 1 (H - 1)).filter (fun R => few W H (cc H f R) == left H W f) with
    | nil => exact absurd hc hne
    | cons a r => exact ⟨a, r, rfl⟩
  have hm : R ∈ (LL 1 (H - 1)).filter (fun R => few W H (cc H f R) == left H W f) := by rw [eR]; exact List.mem_cons_self
  rw [List.mem_filter] at hm
  refine ⟨R, hm.1, by simpa using hm.2, fun h => ?_⟩
  change Wp (mBody 3 (g_best_switching F_left_many F_lots_with_counts F_fewest_lit F_fuller_columns) [bD H W f] h) _
  rw [wp_body]
  simp [-kSeq_nx]
  refine (p_left_many hh hw).wp fun h1 s1 => ?_
  rw [kSeq_nx]
  simp [len_bD]
  obtain ⟨l, h2, e, s2, el⟩ := wp_lots (f := f) (h := h1) hh hw
  refine comp_wp (src := [(l, lwD H W (H - 1) f)]) (xs := LL 1 (H - 1)) (φ := fun R => .tup [lotD (H - 1 + 1) R, cntD W (cc H f R)]) (fun R => few W H (cc H f R) == left H W f) (fun R => .tup [lotD (H - 1 + 1) R, lotD W (fuc H (cc H f R))]) (fun R => [some (lotD (H - 1 + 1) R), some (cntD W (cc H f R)), some (.int (H : Nat)), some (.int (left H W f))]) (it_lots e s2 el) (LLs hh) (fun R _ => rfl) (fun R _ h' s' => ?_) (fun R _ _ h' s' => ?_) fun l3 h3 s3 e3 => ?_
  · simp [Pu]
    refine (p_fewest hw.2).wp fun h4 s4 => ?_
    simp [s4]
  · simp [Pu]
    refine (p_fuller hw.2).wp fun h4 s4 => ?_
    simp [s4]
  · rw [show (0 : Int) = ((0 : Nat) : Int) from rfl, ix_loc e3 (k := 0) (a := .tup [lotD (H - 1 + 1) R, lotD W (fuc H (cc H f R))]) (by rw [eR]; rfl)]
    simp [s1.trans s3, swD, show H - 1 + 1 = H by omega]
theorem p_is_best (hh : 1 ≤ H ∧ H ≤ 8) (hw : 1 ≤ W ∧ W ≤ 8) : Pu (F_is_best [bD H W f, swD H W p q] h) h (.bl (TT H W f p q == left H W f)) := by
  change Wp (mBody 2 (g_is_best F_switched F_lit_many F_left_many) [bD H W f, swD H W p q] h) _
  rw [wp_body]
  simp
  refine (p_switched hh hw).wp fun h1 s1 => ?_
  refine (p_lit_many hh hw).wp fun h2 s2 => ?_
  refine (p_left_many hh hw).wp fun h3 s3 => ?_
  rw [TT_lit]
  simp [(s1.trans s2).trans s3]
def CbI (H W : Nat) (f : Nat → Nat → Bool) (p : Nat → Bool) (h : HD) (xs : List Nat) (ρ : Rho) (h' : HD) : Prop := ∃ (R : Nat → Bool) (x : Option D), ρ = [some (bD H W f), some (lotD H p), some (cntD W (cc H f R)), x] ∧ Sm h h' ∧ xs.Nodup ∧ (∀ i ∈ xs, i < H ∧ R i = false) ∧ ∀ i, i < H → (p i = true ↔ (R i = true ∨ i ∈ xs))
theorem p_counts_by (hh : 1 ≤ H ∧ H ≤ 8) (hw : 1 ≤ W ∧ W ≤ 8) : Pu (F_counts_by [bD H W f, lotD H p] h) h (cntD W (cc H f p)) := by
  change Wp (mBody 4 (g_counts_by F_need_board F_is_lot F_column_counts F_counts_with_row) [bD H W f, lotD H p] h) _
  rw [wp_body]
  simp [-kSeq_nx]
  refine (p_need_board hh hw).wp fun h1 s1 => ?_
  rw [kSeq_nx]
  simp [-kSeq_nx, len_bD]
  refine p_is_lot.wp fun h2 s2 => ?_
  simp [-kSeq_nx]
  rw [kSeq_nx]
  simp [-kSeq_nx]
  refine (p_column_counts hh hw).wp fun h3 s3 => ?_
  rw [kSeq_nx]
  rw [wp_seq]
  refine for_wp (src := []) (xs := (List.range H).filter p) (fun i => .int ((i : Nat) : Int)) (CbI H W f p h) ?_ (fun ys ρ h' _ => src0) ?_ ?_
  · simp only [wp_iseq, wp_varS, wp_var0, lotD, iseq_tup, wp_ok]
    refine ⟨trivial, fun _ => false, none, ?_, (s1.trans s2).trans s3, List.Pairwise.filter _ List.nodup_range, fun i hi => ⟨by simpa using (List.mem_filter.mp hi).1, rfl⟩, fun i hi => ?_⟩
    · have : cntD W (cc H f fun _ => false) = .tup ((List.range W).map fun j => .int (rsum H fun i => f i j)) := cntD_congr (W := W) fun j _ => rsum_congr fun i _ => by simp
      rw [this]
      rfl
    · simp [hi]
  · rintro x xs ρ h' ⟨R, y, rfl, s', nd, hx, hp⟩
    refine ⟨_, rfl, ?_⟩
    obtain ⟨x1, x2⟩ := hx x List.mem_cons_self
    rw [List.nodup_cons] at nd
    simp
    unfold bD
    rw [ix_rng x1]
    simp
    refine (p_counts_with_row hw.2).wp fun h4 s4 => ?_
    simp only [kLoop]
    refine ⟨ext x R, some (.int (x : Nat)), ?_, s'.trans s4, nd.2, fun i hi => ⟨(hx i (List.mem_cons_of_mem _ hi)).1, ?_⟩, fun i hi => ?_⟩
    · have : cntD W (cc H f (ext x R)) = cntD W fun j => cc H f R j + 1 - 2 * (if f x j then 1 else 0) := cntD_congr fun j _ => cc_ext x1 x2
      rw [this]
      rfl
    · unfold ext
      rw [if_neg]
      · exact (hx i (List.mem_cons_of_mem _ hi)).2
      · intro z; subst z; exact nd.1 hi
    · rw [hp i hi]
      unfold ext
      by_cases hz : i = x
      · simp [hz]
      · simp [hz]
  · rintro ρ h' ⟨R, y, rfl, s', nd, hx, hp⟩
    simp [s']
    refine cntD_congr fun j _ => cc_congr fun i hi => ?_
    have := hp i hi
    simp at this
    cases e1 : p i <;> cases e2 : R i <;> simp [e1, e2] at this <;> rfl
theorem p_best_columns (hh : 1 ≤ H ∧ H ≤ 8) (hw : 1 ≤ W ∧ W ≤ 8) : Pu (F_best_columns [bD H W f, lotD H p] h) h (lotD W (fuc H (cc H f p))) := by
  change Wp (mBody 2 (g_best_columns F_counts_by F_fuller_columns) [bD H W f, lotD H p] h) _
  rw [wp_body]
  simp
  refine (p_counts_by hh hw).wp fun h1 s1 => ?_
  simp [len_bD]
  refine (p_fuller hw.2).wp fun h2 s2 => ?_
  simp [s1.trans s2]
theorem p_left_by (hh : 1 ≤ H ∧ H ≤ 8) (hw : 1 ≤ W ∧ W ≤ 8) : Pu (F_left_by [bD H W f, lotD H p] h) h (.int (few W H (cc H f p))) := by
  change Wp (mBody 2 (g_left_by F_counts_by F_fewest_lit) [bD H W f, lotD H p] h) _
  rw [wp_body]
  simp
  refine (p_counts_by hh hw).wp fun h1 s1 => ?_
  simp [len_bD]
  refine (p_fewest hw.2).wp fun h2 s2 => ?_
  simp [s1.trans s2]
theorem shl_ok {i : Int} {n : Nat} (hi : i.natAbs < 18446744073709551616) (hn : n ≤ 1000) : shlD (.int i) (.int (n : Nat)) h = .ok (.int (i * 2 ^ n)) h := by
  have : CPow i (n : Int) := ⟨by omega, by omega, by omega⟩
  simp only [shlD, LS.intD]
  rw [if_pos this]
  simp
theorem p_alike_many (hh : 1 ≤ H ∧ H ≤ 8) (hw : 1 ≤ W ∧ W ≤ 8) : Pu (F_alike_many [bD H W f] h) h (.int (2 ^ (H - 1) * 2 ^ W)) := by
  change Wp (mBody 1 (g_alike_many F_need_board) [bD H W f] h) _
  rw [wp_body]
  simp
  refine (p_need_board hh hw).wp fun h1 s1 => ?_
  simp [len_bD]
  unfold bD
  rw [ix_rng0 (by omega)]
  simp [rowD]
  rw [show ((H : Int) + (W : Int) - 1) = ((H + W - 1 : Nat) : Int) from by omega, shl_ok (by decide) (by omega)]
  simp [s1]
  rw [← Int.pow_add]
  congr 1
  omega
end
end LK

namespace LK
open PySem PySem.Spec PyProof.Rows L2 LS
def cfD (n : Nat) (m : Nat → Int) : List D := (List.range n).map fun k => .int (m k)
theorem cfD_congr {n : Nat} {m m' : Nat → Int} (h : ∀ k, k < n → m k = m' k) : cfD n m = cfD n m' := List.map_congr_left fun k hk => by rw [h k (by simpa using hk)]
theorem cfD_set {n i : Nat} {m : Nat → Int} {v : Int} : (cfD n m).set i (.int v) = cfD n fun k => if k = i then v else m k := by
  unfold cfD
  apply List.ext_getElem
  · simp
  · intro k h1 h2
    simp at h1 h2
    by_cases hz : i = k
    · subst hz; simp
    · rw [List.getElem_set_ne hz]
      simp [show ¬ k = i from fun z => hz z.symm]
theorem cfD_get {n i : Nat} {m : Nat → Int} (h : i < n) : (cfD n m)[i]? = some (.int (m i)) := by simp [cfD, List.getElem?_range, h]
theorem cfD_len {n : Nat} {m : Nat → Int} : (cfD n m).length = n := by simp [cfD]
theorem Sm_set {h h' : HD} {l : Nat} {c : Cell} (s : Sm h h') (e : h[l]? = none) : Sm h (h'.set l c) := fun k d ek => by
  rw [List.getElem?_set_ne]
  · exact s k d ek
  · intro z; subst z; rw [e] at ek; cases ek
theorem cnt_shift {L : List Int} {c k : Int} : cnt (L.map (· + c)) k = cnt L (k - c) := by
  unfold cnt
  rw [List.map_map]
  refine sum_congr fun x _ => ?_
  show (if x + c = k then (1 : Int) else 0) = if x = k - c then 1 else 0
  by_cases h : x + c = k
  · rw [if_pos h, if_pos (by omega)]
  · rw [if_neg h, if_neg (by omega)]
theorem cnt_app {L M : List Int} {k : Int} : cnt (L ++ M) k = cnt L k + cnt M k := by
  unfold cnt; rw [List.map_append, List.sum_append]
def AA (L : List Int) (c d t k : Nat) : Int := (if c ≤ k ∧ k < c + t then cnt L ((k : Int) - c) else 0) + (if d ≤ k ∧ k < d + t then cnt L ((k : Int) - d) else 0)
theorem half {L : List Int} {c t k : Nat} : (if c ≤ k ∧ k < c + (t + 1) then cnt L ((k : Int) - c) else 0) = (if c ≤ k ∧ k < c + t then cnt L ((k : Int) - c) else 0) + if k = t + c then cnt L t else 0 := by
  by_cases h : k = t + c
  · rw [if_pos (by omega), if_neg (by omega), if_pos h, show ((k : Int) - c) = t from by omega]
    omega
  · by_cases h2 : c ≤ k ∧ k < c + t
    · rw [if_pos (by omega), if_pos h2, if_neg h]; omega
    · rw [if_neg (by omega), if_neg h2, if_neg h]; rfl
theorem AA_step {L : List Int} {c d t k : Nat} : (if k = t + d then (if k = t + c then AA L c d t k + cnt L t else AA L c d t k) + cnt L t else if k = t + c then AA L c d t k + cnt L t else AA L c d t k) = AA L c d (t + 1) k := by
  unfold AA
  rw [half (c := c), half (c := d)]
  split <;> split <;> omega
theorem AA_end {L : List Int} {n c d k : Nat} (hL : ∀ x ∈ L, 0 ≤ x ∧ x < n) : AA L c d n k = cnt (L.map (· + (c : Int)) ++ L.map (· + (d : Int))) k := by
  have z : ∀ c : Nat, (if c ≤ k ∧ k < c + n then cnt L ((k : Int) - c) else 0) = cnt L ((k : Int) - c) := fun c => by
    by_cases h : c ≤ k ∧ k < c + n
    · rw [if_pos h]
    · rw [if_neg h, cnt_zero]
      intro hm
      have := hL _ hm
      omega
  unfold AA
  rw [z, z, cnt_app, cnt_shift, cnt_shift]
theorem aug_getI {h : HD} {l k : Nat} {i : Int} {ds : List D} {d : D} (hi : i = (k : Int)) (e : h[l]? = some (.lst ds)) (ek : ds[k]? = some d) : augGet (.loc l) (.int i) h = .ok d h := by subst hi; exact aug_get e ek
theorem aug_setI {h : HD} {ρ : Rho} {l k : Nat} {i : Int} {ds : List D} {a b : Int} (hi : i = (k : Int)) (e : h[l]? = some (.lst ds)) (hk : k < ds.length) : augK (.loc l) (.int i) (.int a) (.int b) ρ h = .ok (.nx, ρ) (h.set l (.lst (ds.set k (.int (a + b))))) := by subst hi; exact aug_set e hk
def WcI (h : HD) (l n c Hn lm : Nat) (L : List Int) (xs : List Nat) (ρ : Rho) (h' : HD) : Prop := ∃ (t : Nat) (x y : Option D), xs = (List.range n).drop t ∧ t ≤ n ∧ ρ = [some (.loc l), some (.int (c : Nat)), some (.int (Hn : Nat)), some (.loc lm), x, y] ∧ Sm h h' ∧ h'[lm]? = some (.lst (cfD (n + Hn) (AA L c (Hn - c) t)))
theorem wp_ways_col {h : HD} {l n c Hn : Nat} {L : List Int} (e : h[l]? = some (.lst (cfD n fun k => cnt L k))) (hL : ∀ x ∈ L, 0 ≤ x ∧ x < n) (hn : n ≤ 200) (hc : c ≤ Hn) (hH : Hn ≤ 8) :
    ∃ l2 h2, F_ways_with_column [.loc l, .int (c : Nat), .int (Hn : Nat)] h = .ok (.loc l2) h2 ∧ Sm h h2 ∧ h2[l2]? = some (.lst (cfD (n + Hn) fun k => cnt (L.map (· + (c : Int)) ++ L.map (· + ((Hn - c : Nat) : Int))) k)) := by
  suffices hs : Wp (F_ways_with_column [.loc l, .int (c : Nat), .int (Hn : Nat)] h) (fun d h1 => ∃ l2, d = .loc l2 ∧ Sm h h1 ∧ h1[l2]? = some (.lst (cfD (n + Hn) fun k => cnt (L.map (· + (c : Int)) ++ L.map (· + ((Hn - c : Nat) : Int))) k))) by
    obtain ⟨d, h1, e, l2, rfl, q⟩ := hs.ex
    exact ⟨l2, h1, e, q⟩
  change Wp (mBody 6 g_ways_with_column [.loc l, .int (c : Nat), .int (Hn : Nat)] h) _
  rw [wp_body]
  simp [-kSeq_nx]
  refine wp_newL (by simp) fun l1 h1 s1 e1 _ _ => ?_
  rw [len_loc (s1 _ _ e), cfD_len]
  simp [-kSeq_nx]
  rw [show ((n : Int) + (Hn : Int)) = ((n + Hn : Nat) : Int) from by omega, rep_loc e1 (by omega)]
  refine wp_newL (sl128 (by simp; omega)) fun lm h2 s2 e2 el2 _ => ?_
  have hnew : h[lm]? = none := by
    rw [el2]
    cases q : h[h1.length]? with
    | none => rfl
    | some c =>
      have := s1 _ _ q
      simp at this
  rw [kSeq_nx, wp_seq]
  refine for_wp (src := [(l, cfD n fun k => cnt L k)]) (xs := List.range n) (fun k => .tup [.int ((k : Nat) : Int), .int (cnt L k)]) (WcI h l n c Hn lm L) ?_ (fun ys ρ h' i => ?_) ?_ ?_
  · simp
    rw [enum2_loc (s2 _ _ (s1 _ _ e))]
    refine ⟨rfl, 0, none, none, by simp, by omega, rfl, s1.trans s2, ?_⟩
    rw [e2]
    congr 2
    unfold cfD
    apply List.ext_getElem
    · simp
    · intro k h1 h2
      have z : AA L c (Hn - c) 0 k = 0 := by
        unfold AA
        rw [if_neg (by omega), if_neg (by omega)]; rfl
      simp [z]
  · obtain ⟨t, x, y, _, _, _, s', _⟩ := i
    exact src1 (s' _ _ e)
  · rintro x xs ρ h' ⟨t, y, y', ex, ht, rfl, s', e'⟩
    obtain ⟨rfl, ht', rfl⟩ := drop_cons ex.symm
    refine ⟨_, rfl, ?_⟩
    have hlm : lm < h'.length := (List.getElem?_eq_some_iff.mp e').1
    simp
    rw [aug_getI (k := x + c) (by omega) e' (cfD_get (by omega))]
    simp
    rw [aug_setI (k := x + c) (by omega) e' (by rw [cfD_len]; omega), cfD_set]
    simp
    have e3 : (h'.set lm (.lst (cfD (n + Hn) fun k => if k = x + c then AA L c (Hn - c) x (x + c) + cnt L x else AA L c (Hn - c) x k)))[lm]? = some (.lst (cfD (n + Hn) fun k => if k = x + c then AA L c (Hn - c) x (x + c) + cnt L x else AA L c (Hn - c) x k)) := by
      rw [List.getElem?_set_self hlm]
    rw [aug_getI (k := x + (Hn - c)) (by omega) e3 (cfD_get (by omega))]
    simp only [wp_ok, wp_varS, wp_var0]
    rw [aug_setI (k := x + (Hn - c)) (by omega) e3 (by rw [cfD_len]; omega), cfD_set]
    simp only [wp_ok, kLoop]
    refine ⟨x + 1, _, _, rfl, by omega, rfl, Sm_set (Sm_set s' hnew) hnew, ?_⟩
    rw [List.getElem?_set_self (by simpa using hlm)]
    congr 2
    refine cfD_congr fun k _ => ?_
    rw [← AA_step]
    by_cases z1 : k = x + (Hn - c)
    · rw [if_pos z1, if_pos z1]
      subst z1
      by_cases z2 : x + (Hn - c) = x + c
      · rw [if_pos z2, if_pos z2, z2]
      · rw [if_neg z2, if_neg z2]
    · rw [if_neg z1, if_neg z1]
      by_cases z2 : k = x + c
      · rw [if_pos z2, if_pos z2, z2]
      · rw [if_neg z2, if_neg z2]
  · rintro ρ h' ⟨t, y, y', ex, ht, rfl, s', e'⟩
    have : t = n := drop_nil ht ex.symm
    subst this
    simp [s']
    rw [e']
    congr 2
    exact cfD_congr fun k _ => by rw [AA_end hL]
theorem tot_succ {j : Nat} {Hn : Int} {c : Nat → Int} {C : Nat → Bool} : tot (j + 1) Hn c C = tot j Hn c C + if C j then Hn - c j else c j := by
  unfold tot
  rw [List.range_succ, List.map_append, List.sum_append]
  simp
theorem tot_congr {j : Nat} {Hn : Int} {c : Nat → Int} {C C' : Nat → Bool} (h : ∀ i, i < j → C i = C' i) : tot j Hn c C = tot j Hn c C' := sum_congr fun i hi => by rw [h i (by simpa using hi)]
def wL (j : Nat) (Hn : Int) (c : Nat → Int) : List Int := (LL 0 j).map (tot j Hn c)
theorem wL_succ {j : Nat} {Hn : Int} {c : Nat → Int} : wL (j + 1) Hn c = (wL j Hn c).map (· + c j) ++ (wL j Hn c).map (· + (Hn - c j)) := by
  unfold wL
  rw [LL, List.map_append, List.map_map, List.map_map, List.map_map]
  congr 1
  · exact List.map_congr_left fun C hC => by
      show tot (j + 1) Hn c C = tot j Hn c C + c j
      rw [tot_succ, LL_out hC j (by omega)]
      rfl
  · exact List.map_congr_left fun C hC => by
      show tot (j + 1) Hn c (ext (0 + j) C) = tot j Hn c C + (Hn - c j)
      rw [tot_succ, tot_congr (C := ext (0 + j) C) (C' := C) fun i hi => if_neg (by omega)]
      simp [ext]
theorem wL_bd {Hn : Nat} {c : Nat → Int} (hc : ∀ j, 0 ≤ c j ∧ c j ≤ Hn) : ∀ (j : Nat) (x : Int), x ∈ wL j Hn c → 0 ≤ x ∧ x < ((1 + j * Hn : Nat) : Int)
  | 0, x, hx => by
    simp [wL, LL, tot] at hx
    subst hx
    simp
  | j + 1, x, hx => by
    rw [wL_succ] at hx
    have hm : (((j + 1) * Hn : Nat) : Int) = ((j * Hn : Nat) : Int) + Hn := by rw [Nat.succ_mul]; omega
    have h1 := hc j
    rcases List.mem_append.mp hx with z | z
    · obtain ⟨y, hy, rfl⟩ := List.mem_map.mp z
      have := wL_bd hc j y hy
      omega
    · obtain ⟨y, hy, rfl⟩ := List.mem_map.mp z
      have := wL_bd hc j y hy
      omega
def WoI (h : HD) (W Hn : Nat) (c : Nat → Int) (xs : List Nat) (ρ : Rho) (h' : HD) : Prop := ∃ (j l : Nat) (x : Option D), xs = (List.range W).drop j ∧ j ≤ W ∧ ρ = [some (cntD W c), some (.int (Hn : Nat)), some (.loc l), x] ∧ Sm h h' ∧ h'[l]? = some (.lst (cfD (1 + j * Hn) fun k => cnt (wL j Hn c) k))
theorem wp_ways {h : HD} {W Hn : Nat} {c : Nat → Int} (hW : W ≤ 8) (hH : Hn ≤ 8) (hc : ∀ j, 0 ≤ c j ∧ c j ≤ Hn) :
    ∃ l2 h2, F_ways_of_counts [cntD W c, .int (Hn : Nat)] h = .ok (.loc l2) h2 ∧ Sm h h2 ∧ h2[l2]? = some (.lst (cfD (1 + W * Hn) fun k => cnt (wL W Hn c) k)) := by
  suffices hs : Wp (F_ways_of_counts [cntD W c, .int (Hn : Nat)] h) (fun d h1 => ∃ l2, d = .loc l2 ∧ Sm h h1 ∧ h1[l2]? = some (.lst (cfD (1 + W * Hn) fun k => cnt (wL W Hn c) k))) by
    obtain ⟨d, h1, e, l2, rfl, q⟩ := hs.ex
    exact ⟨l2, h1, e, q⟩
  change Wp (mBody 4 (g_ways_of_counts F_ways_with_column) [cntD W c, .int (Hn : Nat)] h) _
  rw [wp_body]
  simp [-kSeq_nx]
  refine wp_newL (by simp) fun l1 h1 s1 e1 _ _ => ?_
  rw [kSeq_nx, wp_seq]
  refine for_wp (src := []) (xs := List.range W) (fun j => .int (c j)) (WoI h W Hn c) ?_ (fun ys ρ h' i => src0) ?_ ?_
  · simp [cntD]
    refine ⟨0, l1, none, by simp, by omega, rfl, s1, ?_⟩
    rw [e1]
    simp [cfD, wL, LL, cnt, tot, List.range_succ]
  · rintro x xs ρ h' ⟨j, l, y, ex, hj, rfl, s', e'⟩
    obtain ⟨rfl, hj', rfl⟩ := drop_cons ex.symm
    refine ⟨_, rfl, ?_⟩
    obtain ⟨cn, ec⟩ : ∃ cn : Nat, c x = (cn : Int) := ⟨(c x).toNat, by have := hc x; omega⟩
    have hcn : cn ≤ Hn := by have := hc x; omega
    have hm : x * Hn ≤ 64 := Nat.le_trans (Nat.mul_le_mul (show x ≤ 8 by omega) hH) (by decide)
    obtain ⟨l2, h2, e2, s2, el2⟩ := wp_ways_col (c := cn) (Hn := Hn) e' (wL_bd hc x) (by omega) hcn hH
    simp
    rw [ec, e2]
    simp only [wp_ok, kLoop]
    refine ⟨x + 1, l2, _, rfl, by omega, rfl, s'.trans s2, ?_⟩
    rw [el2]
    have en : 1 + x * Hn + Hn = 1 + (x + 1) * Hn := by rw [Nat.succ_mul]; omega
    rw [en, wL_succ, ec, show ((Hn - cn : Nat) : Int) = (Hn : Int) - (cn : Int) from by omega]
  · rintro ρ h' ⟨j, l, y, ex, hj, rfl, s', e'⟩
    have : j = W := drop_nil hj ex.symm
    subst this
    simp [s']
    exact e'

theorem wL_hk {H W : Nat} {f : Nat → Nat → Bool} {R : Nat → Bool} {k : Int} : cnt (wL W H (cc H f R)) k = hk H W f k R := rfl
def LcI (H W : Nat) (f : Nat → Nat → Bool) (h : HD) (ll : Nat) (xs : List (Nat → Bool)) (ρ : Rho) (h' : HD) : Prop := ∃ (ys : List (Nat → Bool)) (l : Nat) (x y z : Option D), LL 1 (H - 1) = ys ++ xs ∧ ρ = [some (bD H W f), some (.int (H : Nat)), some (.loc l), x, y, z] ∧ Sm h h' ∧ h'[ll]? = some (.lst (lwD H W (H - 1) f)) ∧ h'[l]? = some (.lst (cfD (H * W + 1) fun k => (ys.map (hk H W f k)).sum))
theorem wp_left_counts {H W : Nat} {f : Nat → Nat → Bool} {h : HD} (hh : 1 ≤ H ∧ H ≤ 8) (hw : 1 ≤ W ∧ W ≤ 8) : ∃ l2 h2, F_left_counts [bD H W f] h = .ok (.loc l2) h2 ∧ Sm h h2 ∧ h2[l2]? = some (.lst (cfD (H * W + 1) fun k => NN H W f k)) := by
  suffices hs : Wp (F_left_counts [bD H W f] h) (fun d h1 => ∃ l2, d = .loc l2 ∧ Sm h h1 ∧ h1[l2]? = some (.lst (cfD (H * W + 1) fun k => NN H W f k))) by
    obtain ⟨d, h1, e, l2, rfl, q⟩ := hs.ex
    exact ⟨l2, h1, e, q⟩
  have hm : H * W ≤ 64 := Nat.mul_le_mul hh.2 hw.2
  change Wp (mBody 6 (g_left_counts F_need_board F_lots_with_counts F_ways_of_counts) [bD H W f] h) _
  rw [wp_body]
  simp [-kSeq_nx]
  refine (p_need_board hh hw).wp fun h1 s1 => ?_
  rw [kSeq_nx]
  simp [-kSeq_nx, len_bD]
  rw [kSeq_nx]
  simp [-kSeq_nx]
  refine wp_newL (by simp) fun l2 h2 s2 e2 _ _ => ?_
  have ei : ixD (bD H W f) (.int 0) h2 = .ok (rowD W (f 0)) h2 := ix_rng0 (by omega)
  have el : lenD (rowD W (f 0)) h2 = .ok (.int ((W : Nat) : Int)) h2 := by simp [rowD]
  simp [-kSeq_nx, ei, el]
  rw [mul_l (by omega) (by omega)]
  simp [-kSeq_nx]
  rw [show ((H : Int) * (W : Int) + 1) = ((H * W + 1 : Nat) : Int) from by simp, rep_loc e2 (by omega)]
  refine wp_newL (sl128 (by simp; omega)) fun l3 h3 s3 e3 _ _ => ?_
  rw [kSeq_nx, wp_seq]
  obtain ⟨ll, h4, e4, s4, el4⟩ := wp_lots (f := f) (h := h3) hh hw
  refine for_wp (src := [(ll, lwD H W (H - 1) f)]) (xs := LL 1 (H - 1)) (fun R => .tup [lotD (H - 1 + 1) R, cntD W (cc H f R)]) (LcI H W f h ll) ?_ (fun ys ρ h' i => ?_) ?_ ?_
  · simp only [wp_iseq, wp_call, wp_cons, wp_nil, wp_var0]
    rw [e4]
    simp [iseq_loc el4]
    refine ⟨rfl, [], l3, none, none, none, rfl, rfl, ((s1.trans s2).trans s3).trans s4, el4, ?_⟩
    rw [s4 _ _ e3]
    congr 2
    unfold cfD
    apply List.ext_getElem
    · simp
    · intro k h1 h2; simp
  · obtain ⟨_, _, _, _, _, _, _, _, z, _⟩ := i
    exact src1 z
  · rintro R xs ρ h' ⟨ys, l, x, y, z, ex, rfl, s', ell, e'⟩
    refine ⟨_, rfl, ?_⟩
    simp [-kSeq_nx]
    obtain ⟨l5, h5, e5, s5, el5⟩ := wp_ways (h := h') (W := W) (Hn := H) (c := cc H f R) hw.2 hh.2 (fun j => rsum_bd)
    rw [e5]
    simp [-kSeq_nx]
    rw [kSeq_nx]
    simp
    have en : 1 + W * H = H * W + 1 := by rw [Nat.mul_comm]; omega
    rw [en] at el5
    refine comp_wp (src := [(l, cfD (H * W + 1) fun k => (ys.map (hk H W f k)).sum)] ++ [(l5, cfD (H * W + 1) fun k => cnt (wL W H (cc H f R)) k)]) (xs := List.range (H * W + 1)) (φ := fun k => .tup [.int (ys.map (hk H W f ((k : Nat) : Int))).sum, .int (cnt (wL W H (cc H f R)) ((k : Nat) : Int))]) (fun _ => true) (fun k => .int ((ys.map (hk H W f ((k : Nat) : Int))).sum + cnt (wL W H (cc H f R)) ((k : Nat) : Int))) (fun k => [some (.int (ys.map (hk H W f ((k : Nat) : Int))).sum), some (.int (cnt (wL W H (cc H f R)) ((k : Nat) : Int)))]) ?_ (sl128 (by simp; omega)) (fun k _ => rfl) (fun k _ h2 s2 => (.ok : Pu (.ok true h2) h2 true)) (fun k _ _ h2 s2 => ?_) fun l6 h6 s6 e6 => ?_
    · simp
      rw [zip_ok (seq_loc (s5 _ _ e')) (seq_loc el5)]
      refine ⟨rfl, .refl _, fun h7 s7 p hp => ?_⟩
      rcases List.mem_cons.mp hp with hp | hp
      · subst hp
        exact s7 _ _ (s5 _ _ e')
      · rw [List.mem_singleton] at hp
        subst hp
        exact s7 _ _ el5
    · simp [Pu, Sm.refl]
    · rw [filter_tt] at e6
      simp only [kLoop]
      refine ⟨ys ++ [R], l6, _, _, _, by rw [ex]; simp, rfl, s'.trans (s5.trans s6), s6 _ _ (s5 _ _ ell), ?_⟩
      rw [e6]
      congr 2
      refine List.map_congr_left fun k _ => ?_
      dsimp only
      rw [List.map_append, List.sum_append, wL_hk]
      simp
  · rintro ρ h' ⟨ys, l, x, y, z, ex, rfl, s', ell, e'⟩
    simp [s']
    rw [e']
    have : LL 1 (H - 1) = ys := by rw [ex]; simp
    subst this
    rfl
end LK

namespace LK
open PySem PySem.Spec PyProof.Rows L2 LS
section
variable {h : HD}
theorem sl_lo {xs : List D} {k : Nat} (hk : k < xs.length) : slD (.tup xs) none (some (k : Int)) h = .ok (.tup (xs.take k)) h := by
  simp only [slD, HT.sIx_nat, HT.sIx_none]
  rw [if_neg (by omega)]
  unfold LS.cutD
  rw [HT.sIx_nat, HT.sIx_none, List.drop_zero, show min k xs.length - 0 = k from by omega]
theorem sl_hi {xs : List D} {k : Nat} {i : Int} (hi : i = ((k + 1 : Nat) : Int)) (hk : k < xs.length) : slD (.tup xs) (some i) none h = .ok (.tup (xs.drop (k + 1))) h := by
  subst hi
  simp only [slD, HT.sIx_nat, HT.sIx_none]
  rw [if_neg (by omega)]
  unfold LS.cutD
  rw [HT.sIx_nat, HT.sIx_none, show min (k + 1) xs.length = k + 1 from by omega]
  congr 2
  rw [List.take_of_length_le (by simp)]
theorem put_rng {n k : Nat} {e : Nat → D} {d : D} (hk : k < n) : ((List.range n).map e).take k ++ [d] ++ ((List.range n).map e).drop (k + 1) = (List.range n).map fun i => if i = k then d else e i := by
  apply List.ext_getElem
  · simp; omega
  · intro i h1 h2
    simp at h2
    by_cases z1 : i < k
    · rw [List.getElem_append_left (by simp; omega), List.getElem_append_left (by simp; omega)]
      simp [show ¬ i = k by omega]
    · by_cases z2 : i = k
      · subst z2
        rw [List.getElem_append_left (by simp; omega), List.getElem_append_right (by simp; omega)]
        simp
      · rw [List.getElem_append_right (by simp; omega)]
        simp [z2]
        congr 1
        omega
theorem sum_loc {l n : Nat} {m : Nat → Int} (e : h[l]? = some (.lst (cfD n m))) : sumD (.loc l) h = .ok (.int ((List.range n).map m).sum) h := by
  simp only [sumD, itemsD, e, cfD, List.map_map]
  rw [allSome_map (f := asInt ∘ fun x => D.int (m x)) (g := m) (fun x _ => rfl)]
theorem sl_loc {l n k : Nat} {m : Nat → Int} (e : h[l]? = some (.lst (cfD n m))) (hk : k ≤ n) (hn : n ≤ 1000) : slD (.loc l) none (some (k : Int)) h = newL (cfD k m) h := by
  simp only [slD, e]
  rw [if_pos (sl128 (by rw [cfD_len]; exact hn))]
  congr 1
  unfold LS.cutD
  rw [HT.sIx_nat, HT.sIx_none, List.drop_zero, cfD_len, show min k n - 0 = k from by omega]
  unfold cfD
  rw [← List.map_take, List.take_range, Nat.min_eq_left hk]
theorem dpy_cf {l n : Nat} {m : Nat → Int} (e : h[l]? = some (.lst (cfD n m))) : dPy h 8 (.loc l) = some (.list ((List.range n).map fun k => PyData.int (m k))) := by
  simp only [dPy, e, cfD, List.map_map]
  rw [allSome_map (f := dPy h 7 ∘ fun k => D.int (m k)) (g := fun k => PyData.int (m k)) (fun x _ => rfl)]
  rfl
theorem ne_cf {a b n : Nat} {m : Nat → Int} (ea : h[a]? = some (.lst (cfD n m))) (eb : h[b]? = some (.lst (cfD n m))) : neD (.loc a) (.loc b) h = .ok (.bl false) h := by
  have sh : SeqAt.shaped (PyData.list ((List.range n).map fun k => PyData.int (m k))) = true := by
    unfold SeqAt.shaped
    have h1 : PyData.canLay0 (.list ((List.range n).map fun k => PyData.int (m k))) = true := by rw [PyData.canLay0]; exact lay_map fun x _ => rfl
    have h2 : PyData.depth (.list ((List.range n).map fun k => PyData.int (m k))) ≤ 1 := by rw [PyData.depth]; exact Nat.succ_le_succ (depth_map fun x _ => Nat.le_refl _)
    rw [h1]
    simp
    omega
  simp only [neD, cmpDat, dpy_cf ea, dpy_cf eb]
  rw [if_pos ⟨sh, sh⟩, SeqAt.eqv_refl _ (SeqAt.canLay_of_shaped sh)]
  rfl
theorem ix_cf {l n k : Nat} {m : Nat → Int} {i : Int} (hi : i = (k : Int)) (e : h[l]? = some (.lst (cfD n m))) (hk : k < n) : ixD (.loc l) (.int i) h = .ok (.int (m k)) h := by
  subst hi; exact ix_loc e (cfD_get hk)
end
theorem tt_nat {H W : Nat} {f : Nat → Nat → Bool} {R C : Nat → Bool} : ∃ k : Nat, TT H W f R C = (k : Int) ∧ k ≤ H * W := by
  have := TT_bd (H := H) (W := W) (f := f) (R := R) (C := C)
  refine ⟨(TT H W f R C).toNat, by omega, ?_⟩
  have h2 := this.2
  have : ((H * W : Nat) : Int) = H * W := by simp
  omega
theorem lit_TT {H W : Nat} {f : Nat → Nat → Bool} : ((List.range H).map fun i => rsum W (f i)).sum = TT H W f (fun _ => false) (fun _ => false) := by
  rw [← TT_lit]
  exact sum_congr fun i _ => rsum_congr fun j _ => by simp
theorem lotD_none {H : Nat} : lotD H (fun _ => false) = .tup [] := by simp [lotD]
theorem for_open {it : MI} {sg : MG} {body : MS} {ρ : Rho} {h : HD} {Q : Fl × Rho → HD → Prop} (hi : Wp (it ρ h) fun x h1 => Wp (loopM x.2 x.1 sg body x.1 ρ h1) Q) : Wp (mFor it sg body ρ h) Q := by
  unfold mFor; rw [wp_bind]; exact hi
def RwI (H W : Nat) (f : Nat → Nat → Bool) (h : HD) (a : List (Option D)) (b : List (Option D)) (xs : List (Nat → Bool)) (ρ : Rho) (h' : HD) : Prop := ∃ x y : Option D, ρ = a ++ [x, y] ++ b ∧ Sm h h'
theorem law_true : ∀ ns : List Int, ns.length ≤ 63 → (∀ i ∈ ns, Builtin.Int.intBits i ≤ 2 ^ 20) → ∃ h', F_law [.scr ns] [] = .ok (.bl true) h' := by
  intro ns _ hb
  suffices hw : Wp (F_law [.scr ns] []) (fun d _ => d = .bl true) by
    obtain ⟨d, h', e, rfl⟩ := hw.ex
    exact ⟨h', e⟩
  change Wp (mBody 15 (g_law F__law_box F__law_take F__law_board F__law_lot F_left_many F_switched F_turned F_best_columns F_left_by F_lit_many F_best_switching F_is_best F_left_counts F_alike_many) [.scr ns] []) _
  rw [wp_body]
  rw [wp_seq]
  obtain ⟨n, hn, en⟩ : ∃ n : Nat, n ≤ 5 ∧ (if (if (4 : Int) < ns.length then (4 : Int) else ns.length) > 1 then (if (4 : Int) < ns.length then (4 : Int) else ns.length) else 1) = (n : Int) := by
    refine ⟨(if (if (4 : Int) < ns.length then (4 : Int) else ns.length) > 1 then (if (4 : Int) < ns.length then (4 : Int) else ns.length) else 1).toNat, ?_, ?_⟩ <;> split <;> split <;> omega
  refine for_wp (src := []) (xs := List.range n) (fun i => .int ((i : Nat) : Int)) (fun xs ρ h' => (∃ (a1 a2 a3 a4 a5 a6 a7 a8 a9 b0 b1 b2 b3 b4 : Option D), ρ = [some (.scr ns), a1, a2, a3, a4, a5, a6, a7, a8, a9, b0, b1, b2, b3, b4]) ∧ ∀ j ∈ xs, j < 5) ?_ (fun ys ρ h' _ => src0) ?_ ?_
  · simp [-gt_iff_lt]
    rw [en, rng1_ok (by omega)]
    simp
    intro j hj
    omega
  · rintro k xs ρ h ⟨⟨a1, a2, a3, a4, a5, a6, a7, a8, a9, b0, b1, b2, b3, b4, rfl⟩, hx⟩
    refine ⟨_, rfl, ?_⟩
    have hx' : ∀ j ∈ xs, j < 5 := fun j hj => hx j (List.mem_cons_of_mem _ hj)
    have hk : k ≤ 1000 := by have := hx k List.mem_cons_self; omega
    rw [wp_seq]
    simp [-kSeq_nx]
    refine wp_box hb hk fun b h1 x1 => ?_
    rw [kSeq_nx]
    simp [-kSeq_nx]
    refine wp_take x1 (by decide) (by decide) fun d1 h2 l1 u1 x2 _ => ?_
    simp [-kSeq_nx]
    refine wp_take x2 (by decide) (by decide) fun d2 h3 l2 u2 x3 _ => ?_
    obtain ⟨H, hH, eH⟩ : ∃ H : Nat, (1 ≤ H ∧ H ≤ 8) ∧ 1 + d1 = (H : Int) := ⟨(1 + d1).toNat, by omega, by omega⟩
    obtain ⟨W, hW, eW⟩ : ∃ W : Nat, (1 ≤ W ∧ W ≤ 8) ∧ 1 + d2 = (W : Int) := ⟨(1 + d2).toNat, by omega, by omega⟩
    simp [-kSeq_nx, eH, eW]
    rw [kSeq_nx]
    simp [-kSeq_nx]
    refine wp_board x3 hH hW fun f h4 x4 => ?_
    rw [kSeq_nx]
    simp [-kSeq_nx]
    refine (p_left_many hH hW).wp fun h5 s5 => ?_
    refine wp_lot (x4.sm s5) hH.2 fun p h6 x6 => ?_
    refine wp_lot x6 hW.2 fun q h7 x7 => ?_
    rw [kSeq_nx]
    change Wp (mSeq (mIfS _ _ _) _ [some (.scr ns), some (.int (k : Nat)), some (.loc b), some (.int (H : Nat)), some (.int (W : Nat)), some (bD H W f), some (.int (left H W f)), some (swD H W p q), a8, a9, b0, b1, b2, b3, b4] h7) _
    simp [-kSeq_nx]
    refine (p_switched hH hW).wp fun h8 s8 => ?_
    refine (p_left_many hH hW).wp fun h9 s9 => ?_
    rw [left_sw hH.1]
    simp [-kSeq_nx]
    refine (p_turned hH hW).wp fun h10 s10 => ?_
    refine (p_left_many hW hH).wp fun h11 s11 => ?_
    rw [left_turn hH.1 hW.1]
    simp [-kSeq_nx]
    rw [kSeq_nx]
    have x11 : BoxAt h11 b := (((x7.sm s8).sm s9).sm s10).sm s11
    -- rows
    rw [wp_seq]
    refine for_open ?_
    simp only [wp_iseq, wp_lst, wp_cons, wp_nil, wp_op, wp_varS, wp_var0, wp_c, swD, ix_pair0, wp_ok, wp_tup, List.length_nil, sz0, if_true, wp_call]
    refine wp_lot x11 hH.2 fun p' h12 x12 => ?_
    refine wp_newL (by simp) fun lq h13 s13 e13 _ _ => ?_
    rw [iseq_loc e13, wp_ok]
    have x13 : BoxAt h13 b := x12.sm s13
    rw [show ([lotD H p, D.tup [], lotD H p'] : List D) = [p, fun _ => false, p'].map (lotD H) from by simp [lotD_none]] at e13 ⊢
    refine loop_wp (lotD H) (RwI H W f h13 [some (.scr ns), some (.int (k : Nat)), some (.loc b), some (.int (H : Nat)), some (.int (W : Nat)), some (bD H W f), some (.int (left H W f)), some (swD H W p q)] [b0, b1, b2, b3, b4]) (fun ys ρ h' i => ?_) ?_ ?_ _ _ _ ⟨a8, a9, rfl, .refl _⟩
    · obtain ⟨_, _, _, s'⟩ := i
      exact src1 (s' _ _ e13)
    · rintro R ys ρ h' ⟨y1, y2, rfl, s'⟩
      refine ⟨_, rfl, ?_⟩
      simp [-kSeq_nx]
      refine (p_best_columns hH hW).wp fun t1 r1 => ?_
      refine (p_switched (p := R) (q := fuc H (cc H f R)) hH hW).wp fun t2 r2 => ?_
      rw [kSeq_nx]
      simp
      refine (p_left_by hH hW).wp fun t3 r3 => ?_
      have hle : ¬ few W H (cc H f R) < left H W f := by
        have := left_le (W := W) (f := f) hH.1 R (fuc H (cc H f R))
        unfold TT at this
        rw [tot_fuc] at this
        omega
      simp [hle]
      refine (p_lit_many hH hW).wp fun t4 r4 => ?_
      refine (p_left_by hH hW).wp fun t5 r5 => ?_
      have e1 : TT H W f R (fuc H (cc H f R)) = few W H (cc H f R) := tot_fuc
      rw [TT_lit, e1]
      simp
      simp only [kLoop]
      exact ⟨_, _, rfl, s'.trans (r1.trans (r2.trans (r3.trans (r4.trans r5))))⟩
    rintro ρ h14 ⟨y1, y2, rfl, s14⟩
    have x14 : BoxAt h14 b := x13.sm s14
    rw [kSeq_nx]
    change Wp (mSeq (mSet 10 _) _ [some (.scr ns), some (.int (k : Nat)), some (.loc b), some (.int (H : Nat)), some (.int (W : Nat)), some (bD H W f), some (.int (left H W f)), some (swD H W p q), y1, y2, b0, b1, b2, b3, b4] h14) _
    -- best_switching
    obtain ⟨R0, hR0, eR0, pR0⟩ := p_best_switching (f := f) hH hW
    have eb : TT H W f R0 (fuc H (cc H f R0)) = left H W f := by rw [← eR0]; exact tot_fuc
    simp [-kSeq_nx]
    refine (pR0 h14).wp fun h15 s15 => ?_
    rw [kSeq_nx]
    simp [-kSeq_nx]
    refine (p_switched hH hW).wp fun h16 s16 => ?_
    refine (p_lit_many hH hW).wp fun h17 s17 => ?_
    rw [TT_lit, eb]
    simp [-kSeq_nx]
    refine (p_is_best hH hW).wp fun h18 s18 => ?_
    rw [eb]
    simp [-kSeq_nx]
    rw [kSeq_nx]
    simp [-kSeq_nx]
    refine (p_is_best hH hW).wp fun h19 s19 => ?_
    refine (p_switched hH hW).wp fun h20 s20 => ?_
    refine (p_lit_many hH hW).wp fun h21 s21 => ?_
    rw [TT_lit]
    simp [-kSeq_nx]
    rw [kSeq_nx]
    have x21 : BoxAt h21 b := ((((((x14.sm s15).sm s16).sm s17).sm s18).sm s19).sm s20).sm s21
    -- left_counts
    obtain ⟨lc, h22, e22, s22, el22⟩ := wp_left_counts (f := f) (h := h21) hH hW
    simp [-kSeq_nx]
    rw [e22]
    simp [-kSeq_nx]
    rw [kSeq_nx]
    simp [-kSeq_nx]
    obtain ⟨m, em, hm⟩ : ∃ m : Nat, left H W f = (m : Int) ∧ m ≤ H * W := by
      obtain ⟨R, C, e⟩ := left_ex (H := H) (W := W) f
      rw [← e]
      exact tt_nat
    have h64 : H * W ≤ 64 := Nat.mul_le_mul hH.2 hW.2
    rw [em, sl_loc el22 (by omega) (by omega)]
    refine wp_newL (sl128 (by rw [cfD_len]; omega)) fun l23 h23 s23 e23 _ _ => ?_
    rw [sum_loc e23]
    have zs : ((List.range m).map fun k => NN H W f ((k : Nat) : Int)).sum = 0 := by
      rw [show ((List.range m).map fun k => NN H W f ((k : Nat) : Int)) = (List.range m).map fun _ => (0 : Int) from List.map_congr_left fun k hk => NN_low hH.1 (by
        have : k < m := by simpa using hk
        omega)]
      exact sum_zero
    rw [zs]
    simp [-kSeq_nx]
    rw [ix_cf (k := m) rfl (s23 _ _ el22) (by omega)]
    have pm : NN H W f (m : Int) ≠ 0 := by
      have := NN_pos (W := W) (f := f) (C := fuc H (cc H f R0)) hR0
      rw [eb, em] at this
      omega
    simp [-kSeq_nx, pm]
    rw [sum_loc (s23 _ _ el22)]
    simp [-kSeq_nx]
    refine (p_alike_many hH hW).wp fun h24 s24 => ?_
    rw [NN_all]
    simp [-kSeq_nx]
    rw [kSeq_nx]
    -- lit, and the counts again
    simp [-kSeq_nx]
    refine (p_lit_many hH hW).wp fun h25 s25 => ?_
    rw [lit_TT]
    obtain ⟨m2, em2, hm2⟩ := tt_nat (H := H) (W := W) (f := f) (R := fun _ => false) (C := fun _ => false)
    have el25 := s25 _ _ (s24 _ _ (s23 _ _ el22))
    rw [ix_cf (k := m2) em2 el25 (by omega)]
    have pm2 : NN H W f (m2 : Int) ≠ 0 := by
      obtain ⟨R', hR', eR'⟩ := LL_has (s := 1) (fun _ => false) (H - 1)
      have := NN_pos (W := W) (f := f) (C := fun _ => false) hR'
      rw [TT_congr (R := R') (R' := fun _ => false) (C' := fun _ => false) (fun i hi => by
        by_cases hz : i = 0
        · rw [hz]; exact LL_out hR' 0 (by omega)
        · exact eR' i (by omega) (by omega)) (fun _ _ => rfl), em2] at this
      omega
    simp [-kSeq_nx, pm2]
    refine (p_switched hH hW).wp fun h26 s26 => ?_
    obtain ⟨ld, h27, e27, s27, el27⟩ := wp_left_counts (f := fun i j => Bool.xor (f i j) (Bool.xor (p i) (q j))) (h := h26) hH hW
    rw [e27]
    have ec : cfD (H * W + 1) (fun k => NN H W (fun i j => Bool.xor (f i j) (Bool.xor (p i) (q j))) k) = cfD (H * W + 1) fun k => NN H W f k := cfD_congr fun k _ => NN_sw hH.1
    rw [ec] at el27
    simp [-kSeq_nx]
    rw [ne_cf el27 (s27 _ _ (s26 _ _ el25))]
    simp [-kSeq_nx]
    rw [kSeq_nx]
    have x27 : BoxAt h27 b := (((((x21.sm s22).sm s23).sm s24).sm s25).sm s26).sm s27
    -- a light
    simp [-kSeq_nx]
    refine wp_take x27 (by omega) (by omega) fun da h28 la ua x28 _ => ?_
    refine wp_take x28 (by omega) (by omega) fun db h29 lb ub x29 _ => ?_
    rw [kSeq_nx]
    obtain ⟨A0, rfl, hA⟩ : ∃ A0 : Nat, da = (A0 : Int) ∧ A0 < H := ⟨da.toNat, by omega, by omega⟩
    obtain ⟨B0, rfl, hB⟩ : ∃ B0 : Nat, db = (B0 : Int) ∧ B0 < W := ⟨db.toNat, by omega, by omega⟩
    have i1 : ∀ h, ixD (bD H W f) (.int (A0 : Nat)) h = .ok (rowD W (f A0)) h := fun h => ix_rng hA
    have i2 : ∀ h, ixD (rowD W (f A0)) (.int (B0 : Nat)) h = .ok (lit (f A0 B0)) h := fun h => ix_rng hB
    have sb : ∀ h, subD (.int 1) (lit (f A0 B0)) h = .ok (lit (!f A0 B0)) h := fun h => by cases f A0 B0 <;> rfl
    have q1 : ∀ h, slD (rowD W (f A0)) none (some ((B0 : Nat) : Int)) h = .ok (.tup (((List.range W).map fun j => lit (f A0 j)).take B0)) h := fun h => sl_lo (by simpa using hB)
    have q2 : ∀ h, slD (rowD W (f A0)) (some (((B0 : Nat) : Int) + 1)) none h = .ok (.tup (((List.range W).map fun j => lit (f A0 j)).drop (B0 + 1))) h := fun h => sl_hi (by omega) (by simpa using hB)
    have q3 : ∀ h, slD (bD H W f) none (some ((A0 : Nat) : Int)) h = .ok (.tup (((List.range H).map fun i => rowD W (f i)).take A0)) h := fun h => sl_lo (by simpa using hA)
    have q4 : ∀ h, slD (bD H W f) (some (((A0 : Nat) : Int) + 1)) none h = .ok (.tup (((List.range H).map fun i => rowD W (f i)).drop (A0 + 1))) h := fun h => sl_hi (by omega) (by simpa using hA)
    rw [wp_seq, wp_set]
    simp only [wp_op, wp_slice, wp_noPart, wp_part, wp_varS, wp_var0, wp_c, i1, wp_ok, q1, i2, sb, wp_tup, wp_cons, wp_nil, add_ii, q2, List.length_cons, List.length_nil, sz1, if_true, Nat.zero_add]
    rw [add_tup (sl128 (by simp; omega))]
    simp only [wp_ok]
    rw [add_tup (sl128 (by simp; omega))]
    simp only [wp_ok]
    rw [put_rng hB, kSeq_nx]
    have er : D.tup ((List.range W).map fun i => if i = B0 then lit (!f A0 B0) else lit (f A0 i)) = rowD W fun j => if j = B0 then !f A0 B0 else f A0 j := by
      unfold rowD
      congr 1
      exact List.map_congr_left fun j _ => by dsimp only; split <;> rfl
    rw [er]
    change Wp (mIfS _ _ _ [some (.scr ns), some (.int (k : Nat)), some (.loc b), some (.int (H : Nat)), some (.int (W : Nat)), some (bD H W f), some (.int (m : Nat)), some (swD H W p q), y1, y2, some (swD H W R0 (fuc H (cc H f R0))), some (.loc lc), some (.int (A0 : Nat)), some (.int (B0 : Nat)), some (rowD W fun j => if j = B0 then !f A0 B0 else f A0 j)] h29) _
    rw [wp_ifS, wp_not, wp_tb, wp_chain]
    simp only [wp_neg, negK_i, wp_op, wp_call, wp_slice, wp_noPart, wp_part, wp_varS, wp_var0, wp_c, wp_ok, q3, q4, wp_tup, wp_cons, wp_nil, add_ii, List.length_cons, List.length_nil, sz1, if_true, Nat.zero_add]
    rw [add_tup (sl128 (by simp; omega))]
    simp only [wp_ok]
    rw [add_tup (sl128 (by simp; omega))]
    simp only [wp_ok]
    rw [put_rng hA]
    have eb2 : D.tup ((List.range H).map fun i => if i = A0 then rowD W fun j => if j = B0 then !f A0 B0 else f A0 j else rowD W (f i)) = bD H W fun i => if i = A0 then fun j => if j = B0 then !f A0 B0 else f A0 j else f i := by
      unfold bD
      congr 1
      exact List.map_congr_left fun i _ => by dsimp only; split <;> rfl
    rw [eb2]
    refine (p_left_many hH hW).wp fun h30 s30 => ?_
    have df : ∀ i j, ¬ (i = A0 ∧ j = B0) → (if i = A0 then fun j => if j = B0 then !f A0 B0 else f A0 j else f i) j = f i j := fun i j hn => by
      by_cases hi : i = A0
      · subst hi
        rw [if_pos rfl]
        exact if_neg fun hj => hn ⟨rfl, hj⟩
      · rw [if_neg hi]
    have n1 := left_near (W := W) (f := fun i => if i = A0 then fun j => if j = B0 then !f A0 B0 else f A0 j else f i) (f' := f) hH.1 A0 B0 df
    have n2 := left_near (W := W) (f := f) (f' := fun i => if i = A0 then fun j => if j = B0 then !f A0 B0 else f A0 j else f i) hH.1 A0 B0 fun i j hn => (df i j hn).symm
    rw [em] at n1 n2
    generalize left H W (fun i => if i = A0 then fun j => if j = B0 then !f A0 B0 else f A0 j else f i) = g at n1 n2
    have c1 : (-1 : Int) ≤ g - m := by omega
    have c2 : g - (m : Int) ≤ 1 := by omega
    simp [c1, c2, wp_bind, kLoop]
    exact hx'
  · rintro ρ h ⟨⟨a1, a2, a3, a4, a5, a6, a7, a8, a9, b0, b1, b2, b3, b4, rfl⟩, _⟩
    simp
end LK

open PySem PySem.W PyProof.Rows
set_option maxRecDepth 100000 in
set_option maxHeartbeats 0 in
theorem PySem.Challenge.cw_lineswitch_k34_whole_what_is_left_holds : PySem.Challenge.rw_lineswitch_k34_whole_what_is_left.Holds := by
  w_on; o_law; k_head; (case hw => w_witness2)
  k_fill
  refine LS.walk_bits (l := PySem.Challenge.rw_lineswitch_k34_whole_what_is_left) (n := 63) (k := 12) (x := "_law_script") (F := LK.F_law) rfl (by decide) rfl ⟨rfl, by decide, by decide⟩ (fun w h Y => PySem.W.kIn_of Y) ?F ?S
  case S => exact LK.law_true
  case F =>
    intro w mg fa h KX G hmg
    refine' LK.all_mk KX G hmg ?a_is_whole ?l_is_whole ?c_is_whole ?k_is_whole ?a_is_line_tuple ?l_is_line_tuple ?c_is_line_tuple ?k_is_line_tuple ?a_row_switched ?l_row_switched ?c_row_switched ?k_row_switched ?a_counts_with_row ?l_counts_with_row ?c_counts_with_row ?k_counts_with_row ?a_fewest_lit ?l_fewest_lit ?c_fewest_lit ?k_fewest_lit ?a_fuller_columns ?l_fuller_columns ?c_fuller_columns ?k_fuller_columns ?a_ways_with_column ?l_ways_with_column ?c_ways_with_column ?k_ways_with_column ?a__law_cell ?l__law_cell ?c__law_cell ?k__law_cell ?a__law_mix ?l__law_mix ?c__law_mix ?k__law_mix ?a__law_take ?l__law_take ?c__law_take ?k__law_take ?a_is_between ?l_is_between ?c_is_between ?k_is_between ?a_is_lot ?l_is_lot ?c_is_lot ?k_is_lot ?a_ways_of_counts ?l_ways_of_counts ?c_ways_of_counts ?k_ways_of_counts ?a__law_box ?l__law_box ?c__law_box ?k__law_box ?a__law_wide_box ?l__law_wide_box ?c__law_wide_box ?k__law_wide_box ?a__law_lot ?l__law_lot ?c__law_lot ?k__law_lot ?a_is_light ?l_is_light ?c_is_light ?k_is_light ?a__law_board ?l__law_board ?c__law_board ?k__law_board ?a_is_row ?l_is_row ?c_is_row ?k_is_row ?a_is_board ?l_is_board ?c_is_board ?k_is_board ?a_need_board ?l_need_board ?c_need_board ?k_need_board ?a_row_counts ?l_row_counts ?c_row_counts ?k_row_counts ?a_is_switching ?l_is_switching ?c_is_switching ?k_is_switching ?a_turned ?l_turned ?c_turned ?k_turned ?a_alike_many ?l_alike_many ?c_alike_many ?k_alike_many ?a_lit_many ?l_lit_many ?c_lit_many ?k_lit_many ?a_column_counts ?l_column_counts ?c_column_counts ?k_column_counts ?a_need_switching ?l_need_switching ?c_need_switching ?k_need_switching ?a_switched ?l_switched ?c_switched ?k_switched ?a_lots_with_counts ?l_lots_with_counts ?c_lots_with_counts ?k_lots_with_counts ?a_counts_by ?l_counts_by ?c_counts_by ?k_counts_by ?a_left_many ?l_left_many ?c_left_many ?k_left_many ?a_best_columns ?l_best_columns ?c_best_columns ?k_best_columns ?a_left_by ?l_left_by ?c_left_by ?k_left_by ?a_left_counts ?l_left_counts ?c_left_counts ?k_left_counts ?a_best_switching ?l_best_switching ?c_best_switching ?k_best_switching ?a_is_best ?l_is_best ?c_is_best ?k_is_best ?a_law ?l_law ?c_law ?k_law ?z_all ?z_bool ?z_divmod ?z_enumerate ?z_int ?z_isinstance ?z_len ?z_max ?z_min ?z_range ?z_sum ?z_tuple ?z_zip ?v_MOST_LINES
    (case a_is_whole => k_is)
    (case l_is_whole => k_is)
    (case c_is_whole => k_is)
    (case k_is_whole => k_is)
    (case a_is_line_tuple => k_is)
    (case l_is_line_tuple => k_is)
    (case c_is_line_tuple => k_is)
    (case k_is_line_tuple => k_is)
    (case a_row_switched => k_is)
    (case l_row_switched => k_is)
    (case c_row_switched => k_is)
    (case k_row_switched => k_is)
    (case a_counts_with_row => k_is)
    (case l_counts_with_row => k_is)
    (case c_counts_with_row => k_is)
    (case k_counts_with_row => k_is)
    (case a_fewest_lit => k_is)
    (case l_fewest_lit => k_is)
    (case c_fewest_lit => k_is)
    (case k_fewest_lit => k_is)
    (case a_fuller_columns => k_is)
    (case l_fuller_columns => k_is)
    (case c_fuller_columns => k_is)
    (case k_fuller_columns => k_is)
    (case a_ways_with_column => k_is)
    (case l_ways_with_column => k_is)
    (case c_ways_with_column => k_is)
    (case k_ways_with_column => k_is)
    (case a__law_cell => k_is)
    (case l__law_cell => k_is)
    (case c__law_cell => k_is)
    (case k__law_cell => k_is)
    (case a__law_mix => k_is)
    (case l__law_mix => k_is)
    (case c__law_mix => k_is)
    (case k__law_mix => k_is)
    (case a__law_take => k_is)
    (case l__law_take => k_is)
    (case c__law_take => k_is)
    (case k__law_take => k_is)
    (case a_is_between => k_is)
    (case l_is_between => k_is)
    (case c_is_between => k_is)
    (case k_is_between => k_is)
    (case a_is_lot => k_is)
    (case l_is_lot => k_is)
    (case c_is_lot => k_is)
    (case k_is_lot => k_is)
    (case a_ways_of_counts => k_is)
    (case l_ways_of_counts => k_is)
    (case c_ways_of_counts => k_is)
    (case k_ways_of_counts => k_is)
    (case a__law_box => k_is)
    (case l__law_box => k_is)
    (case c__law_box => k_is)
    (case k__law_box => k_is)
    (case a__law_wide_box => k_is)
    (case l__law_wide_box => k_is)
    (case c__law_wide_box => k_is)
    (case k__law_wide_box => k_is)
    (case a__law_lot => k_is)
    (case l__law_lot => k_is)
    (case c__law_lot => k_is)
    (case k__law_lot => k_is)
    (case a_is_light => k_is)
    (case l_is_light => k_is)
    (case c_is_light => k_is)
    (case k_is_light => k_is)
    (case a__law_board => k_is)
    (case l__law_board => k_is)
    (case c__law_board => k_is)
    (case k__law_board => k_is)
    (case a_is_row => k_is)
    (case l_is_row => k_is)
    (case c_is_row => k_is)
    (case k_is_row => k_is)
    (case a_is_board => k_is)
    (case l_is_board => k_is)
    (case c_is_board => k_is)
    (case k_is_board => k_is)
    (case a_need_board => k_is)
    (case l_need_board => k_is)
    (case c_need_board => k_is)
    (case k_need_board => k_is)
    (case a_row_counts => k_is)
    (case l_row_counts => k_is)
    (case c_row_counts => k_is)
    (case k_row_counts => k_is)
    (case a_is_switching => k_is)
    (case l_is_switching => k_is)
    (case c_is_switching => k_is)
    (case k_is_switching => k_is)
    (case a_turned => k_is)
    (case l_turned => k_is)
    (case c_turned => k_is)
    (case k_turned => k_is)
    (case a_alike_many => k_is)
    (case l_alike_many => k_is)
    (case c_alike_many => k_is)
    (case k_alike_many => k_is)
    (case a_lit_many => k_is)
    (case l_lit_many => k_is)
    (case c_lit_many => k_is)
    (case k_lit_many => k_is)
    (case a_column_counts => k_is)
    (case l_column_counts => k_is)
    (case c_column_counts => k_is)
    (case k_column_counts => k_is)
    (case a_need_switching => k_is)
    (case l_need_switching => k_is)
    (case c_need_switching => k_is)
    (case k_need_switching => k_is)
    (case a_switched => k_is)
    (case l_switched => k_is)
    (case c_switched => k_is)
    (case k_switched => k_is)
    (case a_lots_with_counts => k_is)
    (case l_lots_with_counts => k_is)
    (case c_lots_with_counts => k_is)
    (case k_lots_with_counts => k_is)
    (case a_counts_by => k_is)
    (case l_counts_by => k_is)
    (case c_counts_by => k_is)
    (case k_counts_by => k_is)
    (case a_left_many => k_is)
    (case l_left_many => k_is)
    (case c_left_many => k_is)
    (case k_left_many => k_is)
    (case a_best_columns => k_is)
    (case l_best_columns => k_is)
    (case c_best_columns => k_is)
    (case k_best_columns => k_is)
    (case a_left_by => k_is)
    (case l_left_by => k_is)
    (case c_left_by => k_is)
    (case k_left_by => k_is)
    (case a_left_counts => k_is)
    (case l_left_counts => k_is)
    (case c_left_counts => k_is)
    (case k_left_counts => k_is)
    (case a_best_switching => k_is)
    (case l_best_switching => k_is)
    (case c_best_switching => k_is)
    (case k_best_switching => k_is)
    (case a_is_best => k_is)
    (case l_is_best => k_is)
    (case c_is_best => k_is)
    (case k_is_best => k_is)
    (case a_law => k_is)
    (case l_law => k_is)
    (case c_law => k_is)
    (case k_law => k_is)
    (case z_all => k_is)
    (case z_bool => k_is)
    (case z_divmod => k_is)
    (case z_enumerate => k_is)
    (case z_int => k_is)
    (case z_isinstance => k_is)
    (case z_len => k_is)
    (case z_max => k_is)
    (case z_min => k_is)
    (case z_range => k_is)
    (case z_sum => k_is)
    (case z_tuple => k_is)
    (case z_zip => k_is)
    (case v_MOST_LINES => k_is)

