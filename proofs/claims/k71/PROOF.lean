import PyProof.Rows.All
import Wide.All
import OpenK.AllK
import Wide.FinOn
import Lean
import PyProof.EqAt
import PyProof.EqKinds
import PyProof.TupleCall
import PyProof.ExcBaseAll.ValueError
import PyProof.ZipIter
import KE.KIsAll
import KE.KTryMore
import PyProof.ExcArgsOwn
import PyProof.ExcAttrAll.ValueError
import KE.KLam
import KE.KNestM
import PyProof.NsDelKeeps
import PyProof.Rows.CatchPack
import PyProof.ReprRoads
import PyProof.Rows.FStr
import PyProof.ListRange
import PyProof.CollectIter
import KE.KRevSl
import PyProof.ReprLen
import PySem.Challenge.RW_lineswitch_k71_nets_looked_at
set_option Elab.async false
set_option linter.all false
set_option maxRecDepth 100000

namespace L2
open PySem PySem.Spec PyProof.Rows

noncomputable abbrev Key := Sum Int Str
end L2

namespace L2
open PySem PySem.Spec PyProof.Rows

inductive V where
  | non | bl (b : Bool) | int (i : Int) | str (x : Str) | byt (b : Array UInt8) | flt (b : UInt64) | ref (a : Addr) | ty (n : String)
  deriving DecidableEq

noncomputable def RelV : V → Value → Prop
  | .non, u => u = Value.none
  | .bl b, u => u = Value.bool b
  | .int i, u => ∃ t, u = Value.int i t
  | .str x, u => ∃ t, u = Value.str x t
  | .byt b, u => ∃ t, u = Value.bytes b t
  | .flt b, u => ∃ t, u = Value.float b t
  | .ref a, u => u = Value.ref a
  | .ty n, u => u = Value.type n

noncomputable abbrev Vals : List V → List Value → Prop := Paired RelV
theorem Vals.length {xs : List V} {us : List Value} (r : Vals xs us) : xs.length = us.length := Paired.length r
theorem Vals.get : ∀ {xs : List V} {us : List Value} {i : Nat} {x : V}, Vals xs us → xs[i]? = some x → ∃ u, us[i]? = some u ∧ RelV x u
  | _, _, _, _, .nil, e => by simp at e
  | _, _, 0, _, .cons r _, e => by simp at e; subst e; exact ⟨_, rfl, r⟩
  | _, _, i + 1, x, .cons _ t, e => by
    obtain ⟨u, h1, h2⟩ := Vals.get (i := i) (x := x) t (by simpa using e)
    exact ⟨u, by simpa using h1, h2⟩
theorem Vals.set {x : V} {u : Value} (r : RelV x u) : ∀ {xs : List V} {us : List Value} (i : Nat), Vals xs us → Vals (xs.set i x) (us.set i u)
  | _, _, _, .nil => .nil
  | _, _, 0, .cons _ t => .cons r t
  | _, _, i + 1, .cons q t => .cons q (Vals.set r i t)
theorem Vals.append : ∀ {xs ys : List V} {us ws : List Value}, Vals xs us → Vals ys ws → Vals (xs ++ ys) (us ++ ws)
  | _, _, _, _, .nil, s => s
  | _, _, _, _, .cons r t, s => .cons r (Vals.append t s)
theorem Vals.take : ∀ {xs : List V} {us : List Value} (n : Nat), Vals xs us → Vals (xs.take n) (us.take n)
  | _, _, 0, _ => .nil
  | _, _, _ + 1, .nil => .nil
  | _, _, n + 1, .cons r t => .cons r (Vals.take n t)
theorem Vals.drop : ∀ {xs : List V} {us : List Value} (n : Nat), Vals xs us → Vals (xs.drop n) (us.drop n)
  | _, _, 0, r => r
  | _, _, _ + 1, .nil => .nil
  | _, _, n + 1, .cons _ t => Vals.drop n t
noncomputable def RelO : Option V → Option Value → Prop
  | some v, some u => RelV v u
  | none, none => True
  | _, _ => False
noncomputable def kV : Key → V
  | .inl i => .int i
  | .inr x => .str x

inductive HO where
  | lst (xs : List V)
  | tup (xs : List V)
  | own (x : Addr)
  | xd (fs : List (Str × V))
  | frz (o : Obj) (u : HO)
  | tbl (ps : Array Value)
  | ext (φ : Heap → Prop)

noncomputable abbrev Hp := Addr → Option HO
noncomputable def upd (H : Hp) (a : Addr) (o : HO) : Hp := fun b => if b = a then some o else H b
theorem upd_same {H : Hp} {a : Addr} {o : HO} : upd H a o a = some o := by unfold upd; rw [if_pos rfl]
theorem upd_ne {H : Hp} {a b : Addr} {o : HO} (h : b ≠ a) : upd H a o b = H b := by unfold upd; rw [if_neg h]
theorem ne_of_none {H : Hp} {a b : Addr} {o : HO} (h : H a = some o) (h' : H b = none) : a ≠ b := by
  intro e; subst e; rw [h] at h'; cases h'

section
variable (P : Program) (w : World)
inductive OkLst (h : Heap) (a : Addr) (xs : List V) : Prop where
  | mk (f1 : xs.length ≤ sizeLine) (its : List Value) (n : Nat) (f2 : Vals xs its) (f3 : h.get? a = some { cls := .type "list", data := .seq its.toArray n }) : OkLst h a xs
noncomputable def NoDict (h : Heap) (a : Addr) : Prop := ∀ o, h.get? a = some o → o.dict = none
inductive OkTup (h : Heap) (a : Addr) (xs : List V) : Prop where
  | mk (f1 : xs.length ≤ sizeLine) (its : List Value) (f2 : Vals xs its) (f3 : IsTup h a its.toArray) (f4 : NoDict h a) : OkTup h a xs
theorem NoDict.new {h : Heap} {o : Obj} (hd : o.dict = none := by rfl) (hf : o.isFreed = false := by rfl) : NoDict (h.push o) h.objs.size := fun u e => by
  rw [Heap.get?_push_size _ hf] at e
  cases e
  exact hd
noncomputable def ObjOk (P : Program) (w : World) (H : Hp) (h : Heap) (a : Addr) : HO → Prop
  | .lst xs => OkLst h a xs
  | .tup xs => OkTup h a xs
  | .own _ => ∃ o, h.get? a = some o
  | .xd fs => ∃ mA, h.Ns1 a mA ∧ ∀ f, RelO (fs.lookup f) (mA f)
  | .frz o u => h.get? a = some o ∧ ObjOk P w H h a u
  | .tbl ps => h.get? a = some { cls := .none, data := .fields ps }
  | .ext φ => φ h ∧ (∃ o, h.get? a = some o) ∧ ∀ h1 h2 : Heap, φ h1 → (∀ o, h1.get? a = some o → h2.get? a = some o) → φ h2
noncomputable def HOk (H : Hp) (h : Heap) : Prop := ∀ a o, H a = some o → ObjOk P w H h a o
end

section
variable {P : Program} {w : World} {H H' : Hp} {h h' : Heap} {a : Addr} {o : HO}
theorem ObjOk.lt (x : ObjOk P w H h a o) : a < h.objs.size := by
  cases o with
  | lst xs => obtain ⟨_, _, _, _, e⟩ := x; exact Heap.lt_size e
  | tup xs => obtain ⟨_, _, _, p, _⟩ := x; exact p.lt
  | own y => obtain ⟨_, e⟩ := x; exact Heap.lt_size e
  | xd fs => obtain ⟨_, ⟨_, _, _, e, _⟩, _⟩ := x; exact Heap.lt_size e
  | frz ob u => obtain ⟨e, _⟩ := x; exact Heap.lt_size e
  | tbl ps => exact Heap.lt_size (show h.get? a = some _ from x)
  | ext φ => obtain ⟨_, ⟨_, e⟩, _⟩ := x; exact Heap.lt_size e
theorem ObjOk.stay (x : ObjOk P w H h a o) (k : ∀ b u, (b = a ∨ H b = some (.own a)) → h.get? b = some u → h'.get? b = some u)
    (ho : ∀ b, H b = some (.own a) → H' b = some (.own a)) (ht : ∀ b xs, H b = some (.tup xs) → H' b = some (.tup xs)) : ObjOk P w H' h' a o := by
  induction o with
  | lst xs => obtain ⟨z, its, n, r, e⟩ := x; exact ⟨z, its, n, r, k _ _ (.inl rfl) e⟩
  | tup xs => obtain ⟨z, its, r, ⟨ob, e, c⟩, nd⟩ := x; exact ⟨z, its, r, ⟨ob, k _ _ (.inl rfl) e, c⟩, fun o e2 => by rw [k _ _ (.inl rfl) e] at e2; cases e2; exact nd _ e⟩
  | own y => obtain ⟨ob, e⟩ := x; exact ⟨ob, k _ _ (.inl rfl) e⟩
  | xd fs => obtain ⟨mA, ⟨od, es, ep, e, c⟩, r⟩ := x; exact ⟨mA, ⟨od, es, ep, k _ _ (.inl rfl) e, c⟩, r⟩
  | frz ob u ih => obtain ⟨e, q⟩ := x; exact ⟨k _ _ (.inl rfl) e, ih q⟩
  | tbl ps =>
    have e : h.get? a = some { cls := .none, data := .fields ps } := x
    show h'.get? a = some { cls := .none, data := .fields ps }
    exact k a _ (.inl rfl) e
  | ext φ => obtain ⟨p, ⟨o, e⟩, st⟩ := x; exact ⟨st _ _ p fun o q => k _ _ (.inl rfl) q, ⟨o, k _ _ (.inl rfl) e⟩, st⟩
theorem HOk.lt (x : HOk P w H h) (e : H a = some o) : a < h.objs.size := (x a o e).lt
theorem HOk.fresh (x : HOk P w H h) (e : h.objs.size ≤ a) : H a = none := by
  cases q : H a with
  | none => rfl
  | some u => exact absurd (Nat.lt_of_lt_of_le (x.lt q) e) (Nat.lt_irrefl _)
theorem HOk.kept (x : HOk P w H h) (k : ∀ b u, h.get? b = some u → h'.get? b = some u) : HOk P w H h' := fun a o e =>
  (x a o e).stay (fun b u _ q => k b u q) (fun _ q => q) fun _ _ q => q
theorem HOk.laid (x : HOk P w H h) (k : ∀ b u, h.get? b = some u → h'.get? b = some u) (hp : h.objs.size ≤ a) (new : ObjOk P w (upd H a o) h' a o) : HOk P w (upd H a o) h' := fun b u e => by
  have hn := x.fresh hp
  by_cases hb : b = a
  · subst hb; rw [upd_same] at e; cases e; exact new
  · rw [upd_ne hb] at e
    exact (x b u e).stay (fun c v _ q => k c v q) (fun c q => by rw [upd_ne (ne_of_none q hn)]; exact q) fun c xs q => by rw [upd_ne (ne_of_none q hn)]; exact q
end

noncomputable def Rd (H : Hp) (a : Addr) (u : HO) : Prop := H a = some u ∨ ∃ o, H a = some (.frz o u)
theorem Rd.ok {P : Program} {w : World} {H : Hp} {h : Heap} {a : Addr} {u : HO} (r : Rd H a u) (x : HOk P w H h) : ObjOk P w H h a u := by
  rcases r with r | ⟨o, r⟩
  · exact x a u r
  · obtain ⟨_, q⟩ := x a _ r
    exact q
noncomputable def Mut : Option HO → Prop
  | some (.lst _) => True
  | some (.ext _) => True
  | _ => False
section
variable {P : Program} {w : World} {H : Hp} {h h' : Heap} {x e : Addr} {o' : HO}
theorem HOk.write (ok : HOk P w H h) (mu : Mut (H x)) (he : e = x ∨ H e = some (.own x)) (k : ∀ b u, b ≠ e → h.get? b = some u → h'.get? b = some u) (heo : ∃ u, h'.get? e = some u)
    (new : ObjOk P w (upd H x o') h' x o') : HOk P w (upd H x o') h' := fun b u q => by
  have nown : ∀ c y, H c = some (.own y) → c ≠ x := fun c y r z => by subst z; rw [r] at mu; exact mu
  have ntup : ∀ c xs, H c = some (.tup xs) → c ≠ x := fun c xs r z => by subst z; rw [r] at mu; exact mu
  by_cases hb : b = x
  · subst hb; rw [upd_same] at q; cases q; exact new
  · rw [upd_ne hb] at q
    by_cases hbe : b = e
    · have q' : H b = some (.own x) := by
        rcases he with z | z
        · exact absurd (hbe.trans z) hb
        · rw [hbe]; exact z
      rw [q] at q'; cases q'
      obtain ⟨v, hv⟩ := heo
      exact ⟨v, by rw [hbe]; exact hv⟩
    · refine (ok b u q).stay (fun c v hc r => k c v ?_ r) (fun c r => by rw [upd_ne (nown c b r)]; exact r) fun c xs r => by rw [upd_ne (ntup c xs r)]; exact r
      rcases hc with rfl | hc
      · exact hbe
      · rintro rfl
        rcases he with z | z
        · exact nown c b hc z
        · rw [hc] at z; cases z; exact hb rfl
end


structure Un (fs ex : List Addr) (H H' : Hp) (h h' : Heap) : Prop where
  keep : ∀ b o, h.get? b = some o → H b = none → b ∉ fs → b ∉ ex → h'.get? b = some o
  slot : ∀ b o, h.get? b = some o → H b = none → b ∈ fs → b ∉ ex → ∃ sl, h'.get? b = some { o with slots := sl }
  free : ∀ b o, h.get? b = some o → H b = none → b ∉ ex → H' b = none
  there : ∀ b o, h.get? b = some o → b ∉ ex → ∃ o', h'.get? b = some o'
  tups : ∀ b xs, H b = some (.tup xs) → H' b = some (.tup xs)
  frzs : ∀ b o u, H b = some (.frz o u) → H' b = some (.frz o u)
  tbls : ∀ b ps, H b = some (.tbl ps) → ∃ more, H' b = some (.tbl (ps ++ more))
section
variable {fs fs' ex ex' : List Addr} {H H1 H2 : Hp} {h h1 h2 h' : Heap} {a x e : Addr} {o : HO}
theorem Un.any (u : Un fs ex H H1 h h1) {b : Addr} {ob : Obj} (q : h.get? b = some ob) (n : H b = none) (hx : b ∉ ex) : ∃ sl, h1.get? b = some { ob with slots := sl } := by
  by_cases hb : b ∈ fs
  · exact u.slot b ob q n hb hx
  · exact ⟨ob.slots, u.keep b ob q n hb hx⟩
theorem Un.kept (k : ∀ b u, h.get? b = some u → h'.get? b = some u) : Un fs ex H H h h' :=
  ⟨fun b ob q _ _ _ => k b ob q, fun b ob q _ _ _ => ⟨ob.slots, k b ob q⟩, fun _ _ _ n _ => n, fun b ob q _ => ⟨ob, k b ob q⟩, fun _ _ q => q, fun _ _ _ q => q, fun _ ps q => ⟨#[], by rw [q]; simp⟩⟩
theorem Un.refl : Un fs ex H H h h := Un.kept fun _ _ q => q
theorem Un.laid (k : ∀ b u, h.get? b = some u → h'.get? b = some u) (hp : h.objs.size ≤ a) (hn : H a = none) : Un fs ex H (upd H a o) h h' where
  keep := fun b u q _ _ _ => k b u q
  slot := fun b u q _ _ _ => ⟨u.slots, k b u q⟩
  free := fun b u q n _ => by rw [upd_ne (Nat.ne_of_lt (Nat.lt_of_lt_of_le (Heap.lt_size q) hp))]; exact n
  there := fun b u q _ => ⟨u, k b u q⟩
  tups := fun b xs q => by rw [upd_ne (ne_of_none q hn)]; exact q
  frzs := fun b u xs q => by rw [upd_ne (ne_of_none q hn)]; exact q
  tbls := fun b ps q => ⟨#[], by rw [upd_ne (ne_of_none q hn), q]; simp⟩
theorem Un.write (mu : Mut (H x)) (he : e = x ∨ H e = some (.own x)) (k : ∀ b u, b ≠ e → h.get? b = some u → h'.get? b = some u) (heo : ∃ u, h'.get? e = some u) : Un fs ex H (upd H x o) h h' := by
  have hx : ∀ b, H b = none → b ≠ x := fun b n z => by subst z; rw [n] at mu; exact mu
  have hb : ∀ b, H b = none → b ≠ e := fun b n z => by
    subst z
    rcases he with r | r
    · exact hx b n r
    · rw [n] at r; cases r
  have hm : ∀ b u, H b = some u → ¬ Mut (some u) → b ≠ x := fun b u q nm z => by subst z; rw [q] at mu; exact nm mu
  refine ⟨fun b u q n _ _ => k b u (hb b n) q, fun b u q n _ _ => ⟨u.slots, k b u (hb b n) q⟩, fun b u q n _ => by rw [upd_ne (hx b n)]; exact n, fun b u q _ => ?_,
    fun b xs q => by rw [upd_ne (hm b _ q fun z => z)]; exact q, fun b u xs q => by rw [upd_ne (hm b _ q fun z => z)]; exact q, fun b ps q => ⟨#[], by rw [upd_ne (hm b _ q fun z => z), q]; simp⟩⟩
  by_cases hbe : b = e
  · subst hbe; exact heo
  · exact ⟨u, k b u hbe q⟩
end


noncomputable def trk (h : Heap) (H : Hp) : List Addr := (List.range h.objs.size).filter fun a => (H a).isSome
noncomputable def hidT (h : Heap) (H : Hp) : Heap := PySem.W.hideAll h (trk h H)
theorem hidT_size (h : Heap) (H : Hp) : (hidT h H).objs.size = h.objs.size := PySem.W.hideAll_size _ _
theorem hidT_get {h : Heap} {H : Hp} {b : Addr} {o : Obj} (e : h.get? b = some o) (n : H b = none) : (hidT h H).get? b = some o :=
  PySem.W.hideAll_get _ e fun hm => by
    have q : (H b).isSome = true := (List.mem_filter.mp hm).2
    rw [n] at q; simp at q
theorem of_hidT {h : Heap} {H : Hp} {b : Addr} {o : Obj} (e : (hidT h H).get? b = some o) : h.get? b = some o ∧ H b = none := by
  have e' : h.get? b = some o := PySem.W.of_hideAll (trk h H) e
  refine ⟨e', ?_⟩
  cases q : H b with
  | none => rfl
  | some x =>
    have hm : b ∈ trk h H := List.mem_filter.mpr ⟨List.mem_range.mpr (Heap.lt_size e'), by simp [q]⟩
    have z : (hidT h H).get? b = none := PySem.W.hideAll_none (trk h H) hm
    rw [z] at e; cases e


noncomputable def allNews (g h : Heap) (L : Addr) : List (Addr × Obj) := (List.range h.objs.size).filterMap fun a => if a = L ∨ (g.get? a).isSome = true then none else (h.get? a).map fun o => (a, o)
noncomputable def rest (g h : Heap) (L d : Addr) : List (Addr × Obj) := (allNews g h L).filter fun p => decide (p.1 ≠ d)
end L2

namespace L2
open PySem PySem.Spec PyProof.Rows

structure Mod (K : PySem.W.Frag) (mg : Str → Option Value) (base : Heap) : Prop where
  kin : K.In base
  glob : base.Ns mainGlobals mg
  blt : ∃ mb, base.Ns builtinsNs mb ∧ ∀ x : Str, x ≠ "__name__" → mb x = bootBuiltins x
  nolimit : base.NoLimit

set_option genInjectivity false in
structure Cx where
  prog : Program
  w : World
  K : PySem.W.Frag
  mg : Str → Option Value
  base : Heap
  A : Around
  N : List Str
  s₀ : Shared
  H₀ : Hp
  env : Env
  outer : List Env
  stack : List Env
  ex : List Addr
  fn : Str → Bool
  calm : Bool
  pn : List (Addr × Obj)
  xe : Value → Shared → Prop
noncomputable def frs (l : List Env) : List Addr := l.filterMap (·.frame)
noncomputable abbrev Cx.fs (X : Cx) : List Addr := frs X.outer

noncomputable def Vis (sc : Scope) (x : Str) : Prop := sc.names.lookup x = some .local ∨ sc.names.lookup x = some .cell ∨ sc.names.lookup x = some .free
noncomputable def Loc (sc : Scope) (x : Str) : Prop := sc.names.lookup x = some .local ∨ sc.names.lookup x = some .cell
noncomputable def Look (env : Env) (h : Heap) (m : Str → Option Value) (x : Str) (u : Value) : Prop :=
  (env.kindOf x = some .local ∧ m x = some u) ∨ ((env.kindOf x = some .cell ∨ env.kindOf x = some .free) ∧ ∃ c, env.cells.lookup x = some c ∧ h.IsCell c (some u))

structure Cx.Ok (X : Cx) : Prop where
  mod : Mod X.K X.mg X.base
  kind : X.env.scope.kind = .function
  glob : X.env.globals = mainGlobals
  blt : X.env.builtins = builtinsNs
  above : X.s₀.heap.objs.size ≤ X.env.locals
  inj : ∀ x y c, X.env.cells.lookup x = some c → X.env.cells.lookup y = some c → x = y
  has : ∀ x, (X.env.kindOf x = some .cell ∨ X.env.kindOf x = some .free) → ∃ c, X.env.cells.lookup x = some c
  cab : ∀ x c, X.fn x = true → X.env.cells.lookup x = some c → X.s₀.heap.objs.size ≤ c
  hd : X.calm = true → X.A.handled = none
  frames : X.A.frames = some X.stack
  stk : X.stack = X.outer ∨ (X.stack = X.env :: X.outer ∧ X.env.frame = some X.env.locals)
  exf : ∀ b ∈ X.ex, b ≠ X.env.locals ∧ ∀ x c, X.env.cells.lookup x = some c → c ≠ b
  bs : ∀ b o, X.base.get? b = some o → X.s₀.heap.get? b = some o ∧ X.H₀ b = none
  bsz : X.base.objs.size ≤ X.s₀.heap.objs.size
  noex : ∀ b o, X.base.get? b = some o → b ∉ X.ex
  exfs : ∀ b ∈ X.ex, b ∉ X.fs
  funs : X.s₀.heap.FunFrames X.base X.outer
  frf : ∀ b ∈ X.fs, X.H₀ b = none

structure Inv (X : Cx) (pins : List (Addr × Obj)) (σ : List (Option V)) (H : Hp) (s : Shared) : Prop where
  ok : X.Ok
  os : s.os = X.s₀.os
  bare : AllBare s.gens
  base : Un X.fs X.ex X.H₀ H X.s₀.heap s.heap
  loc : ∃ m, s.heap.Ns X.env.locals m ∧ ∀ (i : Nat) (x : Str) (v : V), X.N[i]? = some x → σ[i]? = some (some v) → Vis X.env.scope x → ∃ u, RelV v u ∧ Look X.env s.heap m x u
  cell : ∀ x c, X.env.cells.lookup x = some c → ∃ v, s.heap.IsCell c v
  free : H X.env.locals = none
  freeC : ∀ x c, X.env.cells.lookup x = some c → H c = none
  pin : ∀ p ∈ X.pn ++ pins, s.heap.get? p.1 = some p.2 ∧ H p.1 = none ∧ p.1 ≠ X.env.locals ∧ p.1 ∉ X.fs ∧ ∀ v, p.2.data ≠ .cell v
  hok : HOk X.prog X.w H s.heap
  len : σ.length = X.N.length

section
variable {X : Cx} {pins : List (Addr × Obj)} {σ : List (Option V)} {H H' : Hp} {s : Shared} {h' : Heap}

theorem Cx.Ok.nofr (ok : X.Ok) {b : Addr} {o : Obj} (e : X.base.get? b = some o) : b ∉ X.fs := fun hb => by
  have := (ok.funs.mem hb).1
  rw [e] at this; cases this
theorem Inv.bs (I : Inv X pins σ H s) : ∀ b o, X.base.get? b = some o → s.heap.get? b = some o ∧ H b = none := fun b o e =>
  ⟨I.base.keep b o (I.ok.bs b o e).1 (I.ok.bs b o e).2 (I.ok.nofr e) (I.ok.noex b o e), I.base.free b o (I.ok.bs b o e).1 (I.ok.bs b o e).2 (I.ok.noex b o e)⟩
theorem Inv.bk (I : Inv X pins σ H s) : ∀ b o, X.base.get? b = some o → s.heap.get? b = some o := fun b o e => (I.bs b o e).1
theorem Inv.mod (I : Inv X pins σ H s) : Mod X.K X.mg X.base := I.ok.mod
theorem Inv.kIn (I : Inv X pins σ H s) : X.K.In s.heap := I.ok.mod.kin.keeps I.bk
theorem Inv.nolimit (I : Inv X pins σ H s) : s.heap.NoLimit := I.ok.mod.nolimit.keeps I.bk
theorem Inv.lt (I : Inv X pins σ H s) : X.env.locals < s.heap.objs.size := let ⟨_, hn, _⟩ := I.loc; hn.lt
theorem Inv.sz (I : Inv X pins σ H s) : X.s₀.heap.objs.size ≤ s.heap.objs.size := Nat.le_trans I.ok.above (Nat.le_of_lt I.lt)
theorem Inv.nofs (I : Inv X pins σ H s) {a : Addr} (h : s.heap.objs.size ≤ a) : a ∉ X.fs := fun hb => by
  obtain ⟨_, o, ho, _⟩ := I.ok.funs.mem hb
  exact absurd (Nat.lt_of_lt_of_le (Heap.lt_size ho) (Nat.le_trans I.sz h)) (Nat.lt_irrefl _)
theorem Inv.cne (I : Inv X pins σ H s) : ∀ x c, X.env.cells.lookup x = some c → c ≠ X.env.locals := fun x c e z => by
  obtain ⟨v, o, ho, hd⟩ := I.cell x c e
  obtain ⟨m, ⟨o', es, ep, ho', hd', _⟩, _⟩ := I.loc
  rw [z, ho'] at ho; cases ho; rw [hd'] at hd; cases hd
theorem Inv.funs (I : Inv X pins σ H s) : s.heap.FunFrames X.base X.outer := by
  have all : ∀ (l : List Env), (∀ b ∈ frs l, b ∈ X.fs) → X.s₀.heap.FunFrames X.base l → s.heap.FunFrames X.base l := by
    intro l
    induction l with
    | nil => intro _ _; trivial
    | cons env r ih =>
      intro hs hl
      obtain ⟨hk, ⟨L, o, hf, hn, ho, hd⟩, hr⟩ := hl
      have hL : L ∈ X.fs := hs L (by unfold frs; rw [List.filterMap_cons, hf]; exact List.mem_cons_self)
      obtain ⟨sl, e⟩ := I.base.slot L o ho (I.ok.frf L hL) hL fun z => I.ok.exfs L z hL
      exact ⟨hk, ⟨L, _, hf, hn, e, hd⟩, ih (fun b hb => hs b (by unfold frs; rw [List.filterMap_cons, hf]; exact List.mem_cons_of_mem _ hb)) hr⟩
  exact all X.outer (fun _ hb => hb) I.ok.funs

theorem Inv.stack (I : Inv X pins σ H s) : s.heap.FunFrames X.base X.stack := by
  rcases I.ok.stk with e | ⟨e, hf⟩
  · rw [e]; exact I.funs
  · rw [e]
    obtain ⟨m, hn, _⟩ := I.loc
    refine .cons (by rw [I.ok.kind]; decide) hf hn ?_ I.funs
    exact Heap.get?_none_of_le (Nat.le_trans I.ok.bsz I.ok.above)
theorem Inv.stkSub (I : Inv X pins σ H s) : ∀ b ∈ frs X.stack, b ∈ X.env.locals :: X.fs := fun b hb => by
  rcases I.ok.stk with e | ⟨e, hf⟩
  · rw [e] at hb; exact List.mem_cons_of_mem _ hb
  · rw [e] at hb
    unfold frs at hb
    rw [List.filterMap_cons, hf] at hb
    exact hb
theorem Inv.stkFree (I : Inv X pins σ H s) : ∀ b ∈ frs X.stack, H b = none := fun b hb => by
  rcases List.mem_cons.mp (I.stkSub b hb) with e | hb
  · rw [e]; exact I.free
  · obtain ⟨_, o, ho, _⟩ := I.ok.funs.mem hb
    exact I.base.free b o ho (I.ok.frf b hb) fun z => I.ok.exfs b z hb

theorem Inv.step {g' : Array GenState} {t' : Nat} {d' : Drawn} {ch : List Addr} (I : Inv X pins σ H s)
    (hch : ∀ b ∈ ch, (b ∈ X.ex ∨ X.s₀.heap.objs.size ≤ b) ∧ b ≠ X.env.locals ∧ (∀ x c, X.env.cells.lookup x = some c → c ≠ b) ∧ ∀ p ∈ X.pn ++ pins, p.1 ≠ b)
    (keep : ∀ b o, b ≠ X.env.locals → b ∉ X.fs → b ∉ ch → s.heap.get? b = some o → H b = none → h'.get? b = some o)
    (slot : ∀ b o, b ≠ X.env.locals → b ∈ X.fs → b ∉ ch → s.heap.get? b = some o → H b = none → ∃ sl, h'.get? b = some { o with slots := sl }) (free : ∀ b o, b ∉ ch → s.heap.get? b = some o → H b = none → H' b = none)
    (there : ∀ b o, b ∉ ch → s.heap.get? b = some o → ∃ o', h'.get? b = some o')
    (tups : ∀ b xs, H b = some (.tup xs) → H' b = some (.tup xs)) (frzs : ∀ b o u, H b = some (.frz o u) → H' b = some (.frz o u)) (tbls : ∀ b ps, H b = some (.tbl ps) → ∃ more, H' b = some (.tbl (ps ++ more)))
    (ns : ∀ m, s.heap.Ns X.env.locals m → h'.Ns X.env.locals m) (hok : HOk X.prog X.w H' h') (hg : AllBare g') :
    Inv X pins σ H' { s with heap := h', gens := g', drawn := d', toks := t' } := by
  have neL : ∀ b o, X.s₀.heap.get? b = some o → b ≠ X.env.locals := fun b o e => Nat.ne_of_lt (Nat.lt_of_lt_of_le (Heap.lt_size e) I.ok.above)
  have neC : ∀ b o, X.s₀.heap.get? b = some o → b ∉ X.ex → b ∉ ch := fun b o e hx hb => by
    rcases (hch b hb).1 with z | z
    · exact hx z
    · exact absurd (Nat.lt_of_lt_of_le (Heap.lt_size e) z) (Nat.lt_irrefl _)
  have cellK : ∀ x c, X.env.cells.lookup x = some c → ∀ v, s.heap.IsCell c v → h'.IsCell c v := fun x c e v z1_ => by
    obtain ⟨o, ho, hd⟩ := z1_
    have nch : c ∉ ch := fun z => (hch c z).2.2.1 x c e rfl
    by_cases hc : c ∈ X.fs
    · obtain ⟨sl, q⟩ := slot c o (I.cne x c e) hc nch ho (I.freeC x c e)
      exact ⟨_, q, hd⟩
    · exact ⟨o, keep c o (I.cne x c e) hc nch ho (I.freeC x c e), hd⟩
  refine ⟨I.ok, I.os, hg, ⟨fun b o e n hb hx => ?_, fun b o e n hb hx => ?_, fun b o e n hx => ?_, fun b o e hx => ?_, fun b xs e => tups b xs (I.base.tups b xs e), fun b o xs e => frzs b o xs (I.base.frzs b o xs e), fun b ps e => ?_⟩, ?_, fun x c e => ?_, ?_, fun x c e => ?_, fun p hp => ?_, hok, I.len⟩
  · exact keep b o (neL b o e) hb (neC b o e hx) (I.base.keep b o e n hb hx) (I.base.free b o e n hx)
  · obtain ⟨sl, e1⟩ := I.base.slot b o e n hb hx
    obtain ⟨sl', e2⟩ := slot b _ (neL b o e) hb (neC b o e hx) e1 (I.base.free b o e n hx)
    exact ⟨sl', e2⟩
  · obtain ⟨o', e1⟩ := I.base.there b o e hx
    exact free b o' (neC b o e hx) e1 (I.base.free b o e n hx)
  · obtain ⟨o', e1⟩ := I.base.there b o e hx
    exact there b o' (neC b o e hx) e1
  · obtain ⟨m1, e1⟩ := I.base.tbls b ps e
    obtain ⟨m2, e2⟩ := tbls b _ e1
    exact ⟨m1 ++ m2, by rw [e2, Array.append_assoc]⟩
  · obtain ⟨m, hn, hl⟩ := I.loc
    refine ⟨m, ns m hn, fun i x v e1 e2 e3 => ?_⟩
    obtain ⟨u, r, l⟩ := hl i x v e1 e2 e3
    refine ⟨u, r, ?_⟩
    rcases l with l | ⟨k, c, e, z⟩
    · exact .inl l
    · exact .inr ⟨k, c, e, cellK x c e _ z⟩
  · obtain ⟨v, z⟩ := I.cell x c e
    exact ⟨v, cellK x c e v z⟩
  · obtain ⟨m, ⟨o, _, _, ho, _⟩, _⟩ := I.loc
    exact free _ o (fun z => (hch _ z).2.1 rfl) ho I.free
  · obtain ⟨v, o, ho, hd⟩ := I.cell x c e
    exact free c o (fun z => (hch c z).2.2.1 x c e rfl) ho (I.freeC x c e)
  · obtain ⟨e, n, ne, nf, d⟩ := I.pin p hp
    have nch : p.1 ∉ ch := fun z => (hch p.1 z).2.2.2 p hp rfl
    exact ⟨keep p.1 p.2 ne nf nch e n, free p.1 p.2 nch e n, ne, nf, d⟩
theorem Inv.un {t' : Nat} (I : Inv X pins σ H s) (u : Un X.fs [] H H' s.heap h') (hok : HOk X.prog X.w H' h') : Inv X pins σ H' { s with heap := h', toks := t' } := by
  obtain ⟨m, ⟨o, es, ep, ho, r⟩, _⟩ := id I.loc
  obtain ⟨sl, hL⟩ := u.any ho I.free (by simp)
  exact I.step (g' := s.gens) (d' := s.drawn) (ch := []) (fun _ z => nomatch z) (fun b o _ hb _ e n => u.keep b o e n hb (by simp)) (fun b o _ hb _ e n => u.slot b o e n hb (by simp)) (fun b o _ e n => u.free b o e n (by simp)) (fun b o _ e => u.there b o e (by simp)) u.tups u.frzs u.tbls (fun m' hm => by
    obtain ⟨o', es', ep', ho', r'⟩ := hm
    rw [ho] at ho'; cases ho'
    exact ⟨_, es', ep', hL, r'⟩) hok I.bare
theorem Inv.call {g' : Array GenState} {t' : Nat} {d' : Drawn} {ch : List Addr} (I : Inv X pins σ H s) (u : Un (frs X.stack) ch H H' s.heap h') (hok : HOk X.prog X.w H' h') (hg : AllBare g')
    (hch : ∀ b ∈ ch, (b ∈ X.ex ∨ X.s₀.heap.objs.size ≤ b) ∧ b ≠ X.env.locals ∧ (∀ x c, X.env.cells.lookup x = some c → c ≠ b) ∧ ∀ p ∈ X.pn ++ pins, p.1 ≠ b) :
    Inv X pins σ H' { s with heap := h', gens := g', drawn := d', toks := t' } := by
  obtain ⟨m, ⟨o, es, ep, ho, r⟩, _⟩ := id I.loc
  obtain ⟨sl, hL⟩ := u.any ho I.free fun z => (hch _ z).2.1 rfl
  exact I.step (ch := ch) hch (fun b o hL hb hc e n => u.keep b o e n (fun z => (List.mem_cons.mp (I.stkSub b z)).elim hL hb) hc) (fun b o _ _ hc e n => u.any e n hc) (fun b o hc e n => u.free b o e n hc) (fun b o hc e => u.there b o e hc) u.tups u.frzs u.tbls (fun m' hm => by
    obtain ⟨o', es', ep', ho', r'⟩ := hm
    rw [ho] at ho'; cases ho'
    exact ⟨_, es', ep', hL, r'⟩) hok hg
theorem Inv.turned {t' : Nat} {it : Addr} (I : Inv X pins σ H s) (k : ∀ b o, b ≠ it → s.heap.get? b = some o → h'.get? b = some o) (hn : H it = none) (hL : it ≠ X.env.locals)
    (h1 : it ∈ X.ex ∨ X.s₀.heap.objs.size ≤ it) (h2 : ∀ x c, X.env.cells.lookup x = some c → c ≠ it) (h3 : ∀ p ∈ X.pn ++ pins, p.1 ≠ it) : Inv X pins σ H { s with heap := h', toks := t' } := by
  have nit : ∀ b u, H b = some u → b ≠ it := fun b u e z => by rw [z, hn] at e; cases e
  refine I.step (g' := s.gens) (d' := s.drawn) (ch := [it]) (fun b hb => ?_) (fun b o _ _ hc e _ => k b o (fun z => hc (by simp [z])) e) (fun b o _ _ hc e _ => ⟨o.slots, k b o (fun z => hc (by simp [z])) e⟩) (fun _ _ _ _ n => n)
    (fun b o hc e => ⟨o, k b o (fun z => hc (by simp [z])) e⟩) (fun _ _ e => e) (fun _ _ _ e => e) (fun b ps e => ⟨#[], by rw [e]; simp⟩) (fun m hm => ?_) (fun b u e => ?_) I.bare
  · have e : b = it := by simpa using hb
    subst e
    exact ⟨h1, hL, h2, h3⟩
  · obtain ⟨o, es, ep, ho, r⟩ := hm
    exact ⟨o, es, ep, k _ o (Ne.symm hL) ho, r⟩
  · refine (I.hok b u e).stay (fun c v hc q => k c v ?_ q) (fun _ q => q) fun _ _ q => q
    rcases hc with z | z
    · rw [z]; exact nit b u e
    · exact nit c _ z
theorem Inv.tok (I : Inv X pins σ H s) (t : Nat) : Inv X pins σ H { s with toks := t } := I.un (h' := s.heap) (t' := t) Un.refl I.hok
theorem Inv.kept {t' : Nat} (I : Inv X pins σ H s) (k : ∀ b u, s.heap.get? b = some u → h'.get? b = some u) : Inv X pins σ H { s with heap := h', toks := t' } := I.un (Un.kept k) (I.hok.kept k)
theorem Inv.laid {a : Addr} {o : HO} {t' : Nat} (I : Inv X pins σ H s) (k : ∀ b u, s.heap.get? b = some u → h'.get? b = some u) (hp : s.heap.objs.size ≤ a) (new : ObjOk X.prog X.w (upd H a o) h' a o) :
    Inv X pins σ (upd H a o) { s with heap := h', toks := t' } := I.un (Un.laid k hp (I.hok.fresh hp)) (I.hok.laid k hp new)
theorem Inv.write {x e : Addr} {o : HO} {t' : Nat} (I : Inv X pins σ H s) (mu : Mut (H x)) (he : e = x ∨ H e = some (.own x)) (k : ∀ b u, b ≠ e → s.heap.get? b = some u → h'.get? b = some u) (heo : ∃ u, h'.get? e = some u)
    (new : ObjOk X.prog X.w (upd H x o) h' x o) : Inv X pins σ (upd H x o) { s with heap := h', toks := t' } := I.un (Un.write mu he k heo) (I.hok.write mu he k heo new)
theorem Inv.weak {σ' : List (Option V)} (I : Inv X pins σ H s) (hl : σ'.length = σ.length) (w : ∀ (i : Nat) v, σ'[i]? = some (some v) → σ[i]? = some (some v)) : Inv X pins σ' H s :=
  ⟨I.ok, I.os, I.bare, I.base, let ⟨m, hn, hl'⟩ := I.loc; ⟨m, hn, fun i x v e1 e2 e3 => hl' i x v e1 (w i v e2) e3⟩, I.cell, I.free, I.freeC, I.pin, I.hok, hl.trans I.len⟩
theorem Inv.pins_of {pins' : List (Addr × Obj)} (I : Inv X pins σ H s) (h : ∀ p ∈ pins', s.heap.get? p.1 = some p.2 ∧ H p.1 = none ∧ p.1 ≠ X.env.locals ∧ p.1 ∉ X.fs ∧ ∀ v, p.2.data ≠ .cell v) : Inv X pins' σ H s :=
  ⟨I.ok, I.os, I.bare, I.base, I.loc, I.cell, I.free, I.freeC, fun p hp => (List.mem_append.mp hp).elim (fun z => I.pin p (List.mem_append_left _ z)) (h p), I.hok, I.len⟩

theorem nodup_ix {N : List Str} (hN : N.Nodup) {i j : Nat} {x : Str} (a : N[i]? = some x) (b : N[j]? = some x) : i = j := by
  obtain ⟨h1, e1⟩ := List.getElem?_eq_some_iff.mp a
  obtain ⟨h2, e2⟩ := List.getElem?_eq_some_iff.mp b
  exact (List.getElem_inj hN).mp (e1.trans e2.symm)

theorem store_ok2 {M : Model} {A : Around} {E : Value → Shared → Prop} {i : Nat} {x : Str} {v : V} {u : Value} {Q : Unit → Shared → Prop} (I : Inv X pins σ H s) (hN : X.N.Nodup) (hi : X.N[i]? = some x) (hx : Loc X.env.scope x) (r : RelV v u)
    (h : ∀ s', Inv X pins (σ.set i (some v)) H s' → (∃ a, Heap.SameBut a s.heap s'.heap ∧ (a = X.env.locals ∨ X.env.cells.lookup x = some a)) → Q () s') (hf : X.fn x = true ∨ X.env.scope.names.lookup x = some .local := by first | exact .inl rfl | exact .inr rfl | assumption) : wpAny M A (storeName X.env x u) Q E s := by
  obtain ⟨m, hn, hl⟩ := id I.loc
  have hcls : (X.env.scope.kind == .class || (X.env.scope.kind == .module && X.env.locals != X.env.globals)) = false := by rw [I.ok.kind]; rfl
  have hiσ : i < σ.length := by rw [I.len]; exact (List.getElem?_eq_some_iff.mp hi).1
  have cne := I.cne
  have tracked : ∀ {a : Addr} {h' : Heap}, (∃ o, s.heap.get? a = some o ∧ H a = none) → Heap.SameBut a s.heap h' → HOk X.prog X.w H h' := fun {a h'} ha hs b ob e => by
    obtain ⟨_, _, hfree⟩ := ha
    refine (I.hok b ob e).stay (fun c w' hc q => (hs.2 c ?_).trans q) (fun _ q => q) fun _ _ q => q
    rintro rfl
    rcases hc with rfl | hc
    · rw [hfree] at e; cases e
    · rw [hfree] at hc; cases hc
  rcases hx with hk | hk
  · refine wpAny_storeName_local hk hn (fun h' hn' hs => ?_) hcls
    obtain ⟨oL, _, _, hoL, _⟩ := id hn
    refine h _ ⟨I.ok, I.os, I.bare, ⟨fun b o e n hb hx => ?_, fun b o e n hb hx => ?_, I.base.free, fun b o e hx => ?_, I.base.tups, I.base.frzs, I.base.tbls⟩, ⟨_, hn', fun j y v' e1 e2 e3 => ?_⟩, fun y c e => ?_, I.free, I.freeC, fun p hp => ?_, tracked ⟨oL, hoL, I.free⟩ hs, by simpa using I.len⟩ ⟨_, hs, .inl rfl⟩
    · exact (hs.2 b (Nat.ne_of_lt (Nat.lt_of_lt_of_le (Heap.lt_size e) I.ok.above))).trans (I.base.keep b o e n hb hx)
    · obtain ⟨sl, e1⟩ := I.base.slot b o e n hb hx
      exact ⟨sl, (hs.2 b (Nat.ne_of_lt (Nat.lt_of_lt_of_le (Heap.lt_size e) I.ok.above))).trans e1⟩
    · obtain ⟨o', e1⟩ := I.base.there b o e hx
      exact ⟨o', (hs.2 b (Nat.ne_of_lt (Nat.lt_of_lt_of_le (Heap.lt_size e) I.ok.above))).trans e1⟩
    · by_cases hj : j = i
      · subst hj
        rw [hi] at e1; cases e1
        rw [List.getElem?_set_self hiσ] at e2
        cases e2
        exact ⟨u, r, .inl ⟨hk, by simp⟩⟩
      · rw [List.getElem?_set_ne (Ne.symm hj)] at e2
        obtain ⟨u', r', q⟩ := hl j y v' e1 e2 e3
        refine ⟨u', r', ?_⟩
        rcases q with ⟨k, e⟩ | ⟨k, c, e, z⟩
        · refine .inl ⟨k, ?_⟩
          have : y ≠ x := fun e => hj (nodup_ix hN e1 (e ▸ hi))
          simp [this, e]
        · exact .inr ⟨k, c, e, z.sameBut hs (cne y c e)⟩
    · obtain ⟨w', z⟩ := I.cell y c e
      exact ⟨w', z.sameBut hs (cne y c e)⟩
    · obtain ⟨e, n, ne, nf, d⟩ := I.pin p hp
      exact ⟨(hs.2 p.1 ne).trans e, n, ne, nf, d⟩
  · have hfn : X.fn x = true := by
      rcases hf with z | z
      · exact z
      · rw [z] at hk; cases hk
    obtain ⟨c, hc⟩ := I.ok.has x (.inl hk)
    obtain ⟨w', z⟩ := I.cell x c hc
    refine wpAny_storeName_cell I.ok.kind hk hc z (fun h' hc' hs => ?_)
    obtain ⟨oc, hoc, hocd⟩ := id z
    refine h { s with heap := h' } ⟨I.ok, I.os, I.bare, ⟨fun b o e n hb hx => ?_, fun b o e n hb hx => ?_, I.base.free, fun b o e hx => ?_, I.base.tups, I.base.frzs, I.base.tbls⟩, ⟨m, hn.sameBut hs (Ne.symm (cne x c hc)), fun j y v' e1 e2 e3 => ?_⟩, fun y c' e => ?_, I.free, I.freeC, fun p hp => ?_, tracked ⟨oc, hoc, I.freeC x c hc⟩ hs, by simpa using I.len⟩ ⟨c, hs, .inr hc⟩
    · exact (hs.2 b (Nat.ne_of_lt (Nat.lt_of_lt_of_le (Heap.lt_size e) (I.ok.cab x c hfn hc)))).trans (I.base.keep b o e n hb hx)
    · obtain ⟨sl, e1⟩ := I.base.slot b o e n hb hx
      exact ⟨sl, (hs.2 b (Nat.ne_of_lt (Nat.lt_of_lt_of_le (Heap.lt_size e) (I.ok.cab x c hfn hc)))).trans e1⟩
    · obtain ⟨o', e1⟩ := I.base.there b o e hx
      exact ⟨o', (hs.2 b (Nat.ne_of_lt (Nat.lt_of_lt_of_le (Heap.lt_size e) (I.ok.cab x c hfn hc)))).trans e1⟩
    · by_cases hj : j = i
      · subst hj
        rw [hi] at e1; cases e1
        rw [List.getElem?_set_self hiσ] at e2
        cases e2
        exact ⟨u, r, .inr ⟨.inl hk, c, hc, hc'⟩⟩
      · rw [List.getElem?_set_ne (Ne.symm hj)] at e2
        obtain ⟨u', r', q⟩ := hl j y v' e1 e2 e3
        refine ⟨u', r', ?_⟩
        rcases q with q | ⟨k, c', e, z'⟩
        · exact .inl q
        · refine .inr ⟨k, c', e, z'.sameBut hs ?_⟩
          rintro rfl
          exact hj (nodup_ix hN e1 (I.ok.inj _ _ _ e hc ▸ hi))
    · by_cases hcc : c' = c
      · subst hcc; exact ⟨_, hc'⟩
      · obtain ⟨w2, z2⟩ := I.cell y c' e
        exact ⟨w2, z2.sameBut hs hcc⟩
    · obtain ⟨e, n, ne, nf, d⟩ := I.pin p hp
      refine ⟨(hs.2 p.1 ?_).trans e, n, ne, nf, d⟩
      intro q
      rw [q, hoc] at e
      have q' : oc = p.2 := Option.some.inj e
      exact d w' (by rw [← q']; exact hocd)
theorem store_ok {M : Model} {A : Around} {E : Value → Shared → Prop} {i : Nat} {x : Str} {v : V} {u : Value} {Q : Unit → Shared → Prop} (I : Inv X pins σ H s) (hN : X.N.Nodup) (hi : X.N[i]? = some x) (hx : Loc X.env.scope x) (r : RelV v u)
    (h : ∀ s', Inv X pins (σ.set i (some v)) H s' → Q () s') (hf : X.fn x = true ∨ X.env.scope.names.lookup x = some .local := by first | exact .inl rfl | exact .inr rfl | assumption) : wpAny M A (storeName X.env x u) Q E s :=
  store_ok2 I hN hi hx r (fun s' I' _ => h s' I') hf
theorem Inv.call' {s' : Shared} {ch : List Addr} (I : Inv X pins σ H s) (ho : s'.os = s.os) (u : Un (frs X.stack) ch H H' s.heap s'.heap) (hok : HOk X.prog X.w H' s'.heap) (hg : AllBare s'.gens)
    (hch : ∀ b ∈ ch, (b ∈ X.ex ∨ X.s₀.heap.objs.size ≤ b) ∧ b ≠ X.env.locals ∧ (∀ x c, X.env.cells.lookup x = some c → c ≠ b) ∧ ∀ p ∈ X.pn ++ pins, p.1 ≠ b) : Inv X pins σ H' s' := by
  obtain ⟨h', g', d', t', o'⟩ := s'
  have e : o' = s.os := ho
  subst e
  exact I.call (g' := g') (t' := t') (d' := d') u hok hg hch
end


noncomputable abbrev XK := Value → Option Addr → Hp → Prop
noncomputable abbrev St := List (Option V)
noncomputable abbrev VK := V → Hp → Prop
noncomputable abbrev TE := St → Hp → VK → Prop
noncomputable abbrev TT := St → Hp → (Bool → Hp → Prop) → Prop
noncomputable abbrev TA := St → Hp → (List V → Hp → Prop) → Prop
structure Ends where
  nx : St → Hp → Prop
  rt : VK
  bk : St → Hp → Prop := fun _ _ => False
  ct : St → Hp → Prop := fun _ _ => False
noncomputable abbrev TS := Ends → St → Hp → Prop

inductive EP (X : Cx) (pins : List (Addr × Obj)) (σ : St) (Q : VK) (u : Value) (s' : Shared) : Prop where
  | mk (v : V) (H' : Hp) (i : Inv X pins σ H' s') (r : RelV v u) (q : Q v H') : EP X pins σ Q u s'
inductive TP (X : Cx) (pins : List (Addr × Obj)) (σ : St) (Q : Bool → Hp → Prop) (b : Bool) (s' : Shared) : Prop where
  | mk (H' : Hp) (i : Inv X pins σ H' s') (q : Q b H') : TP X pins σ Q b s'
inductive AP (X : Cx) (pins : List (Addr × Obj)) (σ : St) (Q : List V → Hp → Prop) (us : List Value) (s' : Shared) : Prop where
  | mk (vs : List V) (H' : Hp) (i : Inv X pins σ H' s') (r : Vals vs us) (q : Q vs H') : AP X pins σ Q us s'
inductive SN (X : Cx) (pins : List (Addr × Obj)) (q : St → Hp → Prop) (s' : Shared) : Prop where
  | mk (σ' : St) (H' : Hp) (i : Inv X pins σ' H' s') (p : q σ' H') : SN X pins q s'
inductive SR (X : Cx) (pins : List (Addr × Obj)) (q : V → Hp → Prop) (u : Value) (s' : Shared) : Prop where
  | mk (v : V) (σ' : St) (H' : Hp) (i : Inv X pins σ' H' s') (r : RelV v u) (p : q v H') : SR X pins q u s'
noncomputable def SP (X : Cx) (pins : List (Addr × Obj)) (D : Ends) (f : Flow) (s' : Shared) : Prop :=
  match f with
  | .next => SN X pins D.nx s'
  | .brk => SN X pins D.bk s'
  | .cont => SN X pins D.ct s'
  | .ret u => SR X pins D.rt u s'

noncomputable def PE (X : Cx) (e : Expr) (t : TE) : Prop :=
  ∀ (pins : List (Addr × Obj)) (s : Shared) (σ : St) (H : Hp) (Q : VK), Inv X pins σ H s → t σ H Q → wpAny (model X.prog X.w) X.A (eval e X.env) (EP X pins σ Q) X.xe s
noncomputable def PT (X : Cx) (e : Expr) (t : TT) : Prop :=
  ∀ (pins : List (Addr × Obj)) (s : Shared) (σ : St) (H : Hp) (Q : Bool → Hp → Prop), Inv X pins σ H s → t σ H Q → wpAny (model X.prog X.w) X.A (isTrue e X.env (eval e X.env)) (TP X pins σ Q) X.xe s
noncomputable def PW (X : Cx) (e : Expr) (t : TT) : Prop :=
  ∀ (whole : Sem Value) (pins : List (Addr × Obj)) (s : Shared) (σ : St) (H : Hp) (Q : Bool → Hp → Prop), Inv X pins σ H s → t σ H Q → wpAny (model X.prog X.w) X.A (isTrue e X.env whole) (TP X pins σ Q) X.xe s
theorem PW.pt {X : Cx} {e : Expr} {t : TT} (h : PW X e t) : PT X e t := h _
noncomputable def PA (X : Cx) (es : List Expr) (t : TA) : Prop :=
  ∀ (pos : Pos) (pins : List (Addr × Obj)) (s : Shared) (σ : St) (H : Hp) (Q : List V → Hp → Prop), Inv X pins σ H s → t σ H Q → wpAny (model X.prog X.w) X.A (spliced (backTo pos (starEach es X.env))) (AP X pins σ Q) X.xe s
noncomputable def PS (X : Cx) (st : Stmt) (t : TS) : Prop :=
  ∀ (pins : List (Addr × Obj)) (s : Shared) (σ : St) (H : Hp) (D : Ends), Inv X pins σ H s → t D σ H → wpAny (model X.prog X.w) X.A (exec st X.env) (SP X pins D) X.xe s
noncomputable def PSs (X : Cx) (st : List Stmt) (t : TS) : Prop :=
  ∀ (pins : List (Addr × Obj)) (s : Shared) (σ : St) (H : Hp) (D : Ends), Inv X pins σ H s → t D σ H → wpAny (model X.prog X.w) X.A (execs st X.env) (SP X pins D) X.xe s
theorem thn {α : Type} {t : Sem α} {Q Q' : α → Shared → Prop} {M : Model} {A : Around} {E : Value → Shared → Prop} {s : Shared} (h : wpAny M A t Q E s) (hQ : ∀ a s, Q a s → Q' a s) : wpAny M A t Q' E s := wpAny_mono h hQ fun _ _ x => x
end L2

namespace L2
open PySem PySem.Spec PyProof.Rows
section
variable {X : Cx}

noncomputable def tVar (i : Nat) : TE := fun σ H Q => ∃ v, σ[i]? = some (some v) ∧ Q v H
noncomputable def tC (v : V) : TE := fun _ H Q => Q v H
theorem pe_var {i : Nat} {x : Str} {pos : Pos} (hN : X.N[i]? = some x) (hv : Vis X.env.scope x) (hd : (x == ("__debug__" : Str)) = false := by decide) (hcd : (x == ("__classdict__" : Str)) = false := by decide) : PE X (.Name x pos) (tVar i) := by
  intro pins s σ H Q I h
  obtain ⟨v, e, h⟩ := h
  obtain ⟨m, hn, hl⟩ := I.loc
  obtain ⟨u, r, l⟩ := hl i x v hN e hv
  have fin : EP X pins σ Q u s := ⟨v, H, I, r, h⟩
  rcases l with ⟨hk, hm⟩ | ⟨hk, c, hc, hcell⟩
  · exact wpAny_Name (wpAny_loadName_local I.ok.kind hk hn hm fin) hd
  · rcases hk with hk | hk
    · exact wpAny_Name (wpAny_loadName_cell I.ok.kind hk hc hcell fin) hd
    · exact wpAny_Name (wpAny_loadName_free I.ok.kind hk hc hcell fin hcd) hd
theorem pe_int {i j pos} : PE X (.Constant (.int i) j pos) (tC (.int i)) := fun _ _ _ H _ I h => wpAny_Constant_int ⟨.int i, H, I.tok _, ⟨_, rfl⟩, h⟩
theorem pe_bl {b j pos} : PE X (.Constant (.bool b) j pos) (tC (.bl b)) := fun _ _ _ H _ I h => Constant_bool ⟨.bl b, H, I, rfl, h⟩
theorem pe_non {j pos} : PE X (.Constant .none j pos) (tC .non) := fun _ _ _ H _ I h => Constant_none ⟨.non, H, I, rfl, h⟩
theorem pe_str {x j pos} : PE X (.Constant (.str x) j pos) (tC (.str x)) := fun _ _ _ H _ I h => Calls.Constant_str ⟨.str x, H, I.tok _, ⟨_, rfl⟩, h⟩

noncomputable def Gl (X : Cx) (x : Str) : Prop := X.env.kindOf x = some .globalImplicit
theorem ld_glob {E : Value → Shared → Prop} {pins : List (Addr × Obj)} {s : Shared} {σ : St} {H : Hp} {x : Str} {u : Value} {pos : Pos} {Q : Value → Shared → Prop} (I : Inv X pins σ H s) (hg : Gl X x) (hm : X.mg x = some u) (h : Q u s)
    (hd : (x == ("__debug__" : Str)) = false := by decide) : wpAny (model X.prog X.w) X.A (eval (.Name x pos) X.env) Q E s :=
  Calls.Name_function_global I.ok.kind hg (Calls.loadGlobal_global (by rw [I.ok.glob]; exact I.mod.glob.keeps I.bk) hm h) hd
theorem ld_blt {E : Value → Shared → Prop} {pins : List (Addr × Obj)} {s : Shared} {σ : St} {H : Hp} {x : Str} {u : Value} {pos : Pos} {Q : Value → Shared → Prop} (I : Inv X pins σ H s) (hg : Gl X x) (hm : X.mg x = none) (hv : bootBuiltins x = some u) (h : Q u s)
    (hn : x ≠ "__name__" := by decide) (hd : (x == ("__debug__" : Str)) = false := by decide) : wpAny (model X.prog X.w) X.A (eval (.Name x pos) X.env) Q E s := by
  obtain ⟨mb, h1, h2⟩ := I.mod.blt
  exact Calls.Name_function_global I.ok.kind hg (Calls.loadGlobal_builtin (by rw [I.ok.glob]; exact I.mod.glob.keeps I.bk) hm (by rw [I.ok.blt]; exact h1.keeps I.bk) ((h2 x hn).trans hv) h) hd
theorem pe_glob {x : Str} {v : V} {u : Value} {pos : Pos} (hg : Gl X x) (hm : X.mg x = some u) (r : RelV v u) (hd : (x == ("__debug__" : Str)) = false := by decide) : PE X (.Name x pos) (tC v) :=
  fun _ _ _ H _ I h => ld_glob I hg hm ⟨v, H, I, r, h⟩ hd
theorem pe_bltn {x : Str} {v : V} {u : Value} {pos : Pos} (hg : Gl X x) (hm : X.mg x = none) (hv : bootBuiltins x = some u) (r : RelV v u) (hn : x ≠ "__name__" := by decide) (hd : (x == ("__debug__" : Str)) = false := by decide) : PE X (.Name x pos) (tC v) :=
  fun _ _ _ H _ I h => ld_blt I hg hm hv ⟨v, H, I, r, h⟩ hn hd


variable {a b : Expr} {ta tb : TE} {pos : Pos}
variable {tA tB' : TT} {rest : List Expr}
noncomputable def tAnd (t u : TT) : TT := fun σ H Q => t σ H fun c H1 => if c = true then u σ H1 Q else Q false H1
noncomputable def tOr (t u : TT) : TT := fun σ H Q => t σ H fun c H1 => if c = true then Q true H1 else u σ H1 Q
noncomputable def tNot (t : TT) : TT := fun σ H Q => t σ H fun c H1 => Q (!c) H1
theorem pw_and1 (ha : PT X a tA) : PW X (.BoolOp .And [a] pos) tA := by
  intro wh pins s σ H Q I h
  refine isTrue_and (thn (ha pins s σ H Q I h) fun c s1 e => ?_)
  cases c with
  | true => exact isTrue_and_nil e
  | false => exact e
theorem pw_or1 (ha : PT X a tA) : PW X (.BoolOp .Or [a] pos) tA := by
  intro wh pins s σ H Q I h
  refine isTrue_or (thn (ha pins s σ H Q I h) fun c s1 e => ?_)
  cases c with
  | false => exact isTrue_or_nil e
  | true => exact e
theorem pw_and (ha : PT X a tA) (hb : PW X (.BoolOp .And (b :: rest) pos) tB') : PW X (.BoolOp .And (a :: b :: rest) pos) (tAnd tA tB') := by
  intro wh pins s σ H Q I h
  refine isTrue_and (thn (ha pins s σ H _ I h) fun c s1 z8_ => ?_)
  obtain ⟨H1, I1, q1⟩ := z8_
  cases c with
  | true => exact hb wh pins s1 σ H1 Q I1 q1
  | false => exact ⟨H1, I1, q1⟩
theorem pw_or (ha : PT X a tA) (hb : PW X (.BoolOp .Or (b :: rest) pos) tB') : PW X (.BoolOp .Or (a :: b :: rest) pos) (tOr tA tB') := by
  intro wh pins s σ H Q I h
  refine isTrue_or (thn (ha pins s σ H _ I h) fun c s1 z9_ => ?_)
  obtain ⟨H1, I1, q1⟩ := z9_
  cases c with
  | true => exact ⟨H1, I1, q1⟩
  | false => exact hb wh pins s1 σ H1 Q I1 q1
theorem pt_not (ha : PT X a tA) : PT X (.UnaryOp .Not a pos) (tNot tA) := by
  intro pins s σ H Q I h
  exact isTrue_not (thn (ha pins s σ H (fun c H1 => Q (!c) H1) I h) fun c s1 z => by cases z with | mk H1 I1 q => exact ⟨H1, I1, q⟩)
noncomputable def tAndV (ta tb : TE) : TE := fun σ H Q => ta σ H fun x H1 => ∃ c, x = .bl c ∧ if c = true then tb σ H1 Q else Q (.bl false) H1
noncomputable def tOrV (ta tb : TE) : TE := fun σ H Q => ta σ H fun x H1 => ∃ c, x = .bl c ∧ if c = true then Q (.bl true) H1 else tb σ H1 Q
noncomputable def tNotV (ta : TE) : TE := fun σ H Q => ta σ H fun x H1 => ∃ c, x = .bl c ∧ Q (.bl (!c)) H1
theorem pe_one {op} {t : TE} (h : PE X a t) : PE X (.BoolOp op [a] pos) t := fun pins s σ H Q I hw => BoolOp_one (h pins s σ H Q I hw)
theorem pe_and (ha : PE X a ta) (hb : PE X (.BoolOp .And (b :: rest) pos) tb) : PE X (.BoolOp .And (a :: b :: rest) pos) (tAndV ta tb) := by
  intro pins s σ H Q I h
  refine BoolOp_and (thn (ha pins s σ H _ I h) fun v s1 z10_ => ?_)
  obtain ⟨x, H1, I1, r1, q1⟩ := z10_
  obtain ⟨c, rfl, q1⟩ := q1
  cases r1
  refine wpAny_truthy_bool ?_
  cases c with
  | true => exact hb pins s1 σ H1 Q I1 q1
  | false => exact ⟨.bl false, H1, I1, rfl, q1⟩
theorem pe_not (ha : PE X a ta) : PE X (.UnaryOp .Not a pos) (tNotV ta) := by
  intro pins s σ H Q I h
  refine UnaryOp_ (thn (ha pins s σ H _ I h) fun v s1 z12_ => ?_)
  obtain ⟨x, H1, I1, r1, q1⟩ := z12_
  obtain ⟨c, rfl, q1⟩ := q1
  cases r1
  exact not_of (wpAny_truthy_bool ⟨.bl (!c), H1, I1, rfl, q1⟩)
noncomputable def tIf (t : TT) (ta tb : TE) : TE := fun σ H Q => t σ H fun c H1 => if c = true then ta σ H1 Q else tb σ H1 Q
theorem pe_ifExp {c : Expr} (hc : PT X c tA) (ha : PE X a ta) (hb : PE X b tb) : PE X (.IfExp c a b pos) (tIf tA ta tb) := by
  intro pins s σ H Q I h
  refine wpAny_IfExp (thn (hc pins s σ H _ I h) fun d s1 z13_ => ?_)
  obtain ⟨H1, I1, q1⟩ := z13_
  cases d with
  | true => exact ha pins s1 σ H1 Q I1 q1
  | false => exact hb pins s1 σ H1 Q I1 q1
end
end L2

namespace L2
open PySem PySem.Spec PyProof.Rows


noncomputable def SqL (K : PySem.W.Frag) (H : Hp) (a : Addr) (xs : List V) : Prop :=
  Rd H a (.lst xs) ∨
    ∃ (o : Obj) (its : Array Value) (n : Nat), K.lookup a = some o ∧ o.cls = .type "list" ∧ o.dict = none ∧ o.data = .seq its n ∧ its.size ≤ sizeLine ∧ Vals xs its.toList
noncomputable def SqT (K : PySem.W.Frag) (H : Hp) (a : Addr) (xs : List V) : Prop :=
  Rd H a (.tup xs) ∨
    ∃ (o : Obj) (its : Array Value) (n : Nat), K.lookup a = some o ∧ o.cls = .type "tuple" ∧ o.data = .seq its n ∧ its.size ≤ sizeLine ∧ Vals xs its.toList
noncomputable def absV : Value → Option V
  | .none => some .non
  | .bool b => some (.bl b)
  | .int i _ => some (.int i)
  | .str x _ => some (.str x)
  | .bytes b _ => some (.byt b)
  | .float b _ => some (.flt b)
  | .ref a => some (.ref a)
  | .type n => some (.ty n)
  | _ => none
theorem RelV.abs {x : V} {u : Value} (r : RelV x u) : absV u = some x := by
  cases x with
  | non => cases r; rfl
  | bl _ => cases r; rfl
  | int _ => obtain ⟨t, rfl⟩ := r; rfl
  | str _ => obtain ⟨t, rfl⟩ := r; rfl
  | byt _ => obtain ⟨t, rfl⟩ := r; rfl
  | flt _ => obtain ⟨t, rfl⟩ := r; rfl
  | ref _ => cases r; rfl
  | ty _ => cases r; rfl
theorem RelV.inj {x y : V} {u : Value} (r : RelV x u) (q : RelV y u) : x = y := Option.some.inj (r.abs.symm.trans q.abs)
theorem Vals.inj {xs ys : List V} {us : List Value} (h : Vals xs us) (g : Vals ys us) : xs = ys := by
  induction h generalizing ys with
  | nil => cases g; rfl
  | cons r t ih => cases g with | cons r' t' => rw [r.inj r', ih t']
section
variable {X : Cx} {pins : List (Addr × Obj)} {σ : St} {H : Hp} {s : Shared} {a : Addr} {xs ys : List V}
theorem SqL.of {K : PySem.W.Frag} (h : H a = some (.lst xs)) : SqL K H a xs := .inl (.inl h)
theorem SqT.of {K : PySem.W.Frag} (h : H a = some (.tup xs)) : SqT K H a xs := .inl (.inl h)
theorem Inv.list (I : Inv X pins σ H s) (h : SqL X.K H a xs) : ∃ its : List Value, Vals xs its ∧ PlainL s.heap a its.toArray ∧ xs.length ≤ sizeLine := by
  rcases h with h | ⟨o, its, n, hk, hc, hd, hs, hz, r⟩
  · obtain ⟨z, its, n, r, e⟩ := h.ok I.hok
    exact ⟨its, r, ⟨_, n, e, rfl, rfl, rfl⟩, z⟩
  · refine ⟨its.toList, r, ⟨o, n, I.kIn a o hk, hc, hd, by simpa using hs⟩, ?_⟩
    have e := r.length
    simp only [Array.length_toList] at e
    (first | lia | omega)
theorem Inv.tuple (I : Inv X pins σ H s) (h : SqT X.K H a xs) : ∃ its : List Value, Vals xs its ∧ IsTup s.heap a its.toArray ∧ xs.length ≤ sizeLine := by
  rcases h with h | ⟨o, its, n, hk, hc, hs, hz, r⟩
  · obtain ⟨z, its, r, p, _⟩ := h.ok I.hok
    exact ⟨its, r, p, z⟩
  · refine ⟨its.toList, r, ⟨o, I.kIn a o hk, hc, n, by simpa using hs⟩, ?_⟩
    have e := r.length
    simp only [Array.length_toList] at e
    (first | lia | omega)
theorem Inv.list_inj (I : Inv X pins σ H s) (h : SqL X.K H a xs) (h' : SqL X.K H a ys) : xs = ys := by
  obtain ⟨its, r, ⟨o, n, e, _, _, d⟩, _⟩ := I.list h
  obtain ⟨its', r', ⟨o', n', e', _, _, d'⟩, _⟩ := I.list h'
  rw [e] at e'; cases e'
  rw [d] at d'
  injection d' with d1 _
  have : its = its' := by simpa using congrArg Array.toList d1
  subst this
  exact r.inj r'
theorem Inv.tuple_inj (I : Inv X pins σ H s) (h : SqT X.K H a xs) (h' : SqT X.K H a ys) : xs = ys := by
  obtain ⟨its, r, ⟨o, e, _, n, d⟩, _⟩ := I.tuple h
  obtain ⟨its', r', ⟨o', e', _, n', d'⟩, _⟩ := I.tuple h'
  rw [e] at e'; cases e'
  rw [d] at d'
  injection d' with d1 _
  have : its = its' := by simpa using congrArg Array.toList d1
  subst this
  exact r.inj r'
end


section
variable {X : Cx} {pins : List (Addr × Obj)} {σ : St} {H : Hp} {s : Shared} {E : Value → Shared → Prop}
end


section
variable {X : Cx} {st : Stmt} {rest : List Stmt} {t u : TS} {e : Expr} {te : TE} {pos : Pos}
noncomputable def tNext : TS := fun D σ H => D.nx σ H
noncomputable def tSeq (t u : TS) : TS := fun D σ H => t { D with nx := u D } σ H
theorem pss_nil : PSs X [] tNext := fun _ _ σ H _ I h => wpAny_execs_nil ⟨σ, H, I, h⟩
theorem pss_cons (h1 : PS X st t) (h2 : PSs X rest u) : PSs X (st :: rest) (tSeq t u) := by
  intro pins s σ H D I h
  refine wpAny_execs_cons (thn (h1 pins s σ H { D with nx := u D } I h) fun f s1 q => ?_)
  cases f with
  | next =>
    obtain ⟨σ', H', I', q⟩ := q
    exact h2 pins s1 σ' H' D I' q
  | ret v => exact q
  | brk => exact q
  | cont => exact q
theorem pss_one (h1 : PS X st t) : PSs X [st] t := by
  intro pins s σ H D I h
  refine wpAny_execs_cons (thn (h1 pins s σ H D I h) fun f s1 q => ?_)
  cases f with
  | next => exact wpAny_execs_nil q
  | ret v => exact q
  | brk => exact q
  | cont => exact q
theorem Inv.quiet {pins : List (Addr × Obj)} {σ : St} {H : Hp} {s : Shared} (I : Inv X pins σ H s) : interactive X.env = false := by simp [interactive, I.ok.kind]
noncomputable def tDrop (te : TE) : TS := fun D σ H => te σ H fun _ H1 => D.nx σ H1
theorem ps_expr (he : PE X e te) (hs : swapsWith e none pos.line X.env = pure false := by rfl) : PS X (.Expr e pos) (tDrop te) := by
  intro pins s σ H D I h
  exact wpAny_Expr_any (thn (he pins s σ H _ I h) fun v s1 z16_ => by obtain ⟨x, H1, I1, r1, q1⟩ := z16_; exact (⟨σ, H1, I1, q1⟩)) I.quiet hs
noncomputable def tRet (te : TE) : TS := fun D σ H => te σ H D.rt
theorem ps_ret (he : PE X e te) : PS X (.Return (some e) pos) (tRet te) := by
  intro pins s σ H D I h
  exact wpAny_Return_some (thn (he pins s σ H _ I h) fun v s1 z17_ => by obtain ⟨x, H1, I1, r1, q1⟩ := z17_; exact (⟨x, σ, H1, I1, r1, q1⟩))
noncomputable def tIfS (c : TT) (t u : TS) : TS := fun D σ H => c σ H fun b H1 => if b = true then t D σ H1 else u D σ H1
theorem ps_if {c : Expr} {a b : List Stmt} {tc : TT} (hc : PT X c tc) (ha : PSs X a t) (hb : PSs X b u) : PS X (.If c a b pos) (tIfS tc t u) := by
  intro pins s σ H D I h
  refine wpAny_If (thn (hc pins s σ H _ I h) fun d s1 z18_ => ?_)
  obtain ⟨H1, I1, q1⟩ := z18_
  cases d with
  | true => exact ha pins s1 σ H1 D I1 q1
  | false => exact hb pins s1 σ H1 D I1 q1
noncomputable def tNever : TS := fun _ _ _ => False
theorem pss_never {sts : List Stmt} : PSs X sts tNever := fun _ _ _ _ _ _ h => h.elim
end


noncomputable abbrev TG := V → St → Hp → (St → Hp → Prop) → Prop
noncomputable abbrev TGs := List V → St → Hp → (St → Hp → Prop) → Prop
noncomputable def PG (X : Cx) (target : Expr) (t : TG) : Prop :=
  ∀ (pins : List (Addr × Obj)) (s : Shared) (σ : St) (H : Hp) (v : V) (u : Value) (Q : St → Hp → Prop), Inv X pins σ H s → RelV v u → t v σ H Q →
    wpAny (model X.prog X.w) X.A (assign target X.env u) (fun _ s' => SN X pins Q s') X.xe s
noncomputable def PGs (X : Cx) (ts : List Expr) (t : TGs) : Prop :=
  ∀ (pins : List (Addr × Obj)) (s : Shared) (σ : St) (H : Hp) (vs : List V) (us : List Value) (Q : St → Hp → Prop), Inv X pins σ H s → Vals vs us → t vs σ H Q →
    wpAny (model X.prog X.w) X.A (assignInOrder ((assignEach ts X.env).map (·.2)) us) (fun _ s' => SN X pins Q s') X.xe s
noncomputable abbrev TSet := V → V → V → Hp → (Hp → Prop) → Prop
noncomputable def PSet (X : Cx) (t : TSet) : Prop :=
  ∀ (pins : List (Addr × Obj)) (s : Shared) (σ : St) (H : Hp) (o i v : V) (ov iv u : Value) (Q : Hp → Prop), Inv X pins σ H s → RelV o ov → RelV i iv → RelV v u → t o i v H Q →
    wpAny (model X.prog X.w) X.A (setItem ov iv u) (fun _ s' => ∃ H', Inv X pins σ H' s' ∧ Q H') X.xe s
section
variable {X : Cx} {pos : Pos}
noncomputable def gName (i : Nat) : TG := fun v σ H Q => Q (σ.set i (some v)) H
theorem pg_name {i : Nat} {x : Str} (hN : X.N.Nodup) (hi : X.N[i]? = some x) (hx : Loc X.env.scope x) (hf : X.fn x = true ∨ X.env.scope.names.lookup x = some .local := by first | exact .inl rfl | exact .inr rfl | assumption) : PG X (.Name x pos) (gName i) := by
  intro pins s σ H v u Q I r h
  exact wpAny_assign_Name (store_ok I hN hi hx r (fun s' I' => ⟨_, H, I', h⟩) hf)
noncomputable def gNil : TGs := fun vs σ H Q => vs = [] ∧ Q σ H
noncomputable def gCons (t : TG) (u : TGs) : TGs := fun vs σ H Q => ∃ v r, vs = v :: r ∧ t v σ H fun σ' H' => u r σ' H' Q
theorem pgs_nil : PGs X [] gNil := by
  intro pins s σ H vs us Q I r h
  obtain ⟨e, h⟩ := h
  subst e
  cases r
  exact assignInOrder_nil ⟨σ, H, I, h⟩
theorem pgs_cons {e : Expr} {es : List Expr} {t : TG} {u : TGs} (h1 : PG X e t) (h2 : PGs X es u)
    (hs : (assignEach (e :: es) X.env).map (·.2) = assign e X.env :: (assignEach es X.env).map (·.2) := by rfl) : PGs X (e :: es) (gCons t u) := by
  intro pins s σ H vs us Q I r h
  obtain ⟨v, vr, e1, h⟩ := h
  subst e1
  cases r with
  | cons r rr =>
    rw [hs]
    refine assignInOrder_cons (thn (h1 pins s σ H _ _ _ I r h) fun _ s1 z19_ => ?_)
    obtain ⟨σ1, H1, I1, q1⟩ := z19_
    exact h2 pins s1 σ1 H1 _ _ Q I1 rr q1
noncomputable def gTup (K : PySem.W.Frag) (n : Nat) (t : TGs) : TG := fun v σ H Q => ∃ a xs, v = .ref a ∧ SqT K H a xs ∧ xs.length = n ∧ t xs σ H Q
theorem pg_tup {es : List Expr} {k : Nat} {t : TGs} {n : Nat} (hc : X.calm = true) (h : PGs X es t)
    (hn : (assignEach es X.env).length = n := by rfl) (hst : (assignEach es X.env).findIdx? (·.1) = none := by rfl) : PG X (.Tuple es k pos) (gTup X.K n t) := by
  intro pins s σ H v u Q I r hw
  obtain ⟨a, xs, e1, hq, hl, hw⟩ := hw
  subst e1
  cases r
  obtain ⟨its, rv, ht, hz⟩ := I.tuple hq
  refine assign_Tuple_tuple (I.ok.hd hc) ht (by simp [hn, ← hl, rv.length]) hst fun h' hx => ?_
  have I1 : Inv X pins σ H { s with heap := h' } := I.kept (t' := s.toks) fun b o e => hx b o (Nat.ne_of_lt (Heap.lt_size e)) e
  exact h pins _ σ H xs _ Q I1 (by simpa using rv) hw
noncomputable def gSub (to ti : TE) (t : TSet) : TG := fun v σ H Q => to σ H fun o H1 => ti σ H1 fun i H2 => t o i v H2 fun H3 => Q σ H3
theorem pg_sub {o i : Expr} {to ti : TE} {t : TSet} (ho : PE X o to) (hi : PE X i ti) (hs : PSet X t)
    (ha : ∀ v, assign (.Subscript o i pos) X.env v = (do
      let ov ← holding [v] (eval o X.env)
      let iv ← holding [v, ov] (eval i X.env)
      standAt pos
      holding [v, ov, iv] (setItem ov iv v)
      release [v, ov, iv] []) := by intro _; rfl) : PG X (.Subscript o i pos) (gSub to ti t) := by
  intro pins s σ H v u Q I r h
  rw [ha]
  refine wpAny_bind (wpAny_holding (thn (ho pins s σ H _ I h) fun ov s1 z20_ => ?_))
  obtain ⟨x, H1, I1, r1, q1⟩ := z20_
  refine wpAny_bind (wpAny_holding (thn (hi pins s1 σ H1 _ I1 q1) fun iv s2 z21_ => ?_))
  obtain ⟨y, H2, I2, r2, q2⟩ := z21_
  refine wpAny_bind (wpAny_standAt (wpAny_bind (wpAny_holding (thn (hs pins s2 σ H2 x y v ov iv u _ I2 r1 r2 r q2) fun _ s3 z22_ => ?_))))
  obtain ⟨H3, I3, q3⟩ := z22_
  exact wpAny_release ⟨σ, H3, I3, q3⟩
noncomputable def tAsg (te : TE) (g : TG) : TS := fun D σ H => te σ H fun x H1 => g x σ H1 D.nx
theorem ps_asg {tg e : Expr} {te : TE} {g : TG} (he : PE X e te) (hg : PG X tg g) (hs : swapsWithSole [tg] e pos.line X.env = pure false := by rfl) (hw : swappedStores [tg] e X.env = pure none := by rfl)
    (h1 : (assignEach [tg] X.env).map (·.2) = [assign tg X.env] := by rfl) : PS X (.Assign [tg] e pos) (tAsg te g) := by
  intro pins s σ H D I h
  refine wpAny_Assign_stores (thn (he pins s σ H _ I h) fun v s1 z23_ => ?_) hs hw
  obtain ⟨x, H1, I1, r1, q1⟩ := z23_
  rw [h1]
  exact thn (hg pins s1 σ H1 x v _ I1 r1 q1) fun _ s2 q => q
theorem ps_set {i : Nat} {x : Str} {e : Expr} {te : TE} {pos' : Pos} (hN : X.N.Nodup) (hi : X.N[i]? = some x) (hx : Loc X.env.scope x) (he : PE X e te) (hs : swapsWith e (some (.Name x pos')) pos.line X.env = pure false := by rfl) (hf : X.fn x = true ∨ X.env.scope.names.lookup x = some .local := by first | exact .inl rfl | exact .inr rfl | assumption) :
    PS X (.Assign [.Name x pos'] e pos) (tAsg te (gName i)) := by
  intro pins s σ H D I h
  refine wpAny_Assign_Name (thn (he pins s σ H _ I h) fun v s1 z24_ => ?_) hs
  obtain ⟨y, H1, I1, r1, q1⟩ := z24_
  exact store_ok I1 hN hi hx r1 (fun s2 I2 => ⟨_, H1, I2, q1⟩) hf
noncomputable def tPar (i j : Nat) (ta : TA) : TS := fun D σ H => ta σ H fun vs H1 => ∃ v w, vs = [v, w] ∧ D.nx ((σ.set i (some v)).set j (some w)) H1
theorem ps_par {i j : Nat} {x y : Str} {a b : Expr} {ta : TA} {px py pt : Pos} {kt k2 pt2} (hc : X.calm = true) (hN : X.N.Nodup) (hi : X.N[i]? = some x) (hj : X.N[j]? = some y) (hij : i ≠ j)
    (hx : X.env.scope.names.lookup x = some .local) (hy : X.env.scope.names.lookup y = some .local) (ha : PA X [a, b] ta)
    (hw : swappedStores [.Tuple [.Name x px, .Name y py] kt pt] (.Tuple [a, b] k2 pt2) X.env = pure (some [x, y]))
    (hs : swapsWithSole [.Tuple [.Name x px, .Name y py] kt pt] (.Tuple [a, b] k2 pt2) pos.line X.env = pure false := by rfl) :
    PS X (.Assign [.Tuple [.Name x px, .Name y py] kt pt] (.Tuple [a, b] k2 pt2) pos) (tPar i j ta) := by
  intro pins s σ H D I h
  rw [exec_Assign_arm]
  refine wpAny_bind (wpAny_standAt ?_)
  rw [hs]
  refine wpAny_bind (wpAny_pure ?_)
  rw [if_neg (by decide)]
  refine wpAny_bind (Tuple_ (thn (ha _ pins s σ H _ I h) fun us s1 z25_ => ?_))
  obtain ⟨vs, H1, I1, r1, q1⟩ := z25_
  obtain ⟨v, w, e1, q1⟩ := q1
  subst e1
  obtain ⟨u1, u2, rfl, rv, rw'⟩ : ∃ u1 u2, us = [u1, u2] ∧ RelV v u1 ∧ RelV w u2 := by
    cases r1 with
    | cons p q =>
      cases q with
      | cons p' q' =>
        cases q'
        exact ⟨_, _, rfl, p, p'⟩
  refine wpAny_newObj_type ?_ (by show 2 ≤ sizeLine; decide)
  have I2 : Inv X pins σ H1 { s1 with heap := s1.heap.push { cls := .type "tuple", data := .seq [u1, u2].toArray } } := I1.kept (t' := s1.toks) fun b o e => Heap.get?_push_of_some _ e
  rw [hw]
  refine wpAny_bind (wpAny_pure ?_)
  show wpAny (model X.prog X.w) X.A (do rule "assign.swapped-stores"; let items ← unpackItems (.ref s1.heap.objs.size) 2 none; assignInOrder [fun v => bindName X.env y v, fun v => bindName X.env x v] items.reverse; pure Flow.next) _ _ _
  refine wpAny_bind (wpAny_rule (wpAny_bind (unpackItems_tuple (items := #[u1, u2]) (I.ok.hd hc) (IsTup.new s1.heap _) fun h' hx' => ?_)))
  have I3 := I2.kept (h' := h') (t' := s1.toks) fun b o e => hx' b o (Nat.ne_of_lt (Heap.lt_size e)) e
  show wpAny _ _ (assignInOrder [fun v => bindName X.env y v, fun v => bindName X.env x v] [u2, u1] >>= fun _ => pure Flow.next) _ _ _
  refine wpAny_bind (assignInOrder_cons (wpAny_bindName (store_ok I3 hN hj (.inl hy) rw' (fun s2 I4 => ?_) (.inr hy))))
  refine assignInOrder_cons (wpAny_bindName (store_ok I4 hN hi (.inl hx) rv (fun s3 I5 => assignInOrder_nil (wpAny_pure ?_)) (.inr hx)))
  rw [List.set_comm _ _ (Ne.symm hij)] at I5
  exact ⟨_, H1, I5, q1⟩
end


section
variable {X : Cx} {pos : Pos}
end


structure It where
  go : Nat → Hp → Prop
  yld : Nat → Hp → V → Hp → Prop
  stop : Nat → Hp → Prop
noncomputable def FpOk (X : Cx) (pins : List (Addr × Obj)) (H : Hp) (b : Addr) : Prop :=
  H b = none ∧ b ≠ X.env.locals ∧ b ∉ X.fs ∧ (b ∈ X.ex ∨ X.s₀.heap.objs.size ≤ b) ∧ (∀ x c, X.env.cells.lookup x = some c → c ≠ b) ∧ ∀ p ∈ X.pn ++ pins, p.1 ≠ b
theorem Inv.fpOk {X : Cx} {pins : List (Addr × Obj)} {σ : St} {H H' : Hp} {s : Shared} {b : Addr} (I : Inv X pins σ H s) (hb : s.heap.objs.size ≤ b) (hn : H' b = none) : FpOk X pins H' b := by
  refine ⟨hn, Nat.ne_of_gt (Nat.lt_of_lt_of_le I.lt hb), I.nofs hb, .inr (Nat.le_trans I.sz hb), fun x c e z => ?_, fun p hp z => ?_⟩
  · obtain ⟨v, q⟩ := I.cell x c e
    exact absurd (Nat.lt_of_lt_of_le q.lt (by rw [z]; exact hb)) (Nat.lt_irrefl _)
  · exact absurd (Nat.lt_of_lt_of_le (Heap.lt_size (I.pin p hp).1) (by rw [z]; exact hb)) (Nat.lt_irrefl _)
structure Turn (P : Program) (w : World) (K : PySem.W.Frag) (tg : Expr) (J : It) (fp : List Addr) (it : Addr) (tn : Nat → Heap → Prop) : Prop where
  mem : it ∈ fp
  obj : ∀ i h, tn i h → ∀ b ∈ fp, ∃ o, h.get? b = some o ∧ ∀ v, o.data ≠ .cell v
  keep : ∀ i h h', tn i h → (∀ b ∈ fp, ∀ o, h.get? b = some o → h'.get? b = some o) → tn i h'
  item : ∀ (X : Cx), X.prog = P → X.w = w → X.K = K → X.calm = true → ∀ (i : Nat) (pins : List (Addr × Obj)) (s : Shared) (σ : St) (H : Hp) (E : Value → Shared → Prop), Inv X pins σ H s → (∀ b ∈ fp, FpOk X pins H b) → tn i s.heap → J.go i H →
    wpAny (model P w) X.A (pyNext (.ref it)) (fun r s1 => ∃ u, r = some u ∧
      wpAny (model P w) X.A (letOwnedTupleGo tg (.ref it) u) (fun _ s2 => ∃ x H', Inv X pins σ H' s2 ∧ RelV x u ∧ J.yld i H x H' ∧ tn (i + 1) s2.heap ∧ ∀ b ∈ fp, H' b = none) E s1) E s
  done : ∀ (X : Cx), X.prog = P → X.w = w → X.K = K → X.calm = true → ∀ (i : Nat) (pins : List (Addr × Obj)) (s : Shared) (σ : St) (H : Hp) (E : Value → Shared → Prop), Inv X pins σ H s → (∀ b ∈ fp, FpOk X pins H b) → tn i s.heap → J.stop i H →
    wpAny (model P w) X.A (pyNext (.ref it)) (fun r s1 => r = none ∧ Inv X pins σ H s1) E s
  self : ∀ (A : Around) (i : Nat) (s : Shared) (Q : Value → Shared → Prop) (E : Value → Shared → Prop), tn i s.heap → Q (.ref it) s → wpAny (model P w) A (pyIter (.ref it)) Q E s
noncomputable abbrev TI := St → Hp → (It → Hp → Prop) → Prop
inductive PIE (X : Cx) (pins : List (Addr × Obj)) (σ : St) (tg : Expr) (R : It → Hp → Prop) (itv : Value) (s2 : Shared) : Prop where
  | mk (it : Addr) (fp : List Addr) (tn : Nat → Heap → Prop) (J : It) (H' : Hp) (e : itv = .ref it) (i : Inv X pins σ H' s2) (t : Turn X.prog X.w X.K tg J fp it tn) (st : tn 0 s2.heap) (f : ∀ b ∈ fp, FpOk X pins H' b) (r : R J H') : PIE X pins σ tg R itv s2
noncomputable def PI (X : Cx) (tg iter : Expr) (wi : TI) : Prop :=
  ∀ (pins : List (Addr × Obj)) (s : Shared) (σ : St) (H : Hp) (R : It → Hp → Prop), Inv X pins σ H s → wi σ H R →
    wpAny (model X.prog X.w) X.A (eval iter X.env) (fun v s1 => wpAny (model X.prog X.w) X.A (pyIter v) (PIE X pins σ tg R) X.xe s1) X.xe s

theorem go_of {M : Model} {A : Around} {E : Value → Shared → Prop} {s : Shared} {tg : Expr} {it : Addr} {u : Value} {o : Obj} {n : String} {vs : Array Value} {Q : Unit → Shared → Prop} (ho : s.heap.get? it = some o) (hc : o.cls = .type n) (hd : o.data = .fields vs)
    (hn : ["enumerate", "zip", "dict_itemiterator", "dict_reverseitemiterator", "odict_iterator", "itertools.zip_longest", "itertools.pairwise"].contains n = false) (hQ : Q () s) : wpAny M A (letOwnedTupleGo tg (.ref it) u) Q E s := by
  unfold letOwnedTupleGo
  cases tg <;> first
    | exact wpAny_pure hQ
    | (cases u <;> first
        | exact wpAny_pure hQ
        | (refine wpAny_bind (wpAny_load ho ?_)
           rw [hc, hd]
           show wpAny M A (if (["enumerate", "zip", "dict_itemiterator", "dict_reverseitemiterator", "odict_iterator", "itertools.zip_longest", "itertools.pairwise"].contains n && vs[0]? == some (rawInt _)) = true then _ else _) Q E s
           rw [if_neg (by intro h; rw [hn, Bool.false_and] at h; cases h)]
           exact wpAny_pure hQ))

noncomputable def Itl (K : PySem.W.Frag) (a : Addr) : It :=
  ⟨fun i H => ∃ xs x, SqL K H a xs ∧ xs[i]? = some x, fun i H x H' => H' = H ∧ ∀ xs, SqL K H a xs → xs[i]? = some x, fun i H => ∃ xs, SqL K H a xs ∧ xs.length ≤ i⟩
noncomputable def Itt (K : PySem.W.Frag) (a : Addr) : It :=
  ⟨fun i H => ∃ xs x, SqT K H a xs ∧ xs[i]? = some x, fun i H x H' => H' = H ∧ ∀ xs, SqT K H a xs → xs[i]? = some x, fun i H => ∃ xs, SqT K H a xs ∧ xs.length ≤ i⟩
noncomputable def Itr (lo : Int) (n : Nat) : It := ⟨fun i _ => i < n, fun i H x H' => H' = H ∧ x = .int (lo + i), fun i _ => n ≤ i⟩
theorem turn_list {P : Program} {w : World} {K : PySem.W.Frag} {tg : Expr} (a it : Addr) : Turn P w K tg (Itl K a) [it] it (fun i h => h.IsListIter it a i) where
  mem := by simp
  obj := fun i h st b hb => by
    have e : b = it := by simpa using hb
    subst e
    obtain ⟨o, e, c, d⟩ := st
    exact ⟨o, e, fun v z => by rw [d] at z; cases z⟩
  keep := fun i h h' st k => st.at fun o e => k it (by simp) o e
  item := by
    intro X hP hw hK hc i pins s σ H E I hf st hg
    subst hP hw hK
    obtain ⟨xs, x, hq, hx⟩ := hg
    obtain ⟨its, rv, p, hz⟩ := I.list hq
    obtain ⟨u, hu, ru⟩ := rv.get hx
    obtain ⟨f0, f1, f2, f3, f4, f5⟩ := hf it (by simp)
    refine wpAny_pyNext_list_item st p.isList (x := u) (by simpa using hu) fun h' st' sb => ?_
    have I1 : Inv X pins σ H { s with heap := h' } := I.turned (t' := s.toks) (fun b o hb e => (sb.2 b hb).trans e) f0 f1 f3 f4 f5
    obtain ⟨o, e, c, d⟩ := id st'
    exact ⟨u, rfl, go_of (s := { s with heap := h' }) e c d (by decide) ⟨x, H, I1, ru, ⟨rfl, fun ys hy => by rw [I.list_inj hy hq]; exact hx⟩, st', fun b hb => (hf b hb).1⟩⟩
  done := by
    intro X hP hw hK hc i pins s σ H E I hf st hg
    subst hP hw hK
    obtain ⟨xs, hq, hx⟩ := hg
    obtain ⟨its, rv, p, hz⟩ := I.list hq
    obtain ⟨f0, f1, f2, f3, f4, f5⟩ := hf it (by simp)
    have hl := rv.length
    exact wpAny_pyNext_list_end (I.ok.hd hc) st p.isList (by simp; (first | lia | omega)) fun h' eb => ⟨rfl, I.turned (t' := s.toks) (fun b o hb e => eb b o hb e) f0 f1 f3 f4 f5⟩
  self := fun _ _ _ _ _ st h => wpAny_pyIter_listiter st h
theorem turn_tuple {P : Program} {w : World} {K : PySem.W.Frag} {tg : Expr} (a it : Addr) : Turn P w K tg (Itt K a) [it] it (fun i h => h.IsTupleIter it a i) where
  mem := by simp
  obj := fun i h st b hb => by
    have e : b = it := by simpa using hb
    subst e
    obtain ⟨o, e, c, d⟩ := st
    exact ⟨o, e, fun v z => by rw [d] at z; cases z⟩
  keep := fun i h h' st k => st.at fun o e => k it (by simp) o e
  item := by
    intro X hP hw hK hc i pins s σ H E I hf st hg
    subst hP hw hK
    obtain ⟨xs, x, hq, hx⟩ := hg
    obtain ⟨its, rv, p, hz⟩ := I.tuple hq
    obtain ⟨u, hu, ru⟩ := rv.get hx
    obtain ⟨f0, f1, f2, f3, f4, f5⟩ := hf it (by simp)
    refine wpAny_pyNext_tuple_item st (show s.heap.IsTuple a its.toArray from p) (x := u) (by simpa using hu) fun h' st' sb => ?_
    have I1 : Inv X pins σ H { s with heap := h' } := I.turned (t' := s.toks) (fun b o hb e => (sb.2 b hb).trans e) f0 f1 f3 f4 f5
    obtain ⟨o, e, c, d⟩ := id st'
    exact ⟨u, rfl, go_of (s := { s with heap := h' }) e c d (by decide) ⟨x, H, I1, ru, ⟨rfl, fun ys hy => by rw [I.tuple_inj hy hq]; exact hx⟩, st', fun b hb => (hf b hb).1⟩⟩
  done := by
    intro X hP hw hK hc i pins s σ H E I hf st hg
    subst hP hw hK
    obtain ⟨xs, hq, hx⟩ := hg
    obtain ⟨its, rv, p, hz⟩ := I.tuple hq
    obtain ⟨f0, f1, f2, f3, f4, f5⟩ := hf it (by simp)
    have hl := rv.length
    exact wpAny_pyNext_tuple_end (I.ok.hd hc) st (show s.heap.IsTuple a its.toArray from p) (by simp; (first | lia | omega)) fun h' eb => ⟨rfl, I.turned (t' := s.toks) (fun b o hb e => eb b o hb e) f0 f1 f3 f4 f5⟩
  self := fun _ _ _ _ _ st h => wpAny_pyIter_tupleiter st h
theorem turn_range {P : Program} {w : World} {K : PySem.W.Frag} {tg : Expr} (it : Addr) (lo : Int) (n : Nat) : Turn P w K tg (Itr lo n) [it] it (fun i h => IsRangeIter h it (lo + (i : Nat) * 1) ((n : Int) - (i : Nat)) 1) where
  mem := by simp
  obj := fun i h st b hb => by
    have e : b = it := by simpa using hb
    subst e
    exact ⟨_, st, fun v z => by
      have z' : Data.fields _ = Data.cell v := z
      cases z'⟩
  keep := fun i h h' st k => k it (by simp) _ st
  item := by
    intro X hP hw hK hc i pins s σ H E I hf st hg
    subst hP hw hK
    obtain ⟨f0, f1, f2, f3, f4, f5⟩ := hf it (by simp)
    have W := Walks.range (prog := X.prog) (w := X.w) (I.ok.hd hc) it lo 1 n
    refine W.item i s _ _ hg st fun v h' tk hv st' kk => ?_
    obtain ⟨t, rfl⟩ := hv
    have I1 : Inv X pins σ H { s with heap := h', toks := tk } := I.turned (fun b o hb e => kk b o (by simpa using hb) e) f0 f1 f3 f4 f5
    refine ⟨_, rfl, go_of (s := { s with heap := h', toks := tk }) (n := "range_iterator") st' rfl rfl (by decide) ⟨.int (lo + i), H, I1, ⟨t, ?_⟩, ⟨rfl, rfl⟩, st', fun b hb => (hf b hb).1⟩⟩
    rw [Int.mul_one]
  done := by
    intro X hP hw hK hc i pins s σ H E I hf st hg
    subst hP hw hK
    obtain ⟨f0, f1, f2, f3, f4, f5⟩ := hf it (by simp)
    exact wpAny_pyNext_range_end (I.ok.hd hc) st (by have : n ≤ i := hg; (first | lia | omega)) fun h' eb => ⟨rfl, I.turned (t' := s.toks) (fun b o hb e => eb b o hb e) f0 f1 f3 f4 f5⟩
  self := fun _ _ _ _ _ st h => wpAny_pyIter_rangeiter st h
end L2

namespace L2
open PySem PySem.Spec PyProof.Rows
section
variable {X : Cx} {tg : Expr}
theorem range_it {pins : List (Addr × Obj)} {σ : St} {H : Hp} {s : Shared} {R : It → Hp → Prop} {E : Value → Shared → Prop} {lo hi : Int} {t u v : Tok} {tk : Nat} (I : Inv X pins σ H s) (h1 : -(2 ^ 62) ≤ lo) (h2 : lo < 2 ^ 62) (h3 : -(2 ^ 62) ≤ hi) (h4 : hi < 2 ^ 62)
    (q : R (Itr lo (hi - lo).toNat) H) : wpAny (model X.prog X.w) X.A (pyIter (.ref s.heap.objs.size)) (PIE X pins σ tg R) E { s with heap := s.heap.push { cls := .type "range", data := .fields #[.int lo t, .int hi u, .int 1 v] }, toks := tk } := by
  refine wpAny_pyIter_range (IsRange.new ..) (small_one h1 h2 h3 h4) ?_
  have I1 : Inv X pins σ H { s with heap := s.heap.push { cls := .type "range", data := .fields #[.int lo t, .int hi u, .int 1 v] }, toks := tk } := I.kept fun b o e => Heap.get?_push_of_some _ e
  refine ⟨(s.heap.push { cls := .type "range", data := .fields #[.int lo t, .int hi u, .int 1 v] }).objs.size, [(s.heap.push { cls := .type "range", data := .fields #[.int lo t, .int hi u, .int 1 v] }).objs.size], _, _, H, rfl,
    I1.kept (t' := tk) fun b o e => Heap.get?_push_of_some _ e, turn_range _ lo (hi - lo).toNat, ?_, fun b hb => ?_, q⟩
  · have e1 : lo + ((0 : Nat) : Int) * 1 = lo := by simp
    have e2 : (((hi - lo).toNat : Nat) : Int) - ((0 : Nat) : Int) = Builtin.Range.rangeSize lo hi 1 := by rw [rangeSize_one]; split <;> (first | lia | omega)
    show IsRangeIter _ _ (lo + ((0 : Nat) : Int) * 1) ((((hi - lo).toNat : Nat) : Int) - ((0 : Nat) : Int)) 1
    rw [e1, e2]
    exact Heap.get?_push_size _ rfl
  · have e : b = (s.heap.push { cls := .type "range", data := .fields #[.int lo t, .int hi u, .int 1 v] }).objs.size := by simpa using hb
    subst e
    exact I1.fpOk (Nat.le_refl _) (I1.hok.fresh (Nat.le_refl _))
noncomputable def iRng1 (ta : TA) : TI := fun σ H R => ta σ H fun vs H1 => ∃ j : Int, vs = [.int j] ∧ -(2 ^ 62) ≤ j ∧ j < 2 ^ 62 ∧ R (Itr 0 j.toNat) H1
noncomputable def iRng2 (ta : TA) : TI := fun σ H R => ta σ H fun vs H1 => ∃ i j : Int, vs = [.int i, .int j] ∧ (-(2 ^ 62) ≤ i ∧ i < 2 ^ 62 ∧ -(2 ^ 62) ≤ j ∧ j < 2 ^ 62) ∧ R (Itr i (j - i).toNat) H1
theorem pi_range1 {a : Expr} {ta : TA} {p pos : Pos} (hg : Gl X "range") (hm : X.mg "range" = none) (ha : PA X [a] ta) (hs : starEach [a] X.env = [(false, eval a X.env)] := by rfl) : PI X tg (.Call (.Name "range" p) [a] [] pos) (iRng1 ta) := by
  intro pins s σ H R I h
  refine Call_ (ld_blt I hg hm boot_range (PyProof.Rows.callWith_type1 (thn (ha pos pins s σ H _ I h) fun us s1 z37_ => ?_) hs rfl))
  obtain ⟨vs, H1, I1, r1, q1⟩ := z37_
  obtain ⟨j, e, q1, q2, q⟩ := q1
  subst e
  cases r1 with
  | cons r rr =>
    cases rr
    obtain ⟨t, rfl⟩ := r
    exact call_range_1 (range_it I1 (by (first | lia | omega)) (by (first | lia | omega)) q1 q2 (by simpa using q))
theorem pi_range2 {a b : Expr} {ta : TA} {p pos : Pos} (hg : Gl X "range") (hm : X.mg "range" = none) (ha : PA X [a, b] ta) (hs : starEach [a, b] X.env = [(false, eval a X.env), (false, eval b X.env)] := by rfl) (hs2 : starEach [b] X.env = [(false, eval b X.env)] := by rfl) :
    PI X tg (.Call (.Name "range" p) [a, b] [] pos) (iRng2 ta) := by
  intro pins s σ H R I h
  refine Call_ (ld_blt I hg hm boot_range (PyProof.Rows.callWith_type1 (thn (ha pos pins s σ H _ I h) fun us s1 ⟨vs, H1, I1, r1, q1⟩ => ?_) (by rw [hs, hs2]) (by rw [hs2]; rfl)))
  obtain ⟨i, j, e, ⟨q1, q2, q3, q4⟩, q⟩ := q1
  subst e
  cases r1 with
  | cons r rr =>
    cases rr with
    | cons r' rr =>
      cases rr
      obtain ⟨t, rfl⟩ := r
      obtain ⟨t', rfl⟩ := r'
      exact call_range_2 (range_it I1 q1 q2 q3 q4 q)


noncomputable def tFor (wi : TI) (g : TG) (tb : TS) : TS := fun D σ H => wi σ H fun J H1 => ∃ W : Nat → Nat → St → Hp → Prop, (∃ m, W 0 m σ H1) ∧ ∀ i m σ H, W i m σ H →
  (J.stop i H ∧ D.nx σ H) ∨ (J.go i H ∧ ∃ N : St → Hp → Prop, (∀ σ' H', N σ' H' → ∃ m', m' < m ∧ W (i + 1) m' σ' H') ∧ ∀ x H', J.yld i H x H' → g x σ H' fun σ2 H2 => tb { D with nx := N, ct := N, bk := D.nx } σ2 H2)
noncomputable def pinsAt (fp : List Addr) (h : Heap) : List (Addr × Obj) := fp.filterMap fun b => (h.get? b).map fun o => (b, o)
theorem mem_pinsAt {fp : List Addr} {h : Heap} {b : Addr} {o : Obj} (hb : b ∈ fp) (e : h.get? b = some o) : (b, o) ∈ pinsAt fp h := List.mem_filterMap.mpr ⟨b, hb, by rw [e]; rfl⟩
theorem of_pinsAt {fp : List Addr} {h : Heap} {p : Addr × Obj} (hp : p ∈ pinsAt fp h) : p.1 ∈ fp ∧ h.get? p.1 = some p.2 := by
  obtain ⟨b, hb, e⟩ := List.mem_filterMap.mp hp
  cases q : h.get? b with
  | none => rw [q] at e; cases e
  | some o =>
    rw [q] at e
    have e' : (b, o) = p := Option.some.inj e
    subst e'
    exact ⟨hb, q⟩
theorem Inv.pinned {pins : List (Addr × Obj)} {σ : St} {H : Hp} {s : Shared} {fp : List Addr} (I : Inv X pins σ H s) (hf : ∀ b ∈ fp, FpOk X pins H b) (ho : ∀ b ∈ fp, ∃ o, s.heap.get? b = some o ∧ ∀ v, o.data ≠ .cell v) : Inv X (pins ++ pinsAt fp s.heap) σ H s :=
  I.pins_of fun p hp => (List.mem_append.mp hp).elim (fun z => I.pin p (List.mem_append_right _ z)) fun z => by
    obtain ⟨hb, e⟩ := of_pinsAt z
    obtain ⟨f0, f1, f2, _⟩ := hf p.1 hb
    obtain ⟨o, e', d⟩ := ho p.1 hb
    rw [e] at e'; cases e'
    exact ⟨e, f0, f1, f2, d⟩
theorem Inv.unpinned {pins pl : List (Addr × Obj)} {σ : St} {H : Hp} {s : Shared} (I : Inv X (pins ++ pl) σ H s) : Inv X pins σ H s := I.pins_of fun p hp => I.pin p (List.mem_append_right _ (List.mem_append_left _ hp))
inductive FLI (X : Cx) (pins : List (Addr × Obj)) (tn : Nat → Heap → Prop) (fp : List Addr) (W : Nat → Nat → St → Hp → Prop) (n : Nat) (s' : Shared) : Prop where
  | mk (i : Nat) (σ' : St) (H' : Hp) (ii : Inv X pins σ' H' s') (st : tn i s'.heap) (fr : ∀ b ∈ fp, H' b = none) (w : W i n σ' H') : FLI X pins tn fp W n s'
theorem ps_for {iter : Expr} {body : List Stmt} {wi : TI} {g : TG} {tb : TS} {pos : Pos} (hp : PassesOwn (model X.prog X.w) X.A X.env X.xe) (hc : X.calm = true) (hi : PI X tg iter wi) (hg : PG X tg g) (hb : PSs X body tb)
    (hs : ∀ x, foldedSetIterable iter X.env x = pure x := by intro _; rfl) : PS X (.For tg iter body [] pos) (tFor wi g tb) := by
  intro pins s σ H D I h
  refine wpAny_For (thn (hi pins s σ H _ I h) fun v s1 h1 => thn h1 fun itv s2 h2 => ?_) hs
  obtain ⟨it, fp, tn, J, H2, e, I2, T, st2, f2, W, ⟨m0, w0⟩, turn⟩ := h2
  subst e
  -- what stays true of the iterator's objects through the loop
  have stat : ∀ {H' : Hp}, (∀ b ∈ fp, H' b = none) → ∀ b ∈ fp, FpOk X pins H' b := fun hn b hb => ⟨hn b hb, (f2 b hb).2⟩
  refine codeAny_forLoop_any (FLI X pins tn fp W) ?_ m0 ⟨0, σ, H2, I2, st2, fun b hb => (f2 b hb).1, w0⟩
  rintro n s3 ⟨i, σ3, H3, I3, st3, fr3, w3⟩
  rcases turn i n σ3 H3 w3 with ⟨stop, qn⟩ | ⟨go, N, hN, step⟩
  · refine wpAny_passesOwn hp (thn (T.done X rfl rfl rfl hc i pins s3 σ3 H3 X.xe I3 (stat fr3) st3 stop) fun r s4 z39_ => ?_)
    obtain ⟨hr, I4⟩ := z39_
    subst hr
    exact wpAny_execs_nil ⟨σ3, H3, I4, qn⟩
  · refine wpAny_passesOwn hp (thn (T.item X rfl rfl rfl hc i pins s3 σ3 H3 X.xe I3 (stat fr3) st3 go) fun r s4 z40_ => ?_)
    obtain ⟨u, hr, h4⟩ := z40_
    subst hr
    refine wpAny_passesOwn hp (thn h4 fun _ s5 z41_ => ?_)
    obtain ⟨x, H5, I5, r5, y5, st5, fr5⟩ := z41_
    have I5' := I5.pinned (stat fr5) (T.obj _ _ st5)
    refine wpAny_passesOwn hp (thn (hg _ s5 σ3 H5 x u _ I5' r5 (step x H5 y5)) fun _ s6 z42_ => ?_)
    obtain ⟨σ6, H6, I6, q6⟩ := z42_
    refine wpAny_passesOwn hp (thn (hb _ s6 σ6 H6 _ I6 q6) fun f s7 q7 => ?_)
    have again : ∀ {σ7 : St} {H7 : Hp}, Inv X (pins ++ pinsAt fp s5.heap) σ7 H7 s7 → N σ7 H7 → ∃ m, m < n ∧ FLI X pins tn fp W m s7 := fun {σ7 H7} I7 n7 => by
      obtain ⟨m', hm, w7⟩ := hN σ7 H7 n7
      refine ⟨m', hm, i + 1, σ7, H7, I7.unpinned, T.keep _ _ _ st5 fun b hb o e => (I7.pin (b, o) (List.mem_append_right _ (List.mem_append_right _ (mem_pinsAt hb e)))).1, fun b hb => ?_, w7⟩
      obtain ⟨o, e, d⟩ := T.obj _ _ st5 b hb
      exact (I7.pin (b, o) (List.mem_append_right _ (List.mem_append_right _ (mem_pinsAt hb e)))).2.1
    cases f with
    | next => obtain ⟨σ7, H7, I7, n7⟩ := q7; exact again I7 n7
    | cont => obtain ⟨σ7, H7, I7, n7⟩ := q7; exact again I7 n7
    | brk => obtain ⟨σ7, H7, I7, q7⟩ := q7; exact ⟨σ7, H7, I7.unpinned, q7⟩
    | ret v => obtain ⟨x7, σ7, H7, I7, r7, q7⟩ := q7; exact ⟨x7, σ7, H7, I7.unpinned, r7, q7⟩
end


end L2

namespace L2
open PySem PySem.Spec PyProof.Rows

noncomputable abbrev R2 := V → V → Hp → VK → Prop
noncomputable def OpR (X : Cx) (f : Value → Value → Sem Value) (r : R2) : Prop :=
  ∀ (pins : List (Addr × Obj)) (s : Shared) (σ : St) (H : Hp) (x y : V) (v u : Value) (Q : VK), Inv X pins σ H s → RelV x v → RelV y u → r x y H Q →
    wpAny (model X.prog X.w) X.A (f v u) (EP X pins σ Q) X.xe s
noncomputable def UnR (X : Cx) (f : Value → Sem Value) (r : V → Hp → VK → Prop) : Prop :=
  ∀ (pins : List (Addr × Obj)) (s : Shared) (σ : St) (H : Hp) (x : V) (v : Value) (Q : VK), Inv X pins σ H s → RelV x v → r x H Q →
    wpAny (model X.prog X.w) X.A (f v) (EP X pins σ Q) X.xe s
noncomputable def CallR (X : Cx) (f : Value) (r : List V → Hp → VK → Prop) : Prop :=
  ∀ (pins : List (Addr × Obj)) (s : Shared) (σ : St) (H : Hp) (xs : List V) (us : List Value) (Q : VK), Inv X pins σ H s → Vals xs us → r xs H Q →
    wpAny (model X.prog X.w) X.A (call f us) (EP X pins σ Q) X.xe s
noncomputable def TruR (X : Cx) (r : V → Hp → (Bool → Hp → Prop) → Prop) : Prop :=
  ∀ (pins : List (Addr × Obj)) (s : Shared) (σ : St) (H : Hp) (x : V) (v : Value) (Q : Bool → Hp → Prop), Inv X pins σ H s → RelV x v → r x H Q →
    wpAny (model X.prog X.w) X.A (truthy v) (TP X pins σ Q) X.xe s

noncomputable def tOp (r : R2) (ta tb : TE) : TE := fun σ H Q => ta σ H fun x H1 => tb σ H1 fun y H2 => r x y H2 Q
noncomputable def tUn (r : V → Hp → VK → Prop) (ta : TE) : TE := fun σ H Q => ta σ H fun x H1 => r x H1 Q
noncomputable def rI (C : Int → Int → Prop) (g : Int → Int → V) : R2 := fun x y H Q => ∃ i j, x = .int i ∧ y = .int j ∧ C i j ∧ Q (g i j) H
noncomputable def rI0 (g : Int → Int → V) : R2 := fun x y H Q => ∃ i j, x = .int i ∧ y = .int j ∧ Q (g i j) H
noncomputable def rU (g : Int → V) : V → Hp → VK → Prop := fun x H Q => ∃ i, x = .int i ∧ Q (g i) H

section
variable {X : Cx} {a b c : Expr} {ta tb tc : TE} {pos : Pos}

theorem binT (ha : PE X a ta) (hb : PE X b tb) {pins : List (Addr × Obj)} {s : Shared} {σ : St} {H : Hp} {R : V → V → Hp → Prop} (I : Inv X pins σ H s)
    (h : ta σ H fun x H1 => tb σ H1 fun y H2 => R x y H2) {Q : Value → Shared → Prop} {f : Value → Value → Sem Value}
    (hf : ∀ v u s2 x y H2, Inv X pins σ H2 s2 → RelV x v → RelV y u → R x y H2 → wpAny (model X.prog X.w) X.A (f v u) Q X.xe s2) :
    wpAny (model X.prog X.w) X.A (eval a X.env) (fun v s₁ => wpAny (model X.prog X.w) X.A (eval b X.env) (fun u s₂ => wpAny (model X.prog X.w) X.A (f v u) Q X.xe s₂) X.xe s₁) X.xe s := by
  refine thn (ha pins s σ H _ I h) fun v s1 z44_ => ?_
  obtain ⟨x, H1, I1, r1, q1⟩ := z44_
  refine thn (hb pins s1 σ H1 _ I1 q1) fun u s2 z45_ => ?_
  obtain ⟨y, H2, I2, r2, q2⟩ := z45_
  exact hf v u s2 x y H2 I2 r1 r2 q2

theorem pe_op {op : Operator} {r : R2} (ho : OpR X (binaryOp op) r) (ha : PE X a ta) (hb : PE X b tb) : PE X (.BinOp a op b pos) (tOp r ta tb) := by
  intro pins s σ H Q I h
  exact wpAny_BinOp (binT ha hb I h fun v u s2 x y H2 I2 rx ry q => ho pins s2 σ H2 x y v u Q I2 rx ry q)
theorem pe_un {op : UnaryOp} {r : V → Hp → VK → Prop} (ho : UnR X (unaryOp op) r) (ha : PE X a ta) : PE X (.UnaryOp op a pos) (tUn r ta) := by
  intro pins s σ H Q I h
  exact UnaryOp_ (thn (ha pins s σ H _ I h) fun v s1 z46_ => by obtain ⟨x, H1, I1, r1, q1⟩ := z46_; exact (ho pins s1 σ H1 x v Q I1 r1 q1))
theorem opI {f : Value → Value → Sem Value} {C : Int → Int → Prop} {g : Int → Int → Int}
    (rule : ∀ (i j : Int) (t u : Tok) (s : Shared) (Q : Value → Shared → Prop) (E : Value → Shared → Prop), C i j → Q (.int (g i j) s.toks) { s with toks := s.toks + 1 } → wpAny (model X.prog X.w) X.A (f (.int i t) (.int j u)) Q E s) :
    OpR X f (rI C fun i j => .int (g i j)) := by
  intro pins s σ H x y v u Q I rx ry h
  obtain ⟨i, j, rfl, rfl, hc, q⟩ := h
  obtain ⟨t, rfl⟩ := rx
  obtain ⟨t', rfl⟩ := ry
  exact rule i j t t' s _ _ hc ⟨.int (g i j), H, I.tok _, ⟨_, rfl⟩, q⟩
theorem opI0 {f : Value → Value → Sem Value} {g : Int → Int → Int}
    (rule : ∀ (i j : Int) (t u : Tok) (s : Shared) (Q : Value → Shared → Prop) (E : Value → Shared → Prop), Q (.int (g i j) s.toks) { s with toks := s.toks + 1 } → wpAny (model X.prog X.w) X.A (f (.int i t) (.int j u)) Q E s) :
    OpR X f (rI0 fun i j => .int (g i j)) := by
  intro pins s σ H x y v u Q I rx ry h
  obtain ⟨i, j, rfl, rfl, q⟩ := h
  obtain ⟨t, rfl⟩ := rx
  obtain ⟨t', rfl⟩ := ry
  exact rule i j t t' s _ _ ⟨.int (g i j), H, I.tok _, ⟨_, rfl⟩, q⟩
theorem opB0 {f : Value → Value → Sem Value} {g : Int → Int → Bool}
    (rule : ∀ (i j : Int) (t u : Tok) (s : Shared) (Q : Value → Shared → Prop) (E : Value → Shared → Prop), Q (.bool (g i j)) s → wpAny (model X.prog X.w) X.A (f (.int i t) (.int j u)) Q E s) :
    OpR X f (rI0 fun i j => .bl (g i j)) := by
  intro pins s σ H x y v u Q I rx ry h
  obtain ⟨i, j, rfl, rfl, q⟩ := h
  obtain ⟨t, rfl⟩ := rx
  obtain ⟨t', rfl⟩ := ry
  exact rule i j t t' s _ _ ⟨.bl (g i j), H, I, rfl, q⟩

noncomputable def CDiv (i j : Int) : Prop := 0 < j ∧ j < 1073741824
noncomputable def CPow (i j : Int) : Prop := 0 ≤ j ∧ j ≤ 1000000 ∧ i.natAbs < 2 ^ 64
noncomputable def CMul (i j : Int) : Prop := (-(2 ^ 64) < i ∧ i < 2 ^ 64) ∨ (-(2 ^ 64) < j ∧ j < 2 ^ 64)
theorem CMul.ok {i j : Int} (h : CMul i j) : IntMulOk i j := by
  rcases h with ⟨h1, h2⟩ | ⟨h1, h2⟩
  · exact .of_left (intBits_le_64 h1 h2)
  · exact .of_right (intBits_le_64 h1 h2)
theorem op_add : OpR X (binaryOp .Add) (rI0 fun i j => .int (i + j)) := opI0 fun _ _ _ _ _ _ _ q => add_int q
theorem op_sub : OpR X (binaryOp .Sub) (rI0 fun i j => .int (i - j)) := opI0 fun _ _ _ _ _ _ _ q => sub_int q
theorem op_mod : OpR X (binaryOp .Mod) (rI (fun _ j => 0 < j) fun i j => .int (i % j)) := opI fun i j _ _ _ _ _ hc q => by
  have h1 : (0 : Int) < j := hc
  exact mod_int' (by (first | lia | omega)) (by rw [Int.fmod_eq_emod_of_nonneg i (by (first | lia | omega))]; exact q)
theorem op_pow : OpR X (binaryOp .Pow) (rI CPow fun i j => .int (i ^ j.toNat)) := opI fun _ _ _ _ _ _ _ hc q => pow_int_small hc.1 hc.2.1 hc.2.2 q
theorem unI {f : Value → Sem Value} {g : Int → Int}
    (rule : ∀ (i : Int) (t : Tok) (s : Shared) (Q : Value → Shared → Prop) (E : Value → Shared → Prop), Q (.int (g i) s.toks) { s with toks := s.toks + 1 } → wpAny (model X.prog X.w) X.A (f (.int i t)) Q E s) :
    UnR X f (rU fun i => .int (g i)) := by
  intro pins s σ H x v Q I rx h
  obtain ⟨i, rfl, q⟩ := h
  obtain ⟨t, rfl⟩ := rx
  exact rule i t s _ _ ⟨.int (g i), H, I.tok _, ⟨_, rfl⟩, q⟩
theorem un_neg : UnR X (unaryOp .USub) (rU fun i => .int (-i)) := unI fun _ _ _ _ _ q => neg_int q
end


noncomputable def scal : V → V → Bool
  | .non, .non => true | .non, .int _ => true | .int _, .non => true | .non, .bl _ => true | .bl _, .non => true | .non, .str _ => true | .str _, .non => true
  | .int _, .int _ => true | .bl _, .bl _ => true | .str _, .str _ => true | .byt _, .byt _ => true
  | .int _, .str _ => true | .str _, .int _ => true | .bl _, .str _ => true | .str _, .bl _ => true
  | _, _ => false
noncomputable def rEq : R2 := fun x y H Q => scal x y = true ∧ Q (.bl (decide (x = y))) H
noncomputable def rNe : R2 := fun x y H Q => scal x y = true ∧ Q (.bl (!decide (x = y))) H

theorem dec_int {i j : Int} : decide (V.int i = V.int j) = (i == j) := by
  rw [Bool.eq_iff_iff]
  simp
theorem dec_bl {i j : Bool} : decide (V.bl i = V.bl j) = (i == j) := by
  rw [Bool.eq_iff_iff]
  simp
theorem dec_str {i j : Str} : decide (V.str i = V.str j) = (i == j) := by
  rw [Bool.eq_iff_iff]
  simp
theorem dec_byt {i j : Array UInt8} : decide (V.byt i = V.byt j) = (i.toList == j.toList) := by
  rw [Bool.eq_iff_iff]
  cases i
  cases j
  simp

section
variable {X : Cx} {a b c : Expr} {ta tb tc : TE} {pos : Pos}
theorem fin_bl {pins : List (Addr × Obj)} {σ : St} {H : Hp} {s : Shared} {Q : VK} {k k' : Bool} (I : Inv X pins σ H s) (q : Q (.bl k) H) (e : k = k') : EP X pins σ Q (.bool k') s := by
  subst e
  exact ⟨.bl k, H, I, rfl, q⟩
theorem op_eq : OpR X (compareOp .Eq) rEq := by
  intro pins s σ H x y v u Q I rx ry h
  obtain ⟨hs, q⟩ := h
  cases x with
  | non =>
    cases rx
    cases y with
    | non => cases ry; exact PySem.EqNone.eq_none_none (fin_bl I q (by simp))
    | bl j => cases ry; exact PySem.EqNone.eq_none_bool (fin_bl I q (by simp))
    | int j => obtain ⟨t', rfl⟩ := ry; exact PySem.EqNone.eq_none_int (fin_bl I q (by simp))
    | str j => obtain ⟨t', rfl⟩ := ry; exact PySem.EqNone.eq_none_str (fin_bl I q (by simp))
    | _ => exact absurd (show false = true from hs) Bool.false_ne_true
  | bl i =>
    cases rx
    cases y with
    | non => cases ry; exact PySem.EqNone.eq_bool_none (fin_bl I q (by simp))
    | bl j => cases ry; exact eq_bool (fin_bl I q dec_bl)
    | str j => obtain ⟨t', rfl⟩ := ry; exact PySem.EqMixed.eq_bool_str (fin_bl I q (by simp))
    | _ => exact absurd (show false = true from hs) Bool.false_ne_true
  | int i =>
    obtain ⟨t, rfl⟩ := rx
    cases y with
    | non => cases ry; exact PySem.EqNone.eq_int_none (fin_bl I q (by simp))
    | int j => obtain ⟨t', rfl⟩ := ry; exact eq_int (fin_bl I q dec_int)
    | str j => obtain ⟨t', rfl⟩ := ry; exact PySem.EqMixed.eq_int_str (fin_bl I q (by simp))
    | _ => exact absurd (show false = true from hs) Bool.false_ne_true
  | str i =>
    obtain ⟨t, rfl⟩ := rx
    cases y with
    | non => cases ry; exact PySem.EqNone.eq_str_none (fin_bl I q (by simp))
    | bl j => cases ry; exact PySem.EqMixed.eq_str_bool (fin_bl I q (by simp))
    | int j => obtain ⟨t', rfl⟩ := ry; exact PySem.EqMixed.eq_str_int (fin_bl I q (by simp))
    | str j => obtain ⟨t', rfl⟩ := ry; exact eq_str (fin_bl I q dec_str)
    | _ => exact absurd (show false = true from hs) Bool.false_ne_true
  | byt i =>
    obtain ⟨t, rfl⟩ := rx
    cases y with
    | byt j => obtain ⟨t', rfl⟩ := ry; exact PySem.W.eq_bytes (fin_bl I q dec_byt)
    | _ => exact absurd (show false = true from hs) Bool.false_ne_true
  | _ => cases y <;> exact absurd (show false = true from hs) Bool.false_ne_true
theorem op_ne : OpR X (compareOp .NotEq) rNe := by
  intro pins s σ H x y v u Q I rx ry h
  obtain ⟨hs, q⟩ := h
  cases x with
  | non =>
    cases rx
    cases y with
    | non => cases ry; exact PySem.EqNone.ne_none_none (fin_bl I q (by simp))
    | bl j => cases ry; exact PySem.EqNone.ne_none_bool (fin_bl I q (by simp))
    | int j => obtain ⟨t', rfl⟩ := ry; exact PySem.EqNone.ne_none_int (fin_bl I q (by simp))
    | str j => obtain ⟨t', rfl⟩ := ry; exact PySem.EqNone.ne_none_str (fin_bl I q (by simp))
    | _ => exact absurd (show false = true from hs) Bool.false_ne_true
  | bl i =>
    cases rx
    cases y with
    | non => cases ry; exact PySem.EqNone.ne_bool_none (fin_bl I q (by simp))
    | bl j => cases ry; exact ne_bool (fin_bl I q (congrArg not dec_bl))
    | str j => obtain ⟨t', rfl⟩ := ry; exact PySem.EqMixed.ne_bool_str (fin_bl I q (by simp))
    | _ => exact absurd (show false = true from hs) Bool.false_ne_true
  | int i =>
    obtain ⟨t, rfl⟩ := rx
    cases y with
    | non => cases ry; exact PySem.EqNone.ne_int_none (fin_bl I q (by simp))
    | int j => obtain ⟨t', rfl⟩ := ry; exact ne_int (fin_bl I q (congrArg not dec_int))
    | str j => obtain ⟨t', rfl⟩ := ry; exact PySem.EqMixed.ne_int_str (fin_bl I q (by simp))
    | _ => exact absurd (show false = true from hs) Bool.false_ne_true
  | str i =>
    obtain ⟨t, rfl⟩ := rx
    cases y with
    | non => cases ry; exact PySem.EqNone.ne_str_none (fin_bl I q (by simp))
    | bl j => cases ry; exact PySem.EqMixed.ne_str_bool (fin_bl I q (by simp))
    | int j => obtain ⟨t', rfl⟩ := ry; exact PySem.EqMixed.ne_str_int (fin_bl I q (by simp))
    | str j => obtain ⟨t', rfl⟩ := ry; exact ne_str (fin_bl I q (congrArg not dec_str))
    | _ => exact absurd (show false = true from hs) Bool.false_ne_true
  | byt i =>
    obtain ⟨t, rfl⟩ := rx
    cases y with
    | byt j => obtain ⟨t', rfl⟩ := ry; exact PySem.W.ne_bytes (fin_bl I q (congrArg not dec_byt))
    | _ => exact absurd (show false = true from hs) Bool.false_ne_true
  | _ => cases y <;> exact absurd (show false = true from hs) Bool.false_ne_true

theorem op_lt : OpR X (compareOp .Lt) (rI0 fun i j => .bl (decide (i < j))) := opB0 fun _ _ _ _ _ _ _ q => lt_int q
theorem op_le : OpR X (compareOp .LtE) (rI0 fun i j => .bl (decide (i ≤ j))) := opB0 fun _ _ _ _ _ _ _ q => le_int q
theorem op_gt : OpR X (compareOp .Gt) (rI0 fun i j => .bl (decide (j < i))) := opB0 fun _ _ _ _ _ _ _ q => gt_int q
theorem op_ge : OpR X (compareOp .GtE) (rI0 fun i j => .bl (decide (j ≤ i))) := opB0 fun _ _ _ _ _ _ _ q => ge_int q
theorem op_notN : OpR X (compareOp .IsNot) (fun x y H Q => y = .non ∧ Q (.bl (!decide (x = .non))) H) := by
  intro pins s σ H x y v u Q I rx ry h
  obtain ⟨rfl, q⟩ := h
  cases ry
  refine isnot_none_gen (fin_bl I q ?_)
  cases x <;> first
    | (cases rx; rfl)
    | (obtain ⟨t, rfl⟩ := rx; rfl)

theorem OpR.or {f : Value → Value → Sem Value} {r r' : R2} (h : OpR X f r) (h' : OpR X f r') : OpR X f (fun x y H Q => r x y H Q ∨ r' x y H Q) := by
  intro pins s σ H x y v u Q I rx ry q
  rcases q with q | q
  · exact h pins s σ H x y v u Q I rx ry q
  · exact h' pins s σ H x y v u Q I rx ry q

theorem nomark (b : Expr) {op : CmpOp} (h : op ≠ .In := by decide) (h2 : op ≠ .NotIn := by decide) : behindInMarks op b = false := by
  have e1 : (op == CmpOp.In) = false := by cases op <;> first | rfl | exact absurd rfl h
  have e2 : (op == CmpOp.NotIn) = false := by cases op <;> first | rfl | exact absurd rfl h2
  cases b with
  | Set elts k p =>
    show (k == 0 && (op == .In || op == .NotIn) && elts.all (constantsAlone 8)) = false
    rw [e1, e2, Bool.or_self, Bool.and_false, Bool.false_and]
  | _ => rfl
theorem pe_cmpR {op : CmpOp} {r : R2} (ho : OpR X (compareOp op) r) (ha : PE X a ta) (hb : PE X b tb) (hm : behindInMarks op b = false) : PE X (.Compare a [op] [b] pos) (tOp r ta tb) := by
  intro pins s σ H Q I h
  exact wpAny_Compare1 (binT ha hb I h fun v u s2 x y H2 I2 rx ry q => ho pins s2 σ H2 x y v u Q I2 rx ry q) hm
noncomputable def tTest (t : TE) : TT := fun σ H Q => t σ H fun x H' => ∃ k, x = .bl k ∧ Q k H'
theorem pt_cmpR {op : CmpOp} {r : R2} (ho : OpR X (compareOp op) r) (ha : PE X a ta) (hb : PE X b tb) (hm : behindInMarks op b = false) : PT X (.Compare a [op] [b] pos) (tTest (tOp r ta tb)) := by
  intro pins s σ H Q I h
  refine wpAny_isTrue_Compare1 (thn (ha pins s σ H _ I h) fun v s1 ⟨x, H1, I1, r1, q1⟩ => thn (hb pins s1 σ H1 _ I1 q1) ?_) hm
  rintro u s2 ⟨y, H2, I2, r2, q2⟩
  refine thn (ho pins s2 σ H2 x y v u _ I2 r1 r2 q2) fun c s3 z49_ => ?_
  obtain ⟨z, H3, I3, r3, k, e, q3⟩ := z49_
  subst e
  cases r3
  exact wpAny_truthy_bool ⟨H3, I3, q3⟩
noncomputable def tChain (r r' : R2) (ta tb tc : TE) : TE := fun σ H Q => ta σ H fun x H1 => tb σ H1 fun y H2 => r x y H2 fun z H3 => ∃ k, z = .bl k ∧
  (if k = true then tc σ H3 fun w' H4 => r' y w' H4 Q else Q (.bl false) H3)
theorem pe_chain {op op' : CmpOp} {r r' : R2} (ho : OpR X (compareOp op) r) (ho' : OpR X (compareOp op') r') (ha : PE X a ta) (hb : PE X b tb) (hc : PE X c tc)
    (hm : lastMarks [op, op'] [b, c] = false := by with_unfolding_all rfl) : PE X (.Compare a [op, op'] [b, c] pos) (tChain r r' ta tb tc) := by
  intro pins s σ H Q I h
  refine Compare_chain (thn (ha pins s σ H _ I h) fun v s1 ⟨x, H1, I1, r1, q1⟩ => chain_link (thn (hb pins s1 σ H1 _ I1 q1) ?_)) hm
  rintro u s2 ⟨y, H2, I2, r2, q2⟩
  refine thn (ho pins s2 σ H2 x y v u _ I2 r1 r2 q2) fun d s3 z52_ => ?_
  obtain ⟨z, H3, I3, r3, k, e, q3⟩ := z52_
  subst e
  cases r3
  refine wpAny_truthy_bool ?_
  cases k with
  | false => exact ite_ff ⟨.bl false, H3, I3, rfl, q3⟩
  | true => exact ite_tt (chain_last (thn (hc pins s3 σ H3 _ I3 q3) fun w' s4 z53_ => by obtain ⟨z', H4, I4, r4, q4⟩ := z53_; exact (ho' pins s4 σ H4 y z' u w' Q I4 r2 r4 q4)))
theorem pt_chain {op op' : CmpOp} {r r' : R2} (ho : OpR X (compareOp op) r) (ho' : OpR X (compareOp op') r') (ha : PE X a ta) (hb : PE X b tb) (hc : PE X c tc)
    (hm : lastMarks [op, op'] [b, c] = false := by with_unfolding_all rfl) : PT X (.Compare a [op, op'] [b, c] pos) (tTest (tChain r r' ta tb tc)) := by
  intro pins s σ H Q I h
  refine isTrue_chain (thn (ha pins s σ H _ I h) fun v s1 ⟨x, H1, I1, r1, q1⟩ => test_link (thn (hb pins s1 σ H1 _ I1 q1) ?_)) hm
  rintro u s2 ⟨y, H2, I2, r2, q2⟩
  refine thn (ho pins s2 σ H2 x y v u _ I2 r1 r2 q2) fun d s3 z56_ => ?_
  obtain ⟨z, H3, I3, r3, k, e, q3⟩ := z56_
  subst e
  cases r3
  refine wpAny_truthy_bool ?_
  cases k with
  | false =>
    obtain ⟨k', e', q'⟩ := q3
    cases e'
    exact ite_ff ⟨H3, I3, q'⟩
  | true =>
    refine ite_tt (test_last (thn (hc pins s3 σ H3 _ I3 q3) ?_))
    rintro w' s4 ⟨z', H4, I4, r4, q4⟩
    refine thn (ho' pins s4 σ H4 y z' u w' _ I4 r2 r4 q4) fun d' s5 z58_ => ?_
    obtain ⟨z2, H5, I5, r5, k2, e2, q5⟩ := z58_
    subst e2
    cases r5
    exact wpAny_truthy_bool ⟨H5, I5, q5⟩


noncomputable def TruV (K : PySem.W.Frag) (x : V) (H : Hp) (k : Bool) : Prop :=
  match x with
  | .non => k = false
  | .bl b => k = b
  | .int i => k = (i != 0)
  | .str y => y.length ≤ sizeLine ∧ k = ((y.length : Int) != 0)
  | .byt y => y.size ≤ sizeLine ∧ k = ((y.size : Int) != 0)
  | .ref p => (∃ xs, SqL K H p xs ∧ k = !xs.isEmpty) ∨ (∃ xs, SqT K H p xs ∧ k = !xs.isEmpty)
  | _ => False
theorem isEmpty_of {xs : List V} {its : List Value} (r : Vals xs its) : (!its.toArray.isEmpty) = !xs.isEmpty := by
  cases r <;> simp
theorem line63 : (sizeLine : Nat) < 2 ^ 63 := by rw [sizeLine_eq]; decide
theorem tru_ok : TruR X (fun x H Q => ∃ k, TruV X.K x H k ∧ Q k H) := by
  intro pins s σ H x v Q I rx h
  obtain ⟨k, e, q⟩ := h
  have hl := line63
  have hs : sizeLine = 16777216 := sizeLine_eq
  cases x with
  | non =>
    cases rx
    have e' : k = false := e
    subst e'
    exact truthy_none ⟨H, I, q⟩
  | bl b =>
    cases rx
    have e' : k = b := e
    subst e'
    exact wpAny_truthy_bool ⟨H, I, q⟩
  | int i =>
    obtain ⟨t, rfl⟩ := rx
    have e' : k = (i != 0) := e
    subst e'
    exact PySem.P.truthy_int ⟨H, I, q⟩
  | str y =>
    obtain ⟨t, rfl⟩ := rx
    obtain ⟨hy, e'⟩ : y.length ≤ sizeLine ∧ k = ((y.length : Int) != 0) := e
    subst e'
    exact PySem.P.truthy_str (by (first | lia | omega)) ⟨H, I.tok _, q⟩
  | byt y =>
    obtain ⟨t, rfl⟩ := rx
    obtain ⟨hy, e'⟩ : y.size ≤ sizeLine ∧ k = ((y.size : Int) != 0) := e
    subst e'
    exact PySem.W.truthy_bytes (by (first | lia | omega)) ⟨H, I.tok _, q⟩
  | ref p =>
    cases rx
    have e' : (∃ xs, SqL X.K H p xs ∧ k = !xs.isEmpty) ∨ (∃ xs, SqT X.K H p xs ∧ k = !xs.isEmpty) := e
    rcases e' with ⟨xs, hx, e'⟩ | ⟨xs, hx, e'⟩
    · subst e'
      obtain ⟨its, r, pl, hz⟩ := I.list hx
      have hlen := r.length
      exact wpAny_truthy_list pl.isList (by simp only [List.size_toArray]; (first | lia | omega)) ⟨H, I.tok _, by rw [isEmpty_of r]; exact q⟩
    · subst e'
      obtain ⟨its, r, pl, hz⟩ := I.tuple hx
      have hlen := r.length
      exact truthy_tuple pl (by simp only [List.size_toArray]; (first | lia | omega)) ⟨H, I.tok _, by rw [isEmpty_of r]; exact q⟩
  | _ => exact (show False from e).elim
theorem pt_truth (ha : PE X a ta) (he : ∀ whole, isTrue a X.env whole = (do let v ← whole; standAt a.pos; holding [v] (truthy v))) :
    PT X a (fun σ H Q => ta σ H fun x H' => ∃ k, TruV X.K x H' k ∧ Q k H') := by
  intro pins s σ H Q I h
  exact isTrue_plain (thn (ha pins s σ H _ I h) fun v s1 z59_ => by obtain ⟨x, H1, I1, r1, q1⟩ := z59_; exact (tru_ok pins s1 σ H1 x v Q I1 r1 q1)) (he _)


theorem op_add_str : OpR X (binaryOp .Add) (fun x y H Q => ∃ i j, x = .str i ∧ y = .str j ∧ i.length + j.length ≤ sizeLine ∧ Q (.str (i ++ j)) H) := by
  intro pins s σ H x y v u Q I rx ry h
  obtain ⟨i, j, rfl, rfl, hz, q⟩ := h
  obtain ⟨t, rfl⟩ := rx
  obtain ⟨t', rfl⟩ := ry
  exact add_str (fun t' tk => ⟨.str (i ++ j), H, I.tok _, ⟨_, rfl⟩, q⟩) hz
theorem vals1 {x : V} {us : List Value} (r : Vals [x] us) : ∃ u, us = [u] ∧ RelV x u := by
  cases r with
  | cons r1 r2 => cases r2; exact ⟨_, rfl, r1⟩
theorem vals2 {x y : V} {us : List Value} (r : Vals [x, y] us) : ∃ u w', us = [u, w'] ∧ RelV x u ∧ RelV y w' := by
  cases r with
  | cons r1 r2 =>
    cases r2 with
    | cons r3 r4 => cases r4; exact ⟨_, _, rfl, r1, r3⟩
theorem call_max2 (hc : X.calm = true) : CallR X (.builtin "max") (fun xs H Q => ∃ i j, xs = [.int i, .int j] ∧ Q (.int (if j > i then j else i)) H) := by
  intro pins s σ H xs us Q I r h
  obtain ⟨i, j, rfl, q⟩ := h
  obtain ⟨u, w', rfl, ⟨t, rfl⟩, ⟨t', rfl⟩⟩ := vals2 r
  refine max_two_ints (I.ok.hd hc) fun h' tk k => ⟨_, H, I.kept k, ?_, q⟩
  by_cases hj : j > i
  · rw [if_pos hj, if_pos hj]; exact ⟨_, rfl⟩
  · rw [if_neg hj, if_neg hj]; exact ⟨_, rfl⟩
theorem call_min2 (hc : X.calm = true) : CallR X (.builtin "min") (fun xs H Q => ∃ i j, xs = [.int i, .int j] ∧ Q (.int (if j < i then j else i)) H) := by
  intro pins s σ H xs us Q I r h
  obtain ⟨i, j, rfl, q⟩ := h
  obtain ⟨u, w', rfl, ⟨t, rfl⟩, ⟨t', rfl⟩⟩ := vals2 r
  refine min_two_ints (I.ok.hd hc) fun h' tk k => ⟨_, H, I.kept k, ?_, q⟩
  by_cases hj : j < i
  · rw [if_pos hj, if_pos hj]; exact ⟨_, rfl⟩
  · rw [if_neg hj, if_neg hj]; exact ⟨_, rfl⟩
theorem call_int1 : CallR X (.type "int") (fun xs H Q => (∃ i, xs = [.int i] ∧ Q (.int i) H) ∨ ∃ k, xs = [.bl k] ∧ Q (.int (if k then 1 else 0)) H) := by
  intro pins s σ H xs us Q I r h
  rcases h with ⟨i, rfl, q⟩ | ⟨k, rfl, q⟩
  · obtain ⟨u, rfl, t, rfl⟩ := vals1 r
    exact call_int_int ⟨.int i, H, I, ⟨_, rfl⟩, q⟩
  · obtain ⟨u, rfl, r1⟩ := vals1 r
    cases r1
    exact call_int_bool ⟨.int (if k then 1 else 0), H, I.tok _, ⟨_, rfl⟩, q⟩
end
end L2

namespace L2
open PySem PySem.Spec PyProof.Rows


section
variable {prog : Program} {w : World} {A : Around} {E : Value → Shared → Prop} {s : Shared} {K : PySem.W.Frag} {x dx C f : Addr} {mA : Str → Option Value} {name : Str} {v : Value}

end


section
variable {P : Program} {w : World} {H H' : Hp} {h h' : Heap} {a C dx : Addr} {fs fs' : List (Str × V)}
end


section
variable {X : Cx} {pins : List (Addr × Obj)} {σ : St} {H : Hp} {s : Shared} {a C dx : Addr} {fs : List (Str × V)} {f : Str} {v : V} {A : Around} {E : Value → Shared → Prop}

end


section
variable {X : Cx} {o e value : Expr} {f : Str} {pos pos' tpos : Pos} {ta tv : TE}
end


section
variable {X : Cx} {pins : List (Addr × Obj)} {σ : St} {H : Hp} {s : Shared} {A : Around} {E : Value → Shared → Prop} {Q : Value → Shared → Prop} {c : Value} {b : Bool}
inductive TyOf (K : PySem.W.Frag) (H : Hp) : V → Value → Prop where
  | non : TyOf K H .non (.type "NoneType")
  | bl (x : Bool) : TyOf K H (.bl x) (.type "bool")
  | int (i : Int) : TyOf K H (.int i) (.type "int")
  | str (x : Str) : TyOf K H (.str x) (.type "str")
  | flt (x : UInt64) : TyOf K H (.flt x) (.type "float")
  | lst {a : Addr} {xs : List V} (e : H a = some (.lst xs)) : TyOf K H (.ref a) (.type "list")
  | frz {a : Addr} {o : Obj} {xs : List V} (e : H a = some (.frz o (.lst xs))) : TyOf K H (.ref a) (.type "list")
  | tup {a : Addr} {xs : List V} (e : H a = some (.tup xs)) : TyOf K H (.ref a) (.type "tuple")
theorem isinst_ok {x : V} {u t : Value} (I : Inv X pins σ H s) (rx : RelV x u) (ty : TyOf X.K H x t) (e : PySem.W.kitOne X.K t c = some b) (h : ∀ tk, Q (.bool b) { s with toks := tk }) :
    wpAny (model X.prog X.w) A (call (.builtin "isinstance") [u, c]) Q E s := by
  cases ty with
  | non => cases (show u = Value.none from rx); exact PySem.W.kia_one PySem.W.kitx_none I.kIn True.intro e (fun z => nomatch z) h
  | bl y => cases (show u = Value.bool y from rx); exact PySem.W.kia_one PySem.W.kitx_bool I.kIn True.intro e (fun z => nomatch z) h
  | int i => obtain ⟨t, q⟩ := (show ∃ t, u = Value.int i t from rx); cases q; exact PySem.W.kia_one PySem.W.kitx_int I.kIn True.intro e (fun z => nomatch z) h
  | str y => obtain ⟨t, q⟩ := (show ∃ t, u = Value.str y t from rx); cases q; exact PySem.W.kia_one PySem.W.kitx_str I.kIn True.intro e (fun z => nomatch z) h
  | flt y => obtain ⟨t, q⟩ := (show ∃ t, u = Value.float y t from rx); cases q; exact PySem.W.kia_one PySem.W.kitx_float I.kIn True.intro e (fun z => nomatch z) h
  | @lst a xs ea =>
    cases (show u = Value.ref a from rx)
    obtain ⟨_, _, n, _, h1⟩ := (show ObjOk X.prog X.w H s.heap a (.lst xs) from I.hok a _ ea)
    exact PySem.W.kia_one PySem.W.kitx_list I.kIn ⟨_, h1, rfl⟩ e (fun z => nomatch z) h
  | @frz a ob xs ea =>
    cases (show u = Value.ref a from rx)
    obtain ⟨_, _, _, n, _, h1⟩ := (show ObjOk X.prog X.w H s.heap a (.frz ob (.lst xs)) from I.hok a _ ea)
    exact PySem.W.kia_one PySem.W.kitx_list I.kIn ⟨_, h1, rfl⟩ e (fun z => nomatch z) h
  | @tup a xs ea =>
    cases (show u = Value.ref a from rx)
    obtain ⟨_, _, _, p, _⟩ := (show ObjOk X.prog X.w H s.heap a (.tup xs) from I.hok a _ ea)
    obtain ⟨o, h1, h2, _⟩ := p
    exact PySem.W.kia_one PySem.W.kitx_tuple I.kIn ⟨o, h1, h2⟩ e (fun z => nomatch z) h
end
end L2

namespace L2
open PySem PySem.Spec PyProof.Rows


structure Room (k : Nat) (A : Around) : Prop where
  hd : A.handled = none
  dp : A.depth + 3 * k + 5 < recursionLimit
  un : A.units + 16 * k + 200 < cLine
  gd : A.guards = some []
theorem Room.mono {j k : Nat} {A : Around} (r : Room k A) (h : j ≤ k) : Room j A := ⟨r.hd, by have := r.dp; (first | lia | omega), by have := r.un; (first | lia | omega), r.gd⟩
theorem Room.deeper {k : Nat} {A : Around} (r : Room (k + 1) A) (env : Env) : Room k (A.deeper env) :=
  ⟨r.hd, by have := r.dp; show A.depth + 1 + 3 * k + 5 < _; (first | lia | omega), by have := r.un; show A.units + 3 + 16 * k + 200 < _; (first | lia | omega), r.gd⟩
theorem Room.depth {k : Nat} {A : Around} (r : Room k A) : A.depth < recursionLimit := by have := r.dp; (first | lia | omega)
theorem Room.units {k : Nat} {A : Around} (r : Room k A) : A.units + 64 < cLine := by have := r.un; (first | lia | omega)
noncomputable def tNil : TA := fun _ H Q => Q [] H
noncomputable def tCons (ta : TE) (tr : TA) : TA := fun σ H Q => ta σ H fun x H1 => tr σ H1 fun xs H2 => Q (x :: xs) H2
section
variable {X : Cx} {e : Expr} {es : List Expr} {te : TE} {t : TA} {pos : Pos}
theorem pa_nil : PA X [] tNil := fun _ _ _ _ H Q I h => Calls.spliced_nil ⟨[], H, I, .nil, h⟩
theorem pa_cons (ha : PE X e te) (hr : PA X es t) (hs : starEach (e :: es) X.env = (false, eval e X.env) :: starEach es X.env := by rfl) : PA X (e :: es) (tCons te t) := by
  intro pos pins s σ H Q I h
  rw [hs]
  show wpAny _ _ (spliced ((false, eval e X.env) :: backTo pos (starEach es X.env))) _ _ s
  refine Calls.spliced_cons (thn (ha pins s σ H _ I h) fun u s1 z68_ => ?_)
  obtain ⟨x, H1, I1, r1, q1⟩ := z68_
  exact thn (hr pos pins s1 σ H1 _ I1 q1) fun us s2 z69_ => by obtain ⟨xs, H2, I2, r2, q2⟩ := z69_; exact (⟨x :: xs, H2, I2, .cons r1 r2, q2⟩)

noncomputable def tTup (t : TA) : TE := fun σ H Q => t σ H fun xs H1 => xs.length ≤ sizeLine ∧ ∀ p, H1 p = none → Q (.ref p) (upd H1 p (.tup xs))
noncomputable def tLst (t : TA) : TE := fun σ H Q => t σ H fun xs H1 => xs.length ≤ sizeLine ∧ ∀ p, H1 p = none → Q (.ref p) (upd H1 p (.lst xs))
theorem pe_tup {x1} (h : PA X es t) : PE X (.Tuple es x1 pos) (tTup t) := by
  intro pins s σ H Q I hq
  refine wpAny_Tuple_spliced (thn (h pos pins s σ H _ I hq) fun us s1 ⟨xs, H1, I1, r, z, q⟩ => ⟨by rw [← r.length]; exact z, ?_⟩)
  have hf : H1 s1.heap.objs.size = none := I1.hok.fresh (Nat.le_refl _)
  refine ⟨.ref s1.heap.objs.size, upd H1 s1.heap.objs.size (.tup xs), I1.laid (t' := s1.toks) (fun b u e => Heap.get?_push_of_some _ e) (Nat.le_refl _) ?_, rfl, q _ hf⟩
  exact ⟨z, us, r, ⟨_, Heap.get?_push_size _ rfl, rfl, _, rfl⟩, NoDict.new⟩
theorem pe_lst (h : PA X es t) : PE X (.List es pos) (tLst t) := by
  intro pins s σ H Q I hq
  refine wpAny_List_spliced (thn (h pos pins s σ H _ I hq) fun us s1 ⟨xs, H1, I1, r, z, q⟩ => ⟨by rw [← r.length]; exact z, ?_⟩)
  have hf : H1 s1.heap.objs.size = none := I1.hok.fresh (Nat.le_refl _)
  refine ⟨.ref s1.heap.objs.size, upd H1 s1.heap.objs.size (.lst xs), I1.laid (t' := s1.toks) (fun b u e => Heap.get?_push_of_some _ e) (Nat.le_refl _) ?_, rfl, q _ hf⟩
  exact ⟨z, us, 0, r, Heap.get?_push_size _ rfl⟩
end


noncomputable abbrev Sp := List V → Hp → VK → XK → Prop
noncomputable abbrev CXT := List Env → Hp → Shared → XK → Value → Shared → Prop

structure Env0 (P : Program) (w : World) (K : PySem.W.Frag) (mg : Str → Option Value) (base : Heap) (A : Around) (outer : List Env) (s : Shared) (H : Hp) : Prop where
  frames : A.frames = some outer
  mod : Mod K mg base
  bs : ∀ b o, base.get? b = some o → s.heap.get? b = some o ∧ H b = none
  bsz : base.objs.size ≤ s.heap.objs.size
  funs : s.heap.FunFrames base outer
  frf : ∀ b ∈ frs outer, H b = none
  hok : HOk P w H s.heap
  bare : AllBare s.gens
inductive CE (outer : List Env) (P : Program) (w : World) (H : Hp) (s : Shared) (Q : VK) (u : Value) (s' : Shared) : Prop where
  | mk (v : V) (H' : Hp) (os : s'.os = s.os) (bare : AllBare s'.gens) (un : Un (frs outer) [] H H' s.heap s'.heap) (hok : HOk P w H' s'.heap) (r : RelV v u) (q : Q v H') : CE outer P w H s Q u s'
noncomputable def CR (CX : CXT) (outer : List Env) (P : Program) (w : World) (H : Hp) (s : Shared) (Q : VK) (E : XK) (r : Result) (s' : Shared) : Prop :=
  match r with
  | .ok (.ret u) => CE outer P w H s Q u s'
  | .ok _ => False
  | .error e => CX outer H s E e s'
structure FnOk (P : Program) (w : World) (K : PySem.W.Frag) (mg : Str → Option Value) (base : Heap) (CX : CXT) (k : Nat) (f : Addr) (fd : FuncData) (ps : List Str) (sp : Sp) : Prop where
  len : ∀ vs H Q E, sp vs H Q E → vs.length = ps.length
  run : ∀ (A : Around) (outer : List Env) (s : Shared) (H : Hp) (args : Args) (us : List Value) (vs : List V) (Q : VK) (E : XK), Room k A → Env0 P w K mg base A outer s H → BindsTo s fd args (ps.zip us) → Vals vs us → sp vs H Q E →
    codeAny (model P w) A (.call (.ref f) args) (CR CX outer P w H s Q E) s
theorem FnOk.mono {P : Program} {w : World} {K : PySem.W.Frag} {mg : Str → Option Value} {base : Heap} {CX : CXT} {j k : Nat} {f : Addr} {fd : FuncData} {ps : List Str} {sp : Sp} (F : FnOk P w K mg base CX j f fd ps sp) (h : j ≤ k) :
    FnOk P w K mg base CX k f fd ps sp := ⟨F.len, fun A outer s H args us vs Q E hr => F.run A outer s H args us vs Q E (hr.mono h)⟩
theorem FnOk.imp {P : Program} {w : World} {K : PySem.W.Frag} {mg : Str → Option Value} {base : Heap} {CX : CXT} {k : Nat} {f : Addr} {fd : FuncData} {ps : List Str} {sp sp' : Sp} (F : FnOk P w K mg base CX k f fd ps sp)
    (h : ∀ vs H Q E, sp' vs H Q E → sp vs H Q E) : FnOk P w K mg base CX k f fd ps sp' :=
  ⟨fun vs H Q E q => F.len vs H Q E (h _ _ _ _ q), fun A outer s H args us vs Q E hr he hb hv hs => F.run A outer s H args us vs Q E hr he hb hv (h _ _ _ _ hs)⟩

section
variable {X : Cx} {pins : List (Addr × Obj)} {σ : St} {H : Hp} {s s' : Shared}
theorem Inv.env0 (I : Inv X pins σ H s) : Env0 X.prog X.w X.K X.mg X.base X.A X.stack s H :=
  ⟨I.ok.frames, I.ok.mod, I.bs, Nat.le_trans I.ok.bsz I.sz, I.stack, I.stkFree, I.hok, I.bare⟩
theorem Inv.after {Q : VK} {u : Value} (I : Inv X pins σ H s) (h : CE X.stack X.prog X.w H s Q u s') : EP X pins σ Q u s' := by
  obtain ⟨v, H', os, bare, un, hok, r, q⟩ := h
  obtain ⟨hh, g, d, t, os'⟩ := s'
  obtain rfl : os' = s.os := os
  exact ⟨v, H', I.call (h' := hh) (g' := g) (d' := d) (t' := t) (ch := []) un hok bare (fun b z => absurd z (by simp)), r, q⟩
end


noncomputable def tCall (sp : Sp) (dvs : List V) (E : XK) (t : TA) : TE := fun σ H Q => t σ H fun vs H1 => sp (vs ++ dvs) H1 Q E
noncomputable def Binds (K : PySem.W.Frag) (fd : FuncData) (ps : List Str) (ds : List Value) : Prop :=
  ∀ (s : Shared) (us : List Value), K.In s.heap → (us ++ ds).length = ps.length → BindsTo s fd ⟨us, []⟩ (ps.zip (us ++ ds))
theorem Binds.all {K : PySem.W.Frag} {fd : FuncData} {ps : List Str} (h : ∀ us : List Value, us.length = ps.length → bindArgs fd ⟨us, []⟩ = pure (ps.zip us)) : Binds K fd ps [] := fun s us _ hl => by
  rw [List.append_nil] at hl ⊢
  exact .of_eq (h us hl)

noncomputable def Passes (CX : CXT) (X : Cx) (E : XK) : Prop := ∀ (pins : List (Addr × Obj)) (σ : St) (H : Hp) (s : Shared) (e : Value) (s' : Shared), Inv X pins σ H s → CX X.stack H s E e s' → X.xe e s'

section
variable {X : Cx} {CX : CXT} {k : Nat} {f C : Addr} {fd : FuncData} {ps : List Str} {sp : Sp} {dvs : List V} {ds : List Value} {E : XK} {x m : Str} {p pos apos : Pos} {e o : Expr} {es : List Expr} {ta : TE} {t : TA}

theorem run_fn {pins : List (Addr × Obj)} {σ : St} {H : Hp} {s : Shared} {Q : VK} {us : List Value} {vs : List V} (F : FnOk X.prog X.w X.K X.mg X.base CX k f fd ps sp) (hr : Room k X.A) (hb : Binds X.K fd ps ds) (hd : Vals dvs ds) (hx : Passes CX X E)
    (I : Inv X pins σ H s) (r : Vals vs us) (h : sp (vs ++ dvs) H Q E) : wpAny (model X.prog X.w) X.A (call (.ref f) us) (EP X pins σ Q) X.xe s := by
  have r2 : Vals (vs ++ dvs) (us ++ ds) := r.append hd
  have hl : (us ++ ds).length = ps.length := by rw [← r2.length]; exact F.len _ _ _ _ h
  refine wpAny_call (codeAny_mono (F.run X.A X.stack s H ⟨us, []⟩ (us ++ ds) (vs ++ dvs) Q E hr I.env0 (hb s us I.kIn hl) r2 h) fun r s' hq => ?_)
  cases r with
  | error e => exact hx pins σ H s e s' I hq
  | ok fl =>
    cases fl with
    | ret u => exact I.after hq
    | next => exact False.elim hq
    | brk => exact False.elim hq
    | cont => exact False.elim hq

theorem pe_call (F : FnOk X.prog X.w X.K X.mg X.base CX k f fd ps sp) (hr : Room k X.A) (hg : Gl X x) (hm : X.mg x = some (.ref f)) (hk : PySem.W.keepIn X.K (.ref f) = true) (hb : Binds X.K fd ps ds) (hd : Vals dvs ds) (hx : Passes CX X E)
    (ha : PA X (e :: es) t) (hdb : (x == ("__debug__" : Str)) = false := by decide) (he : starEach (e :: es) X.env = (false, eval e X.env) :: starEach es X.env := by rfl) (hpl : (backTo pos (starEach es X.env)).any (·.1) = false := by rfl) :
    PE X (.Call (.Name x p) (e :: es) [] pos) (tCall sp dvs E t) := by
  intro pins s σ H Q I h
  refine wpAny_Call_Name_kw (ld_glob I hg hm ?_ hdb)
  refine PySem.W.callWith_K (h₀ := X.base) I.ok.mod.kin hk (thn (ha pos pins s σ H _ I h) ?_) he hpl
  rintro us s1 ⟨vs, H1, I1, r, q⟩
  refine ⟨I1.kIn, ?_⟩
  exact run_fn F hr hb hd hx I1 r q
end


section
variable {X : Cx} {CX : CXT} {k : Nat} {f C : Addr} {fd : FuncData} {ps ks : List Str} {sp : Sp} {E : XK} {x m : Str} {p pos apos kpos : Pos} {e o : Expr} {es : List Expr} {kws : List Keyword} {te ta : TE} {t tk : TA} {nm : Option Str}
variable {g : List Value → List Value → List Value} {gV : List V → List V → List V}
end


structure FnScope (N P : List Str) (sc : Scope) : Prop where
  kind : sc.kind = .function
  co : sc.isCoroutine = false
  gen : sc.isGenerator = false
  nd : N.Nodup
  pre : N.take P.length = P
  par : ∀ x ∈ P, sc.names.lookup x = some .local ∨ sc.names.lookup x = some .cell
  nofree : ∀ y ∈ sc.names, y.2 ≠ .free

theorem bindL_out {kindOf : Str → Option NameKind} {x : Str} : ∀ {binds : List (Str × Value)} {m : Str → Option Value}, (∀ v, (x, v) ∉ binds) → bindL kindOf binds m x = m x
  | [], _, _ => rfl
  | (n, v) :: r, m, h => by
    unfold bindL
    rw [bindL_out fun w hw => h w (List.mem_cons_of_mem _ hw)]
    split
    · have : x ≠ n := by rintro rfl; exact h v List.mem_cons_self
      simp [this]
    · rfl
theorem bindC_out {kindOf : Str → Option NameKind} {x : Str} : ∀ {binds : List (Str × Value)} {m : Str → Option Value}, (∀ v, (x, v) ∉ binds) → bindC kindOf binds m x = m x
  | [], _, _ => rfl
  | (n, v) :: r, m, h => by
    unfold bindC
    rw [bindC_out fun w hw => h w (List.mem_cons_of_mem _ hw)]
    split
    · rfl
    · have : x ≠ n := by rintro rfl; exact h v List.mem_cons_self
      simp [this]
theorem bindL_get {kindOf : Str → Option NameKind} {x : Str} {v : Value} : ∀ {P : List Str} {vs : List Value} {i : Nat} {m : Str → Option Value}, P.Nodup → P[i]? = some x → vs[i]? = some v → kindOf x = some .local →
    bindL kindOf (P.zip vs) m x = some v
  | [], _, _, _, _, h, _, _ => by simp at h
  | _ :: _, [], _, _, _, _, h, _ => by simp at h
  | p :: P, w :: vs, 0, m, nd, h1, h2, hk => by
    simp at h1 h2; subst h1; subst h2
    show bindL kindOf ((p, w) :: P.zip vs) m p = _
    unfold bindL
    rw [bindL_out fun v hv => (List.nodup_cons.mp nd).1 (List.of_mem_zip hv).1, if_pos hk]
    simp
  | p :: P, w :: vs, i + 1, m, nd, h1, h2, hk => by
    show bindL kindOf ((p, w) :: P.zip vs) m x = _
    unfold bindL
    exact bindL_get (i := i) (List.nodup_cons.mp nd).2 (by simpa using h1) (by simpa using h2) hk
theorem bindC_get {kindOf : Str → Option NameKind} {x : Str} {v : Value} : ∀ {P : List Str} {vs : List Value} {i : Nat} {m : Str → Option Value}, P.Nodup → P[i]? = some x → vs[i]? = some v → kindOf x ≠ some .local →
    bindC kindOf (P.zip vs) m x = some v
  | [], _, _, _, _, h, _, _ => by simp at h
  | _ :: _, [], _, _, _, _, h, _ => by simp at h
  | p :: P, w :: vs, 0, m, nd, h1, h2, hk => by
    simp at h1 h2; subst h1; subst h2
    show bindC kindOf ((p, w) :: P.zip vs) m p = _
    unfold bindC
    rw [bindC_out fun v hv => (List.nodup_cons.mp nd).1 (List.of_mem_zip hv).1, if_neg hk]
    simp
  | p :: P, w :: vs, i + 1, m, nd, h1, h2, hk => by
    show bindC kindOf ((p, w) :: P.zip vs) m x = _
    unfold bindC
    exact bindC_get (i := i) (List.nodup_cons.mp nd).2 (by simpa using h1) (by simpa using h2) hk

noncomputable def start (N : List Str) (vs : List V) : St := vs.map some ++ List.replicate (N.length - vs.length) none

noncomputable def cxOf (CX : CXT) (P : Program) (w : World) (K : PySem.W.Frag) (mg : Str → Option Value) (base : Heap) (N : List Str) (qual : Str) (scope : Scope) (f : Addr) (cd : Value) (A : Around) (outer : List Env) (s : Shared) (H : Hp) (E : XK) : Cx where
  prog := P
  w := w
  K := K
  mg := mg
  base := base
  A := A.deeper (envOfC qual scope s.heap.objs.size f cd)
  N := N
  s₀ := s
  H₀ := H
  env := envOfC qual scope s.heap.objs.size f cd
  outer := outer
  stack := envOfC qual scope s.heap.objs.size f cd :: outer
  ex := []
  calm := true
  fn := fun _ => true
  pn := []
  xe := fun e s' => wpAny (model P w) (A.deeper (envOfC qual scope s.heap.objs.size f cd)) (leaving (envOfC qual scope s.heap.objs.size f cd) e) (fun _ s'' => CX outer H s E e s'') (fun e' s'' => CX outer H s E e' s'') s'

theorem cell_has {sc : Scope} {n : Nat} {x : Str} (h : sc.names.lookup x = some .cell) : ∃ c, (cellsFrom n sc.names []).lookup x = some c := by
  have q := PySem.W.cellsFrom_some sc.names n [] (.inl h)
  exact Option.isSome_iff_exists.mp q

theorem inv_start {CX : CXT} {P : Program} {w : World} {K : PySem.W.Frag} {mg : Str → Option Value} {base : Heap} {N ps : List Str} {qual : Str} {scope : Scope} {f : Addr} {cd : Value} {A : Around} {outer : List Env} {s s1 : Shared} {H : Hp} {E : XK} {us : List Value} {vs : List V}
    (S : FnScope N ps scope) (hd : A.handled = none) (e0 : Env0 P w K mg base A outer s H) (hl : vs.length = ps.length) (r : Vals vs us)
    (x : InCallC s s.heap.objs.size (bindL (envOfC qual scope s.heap.objs.size f cd).kindOf (ps.zip us) fun _ => none) (cellsFrom (s.heap.objs.size + 1) scope.names []) (bindC (envOfC qual scope s.heap.objs.size f cd).kindOf (ps.zip us) fun _ => none) s1) :
    Inv (cxOf CX P w K mg base N qual scope f cd A outer s H E) [] (start N vs) H s1 := by
  have hpl : ps.length ≤ N.length := by have := congrArg List.length S.pre; rw [List.length_take] at this; (first | lia | omega)
  obtain ⟨h1, tk, rfl, hk⟩ := x.done
  have noA : ∀ b : Addr, b ∉ (cxOf CX P w K mg base N qual scope f cd A outer s H E).ex := fun b z => absurd (show b ∈ ([] : List Addr) from z) (by simp)
  refine ⟨⟨e0.mod, S.kind, rfl, rfl, Nat.le_refl _, fun y z c h1 h2 => ?_, fun y hy => ?_, fun y c _ h => ?_, fun _ => hd, Around.frames_deeper e0.frames, .inr ⟨rfl, rfl⟩, fun b z => absurd z (noA b), e0.bs, e0.bsz, fun b _ _ => noA b, fun b z => absurd z (noA b), e0.funs, e0.frf⟩,
    rfl, e0.bare, Un.kept hk, ⟨_, x.toInCall.ns, fun i y v h1 h2 h3 => ?_⟩, fun y c h => ⟨_, x.cell y c h⟩, e0.hok.fresh (Nat.le_refl _), fun y c h => ?_, fun p hp => absurd (show p ∈ ([] : List (Addr × Obj)) from hp) (by simp), e0.hok.kept hk, ?_⟩
  · exact name_of_addr x.apart (PySem.mem_of_lookup h1) (PySem.mem_of_lookup h2)
  · have hy : scope.names.lookup y = some .cell ∨ scope.names.lookup y = some .free := hy
    rcases hy with hy | hy
    · exact cell_has hy
    · exact absurd rfl (S.nofree _ (PySem.mem_of_lookup hy))
  · exact Nat.le_of_lt (x.above y c (PySem.mem_of_lookup h))
  · have hi : i < vs.length := by
      unfold start at h2
      by_cases hi : i < vs.length
      · exact hi
      · rw [List.getElem?_append_right (by simpa using hi)] at h2
        rw [List.getElem?_replicate] at h2
        split at h2 <;> cases h2
    have ha : vs[i]? = some v := by
      unfold start at h2
      rw [List.getElem?_append_left (by simpa using hi), List.getElem?_map] at h2
      cases e : vs[i]? with
      | none => rw [e] at h2; cases h2
      | some a => rw [e] at h2; cases h2; rfl
    obtain ⟨u, hu, rv⟩ := r.get ha
    have hp : ps[i]? = some y := by
      rw [← S.pre, List.getElem?_take_of_lt (by (first | lia | omega))]; exact h1
    have ndP : ps.Nodup := by rw [← S.pre]; exact S.nd.sublist (List.take_sublist _ _)
    refine ⟨u, rv, ?_⟩
    rcases S.par y (List.mem_of_getElem? hp) with k | k
    · exact .inl ⟨k, bindL_get ndP hp hu k⟩
    · obtain ⟨c, e⟩ := cell_has (n := s.heap.objs.size + 1) k
      refine .inr ⟨.inl k, c, e, ?_⟩
      have q := x.cell y c e
      rw [bindC_get ndP hp hu (by show scope.names.lookup y ≠ _; rw [k]; decide)] at q
      exact q
  · exact e0.hok.fresh (Nat.le_of_lt (x.above y c (PySem.mem_of_lookup h)))
  · unfold start
    show _ = N.length
    rw [List.length_append, List.length_map, List.length_replicate]
    (first | lia | omega)

theorem fn_of {CX : CXT} {P : Program} {w : World} {K : PySem.W.Frag} {mg : Str → Option Value} {base : Heap} {k : Nat} {f : Addr} {name qual : Str} {params : Arguments} {body : List Stmt} {scope : Scope} {dV kV doc pm cdv ct oc : Value} {an od : Option Addr}
    {osl : Array (Option Value)} {N ps : List Str} {sp : Sp} (lk : K.lookup f = some ⟨oc, od, .func (PySem.W.fnOf name qual params body scope dV kV doc pm an cdv ct), osl⟩) (hcd : PySem.W.codeIn K cdv qual = true) (S : FnScope N ps scope)
    (len : ∀ vs H Q E, sp vs H Q E → vs.length = ps.length)
    (hbody : ∀ (A : Around) (outer : List Env) (s : Shared) (H : Hp) (vs : List V) (Q : VK) (E : XK), Room k (A.deeper (envOfC qual scope s.heap.objs.size f cdv)) → sp vs H Q E →
      ∃ t, PSs (cxOf CX P w K mg base N qual scope f cdv A outer s H E) body t ∧ t { nx := fun _ H' => Q .non H', rt := Q } (start N vs) H) :
    FnOk P w K mg base CX (k + 1) f (PySem.W.fnOf name qual params body scope dV kV doc pm an cdv ct) ps sp := by
  refine ⟨len, fun A outer s H args us vs Q E hr e0 hb r hsp => ?_⟩
  have hl := len _ _ _ _ hsp
  have KX : K.In s.heap := e0.mod.kin.keeps fun b o e => (e0.bs b o e).1
  have lim : s.heap.NoLimit := e0.mod.nolimit.keeps fun b o e => (e0.bs b o e).1
  have hkind : ∀ y ∈ ps.zip us, scope.names.lookup y.1 = some .local ∨ (scope.names.lookup y.1 = some .cell ∧ ((cellsFrom (s.heap.objs.size + 1) scope.names []).lookup y.1).isSome = true) := fun z81_ hy => by
    obtain ⟨n, v⟩ := z81_
    rcases S.par n (List.of_mem_zip hy).1 with q | q
    · exact .inl q
    · exact .inr ⟨q, PySem.W.cellsFrom_some _ _ _ (.inl q)⟩
  refine codeAny_call_function hr.depth (KX _ _ lk) rfl S.co S.gen rfl (PySem.W.codeRec_of KX hcd) (hb _ _ _ _ ?_)
  refine wpAny_newFunctionEnv_cells S.kind hkind fun env he s1 x => ?_
  subst he
  refine ⟨lim.keeps x.toInCall.keep, codeAny_func ?_⟩
  obtain ⟨t, ht, hq⟩ := hbody A outer s H vs Q E (hr.deeper _) hsp
  have I : Inv (cxOf CX P w K mg base N qual scope f cdv A outer s H E) [] (start N vs) H s1 := inv_start S hr.hd e0 hl r x
  refine wpAny_mono (ht [] s1 (start N vs) H _ I hq) (fun fl s' hs => ?_) fun e s' hs => hs
  have fin : ∀ {σ' : St} {H' : Hp} {v : V} {u : Value}, Inv (cxOf CX P w K mg base N qual scope f cdv A outer s H E) [] σ' H' s' → RelV v u → Q v H' → CE outer P w H s Q u s' :=
    fun {σ' H' v u} J rv q => ⟨v, H', J.os, J.bare, J.base, J.hok, rv, q⟩
  cases fl with
  | ret u =>
    obtain ⟨v, σ', H', J, rv, q⟩ := hs
    exact fin J rv q
  | next =>
    obtain ⟨σ', H', J, q⟩ := hs
    exact fin (v := V.non) (u := Value.none) J rfl q
  | brk =>
    obtain ⟨_, _, _, q⟩ := hs
    exact False.elim q
  | cont =>
    obtain ⟨_, _, _, q⟩ := hs
    exact False.elim q
end L2

namespace L2
open PySem PySem.Spec PyProof.Rows
section
variable {X : Cx} {x : Str} {p pos : Pos} {e : Expr} {es : List Expr} {t : TA} {id T : String} {r : List V → Hp → VK → Prop}

noncomputable def tCB (r : List V → Hp → VK → Prop) (t : TA) : TE := fun σ H Q => t σ H fun vs H1 => r vs H1 Q
theorem pe_callB (hc : CallR X (.builtin id) r) (hg : Gl X x) (hm : X.mg x = none) (hv : bootBuiltins x = some (.builtin id)) (ha : PA X (e :: es) t) (hn : x ≠ "__name__" := by decide) (hdb : (x == ("__debug__" : Str)) = false := by decide)
    (he : starEach (e :: es) X.env = (false, eval e X.env) :: starEach es X.env := by rfl) (hpl : (backTo pos (starEach es X.env)).any (·.1) = false := by rfl) : PE X (.Call (.Name x p) (e :: es) [] pos) (tCB r t) := by
  intro pins s σ H Q I h
  refine wpAny_Call_Name_kw (ld_blt I hg hm hv ?_ hn hdb)
  exact PyProof.Rows.callWith_builtin1 (thn (ha pos pins s σ H _ I h) fun us s1 z82_ => by obtain ⟨vs, H1, I1, r1, q1⟩ := z82_; exact (hc pins s1 σ H1 vs us Q I1 r1 q1)) he hpl
theorem pe_callTy (hc : CallR X (.type T) r) (hg : Gl X x) (hm : X.mg x = none) (hv : bootBuiltins x = some (.type T)) (ha : PA X (e :: es) t) (hn : x ≠ "__name__" := by decide) (hdb : (x == ("__debug__" : Str)) = false := by decide)
    (he : starEach (e :: es) X.env = (false, eval e X.env) :: starEach es X.env := by rfl) (hpl : (backTo pos (starEach es X.env)).any (·.1) = false := by rfl) : PE X (.Call (.Name x p) (e :: es) [] pos) (tCB r t) := by
  intro pins s σ H Q I h
  refine wpAny_Call_Name_kw (ld_blt I hg hm hv ?_ hn hdb)
  exact PyProof.Rows.callWith_type1 (thn (ha pos pins s σ H _ I h) fun us s1 z83_ => by obtain ⟨vs, H1, I1, r1, q1⟩ := z83_; exact (hc pins s1 σ H1 vs us Q I1 r1 q1)) he hpl
end
end L2

namespace HT
open PySem PyProof.Rows

noncomputable def lexLt : List Int → List Int → Bool
  | [], [] => false
  | [], _ :: _ => true
  | _ :: _, [] => false
  | x :: xs, y :: ys => if x = y then lexLt xs ys else decide (x < y)
theorem lexLt_cons (x y : Int) (xs ys : List Int) : lexLt (x :: xs) (y :: ys) = if x = y then lexLt xs ys else decide (x < y) := rfl
theorem lexLt_nil_nil : lexLt [] [] = false := rfl
theorem lexLt_nil_cons (y : Int) (ys : List Int) : lexLt [] (y :: ys) = true := rfl
theorem lexLt_cons_nil (x : Int) (xs : List Int) : lexLt (x :: xs) [] = false := rfl

theorem eqAt_int (A : Around) (s : Shared) (a : Int) (t : Tok) (c : Int) (u : Tok) : ∃ e, SeqAt.EqAt A s (.int a t) (.int c u) e ∧ (e = true ↔ a = c) :=
  ⟨(a == c), SeqAt.EqAt.int_int a t c u, by simp⟩
theorem rcLt_int (A : Around) (s : Shared) (a : Int) (t : Tok) (c : Int) (u : Tok) (prog : Program) (w : World) (E : Value → Shared → Prop) (Q : Value → Shared → Prop) (h : Q (.bool (decide (a < c))) s) :
    wpAny (model prog w) A (richCompare .Lt (.int a t) (.int c u)) Q E s :=
  (PyProof.Rows.lt_int h : wpAny (model prog w) A (compareOp .Lt (.int a t) (.int c u)) Q E s)

section
open PySem.SeqAt
open PySem.AutoSeq1 (wpAny_loadPart')
open PySem.MeetsSeq PySem.MeetsSeq2 PySem.MeetsSeq3

theorem tuple_lt_ints (l b : Addr) (items items2 : Array Value) (n n2 : Nat) (dd dd2 : Option Addr) (sl sl2 : Array (Option Value)) (ns ms : List Int) (hi : IntsAre items.toList ns) (hj : IntsAre items2.toList ms) :
    Meets (Builtin.«tuple.__lt__» ⟨[.ref l, .ref b], []⟩)
      (fun _ R s => s.heap.get? l = some { cls := .type "tuple", dict := dd, data := .seq items n, slots := sl } ∧ s.heap.get? b = some { cls := .type "tuple", dict := dd2, data := .seq items2 n2, slots := sl2 } ∧
        R (.ok (.ret (.bool (lexLt ns ms)))) s) :=
  .of_wp fun prog w A R s h => by
    obtain ⟨hp, g, d, tk, os⟩ := s; obtain ⟨hl, hb, h⟩ := h
    have f2 := AutoSeq1.sub_tuple_tuple
    have z1 : items.size = ns.length := by rw [← hi.length]; simp
    have z2 : items2.size = ms.length := by rw [← hj.length]; simp
    wp_walk using wpAny_loadPart' hl, wpAny_loadPart' hb, wpAny_forIn_list _ (fun rest b s' => b.1 = none ∧ s' = ⟨hp, g, d, tk, os⟩ ∧ ∃ (vs ws : List Value) (ns' ms' : List Int), rest = vs.zip ws ∧
      IntsAre vs ns' ∧ IntsAre ws ms' ∧ ns'.length + items2.size = ms'.length + items.size ∧ R (.ok (.ret (.bool (lexLt ns' ms')))) ⟨hp, g, d, tk, os⟩) _
    case turn =>
      rintro ⟨y, x⟩ rest b s' ⟨hb', rfl, vs, ws, ns', ms', hz, hvi, hwi, hlen, hR⟩
      cases hvi with
      | nil => rw [List.zip_nil_left] at hz; cases hz
      | cons a t hvi' =>
        cases hwi with
        | nil => rw [List.zip_nil_right] at hz; cases hz
        | cons c u hwi' =>
          rw [List.zip_cons_cons] at hz
          injection hz with hyx hrest
          injection hyx with hy hx
          subst hy hx
          rw [lexLt_cons] at hR
          simp only [List.length_cons] at hlen
          obtain ⟨e, he, hiff⟩ := eqAt_int A.in1 ⟨hp, g, d, tk, os⟩ a t c u
          refine wpAny_bind (he prog w _ _ ?_)
          cases e with
          | true =>
            rw [if_pos (hiff.mp rfl)] at hR
            wp_walk
            exact ⟨rfl, rfl, _, _, _, _, hrest, hvi', hwi', by (first | lia | omega), hR⟩
          | false =>
            rw [if_neg (fun q => absurd (hiff.mpr q) Bool.false_ne_true)] at hR
            have hri := rcLt_int A.in1 ⟨hp, g, d, tk, os⟩ a t c u prog w
            wp_walk using hri
            exact ⟨_, rfl, by simpa using hR⟩
    case fin =>
      rintro ⟨b1, b2⟩ s' ⟨hb', rfl, vs, ws, ns', ms', hz, hvi, hwi, hlen, hR⟩
      simp only at hb'
      subst hb'
      have hv : lexLt ns' ms' = decide (items.size < items2.size) := by
        cases hvi with
        | nil =>
          cases hwi with
          | nil =>
            simp only [List.length_nil] at hlen
            rw [lexLt_nil_nil]
            exact (decide_eq_false (by (first | lia | omega))).symm
          | cons c u hw =>
            simp only [List.length_nil, List.length_cons] at hlen
            rw [lexLt_nil_cons]
            exact (decide_eq_true (by (first | lia | omega))).symm
        | cons a t hv =>
          cases hwi with
          | nil =>
            simp only [List.length_nil, List.length_cons] at hlen
            rw [lexLt_cons_nil]
            exact (decide_eq_false (by (first | lia | omega))).symm
          | cons c u hw =>
            rw [List.zip_cons_cons] at hz
            cases hz
      rw [hv] at hR
      wp_walk
      exact ⟨_, rfl, by simpa [Builtin.Tuple.tupleCompareSizes] using hR⟩
    case h =>
      exact ⟨rfl, rfl, items.toList, items2.toList, ns, ms, rfl, hi, hj, by (first | lia | omega), h⟩
end

section
variable {prog : Program} {w : World} {A : Around} {E : Value → Shared → Prop} {s : Shared}

theorem lt_tupInts {l b : Addr} {items items2 : Array Value} {ns ms : List Int} {Q : Value → Shared → Prop} (hl : IsTup s.heap l items) (hb : IsTup s.heap b items2) (hi : IntsAre items.toList ns) (hj : IntsAre items2.toList ms)
    (hu : A.units < cLine) (h : Q (.bool (lexLt ns ms)) s) : wpAny (model prog w) A (compareOp .Lt (.ref l) (.ref b)) Q E s := by
  obtain ⟨⟨cls, dd, data, sl⟩, ho, hc, n, hd⟩ := id hl
  obtain ⟨⟨cls2, dd2, data2, sl2⟩, ho2, hc2, n2, hd2⟩ := id hb
  simp only at hc hd hc2 hd2
  subst hc hd hc2 hd2
  exact richCompare_meets_room (op := .Lt) ⟨_, ho, rfl⟩ ⟨_, ho2, rfl⟩ PySem.F.slot_tuple_lt PySem.F.entry_tuple_lt (PySem.F.args_tuple_lt_2 _ _) (tuple_lt_ints l b items items2 n n2 dd dd2 sl sl2 ns ms hi hj)
    ⟨ho, ho2, show Value.bool (lexLt ns ms) ≠ Value.notImplemented ∧ Q (.bool (lexLt ns ms)) s from ⟨(fun x => nomatch x), h⟩⟩ hu

theorem cat_tup {t b : Addr} {vs ws : List Value} {Q : Value → Shared → Prop} (ht : IsTup s.heap t vs.toArray) (hb : IsTup s.heap b ws.toArray) (hv : vs ≠ [])
    (h1 : ws = [] → Q (.ref t) s) (h2 : ws ≠ [] → Q (.ref s.heap.objs.size) { s with heap := s.heap.push { cls := .type "tuple", data := .seq (vs ++ ws).toArray } })
    (hsz : vs.length + ws.length ≤ sizeLine) : wpAny (model prog w) A (binaryOp .Add (.ref t) (.ref b)) Q E s := by
  obtain ⟨⟨cls, dd, data, sl⟩, ho, hc, n, hd⟩ := id ht
  obtain ⟨⟨cls2, dd2, data2, sl2⟩, ho2, hc2, n2, hd2⟩ := id hb
  simp only at hc hd hc2 hd2
  subst hc hd hc2 hd2
  have e : vs.toArray ++ ws.toArray = (vs ++ ws).toArray := by simp
  by_cases hw : ws = []
  · exact concat_meets ⟨_, ho, rfl⟩ ⟨_, ho2, rfl⟩ noFill_tuple_add seq_tuple_add PySem.F.slot_tuple_add PySem.F.entry_tuple_add (PySem.F.args_tuple_add_2 _ _)
      (tuple_addW1 t b vs.toArray ws.toArray n n2 dd dd2 sl sl2 (by simpa using hv) (by simp [hw])) ⟨ho, ho2, h1 hw⟩
  · refine concat_meets ⟨_, ho, rfl⟩ ⟨_, ho2, rfl⟩ noFill_tuple_add seq_tuple_add PySem.F.slot_tuple_add PySem.F.entry_tuple_add (PySem.F.args_tuple_add_2 _ _)
      (tuple_addW2 t b vs.toArray ws.toArray n n2 dd dd2 sl sl2 (by simpa using hv) (by simpa using hw) (by rw [List.size_toArray, List.size_toArray]; exact hsz)) ⟨ho, ho2, ?_⟩
    rw [e]
    exact h2 hw


noncomputable def sIx (n d : Nat) : Option Int → Nat
  | none => d
  | some v => if v < 0 then (v + (n : Int)).toNat else min v.toNat n
theorem sIx_none (n d : Nat) : sIx n d none = d := rfl
theorem sIx_nat (n d k : Nat) : sIx n d (some (k : Int)) = min k n := by
  show (if (k : Int) < 0 then ((k : Int) + (n : Int)).toNat else min (k : Int).toNat n) = min k n
  rw [if_neg (by (first | lia | omega)), Int.toNat_natCast]
theorem sIx_le (n d : Nat) (hd : d ≤ n) (o : Option Int) : sIx n d o ≤ n := by
  cases o with
  | none => exact hd
  | some v =>
    show (if v < 0 then (v + (n : Int)).toNat else min v.toNat n) ≤ n
    by_cases hv : v < 0
    · rw [if_pos hv]; (first | lia | omega)
    · rw [if_neg hv]; exact Nat.min_le_right _ _
theorem clip_eq (v : Int) (n d : Nat) : (if v < 0 then max (v + (n : Int)) 0 else min v (n : Int)) = ((sIx n d (some v) : Nat) : Int) := by
  show (if v < 0 then max (v + (n : Int)) 0 else min v (n : Int)) = (((if v < 0 then (v + (n : Int)).toNat else min v.toNat n) : Nat) : Int)
  by_cases hv : v < 0
  · simp only [if_pos hv]; (first | lia | omega)
  · simp only [if_neg hv]; (first | lia | omega)
theorem adjust_gen (lo hi : Option Int) (n : Nat) : Builtin.Slice.sliceAdjust lo hi 1 (n : Int) = (((sIx n 0 lo : Nat) : Int), ((sIx n n hi : Nat) : Int)) := by
  have h1 : ¬ ((1 : Int) < 0) := by (first | lia | omega)
  unfold Builtin.Slice.sliceAdjust
  simp only [h1, if_false]
  refine Prod.ext ?_ ?_
  · cases lo with
    | none => rfl
    | some v => exact clip_eq v n 0
  · cases hi with
    | none => rfl
    | some v => exact clip_eq v n n
theorem places_gen (i j : Nat) : Builtin.Slice.slicePlaces (i : Int) (j : Int) 1 = j - i := by
  unfold Builtin.Slice.slicePlaces
  have h1 : (1 : Int) > 0 := by (first | lia | omega)
  simp only [h1, if_true, Int.ediv_one]
  split <;> (first | lia | omega)
theorem slicePart_ {v : Value} {o : Option Int} {Q : Option Int → Shared → Prop} (p : IsPart v o) (h : Q o s) : wpAny (model prog w) A (Builtin.Slice.slicePartIndex v) Q E s := by
  cases p with
  | none => exact slicePart_none h
  | int i t => exact slicePart_int h
theorem sliceApplied_gen {sl : Addr} {vl vu : Value} {lo hi : Option Int} {n : Nat} {Q : Int × Int × Nat → Shared → Prop} (hs : s.heap.IsSliceOf sl vl vu .none) (pl : IsPart vl lo) (pu : IsPart vu hi)
    (h : Q (((sIx n 0 lo : Nat) : Int), 1, sIx n n hi - sIx n 0 lo) s) : wpAny (model prog w) A (Builtin.Slice.sliceApplied (.ref sl) (pure (n : Int))) Q E s := by
  obtain ⟨os, hos, hcs, hds⟩ := id hs
  unfold Builtin.Slice.sliceApplied Builtin.Slice.sliceFields
  refine wpAny_bind (wpAny_bind (wpAny_field hos hds (x := vl) rfl (wpAny_bind (wpAny_field hos hds (x := vu) rfl (wpAny_bind (wpAny_field hos hds (x := .none) rfl (wpAny_pure ?_)))))))
  refine wpAny_bind (slicePart_none ?_)
  show wpAny _ _ (if ((1 : Int) == 0) = true then _ else _) _ _ s
  rw [if_neg (by decide)]
  refine wpAny_bind (slicePart_ pl (wpAny_bind (slicePart_ pu (wpAny_bind (wpAny_pure ?_)))))
  show wpAny _ _ (match Builtin.Slice.sliceAdjust lo hi 1 (n : Int) with | (lo, hi) => pure (lo, (1 : Int), Builtin.Slice.slicePlaces lo hi 1)) _ _ s
  rw [adjust_gen lo hi n]
  show wpAny _ _ (pure (((sIx n 0 lo : Nat) : Int), (1 : Int), Builtin.Slice.slicePlaces ((sIx n 0 lo : Nat) : Int) ((sIx n n hi : Nat) : Int) 1)) _ _ s
  rw [places_gen]
  exact wpAny_pure h
theorem pick_gen (xs : Array Value) (i k : Nat) : ((List.range k).filterMap fun (m : Nat) => xs[((i : Int) + (m : Int) * 1).toNat]?).toArray = ((xs.toList.drop i).take k).toArray := by
  have e : (fun (m : Nat) => xs[((i : Int) + (m : Int) * 1).toNat]?) = fun m => xs[i + m]? := by
    funext m
    have : ((i : Int) + (m : Int) * 1).toNat = i + m := by (first | lia | omega)
    rw [this]
  rw [e]
  have := pick_run xs i k
  rw [List.filterMap_map] at this
  have e2 : ((fun x => xs[x]?) ∘ fun x => i + x) = fun m => xs[i + m]? := rfl
  rw [e2] at this
  rw [this]

theorem getItem_tuple_cut {t sl : Addr} {items : Array Value} {vl vu : Value} {lo hi : Option Int} {Q : Value → Shared → Prop} (ht : IsTup s.heap t items) (hs : s.heap.IsSliceOf sl vl vu .none) (pl : IsPart vl lo) (pu : IsPart vu hi)
    (hw : ¬ (sIx items.size 0 lo = 0 ∧ sIx items.size items.size hi = items.size))
    (h : Q (.ref s.heap.objs.size) { s with heap := s.heap.push { cls := .type "tuple", data := .seq ((items.toList.drop (sIx items.size 0 lo)).take (sIx items.size items.size hi - sIx items.size 0 lo)).toArray } })
    (hsz : items.size ≤ sizeLine) : wpAny (model prog w) A (getItem (.ref t) (.ref sl)) Q E s := by
  have htake : sizeOk (.seq ((items.toList.drop (sIx items.size 0 lo)).take (sIx items.size items.size hi - sIx items.size 0 lo)).toArray) := by
    show ((items.toList.drop (sIx items.size 0 lo)).take (sIx items.size items.size hi - sIx items.size 0 lo)).toArray.size ≤ sizeLine
    rw [List.size_toArray, List.length_take, List.length_drop, Array.length_toList]
    (first | lia | omega)
  have hj : sIx items.size items.size hi ≤ items.size := sIx_le _ _ (Nat.le_refl _) hi
  obtain ⟨os, hos, hcs, hds⟩ := id hs
  have hTs : s.TypeIs (.ref sl) "slice" := ⟨os, hos, hcs⟩
  unfold getItem
  try with_reducible refine wpAny_holding ?_
  first | refine wpAny_bind (wpAny_pure ?_) | skip
  refine wpAny_bind (wpAny_sequenceKey ht.typeIs (by decide) ?_)
  refine wpAny_bind (wpAny_callSpecial?_slot (name := Str.ofString "__getitem__") ht.typeIs PyProof.Rows.slot_tuple_getitem
    (wpAny_call_entry PyProof.Rows.slot_tuple_getitem ht.typeIs entry_tuple_getitem ?_ (args_tuple_getitem _ _)))
  show wpAny _ _ (Builtin.Tuple.tupleItemsOf (.ref t) >>= _) _ _ s
  refine wpAny_bind (tupleItemsOf_ ht ?_)
  refine wpAny_bind (wpAny_typeOf hTs ?_)
  rw [if_pos (by decide)]
  refine wpAny_bind (sliceApplied_gen hs pl pu ?_)
  have hno : ¬ ((((sIx items.size 0 lo : Nat) : Int) == 0 && (1 : Int) == 1 && (sIx items.size items.size hi - sIx items.size 0 lo) == items.size) = true) := by
    intro q
    rw [Bool.and_eq_true, Bool.and_eq_true] at q
    have q1 : ((sIx items.size 0 lo : Nat) : Int) = 0 := eq_of_beq q.1.1
    have q2 : sIx items.size items.size hi - sIx items.size 0 lo = items.size := eq_of_beq q.2
    exact hw ⟨by (first | lia | omega), by (first | lia | omega)⟩
  show wpAny _ _ (if (((sIx items.size 0 lo : Nat) : Int) == 0 && (1 : Int) == 1 && (sIx items.size items.size hi - sIx items.size 0 lo) == items.size) = true then _ else _) _ _ s
  rw [if_neg hno, pick_gen]
  first
    | exact wpAny_bind (m := Builtin.Tuple.tupleExact _) (wpAny_newObj_type (wpAny_pure ⟨_, rfl, wpAny_pure h⟩) htake)
    | exact wpAny_bind (m := Builtin.Tuple.tupleExact _) (wpAny_newObj_type (wpAny_bind (wpAny_pure (wpAny_pure ⟨_, rfl, wpAny_pure h⟩))) htake)
    | exact wpAny_bind (wpAny_bind (m := Builtin.Tuple.tupleExact _) (wpAny_newObj_type (wpAny_pure (wpAny_pure ⟨_, rfl, wpAny_pure h⟩)) htake))
    | exact wpAny_bind (wpAny_bind (m := Builtin.Tuple.tupleExact _) (wpAny_newObj_type (wpAny_pure ⟨_, rfl, wpAny_pure h⟩) htake))
end
end HT

namespace L2
open PySem PySem.Spec PyProof.Rows


noncomputable abbrev TO := St → Hp → (Option Int → Hp → Prop) → Prop
noncomputable def PO (X : Cx) (e : Option Expr) (t : TO) : Prop :=
  ∀ (pins : List (Addr × Obj)) (s : Shared) (σ : St) (H : Hp) (Q : Option Int → Hp → Prop), Inv X pins σ H s → t σ H Q →
    wpAny (model X.prog X.w) X.A (evalPart e X.env) (fun u s' => ∃ o H', Inv X pins σ H' s' ∧ IsPart u o ∧ Q o H') X.xe s
noncomputable def tNoPart : TO := fun _ H Q => Q none H
noncomputable def tPart (t : TE) : TO := fun σ H Q => t σ H fun x H1 => ∃ i, x = .int i ∧ Q (some i) H1

theorem intsAre_of {ns : List Int} : ∀ {us : List Value}, Vals (ns.map V.int) us → IntsAre us ns := by
  induction ns with
  | nil => intro us r; rw [List.map_nil] at r; cases r; exact .nil
  | cons n ns ih =>
    intro us r
    rw [List.map_cons] at r
    cases r with
    | cons r1 r2 =>
      obtain ⟨t, e⟩ := r1
      subst e
      exact .cons n t (ih r2)

section
variable {X : Cx} {e : Expr} {te : TE} {lo hi : Option Expr} {tl th : TO} {pos p2 : Pos}

theorem po_none : PO X none tNoPart := by
  intro pins s σ H Q I h
  rw [evalPart_none]
  exact wpAny_pure ⟨none, H, I, .none, h⟩
theorem po_some (h : PE X e te) : PO X (some e) (tPart te) := by
  intro pins s σ H Q I hw
  rw [evalPart_some]
  refine thn (h pins s σ H _ I hw) fun u s1 z84_ => ?_
  obtain ⟨x, H1, I1, r1, q1⟩ := z84_
  obtain ⟨i, rfl, q⟩ := q1
  obtain ⟨t, rfl⟩ := r1
  exact ⟨some i, H1, I1, .int i t, q⟩

noncomputable def SlR (X : Cx) (r : V → Option Int → Option Int → Hp → VK → Prop) : Prop :=
  ∀ (pins : List (Addr × Obj)) (s : Shared) (σ : St) (H : Hp) (x : V) (v vl vu : Value) (lo hi : Option Int) (sl : Addr) (Q : VK), Inv X pins σ H s → RelV x v → s.heap.IsSliceOf sl vl vu .none → IsPart vl lo → IsPart vu hi → r x lo hi H Q →
    ∃ T id, typeLookup (.type T) "__getitem__" = pure (some (.builtin id)) ∧ s.TypeIs v T ∧ wpAny (model X.prog X.w) X.A (getItem v (.ref sl)) (EP X pins σ Q) X.xe s
theorem SlR.or {r r' : V → Option Int → Option Int → Hp → VK → Prop} (h : SlR X r) (h' : SlR X r') : SlR X (fun x lo hi H Q => r x lo hi H Q ∨ r' x lo hi H Q) := by
  intro pins s σ H x v vl vu lo hi sl Q I rx hs pl pu q
  rcases q with q | q
  · exact h pins s σ H x v vl vu lo hi sl Q I rx hs pl pu q
  · exact h' pins s σ H x v vl vu lo hi sl Q I rx hs pl pu q
noncomputable def tSl (r : V → Option Int → Option Int → Hp → VK → Prop) (te : TE) (tl th : TO) : TE := fun σ H Q => te σ H fun x H1 => tl σ H1 fun l H2 => th σ H2 fun u H3 => r x l u H3 Q
theorem pe_slice {r : V → Option Int → Option Int → Hp → VK → Prop} (hr : SlR X r) (he : PE X e te) (hl : PO X lo tl) (hu : PO X hi th) : PE X (.Subscript e (.Slice lo hi none p2) pos) (tSl r te tl th) := by
  intro pins s σ H Q I h
  refine Subscript_ (thn (he pins s σ H _ I h) fun v s1 z85_ => ?_)
  obtain ⟨x, H1, I1, r1, q1⟩ := z85_
  refine wpAny_Slice (thn (hl pins s1 σ H1 _ I1 q1) ?_)
  rintro vl s2 ⟨l, H2, I2, pl, q2⟩
  refine thn (hu pins s2 σ H2 _ I2 q2) fun vu s3 z87_ => ?_
  obtain ⟨u, H3, I3, pu, q3⟩ := z87_
  rw [evalPart_none]
  refine wpAny_pure ?_
  have I4 : Inv X pins σ H3 { s3 with heap := s3.heap.push { cls := .type "slice", data := .fields #[vl, vu, .none] } } := I3.kept (t' := s3.toks) fun b ob q => Heap.get?_push_of_some _ q
  obtain ⟨T, id, hT, ht, hg⟩ := hr pins { s3 with heap := s3.heap.push { cls := .type "slice", data := .fields #[vl, vu, .none] } } σ H3 x v vl vu l u s3.heap.objs.size Q I4 r1 (Heap.IsSliceOf.new ..) pl pu q3
  show wpAny (model X.prog X.w) X.A (subscriptTail e (.Slice lo hi none p2) v (.ref s3.heap.objs.size)) (EP X pins σ Q) X.xe { s3 with heap := s3.heap.push { cls := .type "slice", data := .fields #[vl, vu, .none] } }
  exact tail_any (ops := [.ref s3.heap.objs.size, v]) ht hT hg (by with_unfolding_all rfl)

noncomputable def cutV (xs : List V) (lo hi : Option Int) : List V := (xs.drop (HT.sIx xs.length 0 lo)).take (HT.sIx xs.length xs.length hi - HT.sIx xs.length 0 lo)
theorem cutV_length (xs : List V) (lo hi : Option Int) : (cutV xs lo hi).length ≤ xs.length := by
  unfold cutV
  rw [List.length_take, List.length_drop]
  (first | lia | omega)
noncomputable def rSlT (K : PySem.W.Frag) : V → Option Int → Option Int → Hp → VK → Prop := fun x lo hi H Q => ∃ a xs, x = .ref a ∧ SqT K H a xs ∧
  ¬ (HT.sIx xs.length 0 lo = 0 ∧ HT.sIx xs.length xs.length hi = xs.length) ∧ ∀ p, H p = none → Q (.ref p) (upd H p (.tup (cutV xs lo hi)))
theorem sl_tup : SlR X (rSlT X.K) := by
  intro pins s σ H x v vl vu lo hi sl Q I rx hs pl pu h
  obtain ⟨a, xs, rfl, hx, hw, q⟩ := h
  cases rx
  obtain ⟨its, r, ht, hz⟩ := I.tuple hx
  have hlen : its.toArray.size = xs.length := by rw [List.size_toArray]; exact r.length.symm
  refine ⟨"tuple", _, PyProof.Rows.slot_tuple_getitem.lookup, ht.typeIs, ?_⟩
  refine HT.getItem_tuple_cut ht hs pl pu (by rw [hlen]; exact hw) ?_ (by rw [hlen]; exact hz)
  rw [hlen]
  refine ⟨.ref s.heap.objs.size, _, I.laid (t' := s.toks) (o := .tup (cutV xs lo hi)) (fun b ob q => Heap.get?_push_of_some _ q) (Nat.le_refl _) ?_, rfl, q _ (I.hok.fresh (Nat.le_refl _))⟩
  exact ⟨Nat.le_trans (cutV_length xs lo hi) hz, _, (r.drop (HT.sIx xs.length 0 lo)).take (HT.sIx xs.length xs.length hi - HT.sIx xs.length 0 lo), IsTup.new _ _, NoDict.new⟩


noncomputable def rLtT (K : PySem.W.Frag) : R2 := fun x y H Q => ∃ a b ns ms, x = .ref a ∧ y = .ref b ∧ SqT K H a (ns.map V.int) ∧ SqT K H b (ms.map V.int) ∧ Q (.bl (HT.lexLt ns ms)) H
theorem op_ltT (hu : X.A.units < cLine) : OpR X (compareOp .Lt) (rLtT X.K) := by
  intro pins s σ H x y v u Q I rx ry h
  obtain ⟨a, b, ns, ms, rfl, rfl, ha, hb, q⟩ := h
  cases rx
  cases ry
  obtain ⟨its, r1, p1, _⟩ := I.tuple ha
  obtain ⟨its2, r2, p2, _⟩ := I.tuple hb
  have i1 : IntsAre its.toArray.toList ns := intsAre_of r1
  have i2 : IntsAre its2.toArray.toList ms := intsAre_of r2
  exact HT.lt_tupInts p1 p2 i1 i2 hu ⟨.bl (HT.lexLt ns ms), H, I, rfl, q⟩
noncomputable def rCatT (K : PySem.W.Frag) : R2 := fun x y H Q => ∃ a b xs ys, x = .ref a ∧ y = .ref b ∧ SqT K H a xs ∧ SqT K H b ys ∧ xs ≠ [] ∧ xs.length + ys.length ≤ sizeLine ∧
  (ys = [] → Q (.ref a) H) ∧ (ys ≠ [] → ∀ p, H p = none → Q (.ref p) (upd H p (.tup (xs ++ ys))))
theorem Vals.nil_iff {xs : List V} {us : List Value} (r : Vals xs us) : us = [] ↔ xs = [] := by
  cases r with
  | nil => simp
  | cons _ _ => simp
theorem op_catT : OpR X (binaryOp .Add) (rCatT X.K) := by
  intro pins s σ H x y v u Q I rx ry h
  obtain ⟨a, b, xs, ys, rfl, rfl, ha, hb, hx, hz, q1, q2⟩ := h
  cases rx
  cases ry
  obtain ⟨its, r1, p1, _⟩ := I.tuple ha
  obtain ⟨its2, r2, p2, _⟩ := I.tuple hb
  refine HT.cat_tup p1 p2 (fun z => hx (r1.nil_iff.mp z)) (fun z => ⟨.ref a, H, I, rfl, q1 (r2.nil_iff.mp z)⟩) (fun z => ?_) (by rw [← r1.length, ← r2.length]; exact hz)
  refine ⟨.ref s.heap.objs.size, _, I.laid (t' := s.toks) (o := .tup (xs ++ ys)) (fun b ob q => Heap.get?_push_of_some _ q) (Nat.le_refl _) ?_, rfl, q2 (fun w => z (r2.nil_iff.mpr w)) _ (I.hok.fresh (Nat.le_refl _))⟩
  exact ⟨by rw [List.length_append]; exact hz, _, r1.append r2, IsTup.new _ _, NoDict.new⟩
end
end L2

namespace L2
open PySem PySem.Spec PyProof.Rows


noncomputable def ixN (n : Nat) (i : Int) : Option Nat := if 0 ≤ i then (if i < n then some i.toNat else none) else if -(n : Int) ≤ i then some (i + n).toNat else none
noncomputable def atI {α : Type} (xs : List α) (i : Int) : Option α := (ixN xs.length i).bind fun j => xs[j]?
theorem ixN_seq {n : Nat} {i : Int} {j : Nat} (h : ixN n i = some j) : seqIndex? i n = some j ∧ j < n ∧ -(n : Int) ≤ i ∧ i < n := by
  unfold ixN at h
  by_cases h0 : 0 ≤ i
  · rw [if_pos h0] at h
    by_cases h1 : i < n
    · rw [if_pos h1] at h
      have e : i.toNat = j := Option.some.inj h
      exact ⟨by rw [seqIndex_of h0 h1, e], by (first | lia | omega), by (first | lia | omega), h1⟩
    · rw [if_neg h1] at h; cases h
  · rw [if_neg h0] at h
    by_cases h1 : -(n : Int) ≤ i
    · rw [if_pos h1] at h
      have e : (i + n).toNat = j := Option.some.inj h
      exact ⟨by rw [seqIndex_neg (by (first | lia | omega)) h1, e], by (first | lia | omega), h1, by (first | lia | omega)⟩
    · rw [if_neg h1] at h; cases h
theorem atI_get {α : Type} {xs : List α} {i : Int} {v : α} (h : atI xs i = some v) : ∃ j, seqIndex? i xs.length = some j ∧ xs[j]? = some v ∧ j < xs.length ∧ -(xs.length : Int) ≤ i ∧ i < xs.length := by
  unfold atI at h
  cases e : ixN xs.length i with
  | none => rw [e] at h; cases h
  | some j =>
    rw [e] at h
    obtain ⟨h1, h2, h3, h4⟩ := ixN_seq e
    exact ⟨j, h1, h, h2, h3, h4⟩
noncomputable def PlainIx (b : Expr) : Prop := ∀ o i, subscripted b false o i = operate [o, i] (getItem o i)
noncomputable def IxR (X : Cx) (r : R2) : Prop :=
  ∀ (value slice : Expr) (pins : List (Addr × Obj)) (s : Shared) (σ : St) (H : Hp) (x y : V) (v u : Value) (Q : VK), Inv X pins σ H s → RelV x v → RelV y u → r x y H Q →
    subscripted slice false v u = operate [v, u] (getItem v u) → wpAny (model X.prog X.w) X.A (subscriptTail value slice v u) (EP X pins σ Q) X.xe s
noncomputable def MtR (X : Cx) (id : String) (r : V → List V → Hp → VK → Prop) : Prop :=
  ∀ (pins : List (Addr × Obj)) (s : Shared) (σ : St) (H : Hp) (x : V) (xs : List V) (v : Value) (us : List Value) (Q : VK), Inv X pins σ H s → RelV x v → Vals xs us → r x xs H Q →
    wpAny (model X.prog X.w) X.A (call (.builtin id) (v :: us)) (EP X pins σ Q) X.xe s
section
variable {X : Cx} {a b : Expr} {ta tb : TE} {pos : Pos}
theorem IxR.or {r r' : R2} (h : IxR X r) (h' : IxR X r') : IxR X (fun x y H Q => r x y H Q ∨ r' x y H Q) := by
  intro value slice pins s σ H x y v u Q I rx ry q hs
  rcases q with q | q
  · exact h value slice pins s σ H x y v u Q I rx ry q hs
  · exact h' value slice pins s σ H x y v u Q I rx ry q hs
theorem pe_ix {r : R2} (hr : IxR X r) (ha : PE X a ta) (hb : PE X b tb) (hs : PlainIx b) : PE X (.Subscript a b pos) (tOp r ta tb) := by
  intro pins s σ H Q I h
  exact Subscript_ (binT ha hb I h fun v u s2 x y H2 I2 rx ry q => hr a b pins s2 σ H2 x y v u Q I2 rx ry q (hs _ _))

noncomputable def rIxL (K : PySem.W.Frag) : R2 := fun x y H Q => ∃ p xs i v, x = .ref p ∧ y = .int i ∧ SqL K H p xs ∧ atI xs i = some v ∧ Q v H
noncomputable def rIxT (K : PySem.W.Frag) : R2 := fun x y H Q => ∃ p xs i v, x = .ref p ∧ y = .int i ∧ SqT K H p xs ∧ atI xs i = some v ∧ Q v H
theorem ix_list : IxR X (rIxL X.K) := by
  intro value slice pins s σ H x y v u Q I rx ry h hs
  obtain ⟨p, xs, i, z, rfl, rfl, hq, he, q⟩ := h
  cases rx
  obtain ⟨t, rfl⟩ := ry
  obtain ⟨its, r, pl, hz⟩ := I.list hq
  obtain ⟨j, h1, h2, h3, h4, h5⟩ := atI_get he
  obtain ⟨w, ew, rw'⟩ := r.get h2
  have hl := r.length
  have hn := line63
  have fin : EP X pins σ Q w s := ⟨z, H, I, rw', q⟩
  by_cases h0 : 0 ≤ i
  · have hj : i.toNat = j := by
      rw [seqIndex_of h0 h5] at h1
      exact Option.some.inj h1
    exact item_listR pl.isList h0 (by (first | lia | omega)) (by rw [hj]; simpa using ew) fin hs
  · have hj : (i + (its.toArray.size : Int)).toNat = j := by
      rw [seqIndex_neg (by (first | lia | omega)) h4] at h1
      rw [List.size_toArray, ← hl]
      exact Option.some.inj h1
    exact subscriptTail_builtinR (x := w) pl.isList.typeIs slot_list_getitem.lookup
      (wpAny_getItem_list_neg (Q := fun r s' => r = w ∧ EP X pins σ Q r s') pl.isList (by (first | lia | omega)) (by rw [List.size_toArray] <;> (first | lia | omega)) (by (first | lia | omega)) (by rw [hj]; simpa using ew) ⟨rfl, fin⟩) hs
theorem ix_tup : IxR X (rIxT X.K) := by
  intro value slice pins s σ H x y v u Q I rx ry h hs
  obtain ⟨p, xs, i, z, rfl, rfl, hq, he, q⟩ := h
  cases rx
  obtain ⟨t, rfl⟩ := ry
  obtain ⟨its, r, pl, hz⟩ := I.tuple hq
  obtain ⟨j, h1, h2, h3, h4, h5⟩ := atI_get he
  obtain ⟨w, ew, rw'⟩ := r.get h2
  have hl := r.length
  have hn := line63
  have fin : EP X pins σ Q w s := ⟨z, H, I, rw', q⟩
  exact subscriptTail_builtinR (x := w) pl.typeIs slot_tuple_getitem.lookup
    (getItem_tuple (j := j) (Q := fun r s' => r = w ∧ EP X pins σ Q r s') pl (by (first | lia | omega)) (by (first | lia | omega)) (by rw [List.size_toArray, ← hl]; exact h1) (by simpa using ew) ⟨rfl, fin⟩) hs
theorem mapSeq_set (its : List Value) (n j : Nat) (u : Value) : Obj.mapSeq (·.setIfInBounds j u) { cls := .type "list", data := .seq its.toArray n } = { cls := .type "list", data := .seq (its.set j u).toArray n } := by
  simp [Obj.mapSeq]
theorem Inv.lst {pins : List (Addr × Obj)} {σ : St} {H : Hp} {s : Shared} {p : Addr} {xs : List V} (I : Inv X pins σ H s) (h : H p = some (.lst xs)) :
    ∃ (its : List Value) (n : Nat), Vals xs its ∧ s.heap.get? p = some { cls := .type "list", data := .seq its.toArray n } ∧ xs.length ≤ sizeLine := by
  obtain ⟨z, its, n, r, e⟩ := I.hok p _ h
  exact ⟨its, n, r, e, z⟩
theorem Inv.lstUpd {pins : List (Addr × Obj)} {σ : St} {H : Hp} {s : Shared} {p : Addr} {xs ys : List V} {its its' : List Value} {n n' : Nat} {f : Obj → Obj} (I : Inv X pins σ H s) (h : H p = some (.lst xs))
    (ho : s.heap.get? p = some { cls := .type "list", data := .seq its.toArray n }) (hf : f { cls := .type "list", data := .seq its.toArray n } = { cls := .type "list", data := .seq its'.toArray n' }) (r : Vals ys its') (hz : ys.length ≤ sizeLine) (t : Nat) :
    Inv X pins σ (upd H p (.lst ys)) { s with heap := s.heap.update p f, toks := t } := by
  have e : (s.heap.update p f).get? p = some { cls := .type "list", data := .seq its'.toArray n' } := by
    rw [Heap.get?_update_self f ho (by rw [hf] <;> rfl), hf]
  refine I.write (x := p) (e := p) (by rw [h]; trivial) (.inl rfl) (fun b u hb q => (Heap.get?_update_other _ _ (Ne.symm hb)).trans q) ⟨_, e⟩ ?_
  exact ⟨hz, its', n', r, e⟩
noncomputable def rSetL : V → V → V → Hp → (Hp → Prop) → Prop := fun o i v H Q => ∃ p xs k j, o = .ref p ∧ i = .int k ∧ H p = some (.lst xs) ∧ ixN xs.length k = some j ∧ Q (upd H p (.lst (xs.set j v)))
theorem set_list : PSet X rSetL := by
  intro pins s σ H o i v ov iv u Q I ro ri rv h
  obtain ⟨p, xs, k, j, rfl, rfl, hp, hj, q⟩ := h
  cases ro
  obtain ⟨t, rfl⟩ := ri
  obtain ⟨its, n, r, ho, hz⟩ := I.lst hp
  obtain ⟨h1, h2, h3, h4⟩ := ixN_seq hj
  have hl := r.length
  have hn := line63
  have I' : Inv X pins σ (upd H p (.lst (xs.set j v))) { s with heap := s.heap.update p (Obj.mapSeq (·.setIfInBounds j u)) } :=
    I.lstUpd hp ho (mapSeq_set its n j u) (r.set rv j) (by rw [List.length_set]; exact hz) s.toks
  by_cases h0 : 0 ≤ k
  · have hk : k.toNat = j := by
      rw [seqIndex_of h0 h4] at h1
      exact Option.some.inj h1
    exact PySem.W.ki_setAt ho h0 (by (first | lia | omega)) (by rw [List.size_toArray, ← hl]; exact h4) (by rw [hk]; exact ⟨_, I', q⟩)
  · have hk : (k + (its.toArray.size : Int)).toNat = j := by
      rw [seqIndex_neg (by (first | lia | omega)) h3] at h1
      rw [List.size_toArray, ← hl]
      exact Option.some.inj h1
    exact PySem.W.ki_setBack ho (by (first | lia | omega)) (by rw [List.size_toArray, ← hl]; exact h3) (by (first | lia | omega)) (by rw [hk]; exact ⟨_, I', q⟩)


noncomputable def flatV : V → Bool
  | .non => true
  | .bl _ => true
  | .int _ => true
  | .str _ => true
  | _ => false
noncomputable def eqV : V → V → Bool
  | .non, .non => true
  | .bl a, .bl b => a == b
  | .bl a, .int b => (if a then 1 else 0) == b
  | .int a, .bl b => a == (if b then 1 else 0)
  | .int a, .int b => a == b
  | .str a, .str b => a == b
  | _, _ => false
theorem eqAt_V {A : Around} {s : Shared} {y x : V} {u v : Value} (ry : RelV y u) (rx : RelV x v) (fy : flatV y = true) (fx : flatV x = true) : SeqAt.EqAt A s u v (eqV y x) := by
  cases y with
  | non =>
    cases ry
    cases x with
    | non => cases rx; exact SeqAt.EqAt.same _
    | bl b => cases rx; exact SeqAt.EqAt.none_bool b
    | int b => obtain ⟨t, rfl⟩ := rx; exact SeqAt.EqAt.none_int b t
    | str b => obtain ⟨t, rfl⟩ := rx; exact SeqAt.EqAt.none_str b t
    | _ => exact absurd (show false = true from fx) Bool.false_ne_true
  | bl a =>
    cases ry
    cases x with
    | non => cases rx; exact SeqAt.EqAt.bool_none a
    | bl b => cases rx; exact SeqAt.EqAt.bool_bool a b
    | int b => obtain ⟨t, rfl⟩ := rx; exact SeqAt.EqAt.bool_int a b t
    | str b => obtain ⟨t, rfl⟩ := rx; exact SeqAt.EqAt.bool_str a b t
    | _ => exact absurd (show false = true from fx) Bool.false_ne_true
  | int a =>
    obtain ⟨t', rfl⟩ := ry
    cases x with
    | non => cases rx; exact SeqAt.EqAt.int_none a t'
    | bl b => cases rx; exact SeqAt.EqAt.int_bool a t' b
    | int b => obtain ⟨t, rfl⟩ := rx; exact SeqAt.EqAt.int_int a t' b t
    | str b => obtain ⟨t, rfl⟩ := rx; exact SeqAt.EqAt.int_str a t' b t
    | _ => exact absurd (show false = true from fx) Bool.false_ne_true
  | str a =>
    obtain ⟨t', rfl⟩ := ry
    cases x with
    | non => cases rx; exact SeqAt.EqAt.str_none a t'
    | bl b => cases rx; exact SeqAt.EqAt.str_bool a t' b
    | int b => obtain ⟨t, rfl⟩ := rx; exact SeqAt.EqAt.str_int a t' b t
    | str b => obtain ⟨t, rfl⟩ := rx; exact SeqAt.EqAt.str_str a t' b t
    | _ => exact absurd (show false = true from fx) Bool.false_ne_true
  | _ => exact absurd (show false = true from fy) Bool.false_ne_true
noncomputable def eqU (x : V) (u : Value) : Bool := match u with
  | .none => eqV .non x
  | .bool b => eqV (.bl b) x
  | .int i _ => eqV (.int i) x
  | .str z _ => eqV (.str z) x
  | _ => false
theorem eqU_of {x y : V} {u : Value} (r : RelV y u) (f : flatV y = true) : eqU x u = eqV y x := by
  cases y with
  | non => cases r; rfl
  | bl b => cases r; rfl
  | int i => obtain ⟨t, rfl⟩ := r; rfl
  | str z => obtain ⟨t, rfl⟩ := r; rfl
  | _ => exact absurd (show false = true from f) Bool.false_ne_true
theorem any_eqU {x : V} : ∀ {xs : List V} {us : List Value}, Vals xs us → xs.all flatV = true → us.any (eqU x) = xs.any fun y => eqV y x
  | _, _, .nil, _ => rfl
  | y :: xs, u :: us, .cons r t, f => by
    rw [List.all_cons, Bool.and_eq_true] at f
    rw [List.any_cons, List.any_cons, eqU_of r f.1, any_eqU t f.2]
theorem mem_eqAt {A : Around} {s : Shared} {x : V} {v : Value} (rx : RelV x v) (fx : flatV x = true) : ∀ {xs : List V} {us : List Value}, Vals xs us → xs.all flatV = true → ∀ u ∈ us, SeqAt.EqAt A s u v (eqU x u)
  | _, _, .nil, _ => fun u hu => by cases hu
  | y :: xs, u :: us, .cons r t, f => fun u' hu => by
    rw [List.all_cons, Bool.and_eq_true] at f
    rcases List.mem_cons.mp hu with rfl | hu
    · rw [eqU_of r f.1]; exact eqAt_V r rx f.1 fx
    · exact mem_eqAt rx fx t f.2 u' hu
noncomputable def inV (x : V) (xs : List V) : Bool := xs.any fun y => eqV y x
noncomputable def rIn (K : PySem.W.Frag) (neg : Bool) : R2 := fun x y H Q => ∃ p xs, y = .ref p ∧ (SqL K H p xs ∨ SqT K H p xs) ∧ flatV x = true ∧ xs.all flatV = true ∧ Q (.bl (if neg then !inV x xs else inV x xs)) H
theorem op_in_seq : OpR X (compareOp .In) (rIn X.K false) := by
  intro pins s σ H x y v u Q I rx ry h
  obtain ⟨p, xs, rfl, hq, fx, fs, q⟩ := h
  cases ry
  rcases hq with hq | hq
  · obtain ⟨its, r, pl, hz⟩ := I.list hq
    refine SeqAt.in_listAt (eqU x) pl.isList (fun w hw => mem_eqAt rx fx r fs w (by simpa using hw)) ⟨.bl _, H, I, rfl, ?_⟩
    rw [show its.toArray.any (eqU x) = its.any (eqU x) by simp, any_eqU r fs]
    exact q
  · obtain ⟨its, r, pl, hz⟩ := I.tuple hq
    refine SeqAt.in_tupleAt (eqU x) pl (fun w hw => mem_eqAt rx fx r fs w (by simpa using hw)) ⟨.bl _, H, I, rfl, ?_⟩
    rw [show its.toArray.any (eqU x) = its.any (eqU x) by simp, any_eqU r fs]
    exact q
theorem call_len_seq : CallR X (.builtin "len") (fun xs H Q => ∃ p ys, xs = [.ref p] ∧ (SqL X.K H p ys ∨ SqT X.K H p ys) ∧ Q (.int ys.length) H) := by
  intro pins s σ H xs us Q I r h
  obtain ⟨p, ys, rfl, hq, q⟩ := h
  obtain ⟨u, rfl, rx⟩ := vals1 r
  cases rx
  have hn := line63
  rcases hq with hq | hq
  · obtain ⟨its, r', pl, hz⟩ := I.list hq
    have hlen := r'.length
    exact Calls.call_len_list pl.isList (by simp only [List.size_toArray] <;> (first | lia | omega)) ⟨.int ys.length, H, I.tok _, ⟨s.toks + 1, by rw [List.size_toArray, hlen]⟩, q⟩
  · obtain ⟨its, r', pl, hz⟩ := I.tuple hq
    have hlen := r'.length
    exact len_tuple pl (by simp only [List.size_toArray] <;> (first | lia | omega)) ⟨.int ys.length, H, I.tok _, ⟨s.toks + 1, by rw [List.size_toArray, hlen]⟩, q⟩
theorem call_list_of : CallR X (.type "list") (fun xs H Q => ∃ p ys, xs = [.ref p] ∧ (SqL X.K H p ys ∨ SqT X.K H p ys) ∧ ∀ l, H l = none → Q (.ref l) (upd H l (.lst ys))) := by
  intro pins s σ H xs us Q I r h
  obtain ⟨p, ys, rfl, hq, q⟩ := h
  obtain ⟨u, rfl, rx⟩ := vals1 r
  cases rx
  have fin : ∀ (its : List Value), Vals ys its → ys.length ≤ sizeLine → ∀ (h' : Heap) (c' : Nat), (∀ b o', s.heap.get? b = some o' → h'.get? b = some o') →
      h'.get? s.heap.objs.size = some { cls := .type "list", dict := none, data := .seq its.toArray c', slots := #[] } → EP X pins σ Q (.ref s.heap.objs.size) { s with heap := h' } := fun its r' hz h' c' kp e =>
    ⟨.ref s.heap.objs.size, _, I.laid (t' := s.toks) kp (Nat.le_refl _) (show ObjOk X.prog X.w _ h' _ (.lst ys) from ⟨hz, its, c', r', e⟩), rfl, q _ (I.hok.fresh (Nat.le_refl _))⟩
  rcases hq with hq | hq
  · obtain ⟨its, r', pl, hz⟩ := I.list hq
    have hlen := r'.length
    obtain ⟨o, ho, hc, n, hd⟩ := pl.isList
    exact call_list_seq p (.inl rfl) ho hc hd (fun h' c' kp e => fin its r' hz h' c' kp e) (by simp only [List.size_toArray] <;> (first | lia | omega))
  · obtain ⟨its, r', pl, hz⟩ := I.tuple hq
    have hlen := r'.length
    obtain ⟨o, ho, hc, n, hd⟩ := pl
    exact call_list_seq p (.inr rfl) ho hc hd (fun h' c' kp e => fin its r' hz h' c' kp e) (by simp only [List.size_toArray] <;> (first | lia | omega))
theorem call_tuple_of : CallR X (.type "tuple") (fun xs H Q => ∃ p ys, xs = [.ref p] ∧ ((SqL X.K H p ys ∧ ∀ l, H l = none → Q (.ref l) (upd H l (.tup ys))) ∨ (SqT X.K H p ys ∧ Q (.ref p) H))) := by
  intro pins s σ H xs us Q I r h
  obtain ⟨p, ys, rfl, h⟩ := h
  obtain ⟨u, rfl, rx⟩ := vals1 r
  cases rx
  rcases h with ⟨hq, q⟩ | ⟨hq, q⟩
  · obtain ⟨its, r', pl, hz⟩ := I.list hq
    have hlen := r'.length
    refine call_tuple_list pl.isList (fun h' kp => ?_) (by simp only [List.size_toArray] <;> (first | lia | omega))
    have I1 : Inv X pins σ H { s with heap := h' } := I.kept (t' := s.toks) kp
    have I2 : Inv X pins σ (upd H h'.objs.size (.tup ys)) { s with heap := h'.push { cls := .type "tuple", data := .seq its.toArray } } :=
      I1.laid (t' := s.toks) (fun b o e => Heap.get?_push_of_some _ e) (Nat.le_refl _) (show ObjOk X.prog X.w _ _ _ (.tup ys) from ⟨hz, its, r', IsTup.new _ _, NoDict.new⟩)
    exact ⟨.ref h'.objs.size, _, I2, rfl, q _ (I1.hok.fresh (Nat.le_refl _))⟩
  · obtain ⟨its, r', pl, hz⟩ := I.tuple hq
    exact call_tuple_same pl ⟨.ref p, H, I, rfl, q⟩


noncomputable def tyV (K : PySem.W.Frag) (T : String) (x : V) (H : Hp) : Prop := match x with
  | .str _ => T = "str"
  | .int _ => T = "int"
  | .ref p => (T = "list" ∧ ∃ xs, SqL K H p xs) ∨ (T = "tuple" ∧ ∃ o, K.lookup p = some o ∧ o.cls = .type "tuple" ∧ o.dict = none)
  | _ => False
theorem tyV_is {pins : List (Addr × Obj)} {σ : St} {H : Hp} {s : Shared} {T : String} {x : V} {v : Value} (I : Inv X pins σ H s) (r : RelV x v) (ty : tyV X.K T x H) :
    s.TypeIs v T ∧ ∀ a, v = .ref a → ∃ ob, s.heap.get? a = some ob ∧ ob.dict = none := by
  cases x with
  | str z =>
    obtain ⟨t, rfl⟩ := r
    cases (show T = "str" from ty)
    exact ⟨typeIs_str s z t, fun _ e => nomatch e⟩
  | int i =>
    obtain ⟨t, rfl⟩ := r
    cases (show T = "int" from ty)
    exact ⟨typeIs_int s i t, fun _ e => nomatch e⟩
  | ref p =>
    cases r
    rcases ty with ⟨rfl, xs, hq⟩ | ⟨rfl, o, hk, hc, hd⟩
    · obtain ⟨its, _, pl, _⟩ := I.list hq
      refine ⟨pl.isList.typeIs, fun a e => ?_⟩
      cases e
      obtain ⟨o, n, e, c, hd, _⟩ := pl
      exact ⟨o, e, hd⟩
    · refine ⟨⟨o, I.kIn p o hk, hc⟩, fun a e => ?_⟩
      cases e
      exact ⟨o, I.kIn _ o hk, hd⟩
  | _ => exact False.elim ty
noncomputable def tBM (K : PySem.W.Frag) (T : String) (r : V → List V → Hp → VK → Prop) (to : TE) (t : TA) : TE := fun σ H Q => to σ H fun x H1 => tyV K T x H1 ∧ t σ H1 fun xs H2 => r x xs H2 Q
variable {o e : Expr} {es : List Expr} {to : TE} {t : TA} {name : Str} {apos cpos : Pos} {T id : String} {r : V → List V → Hp → VK → Prop}
theorem pe_bm (pa : PlainAttrs T) (slot : Slot T name id) (hty : typeOf (.builtin id) = pure (.type "method_descriptor")) (hm : MtR X id r) (ho : PE X o to) (ha : PA X (e :: es) t)
    (hbase : attributeBase o name X.env (eval o X.env) = eval o X.env := by rfl)
    (hfew : ((backTo cpos (starEach (e :: es) X.env)).all (fun x => !x.1) && (backToKw cpos (keywordEach [] X.env)).all (fun x => x.1.isSome)
      && decide ((e :: es).length + ([] : List Keyword).length + (if ([] : List Keyword).isEmpty then 0 else 1) < 30)) = true := by rfl)
    (hline : (apos.endLine == cpos.line) = true := by rfl) (hs : starEach (e :: es) X.env = (false, eval e X.env) :: starEach es X.env := by rfl) (hplain : (backTo cpos (starEach es X.env)).any (·.1) = false := by rfl) :
    PE X (.Call (.Attribute o name apos) (e :: es) [] cpos) (tBM X.K T r to t) := by
  intro pins s σ H Q I h
  refine wpAny_Call_method_late hbase hfew hline rfl (thn (ho pins s σ H _ I h) fun v s1 z89_ => ?_)
  obtain ⟨x, H1, I1, r1, ty, q1⟩ := z89_
  obtain ⟨h1, h2⟩ := tyV_is I1 r1 ty
  refine ⟨T, id, pa, slot, hty, h1, h2, ?_⟩
  have hA := ha cpos pins s1 σ H1 _ I1 q1
  rw [hs] at hA ⊢
  refine Calls.callWith_builtin (by show (false || (backTo cpos (starEach es X.env)).any (·.1)) = false; rw [hplain] <;> rfl) (Calls.evalArgs_plain ?_)
  exact thn hA fun us s2 z90_ => by obtain ⟨vs, H2, I2, r2, q2⟩ := z90_; exact (hm pins s2 σ H2 x vs v us Q I2 r1 r2 q2)

end
end L2

namespace L2
open PySem PySem.Spec PyProof.Rows

noncomputable def MtM (X : Cx) (id : String) (r : V → List V → Hp → VK → Prop) : Prop :=
  ∀ (pins : List (Addr × Obj)) (s : Shared) (σ : St) (H : Hp) (x : V) (xs : List V) (v : Value) (us : List Value) (Q : VK), Inv X pins σ H s → RelV x v → Vals xs us → r x xs H Q →
    wpAny (model X.prog X.w) X.A (call (.builtin id) (v :: us)) (EP X pins σ Q) X.xe s


theorem Vals.one {x : V} {us : List Value} (h : Vals [x] us) : ∃ u, us = [u] ∧ RelV x u := by
  cases h with
  | cons r t => cases t; exact ⟨_, rfl, r⟩
theorem Vals.reverse {xs : List V} {us : List Value} (h : Vals xs us) : Vals xs.reverse us.reverse := by
  induction h with
  | nil => exact .nil
  | cons r t ih => rw [List.reverse_cons, List.reverse_cons]; exact Vals.append ih (.cons r .nil)
theorem Vals.rep {xs : List V} {us : List Value} (h : Vals xs us) : ∀ k : Nat, Vals (List.replicate k xs).flatten (List.replicate k us).flatten
  | 0 => .nil
  | k + 1 => by
    rw [List.replicate_succ, List.replicate_succ, List.flatten_cons, List.flatten_cons]
    exact Vals.append h (Vals.rep h k)
theorem foldl_rep (its : List Value) : ∀ (k : Nat) (acc : List Value),
    List.foldl (fun x1 x2 => x1 ++ x2) acc.toArray (List.replicate k its.toArray) = (acc ++ (List.replicate k its).flatten).toArray
  | 0, acc => by simp
  | k + 1, acc => by
    have e : acc.toArray ++ its.toArray = (acc ++ its).toArray := by simp
    have e2 : (acc ++ its) ++ (List.replicate k its).flatten = acc ++ (List.replicate (k + 1) its).flatten := by
      rw [List.replicate_succ, List.flatten_cons, List.append_assoc]
    rw [← e2, ← foldl_rep its k (acc ++ its), ← e, List.replicate_succ, List.foldl_cons]

section
variable {X : Cx} {pins : List (Addr × Obj)} {σ : St} {H : Hp} {s : Shared} {l b : Addr} {xs ys zs : List V}


theorem Inv.lset {its its' : List Value} {n : Nat} {f : Array Value → Array Value} {t' : Nat} (I : Inv X pins σ H s) (hH : H l = some (.lst xs))
    (e : s.heap.get? l = some { cls := .type "list", data := .seq its.toArray n }) (hf : f its.toArray = its'.toArray) (hv : Vals ys its') (hz : ys.length ≤ sizeLine) :
    Inv X pins σ (upd H l (.lst ys)) { s with heap := s.heap.update l (Obj.mapSeq f), toks := t' } := by
  have q := PySem.IsL.update e f
  rw [hf] at q
  refine I.write (x := l) (e := l) (by rw [hH]; exact trivial) (.inl rfl) (fun b' u hb hu => (Heap.get?_update_other s.heap (Obj.mapSeq f) (Ne.symm hb)).trans hu) ⟨_, q⟩ ?_
  exact ⟨hz, its', _, hv, q⟩
theorem Inv.lnew {its : List Value} {t' : Nat} (I : Inv X pins σ H s) (hv : Vals ys its) (hz : ys.length ≤ sizeLine) :
    Inv X pins σ (upd H s.heap.objs.size (.lst ys)) { s with heap := s.heap.push { cls := .type "list", data := .seq its.toArray }, toks := t' } :=
  I.laid (fun _ _ q => Heap.get?_push_of_some _ q) (Nat.le_refl _) ⟨hz, its, 0, hv, Heap.get?_push_size _ rfl⟩
theorem Inv.fresh (I : Inv X pins σ H s) : H s.heap.objs.size = none := I.hok.fresh (Nat.le_refl _)
theorem Inv.lstM (I : Inv X pins σ H s) (hH : H l = some (.lst xs)) : xs.length ≤ sizeLine ∧ ∃ (its : List Value) (n : Nat), Vals xs its ∧ xs.length = its.length ∧ s.heap.get? l = some { cls := .type "list", data := .seq its.toArray n } := by
  obtain ⟨z, its, n, r, e⟩ := I.hok l _ hH
  exact ⟨z, its, n, r, r.length, e⟩

theorem notLongL {n : Nat} (h : n ≤ sizeLine) : Builtin.List.listTooLong n = false := by
  unfold Builtin.List.listTooLong
  exact decide_eq_false (by (first | lia | omega))
end

section
variable {X : Cx}


noncomputable def rAppend : V → List V → Hp → VK → Prop := fun x vs H Q => ∃ l xs y, x = .ref l ∧ vs = [y] ∧ H l = some (.lst xs) ∧ xs.length < sizeLine ∧ Q .non (upd H l (.lst (xs ++ [y])))
theorem mt_append : MtM X "list.append" rAppend := by
  intro pins s σ H x vs v us Q I rx rv h
  obtain ⟨l, xs, y, rfl, rfl, hH, hz, q⟩ := h
  cases rx
  obtain ⟨u, rfl, ru⟩ := rv.one
  obtain ⟨z, its, n, r, hl, e⟩ := I.lstM hH
  refine call_meets F.slot_list_append ⟨_, e, rfl⟩ F.entry_list_append (F.args_list_append_2 _ _) (PySem.list_append l its.toArray n u (by rw [List.size_toArray]; (first | lia | omega))) ⟨e, ?_⟩
  refine ⟨.non, _, I.lset (its' := its ++ [u]) hH e (by simp) (r.append (.cons ru .nil)) ?_, rfl, q⟩
  rw [List.length_append, List.length_singleton]
  (first | lia | omega)

noncomputable def rCat : R2 := fun x y H Q => ∃ l b xs zs, x = .ref l ∧ y = .ref b ∧ H l = some (.lst xs) ∧ H b = some (.lst zs) ∧ xs.length + zs.length ≤ sizeLine ∧ ∀ p, H p = none → Q (.ref p) (upd H p (.lst (xs ++ zs)))
theorem op_cat : OpR X (binaryOp .Add) rCat := by
  intro pins s σ H x y v u Q I rx ry h
  obtain ⟨l, b, xs, zs, rfl, rfl, hH, hB, hz, q⟩ := h
  cases rx
  cases ry
  obtain ⟨z, its, n, r, hl, e⟩ := I.lstM hH
  obtain ⟨z2, its2, n2, r2, hl2, e2⟩ := I.lstM hB
  refine PySem.P.add_list e e2 ?_ (by rw [List.size_toArray, List.size_toArray]; (first | lia | omega))
  have ea : its.toArray ++ its2.toArray = (its ++ its2).toArray := by simp
  rw [ea]
  exact ⟨.ref _, _, I.lnew (t' := s.toks) (r.append r2) (by rw [List.length_append]; (first | lia | omega)), rfl, q _ I.fresh⟩
noncomputable def rRep : R2 := fun x y H Q => ∃ l k xs, x = .ref l ∧ y = .int k ∧ H l = some (.lst xs) ∧ -(2 ^ 63) ≤ k ∧ k < 2 ^ 63 ∧ xs.length * k.toNat ≤ sizeLine ∧
  ∀ p, H p = none → Q (.ref p) (upd H p (.lst (List.replicate k.toNat xs).flatten))
theorem len_rep {α : Type} (xs : List α) (k : Nat) : (List.replicate k xs).flatten.length = k * xs.length := by
  induction k with
  | zero => simp
  | succ k ih => rw [List.replicate_succ, List.flatten_cons, List.length_append, ih, Nat.succ_mul, Nat.add_comm]
theorem op_rep : OpR X (binaryOp .Mult) rRep := by
  intro pins s σ H x y v u Q I rx ry h
  obtain ⟨l, k, xs, rfl, rfl, hH, h1, h2, hz, q⟩ := h
  cases rx
  obtain ⟨t, rfl⟩ := ry
  obtain ⟨z, its, n, r, hl, e⟩ := I.lstM hH
  have hlen : its.toArray.size * k.toNat ≤ sizeLine := by rw [List.size_toArray, ← hl]; exact hz
  have hcap : ¬ its.toArray.size * k.toNat > (2 ^ 63 - 1) / 8 := by
    have : (sizeLine : Nat) ≤ (2 ^ 63 - 1) / 8 := by decide
    (first | lia | omega)
  have hfit : ¬ (!Builtin.List.listFitsIndex k) = true := by
    rw [fitsIndex_both h1 h2]
    exact Bool.false_ne_true
  have hlong : ¬ Builtin.List.listTooLong (its.toArray.size * k.toNat) = true := by
    rw [notLongL hlen]
    exact Bool.false_ne_true
  have hnew : List.foldl (fun x1 x2 => x1 ++ x2) #[] (List.replicate (if its.toArray.isEmpty = true then 0 else k.toNat) its.toArray) = (List.replicate k.toNat its).flatten.toArray := by
    have f0 : ∀ m : Nat, List.foldl (fun x1 x2 => x1 ++ x2) #[] (List.replicate m its.toArray) = (List.replicate m its).flatten.toArray := fun m => by
      have := foldl_rep its m []
      rw [List.nil_append] at this
      exact this
    rw [f0]
    cases its with
    | nil => simp
    | cons a r' => rw [if_neg (by simp)]
  refine wpAny_binaryOp_repeat_ref (T := "list") (U := "int") (by decide) ⟨_, e, rfl⟩ (fun s' => typeIs_int s' k t) noFill_list_mul F.fills_int_mul F.slot_int_rmul repeat_list F.slot_int_index.lookup
    (call_meets F.slot_int_rmul (typeIs_int s k t) F.entry_int_rmul (F.args_int_rmul_2 _ _) (int___rmul___int_list k t l its.toArray n)
      ⟨e, rfl, ⟨_, e, rfl⟩, call_meets F.slot_list_mul ⟨_, e, rfl⟩ F.entry_list_mul (F.args_list_mul_2 _ _) (AutoListH.list___mul___list_int_3 l its.toArray n k t hfit hcap hlong) ⟨e, ?_⟩⟩)
  rw [hnew]
  exact ⟨.ref _, _, I.lnew (t' := s.toks) (r.rep k.toNat) (by rw [len_rep, Nat.mul_comm]; exact hz), rfl, q _ I.fresh⟩


end


section
variable {prog : Program} {w : World} {A : Around} {E : Value → Shared → Prop} {s : Shared}
end

section
variable {X : Cx}
end
end L2

namespace Att
open PySem PySem.W PySem.Calls PyProof.Rows


theorem ints_of_wellAll {P : Params} {h : Heap} : ∀ (ns : List Int) (vs : List Value), WellAll P h vs (ns.map WData.int) → IntsAre vs ns := by
  intro ns
  induction ns with
  | nil =>
    intro vs w
    rw [List.map_nil] at w
    cases w
    exact .nil
  | cons n ns ih =>
    intro vs w
    rw [List.map_cons] at w
    cases w with
    | cons a b =>
      cases a
      exact .cons _ _ (ih _ b)

theorem script_of {l : OpenLaw} {n : Nat} (hn : l.most = some n) {P : Params} {h : Heap} {args : List WData} {vals : List Value}
    (hpre : l.row.toRowW.claim.pre args = true) (hwl : WellAll P h vals args) :
    ∃ a vs ns, vals = [Value.ref a] ∧ args = [WData.list (ns.map WData.int)] ∧ h.get? a = some { cls := .type "list", data := .seq vs.toArray } ∧ IntsAre vs ns ∧ ns.length ≤ n := by
  have hsh : WShape.hasAll [] args [.list .int] = true := (pre_splitW hpre).1
  have hc : l.pre.holds [] { args := args } = true := (pre_splitW hpre).2
  obtain ⟨d, r, rfl, h1, h2⟩ := hasAllW_cons hsh
  obtain rfl := hasAllW_nil h2
  obtain ⟨xs, rfl, h3⟩ := hasW_list h1
  obtain ⟨ns, rfl⟩ := items_int h3
  have hlen : ns.length ≤ n := by
    unfold OpenLaw.pre at hc
    have h4 : (WTm.not (.lt (.lit (.int (n : Int))) (.len (.arg 0)))).holds [] { args := [.list (ns.map .int)] } = true := by
      have h4 := (holds_andW hc).1
      rw [hn] at h4
      exact h4
    have h5 := condW_of h4 (w_not (w_lt w_lit (w_len_list (w_arg rfl))))
    rw [List.length_map] at h5
    refine Nat.le_of_not_lt fun q => ?_
    have q' : (n : Int) < ((ns.length : Nat) : Int) := by (first | lia | omega)
    first
      | (rw [decide_eq_true q'] at h5; exact absurd h5 (by decide))
      | (simp at h5; (first | lia | omega))
  cases hwl with
  | cons w1 w2 =>
    cases w2
    cases w1 with
    | list ho hall => exact ⟨_, _, ns, rfl, rfl, ho, ints_of_wellAll ns _ hall, hlen⟩

theorem post_true (l : OpenLaw) (args : List WData) : l.row.toRowW.claim.post args (.bool true) args = true :=
  postW_of (r := l.row.toRowW) (X := (true == true))
    (show WShape.has [] (.bool true) .bool = true by first | rfl | decide | simp [WShape.has, WShape.arms, WShape.armsAll])
    (show (WTm.eq .res (.lit (.bool true))).value [] { args := args, res := some (.bool true), after := args } = some (.bool (true == true)) from w_eq_bool (w_res rfl) w_lit) rfl


section
variable {prog : Program} {w : World} {A : Around} {E : Value → Shared → Prop} {s : Shared} {K : Frag}

end
end Att

namespace L2
open PySem PySem.Spec PyProof.Rows

theorem vals_ints : ∀ {vs : List Value} {ns : List Int}, IntsAre vs ns → Vals (ns.map V.int) vs
  | _, _, .nil => .nil
  | _, _, .cons n t h => .cons ⟨t, rfl⟩ (vals_ints h)

end L2

namespace L2
open PySem PySem.Spec PyProof.Rows

end L2




namespace L2
open PySem PySem.Spec PyProof.Rows


noncomputable def defArgs (s : Stmt) : Arguments := match s with
  | .FunctionDef _ a _ _ _ _ _ _ _ _ => a
  | _ => { posonlyargs := [], args := [], vararg := none, kwonlyargs := [], kw_defaults := [], kwarg := none, defaults := [] }
noncomputable def defBody (s : Stmt) : List Stmt := match s with
  | .FunctionDef _ _ b _ _ _ _ _ _ _ => b
  | _ => []
noncomputable def defScope (s : Stmt) : Scope := match s with
  | .FunctionDef _ _ _ _ _ _ sc _ _ _ => sc
  | _ => { kind := .function, names := [], isGenerator := false, isCoroutine := false }


noncomputable abbrev CX0 : CXT := fun _ _ _ _ _ _ => False
noncomputable abbrev E0 : XK := fun _ _ _ => False
inductive FunEx (K : PySem.W.Frag) (x qual : Str) (st : Stmt) (f : Addr) (fd : FuncData) : Prop where
  | mk (oc : Value) (od : Option Addr) (kV doc pm : Value) (an : Option Addr) (cdv ct : Value) (osl : Array (Option Value)) (f1 : fd = PySem.W.fnOf x qual (defArgs st) (defBody st) (defScope st) .none kV doc pm an cdv ct) (f2 : K.lookup f = some ⟨oc, od, .func fd, osl⟩) (f3 : PySem.W.codeIn K cdv qual = true) : FunEx K x qual st f fd
structure Fun (K : PySem.W.Frag) (x qual : Str) (st : Stmt) (f : Addr) (fd : FuncData) : Prop where
  ex : FunEx K x qual st f fd
  kp : PySem.W.keepIn K (.ref f) = true
section
variable {P : Program} {w : World} {K : PySem.W.Frag} {mg : Str → Option Value} {base : Heap}
theorem Fun.binds {x qual : Str} {st : Stmt} {f : Addr} {fd : FuncData} {ps : List Str} (F : Fun K x qual st f fd)
    (h : ∀ (kV doc pm : Value) (an : Option Addr) (cdv ct : Value) (us : List Value), us.length = ps.length → bindArgs (PySem.W.fnOf x qual (defArgs st) (defBody st) (defScope st) .none kV doc pm an cdv ct) ⟨us, []⟩ = pure (ps.zip us)) : Binds K fd ps [] := by
  obtain ⟨oc, od, kV, doc, pm, an, cdv, ct, osl, rfl, lk, hcd⟩ := F.ex
  exact .all (h kV doc pm an cdv ct)
theorem fun_mk {x qual : Str} {st : Stmt} {f : Addr} {oc : Value} {od an : Option Addr} {osl : Array (Option Value)} {kV doc pm cdv ct : Value} (l : K.lookup f = some ⟨oc, od, .func (PySem.W.fnOf x qual (defArgs st) (defBody st) (defScope st) .none kV doc pm an cdv ct), osl⟩)
    (c : PySem.W.codeIn K cdv qual = true) (k : PySem.W.keepIn K (.ref f) = true) : Fun K x qual st f (PySem.W.fnOf x qual (defArgs st) (defBody st) (defScope st) .none kV doc pm an cdv ct) := ⟨⟨oc, od, kV, doc, pm, an, cdv, ct, osl, rfl, l, c⟩, k⟩
end
section
variable {X : Cx}
theorem pv (i : Nat) {x : Str} {pos : Pos} (hN : X.N[i]? = some x := by rfl) (hv : Vis X.env.scope x := by first | exact Or.inl rfl | exact Or.inr (Or.inl rfl) | exact Or.inr (Or.inr rfl)) (hd : (x == ("__debug__" : Str)) = false := by decide)
    (hcd : (x == ("__classdict__" : Str)) = false := by decide) : PE X (.Name x pos) (tVar i) := pe_var hN hv hd hcd
end


end L2


namespace LS
open PySem PySem.Spec PyProof.Rows L2

/-- data: immutable things by value, the others by their number among the cells -/
inductive D where
  | non | bl (b : Bool) | int (i : Int) | str (x : Str) | tup (ds : List D) | loc (l : Nat) | scr (ns : List Int) | adr (a : Addr) | ty (n : String) | exc (n : Str) (fs : List (Str × Int)) | edic | glo (n : Str) | clo (a : Addr) (vs : List V) (ds : List D)
inductive Cell where
  | lst (ds : List D) | tab
noncomputable abbrev HD := List Cell
noncomputable abbrev Rho := List (Option D)
inductive Out (α : Type) where
  | ok (a : α) (h : HD) | err (C : Value) (fs : List (Str × D)) (h : HD) | stuck
noncomputable def Out.bind {α β : Type} (o : Out α) (k : α → HD → Out β) : Out β := match o with
  | .ok a h => k a h
  | .err C fs h => .err C fs h
  | .stuck => .stuck
@[simp] theorem Out.bind_ok {α β : Type} (a : α) (h : HD) (k : α → HD → Out β) : (Out.ok a h).bind k = k a h := rfl
@[simp] theorem Out.bind_err {α β : Type} (C : Value) (fs : List (Str × D)) (h : HD) (k : α → HD → Out β) : (Out.err C fs h : Out α).bind k = .err C fs h := rfl
@[simp] theorem Out.bind_stuck {α β : Type} (k : α → HD → Out β) : (Out.stuck : Out α).bind k = .stuck := rfl

/-- what never changes -/
noncomputable def imm : HO → Bool
  | .tup _ => true
  | .frz _ _ => true
  | .ext _ => true
  | .xd _ => true
  | _ => false
noncomputable def Kp (H H' : Hp) : Prop := ∀ b o, H b = some o → imm o = true → H' b = some o
theorem Kp.refl (H : Hp) : Kp H H := fun _ _ e _ => e
theorem Kp.trans {H H1 H2 : Hp} (a : Kp H H1) (b : Kp H1 H2) : Kp H H2 := fun c o e i => b c o (a c o e i) i
theorem Kp.new {H : Hp} {p : Addr} {o : HO} (h : H p = none) : Kp H (upd H p o) := fun b u e _ => by rw [upd_ne (ne_of_none e h)]; exact e
theorem Kp.set {H : Hp} {p : Addr} {o u : HO} (h : H p = some o) (i : imm o = false) : Kp H (upd H p u) := fun b w e iw => by
  rw [upd_ne]
  · exact e
  · intro z
    rw [z, h] at e; cases e; rw [i] at iw; cases iw
/-- a list that nobody changes -/
noncomputable def FzL (K : PySem.W.Frag) (H : Hp) (a : Addr) (xs : List V) : Prop := (∃ o, H a = some (.frz o (.lst xs))) ∨ SqL K (fun _ => none) a xs
theorem Kp.fzL {K : PySem.W.Frag} {H H' : Hp} {a : Addr} {xs : List V} (k : Kp H H') (h : FzL K H a xs) : FzL K H' a xs := by
  rcases h with ⟨o, h⟩ | h
  · exact .inl ⟨o, k _ _ h rfl⟩
  · exact .inr h
theorem FzL.sq {K : PySem.W.Frag} {H : Hp} {a : Addr} {xs : List V} (h : FzL K H a xs) : SqL K H a xs := by
  rcases h with ⟨o, h⟩ | (h | ⟨o, h⟩) | h
  · exact .inl (.inr ⟨o, h⟩)
  · cases h
  · cases h
  · exact .inr h

/-- an exception's object -/
noncomputable def ExcIs (C : Addr) (da : Option Addr) (a : Addr) (h : Heap) : Prop := ∃ o vs, h.get? a = some o ∧ o.cls = .ref C ∧ (∀ d, da = some d → o.dict = some d) ∧ o.data = .fields vs
/-- a dict without anything -/
noncomputable def DicIs (a : Addr) (h : Heap) : Prop := a ≠ sysModules ∧ ∃ o ep, h.get? a = some o ∧ o.ExactDict ∧ o.data = .dict #[] ep
mutual
/-- a value stands for data -/
noncomputable def DV (K : PySem.W.Frag) (m : List Addr) (H : Hp) : D → V → Prop
  | .non, v => v = .non
  | .bl b, v => v = .bl b
  | .int i, v => v = .int i
  | .str x, v => v = .str x
  | .tup ds, v => ∃ a vs, v = .ref a ∧ H a = some (.tup vs) ∧ DVs K m H ds vs
  | .loc l, v => ∃ a, v = .ref a ∧ m[l]? = some a
  | .scr ns, v => ∃ a, v = .ref a ∧ FzL K H a (ns.map V.int)
  | .adr a, v => v = .ref a
  | .ty n, v => v = .ty n
  | .exc n fs, v => ∃ a C da, v = .ref a ∧ PySem.W.nsIn K mainGlobals n = some (some (.ref C)) ∧ H a = some (.ext (ExcIs C da a)) ∧ ∀ f i, fs.lookup f = some i → ∃ d fv, da = some d ∧ H d = some (.xd fv) ∧ fv.lookup f = some (.int i)
  | .edic, v => ∃ a, v = .ref a ∧ H a = some (.ext (DicIs a))
  | .glo n, v => ∃ a, v = .ref a ∧ PySem.W.nsIn K mainGlobals n = some (some (.ref a))
  | .clo a vs ds, v => v = .ref a ∧ DVs K m H ds vs
noncomputable def DVs (K : PySem.W.Frag) (m : List Addr) (H : Hp) : List D → List V → Prop
  | [], vs => vs = []
  | d :: ds, vs => ∃ v r, vs = v :: r ∧ DV K m H d v ∧ DVs K m H ds r
end

section
variable {K : PySem.W.Frag} {m m' : List Addr} {H H' : Hp}
theorem pre_get {l : Nat} {a : Addr} (p : m <+: m') (h : m[l]? = some a) : m'[l]? = some a := by
  obtain ⟨t, rfl⟩ := p
  have hl : l < m.length := (List.getElem?_eq_some_iff.mp h).1
  rw [List.getElem?_append_left hl]; exact h
mutual
theorem DV.keep (p : m <+: m') (k : Kp H H') : ∀ {d : D} {v : V}, DV K m H d v → DV K m' H' d v
  | .non, _, h => by simpa [DV] using h
  | .bl _, _, h => by simpa [DV] using h
  | .int _, _, h => by simpa [DV] using h
  | .str _, _, h => by simpa [DV] using h
  | .tup ds, _, h => by
    simp only [DV] at h ⊢
    obtain ⟨a, vs, e, q, r⟩ := h
    exact ⟨a, vs, e, k _ _ q rfl, DVs.keep p k r⟩
  | .loc l, _, h => by
    simp only [DV] at h ⊢
    obtain ⟨a, e, q⟩ := h
    exact ⟨a, e, pre_get p q⟩
  | .scr ns, _, h => by
    simp only [DV] at h ⊢
    obtain ⟨a, e, q⟩ := h
    exact ⟨a, e, k.fzL q⟩
  | .adr _, _, h => by simpa [DV] using h
  | .ty _, _, h => by simpa [DV] using h
  | .exc _ _, _, h => by
    simp only [DV] at h ⊢
    obtain ⟨a, C, da, e, q, r, t⟩ := h
    exact ⟨a, C, da, e, q, k _ _ r rfl, fun f i z => let ⟨d, fv, z1, z2, z3⟩ := t f i z; ⟨d, fv, z1, k _ _ z2 rfl, z3⟩⟩
  | .edic, _, h => by
    simp only [DV] at h ⊢
    obtain ⟨a, e, r⟩ := h
    exact ⟨a, e, k _ _ r rfl⟩
  | .glo _, _, h => by simpa [DV] using h
  | .clo _ _ ds, _, h => by
    simp only [DV] at h ⊢
    exact ⟨h.1, DVs.keep p k h.2⟩
theorem DVs.keep (p : m <+: m') (k : Kp H H') : ∀ {ds : List D} {vs : List V}, DVs K m H ds vs → DVs K m' H' ds vs
  | [], _, h => by simpa [DVs] using h
  | d :: ds, _, h => by
    simp only [DVs] at h ⊢
    obtain ⟨v, r, e, q, t⟩ := h
    exact ⟨v, r, e, DV.keep p k q, DVs.keep p k t⟩
end
theorem DVs.nil : DVs K m H [] [] := by simp [DVs]
theorem DVs.cons {d : D} {v : V} {ds : List D} {vs : List V} (h : DV K m H d v) (t : DVs K m H ds vs) : DVs K m H (d :: ds) (v :: vs) := by
  simp only [DVs]; exact ⟨v, vs, rfl, h, t⟩
theorem DVs.len : ∀ {ds : List D} {vs : List V}, DVs K m H ds vs → ds.length = vs.length
  | [], _, h => by simp only [DVs] at h; subst h; rfl
  | d :: ds, _, h => by
    simp only [DVs] at h
    obtain ⟨v, r, e, _, t⟩ := h
    subst e
    simp [DVs.len t]
theorem DVs.get : ∀ {ds : List D} {vs : List V} {i : Nat} {d : D}, DVs K m H ds vs → ds[i]? = some d → ∃ v, vs[i]? = some v ∧ DV K m H d v
  | [], _, _, _, _, e => by simp at e
  | d :: ds, _, i, x, h, e => by
    simp only [DVs] at h
    obtain ⟨v, r, rfl, q, t⟩ := h
    cases i with
    | zero => simp at e; subst e; exact ⟨v, rfl, q⟩
    | succ i =>
      obtain ⟨w, h1, h2⟩ := DVs.get (i := i) t (by simpa using e)
      exact ⟨w, by simpa using h1, h2⟩
theorem DVs.app : ∀ {ds es : List D} {vs ws : List V}, DVs K m H ds vs → DVs K m H es ws → DVs K m H (ds ++ es) (vs ++ ws)
  | [], _, _, _, h, t => by simp only [DVs] at h; subst h; exact t
  | d :: ds, _, _, _, h, t => by
    simp only [DVs] at h
    obtain ⟨v, r, rfl, q, u⟩ := h
    exact .cons q (DVs.app u t)
theorem DVs.set : ∀ {ds : List D} {vs : List V} {d : D} {v : V} (i : Nat), DVs K m H ds vs → DV K m H d v → DVs K m H (ds.set i d) (vs.set i v)
  | [], _, _, _, _, h, _ => by simp only [DVs] at h; subst h; exact .nil
  | d :: ds, _, _, _, i, h, q' => by
    simp only [DVs] at h
    obtain ⟨v, r, rfl, q, u⟩ := h
    cases i with
    | zero => exact .cons q' u
    | succ i => exact .cons q (DVs.set i u q')
theorem DVs.take : ∀ {ds : List D} {vs : List V} (n : Nat), DVs K m H ds vs → DVs K m H (ds.take n) (vs.take n)
  | _, _, 0, _ => by simpa using (DVs.nil : DVs K m H [] [])
  | [], _, n + 1, h => by simp only [DVs] at h; subst h; exact .nil
  | d :: ds, _, n + 1, h => by
    simp only [DVs] at h
    obtain ⟨v, r, rfl, q, u⟩ := h
    exact .cons q (DVs.take n u)
theorem DVs.drop : ∀ {ds : List D} {vs : List V} (n : Nat), DVs K m H ds vs → DVs K m H (ds.drop n) (vs.drop n)
  | _, _, 0, h => by simpa using h
  | [], _, n + 1, h => by simp only [DVs] at h; subst h; exact .nil
  | d :: ds, _, n + 1, h => by
    simp only [DVs] at h
    obtain ⟨v, r, rfl, q, u⟩ := h
    simpa using DVs.drop n u
theorem DVs.rep {ds : List D} {vs : List V} (h : DVs K m H ds vs) : ∀ n, DVs K m H (List.replicate n ds).flatten (List.replicate n vs).flatten
  | 0 => by simpa using (DVs.nil : DVs K m H [] [])
  | n + 1 => by
    rw [List.replicate_succ, List.flatten_cons, List.replicate_succ, List.flatten_cons]
    exact h.app (DVs.rep h n)

/-- a code object of this qualified name -/
noncomputable def CodeIs (q : Str) (c : Addr) (h : Heap) : Prop := h.CodeRec (.ref c) q
/-- where the table of the law's code object stands -/
noncomputable def tabP (K : PySem.W.Frag) : Option (Addr × Addr) := match PySem.W.nsIn K mainGlobals "law" with
  | some (some (.ref f)) => (match K.lookup f with
    | some ⟨_, _, .func fd, _⟩ => (match fd.code with
      | .ref c => (match K.lookup c with
        | some ⟨_, _, .fields vs, _⟩ => (match (vs[11]? : Option Value) with
          | some (.ref P) => some (c, P)
          | _ => none)
        | _ => none)
      | _ => none)
    | _ => none)
  | _ => none
/-- a code object's table: the codes in it are tracked -/
noncomputable def TabIs (K : PySem.W.Frag) (H : Hp) (a : Addr) : Prop := (∃ c, tabP K = some (c, a)) ∧ ∃ ps, H a = some (.tbl ps) ∧ TriplesOk ps.toList ∧ ∀ pos cv, codeAmong pos ps.toList = some cv → ∃ c, cv = .ref c ∧ H c = some (.ext (CodeIs "law.<locals>.<lambda>" c))
theorem TabIs.keep {K : PySem.W.Frag} {H H' : Hp} {a : Addr} (t : TabIs K H a) (k : Kp H H') (e : H' a = H a) : TabIs K H' a := by
  obtain ⟨z, ps, h1, h2, h3⟩ := t
  exact ⟨z, ps, e.trans h1, h2, fun pos cv q => let ⟨c, q1, q2⟩ := h3 pos cv q; ⟨c, q1, k _ _ q2 rfl⟩⟩
/-- what stands at a cell's address -/
noncomputable def CRel (K : PySem.W.Frag) (m : List Addr) (H : Hp) : Cell → Addr → Prop
  | .lst ds, a => ∃ vs, H a = some (.lst vs) ∧ DVs K m H ds vs
  | .tab, a => TabIs K H a
structure HR (K : PySem.W.Frag) (m : List Addr) (h : HD) (H : Hp) : Prop where
  len : m.length = h.length
  nd : m.Nodup
  cells : ∀ (l : Nat) (c : Cell) (a : Addr), h[l]? = some c → m[l]? = some a → CRel K m H c a
theorem HR.at {h : HD} {l : Nat} {c : Cell} (r : HR K m h H) (e : h[l]? = some c) : ∃ a, m[l]? = some a ∧ CRel K m H c a := by
  have hl : l < h.length := (List.getElem?_eq_some_iff.mp e).1
  have : l < m.length := by rw [r.len]; exact hl
  exact ⟨m[l], List.getElem?_eq_getElem this, r.cells l c _ e (List.getElem?_eq_getElem this)⟩
theorem HR.mem {h : HD} {a : Addr} (r : HR K m h H) (ha : a ∈ m) : H a ≠ none := by
  obtain ⟨l, hl, rfl⟩ := List.getElem_of_mem ha
  have hl' : l < h.length := by rw [← r.len]; exact hl
  have := r.cells l h[l] m[l] (List.getElem?_eq_getElem hl') (List.getElem?_eq_getElem hl)
  cases hc : h[l] with
  | lst ds =>
    rw [hc] at this
    obtain ⟨vs, e, _⟩ := this
    rw [e]; simp
  | tab =>
    rw [hc] at this
    obtain ⟨_, ps, e, _⟩ := this
    rw [e]; simp
/-- the tuples may grow, the cells stay -/
theorem HR.same {h : HD} (r : HR K m h H) (k : Kp H H') (s : ∀ a ∈ m, H' a = H a) : HR K m h H' := by
  refine ⟨r.len, r.nd, fun l c a e q => ?_⟩
  have hm : a ∈ m := List.mem_of_getElem? q
  have := r.cells l c a e q
  cases c with
  | lst ds =>
    obtain ⟨vs, e1, e2⟩ := this
    exact ⟨vs, by rw [s a hm]; exact e1, e2.keep (List.prefix_refl _) k⟩
  | tab => exact TabIs.keep this k (s a hm)
/-- something new that is no cell -/
theorem HR.new {h : HD} {p : Addr} {o : HO} (r : HR K m h H) (hp : H p = none) : HR K m h (upd H p o) :=
  r.same (.new hp) fun a ha => upd_ne fun z => r.mem ha (z ▸ hp)
/-- a new cell -/
theorem HR.newCell {h : HD} {p : Addr} {o : HO} {c : Cell} (r : HR K m h H) (hp : H p = none) (hc : CRel K (m ++ [p]) (upd H p o) c p) : HR K (m ++ [p]) (h ++ [c]) (upd H p o) := by
  have hpm : p ∉ m := fun z => r.mem z hp
  refine ⟨by simp [r.len], ?_, fun l c' a e q => ?_⟩
  · rw [List.nodup_append]
    refine ⟨r.nd, by simp, fun a ha b hb => ?_⟩
    rw [List.mem_singleton] at hb
    subst hb
    intro z; subst z; exact hpm ha
  · by_cases hl : l < m.length
    · rw [List.getElem?_append_left hl] at q
      rw [List.getElem?_append_left (by rw [← r.len]; exact hl)] at e
      have := r.cells l c' a e q
      have hne : a ≠ p := fun z => hpm (z ▸ List.mem_of_getElem? q)
      cases c' with
      | lst ds =>
        obtain ⟨vs, e1, e2⟩ := this
        exact ⟨vs, by rw [upd_ne hne]; exact e1, e2.keep (List.prefix_append _ _) (.new hp)⟩
      | tab => exact TabIs.keep this (.new hp) (upd_ne hne)
    · have h1 : m.length ≤ l := Nat.le_of_not_lt hl
      rw [List.getElem?_append_right h1] at q
      rw [List.getElem?_append_right (by rw [← r.len]; exact h1)] at e
      have e0 : l - m.length = 0 := by
        cases hz : l - m.length with
        | zero => rfl
        | succ n => rw [hz] at q; simp at q
      rw [← r.len] at e
      rw [e0] at q e
      simp at q e
      subst q e
      exact hc
/-- a cell is written -/
theorem HR.setCell {h : HD} {p : Addr} {l : Nat} {o u : HO} {c : Cell} (r : HR K m h H) (hl : m[l]? = some p) (ho : H p = some o) (i : imm o = false) (hc : CRel K m (upd H p u) c p) : HR K m (h.set l c) (upd H p u) := by
  refine ⟨by simp [r.len], r.nd, fun j c' a e q => ?_⟩
  by_cases hj : j = l
  · subst hj
    rw [hl] at q; cases q
    have hlt : j < h.length := by rw [← r.len]; exact (List.getElem?_eq_some_iff.mp hl).1
    rw [List.getElem?_set_self hlt] at e
    cases e
    exact hc
  · rw [List.getElem?_set_ne (Ne.symm hj)] at e
    have := r.cells j c' a e q
    have hne : a ≠ p := by
      intro z
      subst z
      obtain ⟨h1, e1⟩ := List.getElem?_eq_some_iff.mp q
      obtain ⟨h2, e2⟩ := List.getElem?_eq_some_iff.mp hl
      exact hj ((List.getElem_inj r.nd).mp (e1.trans e2.symm))
    cases c' with
    | lst ds =>
      obtain ⟨vs, e1, e2⟩ := this
      exact ⟨vs, by rw [upd_ne hne]; exact e1, e2.keep (List.prefix_refl _) (.set ho i)⟩
    | tab => exact TabIs.keep this (.set ho i) (upd_ne hne)

/-- the frame's slots -/
noncomputable def ER (K : PySem.W.Frag) (m : List Addr) (H : Hp) (ρ : Rho) (σ : L2.St) : Prop := ρ.length = σ.length ∧ ∀ (i : Nat) (d : D), ρ[i]? = some (some d) → ∃ v, σ[i]? = some (some v) ∧ DV K m H d v
theorem ER.keep {ρ : Rho} {σ : L2.St} (p : m <+: m') (k : Kp H H') (e : ER K m H ρ σ) : ER K m' H' ρ σ := ⟨e.1, fun i d h => let ⟨v, a, b⟩ := e.2 i d h; ⟨v, a, b.keep p k⟩⟩
theorem ER.set {ρ : Rho} {σ : L2.St} {i : Nat} {d : D} {v : V} (e : ER K m H ρ σ) (r : DV K m H d v) : ER K m H (ρ.set i (some d)) (σ.set i (some v)) := by
  refine ⟨by simp [e.1], fun j d' h => ?_⟩
  by_cases hj : i = j
  · subst hj
    by_cases hl : i < ρ.length
    · rw [List.getElem?_set_self hl] at h
      cases h
      exact ⟨v, by rw [List.getElem?_set_self (by rw [← e.1]; exact hl)], r⟩
    · rw [List.getElem?_eq_none (by simp; (first | lia | omega))] at h; cases h
  · rw [List.getElem?_set_ne hj] at h
    obtain ⟨w, a, b⟩ := e.2 j d' h
    exact ⟨w, by rw [List.getElem?_set_ne hj]; exact a, b⟩
/-- of the slots some are forgotten -/
theorem ER.start {N : List Str} {ds : List D} {vs : List V} (h : DVs K m H ds vs) : ER K m H (ds.map some ++ List.replicate (N.length - ds.length) none) (L2.start N vs) := by
  refine ⟨by simp [L2.start, h.len], fun i d e => ?_⟩
  by_cases hl : i < ds.length
  · rw [List.getElem?_append_left (by simpa using hl), List.getElem?_map] at e
    obtain ⟨d', e1⟩ : ∃ d', ds[i]? = some d' := ⟨ds[i], List.getElem?_eq_getElem hl⟩
    rw [e1] at e
    simp at e
    subst e
    obtain ⟨v, q, r⟩ := h.get e1
    refine ⟨v, ?_, r⟩
    unfold L2.start
    rw [List.getElem?_append_left (by simpa [← h.len] using hl), List.getElem?_map, q]
    rfl
  · rw [List.getElem?_append_right (by simpa using Nat.le_of_not_lt hl)] at e
    rw [List.getElem?_replicate] at e
    split at e <;> cases e

/-- an exception's own attributes -/
noncomputable def XD (K : PySem.W.Frag) (m : List Addr) (H : Hp) (fs : List (Str × D)) (da : Option Addr) : Prop :=
  ∀ f d, fs.lookup f = some d → ∃ a fv v, da = some a ∧ H a = some (.xd fv) ∧ fv.lookup f = some v ∧ DV K m H d v

/-- behind an outcome -/
noncomputable def Post {α β : Type} (K : PySem.W.Frag) (R : List Addr → Hp → α → β → Prop) (m : List Addr) (H : Hp) (E : XK) (Q : β → Hp → Prop) : Out α → Prop
  | .ok a h' => ∀ v m' H', m <+: m' → Kp H H' → HR K m' h' H' → R m' H' a v → Q v H'
  | .err C fs h' => ∀ da m' H', m <+: m' → Kp H H' → HR K m' h' H' → XD K m' H' fs da → E C da H'
  | .stuck => False
theorem Post.ahead {α β : Type} {R : List Addr → Hp → α → β → Prop} {E : XK} {Q : β → Hp → Prop} {o : Out α} (p : m <+: m') (k : Kp H H') (h : Post K R m H E Q o) : Post K R m' H' E Q o := by
  cases o with
  | ok a h' => exact fun v m2 H2 p2 k2 => h v m2 H2 (p.trans p2) (k.trans k2)
  | err C fs h' => exact fun da m2 H2 p2 k2 => h da m2 H2 (p.trans p2) (k.trans k2)
  | stuck => exact h
theorem Post.bind {α β γ δ : Type} {R : List Addr → Hp → α → β → Prop} {R' : List Addr → Hp → γ → δ → Prop} {E : XK} {Q : δ → Hp → Prop} {Q' : β → Hp → Prop} {o : Out α} {k : α → HD → Out γ}
    (h : Post K R' m H E Q (o.bind k)) (f : ∀ a h1 v m1 H1, o = .ok a h1 → m <+: m1 → Kp H H1 → HR K m1 h1 H1 → R m1 H1 a v → Post K R' m1 H1 E Q (k a h1) → Q' v H1) : Post K R m H E Q' o := by
  cases o with
  | ok a h1 => exact fun v m1 H1 p kk hr r => f a h1 v m1 H1 rfl p kk hr r (h.ahead p kk)
  | err C fs h1 => exact h
  | stuck => exact h
theorem Post.mono {α β : Type} {R : List Addr → Hp → α → β → Prop} {E : XK} {Q Q' : β → Hp → Prop} {o : Out α} (h : Post K R m H E Q o) (f : ∀ v H', Q v H' → Q' v H') : Post K R m H E Q' o := by
  cases o with
  | ok a h1 => exact fun v m1 H1 p k hr r => f _ _ (h v m1 H1 p k hr r)
  | err C fs h1 => exact h
  | stuck => exact h
end


noncomputable abbrev ME := Rho → HD → Out D
noncomputable abbrev MT := Rho → HD → Out Bool
noncomputable abbrev MA := Rho → HD → Out (List D)
inductive Fl where
  | nx | bk | ct | rt (d : D)
noncomputable abbrev MS := Rho → HD → Out (Fl × Rho)
noncomputable def rD (K : PySem.W.Frag) : List Addr → Hp → D → V → Prop := fun m H d v => DV K m H d v
noncomputable def rB : List Addr → Hp → Bool → Bool → Prop := fun _ _ a b => a = b
noncomputable def rDs (K : PySem.W.Frag) : List Addr → Hp → List D → List V → Prop := fun m H d v => DVs K m H d v
inductive tM {α β : Type} (K : PySem.W.Frag) (R : List Addr → Hp → α → β → Prop) (E : XK) (f : Rho → HD → Out α) (σ : L2.St) (H : Hp) (Q : β → Hp → Prop) : Prop where
  | mk (m : List Addr) (ρ : Rho) (h : HD) (hr : HR K m h H) (er : ER K m H ρ σ) (p : Post K R m H E Q (f ρ h)) : tM K R E f σ H Q
noncomputable abbrev tD (K : PySem.W.Frag) (E : XK) (f : ME) : TE := tM K (rD K) E f
noncomputable abbrev tBo (K : PySem.W.Frag) (E : XK) (f : MT) : TT := tM K rB E f
noncomputable abbrev tDs (K : PySem.W.Frag) (E : XK) (f : MA) : TA := tM K (rDs K) E f
/-- behind a statement's outcome -/
noncomputable def FlOk (K : PySem.W.Frag) (m : List Addr) (H : Hp) (D : Ends) : Fl × Rho → Prop
  | (.nx, ρ) => ∀ σ, ER K m H ρ σ → D.nx σ H
  | (.bk, ρ) => ∀ σ, ER K m H ρ σ → D.bk σ H
  | (.ct, ρ) => ∀ σ, ER K m H ρ σ → D.ct σ H
  | (.rt d, _) => ∀ v, DV K m H d v → D.rt v H
noncomputable def PostS (K : PySem.W.Frag) (m : List Addr) (H : Hp) (E : XK) (D : Ends) : Out (Fl × Rho) → Prop
  | .ok a h' => ∀ m' H', m <+: m' → Kp H H' → HR K m' h' H' → FlOk K m' H' D a
  | .err C fs h' => ∀ da m' H', m <+: m' → Kp H H' → HR K m' h' H' → XD K m' H' fs da → E C da H'
  | .stuck => False
inductive tSt (K : PySem.W.Frag) (E : XK) (g : MS) (D : Ends) (σ : L2.St) (H : Hp) : Prop where
  | mk (m : List Addr) (ρ : Rho) (h : HD) (hr : HR K m h H) (er : ER K m H ρ σ) (p : PostS K m H E D (g ρ h)) : tSt K E g D σ H
theorem PostS.ahead {K : PySem.W.Frag} {m m' : List Addr} {H H' : Hp} {E : XK} {D : Ends} {o : Out (Fl × Rho)} (p : m <+: m') (k : Kp H H') (h : PostS K m H E D o) : PostS K m' H' E D o := by
  cases o with
  | ok a h' => exact fun m2 H2 p2 k2 => h m2 H2 (p.trans p2) (k.trans k2)
  | err C fs h' => exact fun da m2 H2 p2 k2 => h da m2 H2 (p.trans p2) (k.trans k2)
  | stuck => exact h

noncomputable abbrev Ev (X : Cx) (E : XK) (e : Expr) (f : ME) : Prop := PE X e (tD X.K E f)
noncomputable abbrev EvT (X : Cx) (E : XK) (e : Expr) (f : MT) : Prop := PT X e (tBo X.K E f)
noncomputable abbrev EvA (X : Cx) (E : XK) (es : List Expr) (f : MA) : Prop := PA X es (tDs X.K E f)
noncomputable abbrev Ex (X : Cx) (E : XK) (st : Stmt) (g : MS) : Prop := PS X st (tSt X.K E g)
noncomputable abbrev Exs (X : Cx) (E : XK) (sts : List Stmt) (g : MS) : Prop := PSs X sts (tSt X.K E g)
section
variable {X : Cx}
theorem pe_imp {e : Expr} {t t' : TE} (h : PE X e t) (i : ∀ σ H Q, t' σ H Q → t σ H Q) : PE X e t' := fun pins s σ H Q I q => h pins s σ H Q I (i σ H Q q)
theorem pt_imp {e : Expr} {t t' : TT} (h : PT X e t) (i : ∀ σ H Q, t' σ H Q → t σ H Q) : PT X e t' := fun pins s σ H Q I q => h pins s σ H Q I (i σ H Q q)
theorem pa_imp {e : List Expr} {t t' : TA} (h : PA X e t) (i : ∀ σ H Q, t' σ H Q → t σ H Q) : PA X e t' := fun pos pins s σ H Q I q => h pos pins s σ H Q I (i σ H Q q)
theorem ps_imp {e : Stmt} {t t' : TS} (h : PS X e t) (i : ∀ D σ H, t' D σ H → t D σ H) : PS X e t' := fun pins s σ H D I q => h pins s σ H D I (i D σ H q)
theorem pss_imp {e : List Stmt} {t t' : TS} (h : PSs X e t) (i : ∀ D σ H, t' D σ H → t D σ H) : PSs X e t' := fun pins s σ H D I q => h pins s σ H D I (i D σ H q)
end
end LS


namespace LS
open PySem PySem.Spec PyProof.Rows L2

section
variable {X : Cx} {E : XK} {a b c : Expr} {pos : Pos} {f g k : ME}


noncomputable def mVar (i : Nat) : ME := fun ρ h => match ρ[i]? with
  | some (some d) => .ok d h
  | _ => .stuck
theorem ev_var {i : Nat} (h : PE X a (tVar i)) : Ev X E a (mVar i) := pe_imp h fun σ H Q z1_ => by
  obtain ⟨m, ρ, hd, hr, er, p⟩ := z1_
  unfold mVar at p
  split at p
  · rename_i d e
    obtain ⟨v, e1, r⟩ := er.2 i d e
    exact ⟨v, e1, p v m H (List.prefix_refl _) (.refl _) hr r⟩
  · exact p.elim
noncomputable def mC (d : D) : ME := fun _ h => .ok d h
theorem ev_c {d : D} {v : V} (h : PE X a (tC v)) (r : ∀ m H, DV X.K m H d v) : Ev X E a (mC d) := pe_imp h fun σ H Q z2_ => by obtain ⟨m, ρ, hd, hr, er, p⟩ := z2_; exact (p v m H (List.prefix_refl _) (.refl _) hr (r m H))
theorem ev_int {i : Int} {j : Nat} : Ev X E (.Constant (.int i) j pos) (mC (.int i)) := ev_c pe_int fun _ _ => by simp [DV]
theorem ev_bl {i : Bool} {j : Nat} : Ev X E (.Constant (.bool i) j pos) (mC (.bl i)) := ev_c pe_bl fun _ _ => by simp [DV]
theorem ev_non {j : Nat} : Ev X E (.Constant .none j pos) (mC .non) := ev_c pe_non fun _ _ => by simp [DV]
theorem ev_str {x : Str} {j : Nat} : Ev X E (.Constant (.str x) j pos) (mC (.str x)) := ev_c pe_str fun _ _ => by simp [DV]
theorem ev_globI {x : Str} {i : Int} {t : Tok} {pos : Pos} (hg : Gl X x) (hm : X.mg x = some (.int i t)) (hd : (x == ("__debug__" : Str)) = false := by decide) : Ev X E (.Name x pos) (mC (.int i)) :=
  ev_c (pe_glob (v := .int i) hg hm ⟨t, rfl⟩ hd) fun _ _ => by simp [DV]


noncomputable def mOp (op : D → D → HD → Out D) (f g : ME) : ME := fun ρ h => (f ρ h).bind fun x h1 => (g ρ h1).bind fun y h2 => op x y h2
theorem seq2 {op : D → D → HD → Out D} {Q : VK} {R : V → V → Hp → Prop} {σ : L2.St} {H : Hp} (h : tD X.K E (mOp op f g) σ H Q)
    (i : ∀ m H2 h2 x y v u, HR X.K m h2 H2 → DV X.K m H2 x v → DV X.K m H2 y u → Post X.K (rD X.K) m H2 E Q (op x y h2) → R v u H2) : tD X.K E f σ H fun v H1 => tD X.K E g σ H1 fun u H2 => R v u H2 := by
  obtain ⟨m, ρ, hd, hr, er, p⟩ := h
  refine ⟨m, ρ, hd, hr, er, Post.bind p fun x h1 v m1 H1 _ p1 k1 hr1 r1 q1 => ?_⟩
  refine ⟨m1, ρ, h1, hr1, er.keep p1 k1, Post.bind q1 fun y h2 u m2 H2 _ p2 k2 hr2 r2 q2 => ?_⟩
  exact i m2 H2 h2 x y v u hr2 (DV.keep p2 k2 r1) r2 q2
noncomputable def OpM (X : Cx) (f : Value → Value → Sem Value) (op : D → D → HD → Out D) : Prop :=
  ∃ r : R2, OpR X f r ∧ ∀ m H h E x y v u Q, HR X.K m h H → DV X.K m H x v → DV X.K m H y u → Post X.K (rD X.K) m H E Q (op x y h) → r v u H Q
theorem ev_op {o : Operator} {op : D → D → HD → Out D} (ho : OpM X (binaryOp o) op) (ha : Ev X E a f) (hb : Ev X E b g) : Ev X E (.BinOp a o b pos) (mOp op f g) := by
  obtain ⟨r, ho, i⟩ := ho
  exact pe_imp (pe_op ho ha hb) fun σ H Q h => seq2 h fun m H2 h2 x y v u hr rx ry q => i m H2 h2 E x y v u Q hr rx ry q
theorem ev_cmp {o : CmpOp} {op : D → D → HD → Out D} (ho : OpM X (compareOp o) op) (ha : Ev X E a f) (hb : Ev X E b g) (hm : behindInMarks o b = false) : Ev X E (.Compare a [o] [b] pos) (mOp op f g) := by
  obtain ⟨r, ho, i⟩ := ho
  exact pe_imp (pe_cmpR ho ha hb hm) fun σ H Q h => seq2 h fun m H2 h2 x y v u hr rx ry q => i m H2 h2 E x y v u Q hr rx ry q
/-- a bool as a test -/
noncomputable def asB : D → HD → Out Bool
  | .bl b, h => .ok b h
  | _, _ => .stuck
noncomputable def mTb (f : ME) : MT := fun ρ h => (f ρ h).bind asB
theorem post_asB {m : List Addr} {H : Hp} {x : D} {v : V} {h : HD} {Q : Bool → Hp → Prop} (hr : HR X.K m h H) (r : DV X.K m H x v) (q : Post X.K rB m H E Q (asB x h)) : ∃ k, v = .bl k ∧ Q k H := by
  cases x with
  | bl b =>
    simp only [DV] at r
    exact ⟨b, r, q b m H (List.prefix_refl _) (.refl _) hr rfl⟩
  | _ => exact q.elim
theorem evT_cmp {o : CmpOp} {op : D → D → HD → Out D} (ho : OpM X (compareOp o) op) (ha : Ev X E a f) (hb : Ev X E b g) (hm : behindInMarks o b = false) : EvT X E (.Compare a [o] [b] pos) (mTb (mOp op f g)) := by
  obtain ⟨r, ho, i⟩ := ho
  refine pt_imp (pt_cmpR ho ha hb hm) fun σ H Q h => ?_
  obtain ⟨m, ρ, hd, hr, er, p⟩ := h
  have h' : tD X.K E (mOp op f g) σ H fun x H' => ∃ k, x = .bl k ∧ Q k H' :=
    ⟨m, ρ, hd, hr, er, Post.bind p fun x h1 v m1 H1 _ p1 k1 hr1 r1 q1 => post_asB hr1 r1 q1⟩
  exact seq2 h' fun m H2 h2 x y v u hr rx ry q => i m H2 h2 E x y v u _ hr rx ry q
/-- a value's truth -/
noncomputable def truD : D → HD → Out Bool
  | .non, h => .ok false h
  | .bl b, h => .ok b h
  | .int i, h => .ok (i != 0) h
  | .tup ds, h => .ok (!ds.isEmpty) h
  | .loc l, h => match h[l]? with
    | some (.lst ds) => .ok (!ds.isEmpty) h
    | _ => .stuck
  | _, _ => .stuck
noncomputable def mTru (f : ME) : MT := fun ρ h => (f ρ h).bind truD
theorem isEmpty_len {α β : Type} {xs : List α} {ys : List β} (h : xs.length = ys.length) : xs.isEmpty = ys.isEmpty := by
  cases xs <;> cases ys <;> simp_all
theorem post_truD {m : List Addr} {H : Hp} {x : D} {v : V} {h : HD} {Q : Bool → Hp → Prop} (hr : HR X.K m h H) (r : DV X.K m H x v) (q : Post X.K rB m H E Q (truD x h)) : ∃ k, TruV X.K v H k ∧ Q k H := by
  have go : ∀ k, truD x h = .ok k h → Q k H := fun k e => by rw [e] at q; exact q k m H (List.prefix_refl _) (.refl _) hr rfl
  cases x with
  | non => simp only [DV] at r; subst r; exact ⟨false, rfl, go _ rfl⟩
  | bl b => simp only [DV] at r; subst r; exact ⟨b, rfl, go _ rfl⟩
  | int i => simp only [DV] at r; subst r; exact ⟨_, rfl, go _ rfl⟩
  | str x => exact q.elim
  | tup ds =>
    simp only [DV] at r
    obtain ⟨p, vs, rfl, hp, dv⟩ := r
    exact ⟨_, .inr ⟨vs, SqT.of hp, rfl⟩, by rw [← isEmpty_len dv.len]; exact go _ rfl⟩
  | loc l =>
    simp only [DV] at r
    obtain ⟨p, rfl, hp⟩ := r
    simp only [truD] at q
    split at q
    · rename_i ds e
      obtain ⟨vs, e1, dv⟩ := hr.cells l _ p e hp
      exact ⟨_, .inl ⟨vs, SqL.of e1, rfl⟩, by rw [← isEmpty_len dv.len]; exact q _ m H (List.prefix_refl _) (.refl _) hr rfl⟩
    · exact q.elim
  | scr ns => exact q.elim
  | adr a => exact q.elim
  | ty a => exact q.elim
  | exc n fs => exact q.elim
  | edic => exact q.elim
  | glo n => exact q.elim
  | clo a vs ds => exact q.elim
theorem evT_val (ha : Ev X E a f) (he : ∀ whole, isTrue a X.env whole = (do let v ← whole; standAt a.pos; holding [v] (truthy v)) := by intro _; rfl) : EvT X E a (mTru f) :=
  pt_imp (pt_truth ha he) fun σ H Q z3_ => by obtain ⟨m, ρ, hd, hr, er, p⟩ := z3_; exact (⟨m, ρ, hd, hr, er, Post.bind p fun x h1 v m1 H1 _ p1 k1 hr1 r1 q1 => post_truD hr1 r1 q1⟩)


variable {tf tg : MT} {rest : List Expr}
noncomputable def mAnd (f g : MT) : MT := fun ρ h => (f ρ h).bind fun b h1 => if b = true then g ρ h1 else .ok false h1
noncomputable def mOr (f g : MT) : MT := fun ρ h => (f ρ h).bind fun b h1 => if b = true then .ok true h1 else g ρ h1
noncomputable def mNot (f : MT) : MT := fun ρ h => (f ρ h).bind fun b h1 => .ok (!b) h1
noncomputable abbrev EvW (X : Cx) (E : XK) (e : Expr) (f : MT) : Prop := PW X e (tBo X.K E f)
theorem pw_imp {e : Expr} {t t' : TT} (h : PW X e t) (i : ∀ σ H Q, t' σ H Q → t σ H Q) : PW X e t' := fun wh pins s σ H Q I q => h wh pins s σ H Q I (i σ H Q q)
theorem evW_and1 (ha : EvT X E a tf) : EvW X E (.BoolOp .And [a] pos) tf := pw_and1 ha
theorem evW_or1 (ha : EvT X E a tf) : EvW X E (.BoolOp .Or [a] pos) tf := pw_or1 ha
theorem evW_and (ha : EvT X E a tf) (hb : EvW X E (.BoolOp .And (b :: rest) pos) tg) : EvW X E (.BoolOp .And (a :: b :: rest) pos) (mAnd tf tg) :=
  pw_imp (pw_and ha hb) fun σ H Q z4_ => by obtain ⟨m, ρ, hd, hr, er, p⟩ := z4_; exact (⟨m, ρ, hd, hr, er, Post.bind p fun x h1 v m1 H1 _ p1 k1 hr1 r1 q1 => by
    cases r1
    cases x with
    | true => exact ⟨m1, ρ, h1, hr1, er.keep p1 k1, q1⟩
    | false => exact q1 false m1 H1 (List.prefix_refl _) (.refl _) hr1 rfl⟩)
theorem evW_or (ha : EvT X E a tf) (hb : EvW X E (.BoolOp .Or (b :: rest) pos) tg) : EvW X E (.BoolOp .Or (a :: b :: rest) pos) (mOr tf tg) :=
  pw_imp (pw_or ha hb) fun σ H Q z5_ => by obtain ⟨m, ρ, hd, hr, er, p⟩ := z5_; exact (⟨m, ρ, hd, hr, er, Post.bind p fun x h1 v m1 H1 _ p1 k1 hr1 r1 q1 => by
    cases r1
    cases x with
    | false => exact ⟨m1, ρ, h1, hr1, er.keep p1 k1, q1⟩
    | true => exact q1 true m1 H1 (List.prefix_refl _) (.refl _) hr1 rfl⟩)
theorem evT_w (h : EvW X E a tf) : EvT X E a tf := PW.pt h
theorem evT_not (ha : EvT X E a tf) : EvT X E (.UnaryOp .Not a pos) (mNot tf) :=
  pt_imp (pt_not ha) fun σ H Q z6_ => by obtain ⟨m, ρ, hd, hr, er, p⟩ := z6_; exact (⟨m, ρ, hd, hr, er, Post.bind p fun x h1 v m1 H1 _ p1 k1 hr1 r1 q1 => by
    cases r1
    exact q1 _ m1 H1 (List.prefix_refl _) (.refl _) hr1 rfl⟩)
noncomputable def mAndV (f g : ME) : ME := fun ρ h => (f ρ h).bind fun x h1 => match x with
  | .bl true => g ρ h1
  | .bl false => .ok (.bl false) h1
  | _ => .stuck
noncomputable def mOrV (f g : ME) : ME := fun ρ h => (f ρ h).bind fun x h1 => match x with
  | .bl true => .ok (.bl true) h1
  | .bl false => g ρ h1
  | _ => .stuck
noncomputable def mNotV (f : ME) : ME := fun ρ h => (f ρ h).bind fun x h1 => match x with
  | .bl b => .ok (.bl (!b)) h1
  | _ => .stuck
theorem ev_one {o : BoolOp} (h : Ev X E a f) : Ev X E (.BoolOp o [a] pos) f := pe_one h
theorem ev_and (ha : Ev X E a f) (hb : Ev X E (.BoolOp .And (b :: rest) pos) g) : Ev X E (.BoolOp .And (a :: b :: rest) pos) (mAndV f g) :=
  pe_imp (pe_and ha hb) fun σ H Q ⟨m, ρ, hd, hr, er, p⟩ => ⟨m, ρ, hd, hr, er, Post.bind p fun x h1 v m1 H1 _ p1 k1 hr1 r1 q1 => by
    cases x with
    | bl b =>
      refine ⟨b, by simpa [rD, DV] using r1, ?_⟩
      cases b with
      | true => exact ⟨m1, ρ, h1, hr1, er.keep p1 k1, q1⟩
      | false => exact q1 _ m1 H1 (List.prefix_refl _) (.refl _) hr1 (by simp [rD, DV])
    | _ => exact q1.elim⟩
theorem ev_not (ha : Ev X E a f) : Ev X E (.UnaryOp .Not a pos) (mNotV f) :=
  pe_imp (pe_not ha) fun σ H Q z9_ => by obtain ⟨m, ρ, hd, hr, er, p⟩ := z9_; exact (⟨m, ρ, hd, hr, er, Post.bind p fun x h1 v m1 H1 _ p1 k1 hr1 r1 q1 => by
    cases x with
    | bl b => exact ⟨b, by simpa [rD, DV] using r1, q1 _ m1 H1 (List.prefix_refl _) (.refl _) hr1 (by simp [rD, DV])⟩
    | _ => exact q1.elim⟩)
noncomputable def mIf (t : MT) (f g : ME) : ME := fun ρ h => (t ρ h).bind fun b h1 => if b = true then f ρ h1 else g ρ h1
theorem ev_ifExp (hc : EvT X E c tf) (ha : Ev X E a f) (hb : Ev X E b g) : Ev X E (.IfExp c a b pos) (mIf tf f g) :=
  pe_imp (pe_ifExp hc ha hb) fun σ H Q z10_ => by obtain ⟨m, ρ, hd, hr, er, p⟩ := z10_; exact (⟨m, ρ, hd, hr, er, Post.bind p fun x h1 v m1 H1 _ p1 k1 hr1 r1 q1 => by
    cases r1
    cases x with
    | true => exact ⟨m1, ρ, h1, hr1, er.keep p1 k1, q1⟩
    | false => exact ⟨m1, ρ, h1, hr1, er.keep p1 k1, q1⟩⟩)
/-- a op b op' c -/
noncomputable def mChain (op op' : D → D → HD → Out D) (f g k : ME) : ME := fun ρ h => (f ρ h).bind fun x h1 => (g ρ h1).bind fun y h2 => (op x y h2).bind fun z h3 => match z with
  | .bl true => (k ρ h3).bind fun w h4 => op' y w h4
  | .bl false => .ok (.bl false) h3
  | _ => .stuck
theorem chain_rd {r r' : R2} {op op' : D → D → HD → Out D} {o o' : Value → Value → Sem Value} (i : ∀ m H h E x y v u Q, HR X.K m h H → DV X.K m H x v → DV X.K m H y u → Post X.K (rD X.K) m H E Q (op x y h) → r v u H Q)
    (i' : ∀ m H h E x y v u Q, HR X.K m h H → DV X.K m H x v → DV X.K m H y u → Post X.K (rD X.K) m H E Q (op' x y h) → r' v u H Q) {σ : L2.St} {H : Hp} {Q : VK} (h : tD X.K E (mChain op op' f g k) σ H Q) :
    tChain r r' (tD X.K E f) (tD X.K E g) (tD X.K E k) σ H Q := by
  obtain ⟨m, ρ, hd, hr, er, p⟩ := h
  refine ⟨m, ρ, hd, hr, er, Post.bind p fun x h1 v m1 H1 _ p1 k1 hr1 r1 q1 => ?_⟩
  refine ⟨m1, ρ, h1, hr1, er.keep p1 k1, Post.bind q1 fun y h2 u m2 H2 _ p2 k2 hr2 r2 q2 => ?_⟩
  refine i m2 H2 h2 E x y v u _ hr2 (DV.keep p2 k2 r1) r2 (Post.bind q2 fun z h3 w m3 H3 _ p3 k3 hr3 r3 q3 => ?_)
  cases z with
  | bl b =>
    refine ⟨b, by simpa [rD, DV] using r3, ?_⟩
    cases b with
    | false => exact q3 _ m3 H3 (List.prefix_refl _) (.refl _) hr3 (by simp [rD, DV])
    | true =>
      refine ⟨m3, ρ, h3, hr3, ((er.keep p1 k1).keep p2 k2).keep p3 k3, Post.bind q3 fun z h4 w' m4 H4 _ p4 k4 hr4 r4 q4 => ?_⟩
      exact i' m4 H4 h4 E y z u w' Q hr4 (DV.keep p4 k4 (DV.keep p3 k3 r2)) r4 q4
  | _ => exact q3.elim
theorem ev_chain {o o' : CmpOp} {op op' : D → D → HD → Out D} (ho : OpM X (compareOp o) op) (ho' : OpM X (compareOp o') op') (ha : Ev X E a f) (hb : Ev X E b g) (hc : Ev X E c k)
    (hm : lastMarks [o, o'] [b, c] = false := by with_unfolding_all rfl) : Ev X E (.Compare a [o, o'] [b, c] pos) (mChain op op' f g k) := by
  obtain ⟨r, ho, i⟩ := ho
  obtain ⟨r', ho', i'⟩ := ho'
  exact pe_imp (pe_chain ho ho' ha hb hc hm) fun σ H Q h => chain_rd (o := compareOp o) (o' := compareOp o') i i' h
theorem evT_chain {o o' : CmpOp} {op op' : D → D → HD → Out D} (ho : OpM X (compareOp o) op) (ho' : OpM X (compareOp o') op') (ha : Ev X E a f) (hb : Ev X E b g) (hc : Ev X E c k)
    (hm : lastMarks [o, o'] [b, c] = false := by with_unfolding_all rfl) : EvT X E (.Compare a [o, o'] [b, c] pos) (mTb (mChain op op' f g k)) := by
  obtain ⟨r, ho, i⟩ := ho
  obtain ⟨r', ho', i'⟩ := ho'
  refine pt_imp (pt_chain ho ho' ha hb hc hm) fun σ H Q h => ?_
  obtain ⟨m, ρ, hd, hr, er, p⟩ := h
  exact chain_rd (o := compareOp o) (o' := compareOp o') i i' ⟨m, ρ, hd, hr, er, Post.bind p fun x h1 v m1 H1 _ p1 k1 hr1 r1 q1 => post_asB hr1 r1 q1⟩


variable {es : List Expr} {fa : MA}
noncomputable def mNil : MA := fun _ h => .ok [] h
noncomputable def mCons (f : ME) (r : MA) : MA := fun ρ h => (f ρ h).bind fun x h1 => (r ρ h1).bind fun xs h2 => .ok (x :: xs) h2
theorem evA_nil : EvA X E [] mNil := pa_imp pa_nil fun σ H Q z11_ => by obtain ⟨m, ρ, hd, hr, er, p⟩ := z11_; exact (p [] m H (List.prefix_refl _) (.refl _) hr .nil)
theorem evA_cons (ha : Ev X E a f) (hr : EvA X E es fa) (hs : starEach (a :: es) X.env = (false, eval a X.env) :: starEach es X.env := by rfl) : EvA X E (a :: es) (mCons f fa) :=
  pa_imp (pa_cons ha hr hs) fun σ H Q z12_ => by obtain ⟨m, ρ, hd, hr, er, p⟩ := z12_; exact (⟨m, ρ, hd, hr, er, Post.bind p fun x h1 v m1 H1 _ p1 k1 hr1 r1 q1 =>
    ⟨m1, ρ, h1, hr1, er.keep p1 k1, Post.bind q1 fun xs h2 vs m2 H2 _ p2 k2 hr2 r2 q2 => q2 _ m2 H2 (List.prefix_refl _) (.refl _) hr2 (DVs.cons (DV.keep p2 k2 r1) r2)⟩⟩)
noncomputable def mTup (fa : MA) : ME := fun ρ h => (fa ρ h).bind fun xs h1 => if xs.length ≤ sizeLine then .ok (.tup xs) h1 else .stuck
noncomputable def newL (xs : List D) (h : HD) : Out D := if xs.length ≤ sizeLine then .ok (.loc h.length) (h ++ [.lst xs]) else .stuck
noncomputable def mLst (fa : MA) : ME := fun ρ h => (fa ρ h).bind newL
theorem post_newT {m : List Addr} {H : Hp} {h : HD} {xs : List D} {vs : List V} {Q : VK} (hr : HR X.K m h H) (r : DVs X.K m H xs vs) (q : Post X.K (rD X.K) m H E Q (.ok (.tup xs) h)) : ∀ p, H p = none → Q (.ref p) (upd H p (.tup vs)) := fun p hp =>
  q (.ref p) m _ (List.prefix_refl _) (.new hp) (hr.new hp) (by simp only [rD, DV]; exact ⟨p, vs, rfl, upd_same, r.keep (List.prefix_refl _) (.new hp)⟩)
theorem post_newL {m : List Addr} {H : Hp} {h : HD} {xs : List D} {vs : List V} {Q : VK} (hr : HR X.K m h H) (r : DVs X.K m H xs vs) (q : Post X.K (rD X.K) m H E Q (newL xs h)) : vs.length ≤ sizeLine ∧ ∀ p, H p = none → Q (.ref p) (upd H p (.lst vs)) := by
  unfold newL at q
  by_cases hz : xs.length ≤ sizeLine
  · rw [if_pos hz] at q
    refine ⟨by rw [← r.len]; exact hz, fun p hp => ?_⟩
    refine q (.ref p) (m ++ [p]) _ (List.prefix_append _ _) (.new hp) (hr.newCell hp ⟨vs, upd_same, r.keep (List.prefix_append _ _) (.new hp)⟩) ?_
    simp only [rD, DV]
    exact ⟨p, rfl, by rw [← hr.len]; simp⟩
  · rw [if_neg hz] at q; exact q.elim
theorem ev_tup {x1 : Nat} (h : EvA X E es fa) : Ev X E (.Tuple es x1 pos) (mTup fa) :=
  pe_imp (pe_tup h) fun σ H Q z13_ => by obtain ⟨m, ρ, hd, hr, er, p⟩ := z13_; exact (⟨m, ρ, hd, hr, er, Post.bind p fun xs h1 vs m1 H1 _ p1 k1 hr1 r1 q1 => by
    by_cases hz : xs.length ≤ sizeLine
    · rw [if_pos hz] at q1
      exact ⟨by rw [← DVs.len r1]; exact hz, post_newT hr1 r1 q1⟩
    · rw [if_neg hz] at q1; exact q1.elim⟩)
theorem ev_lst (h : EvA X E es fa) : Ev X E (.List es pos) (mLst fa) :=
  pe_imp (pe_lst h) fun σ H Q z14_ => by obtain ⟨m, ρ, hd, hr, er, p⟩ := z14_; exact (⟨m, ρ, hd, hr, er, Post.bind p fun xs h1 vs m1 H1 _ p1 k1 hr1 r1 q1 => post_newL hr1 r1 q1⟩)


/-- a def's promise by its mirror; no exception -/
inductive spM (K : PySem.W.Frag) (F : List D → HD → Out D) (vs : List V) (H : Hp) (Q : VK) (E : XK) : Prop where
  | mk (m : List Addr) (ds : List D) (h : HD) (hr : HR K m h H) (r : DVs K m H ds vs) (p : Post K (rD K) m H E0 Q (F ds h)) : spM K F vs H Q E
noncomputable def Ar (n : Nat) (F : List D → HD → Out D) : Prop := ∀ ds h, ds.length ≠ n → F ds h = .stuck
theorem Ar.len {K : PySem.W.Frag} {n : Nat} {F : List D → HD → Out D} (ar : Ar n F) {vs : List V} {H : Hp} {Q : VK} {E' : XK} (h : spM K F vs H Q E') : vs.length = n := by
  obtain ⟨m, ds, hd, hr, r, p⟩ := h
  rw [← r.len]
  by_cases e : ds.length = n
  · exact e
  · rw [ar ds hd e] at p; exact p.elim
noncomputable def ar0 (F : HD → Out D) : List D → HD → Out D := fun ds h => match ds with
  | [] => F h
  | _ => .stuck
noncomputable def ar1 (F : D → HD → Out D) : List D → HD → Out D := fun ds h => match ds with
  | [a] => F a h
  | _ => .stuck
noncomputable def ar2 (F : D → D → HD → Out D) : List D → HD → Out D := fun ds h => match ds with
  | [a, b] => F a b h
  | _ => .stuck
noncomputable def ar3 (F : D → D → D → HD → Out D) : List D → HD → Out D := fun ds h => match ds with
  | [a, b, c] => F a b c h
  | _ => .stuck
noncomputable def mCall (F : List D → HD → Out D) (fa : MA) : ME := fun ρ h => (fa ρ h).bind F
/-- a built-in function or type, by values -/
noncomputable def CallM (X : Cx) (f : Value) (F : List D → HD → Out D) : Prop :=
  ∃ r : List V → Hp → VK → Prop, CallR X f r ∧ ∀ m H h E ds vs Q, HR X.K m h H → DVs X.K m H ds vs → Post X.K (rD X.K) m H E Q (F ds h) → r vs H Q
theorem ev_callB {id : String} {F : List D → HD → Out D} {x : Str} {p pos : Pos} {e : Expr} (hc : CallM X (.builtin id) F) (hg : Gl X x) (hm : X.mg x = none) (hv : bootBuiltins x = some (.builtin id)) (ha : EvA X E (e :: es) fa) (hn : x ≠ "__name__" := by decide) (hdb : (x == ("__debug__" : Str)) = false := by decide)
    (hs : starEach (e :: es) X.env = (false, eval e X.env) :: starEach es X.env := by rfl) (hpl : (backTo pos (starEach es X.env)).any (·.1) = false := by rfl) : Ev X E (.Call (.Name x p) (e :: es) [] pos) (mCall F fa) := by
  obtain ⟨r, hc, i⟩ := hc
  exact pe_imp (pe_callB hc hg hm hv ha hn hdb hs hpl) fun σ H Q z17_ => by obtain ⟨m, ρ, hd, hr, er, p⟩ := z17_; exact (⟨m, ρ, hd, hr, er, Post.bind p fun xs h1 vs m1 H1 e1 p1 k1 hr1 r1 q1 => i m1 H1 h1 E xs vs Q hr1 r1 q1⟩)
theorem ev_callT {id : String} {F : List D → HD → Out D} {x : Str} {p pos : Pos} {e : Expr} (hc : CallM X (.type id) F) (hg : Gl X x) (hm : X.mg x = none) (hv : bootBuiltins x = some (.type id)) (ha : EvA X E (e :: es) fa) (hn : x ≠ "__name__" := by decide) (hdb : (x == ("__debug__" : Str)) = false := by decide)
    (hs : starEach (e :: es) X.env = (false, eval e X.env) :: starEach es X.env := by rfl) (hpl : (backTo pos (starEach es X.env)).any (·.1) = false := by rfl) : Ev X E (.Call (.Name x p) (e :: es) [] pos) (mCall F fa) := by
  obtain ⟨r, hc, i⟩ := hc
  exact pe_imp (pe_callTy hc hg hm hv ha hn hdb hs hpl) fun σ H Q z18_ => by obtain ⟨m, ρ, hd, hr, er, p⟩ := z18_; exact (⟨m, ρ, hd, hr, er, Post.bind p fun xs h1 vs m1 H1 e1 p1 k1 hr1 r1 q1 => i m1 H1 h1 E xs vs Q hr1 r1 q1⟩)
end
end LS


namespace LS
open PySem PySem.Spec PyProof.Rows L2

section
variable {X : Cx} {E : XK}
theorem okq {K : PySem.W.Frag} {m : List Addr} {H : Hp} {h : HD} {d : D} {v : V} {Q : VK} (hr : HR K m h H) (q : Post K (rD K) m H E Q (.ok d h)) (r : DV K m H d v) : Q v H := q v m H (List.prefix_refl _) (.refl _) hr r


theorem op_catT0 : OpR X (binaryOp .Add) (fun x y H Q => ∃ a b ys, x = .ref a ∧ y = .ref b ∧ SqT X.K H a [] ∧ SqT X.K H b ys ∧ Q (.ref b) H) := by
  intro pins s σ H x y v u Q I rx ry h
  obtain ⟨a, b, ys, rfl, rfl, ha, hb, q⟩ := h
  cases rx
  cases ry
  obtain ⟨its, r1, p1, _⟩ := I.tuple ha
  obtain ⟨its2, r2, p2, _⟩ := I.tuple hb
  cases r1
  obtain ⟨⟨cls, dd, data, sl⟩, ho, hc, n, hd⟩ := id p1
  obtain ⟨⟨cls2, dd2, data2, sl2⟩, ho2, hc2, n2, hd2⟩ := id p2
  simp only at hc hd hc2 hd2
  subst hc hd hc2 hd2
  exact concat_meets ⟨_, ho, rfl⟩ ⟨_, ho2, rfl⟩ noFill_tuple_add seq_tuple_add PySem.F.slot_tuple_add PySem.F.entry_tuple_add (PySem.F.args_tuple_add_2 _ _)
      (tuple_addW0 a b _ its2.toArray n n2 dd dd2 sl sl2 (by simp)) ⟨ho, ho2, ⟨.ref b, H, I, rfl, q⟩⟩
noncomputable def addD : D → D → HD → Out D
  | .int i, .int j, h => .ok (.int (i + j)) h
  | .str x, .str y, h => if x.length + y.length ≤ sizeLine then .ok (.str (x ++ y)) h else .stuck
  | .tup xs, .tup ys, h => if xs.length + ys.length ≤ sizeLine then .ok (.tup (xs ++ ys)) h else .stuck
  | .loc l, .loc k, h => match h[l]?, h[k]? with
    | some (.lst xs), some (.lst ys) => newL (xs ++ ys) h
    | _, _ => .stuck
  | _, _, _ => .stuck
theorem addM : OpM X (binaryOp .Add) addD := by
  refine ⟨_, op_add.or (op_catT0.or (op_catT.or (op_cat.or op_add_str))), fun m H h E x y v u Q hr rx ry q => ?_⟩
  unfold addD at q
  split at q
  · simp only [DV] at rx ry
    subst rx ry
    exact .inl ⟨_, _, rfl, rfl, okq hr q (by simp [DV])⟩
  · simp only [DV] at rx ry
    subst rx ry
    split at q
    · rename_i hz
      exact .inr (.inr (.inr (.inr ⟨_, _, rfl, rfl, hz, okq hr q (by simp [DV])⟩)))
    · exact q.elim
  · rename_i xs ys
    simp only [DV] at rx ry
    obtain ⟨a, vs, rfl, ha, dx⟩ := rx
    obtain ⟨b, ws, rfl, hb, dy⟩ := ry
    split at q
    · rename_i hz
      cases xs with
      | nil =>
        simp only [DVs] at dx
        subst dx
        exact .inr (.inl ⟨a, b, ws, rfl, rfl, SqT.of ha, SqT.of hb, okq hr q (by simp only [DV]; exact ⟨b, ws, rfl, hb, dy⟩)⟩)
      | cons x xs =>
        refine .inr (.inr (.inl ⟨a, b, vs, ws, rfl, rfl, SqT.of ha, SqT.of hb, ?_, by rw [← dx.len, ← dy.len]; exact hz, fun e => ?_, fun e => ?_⟩))
        · intro e; have := dx.len; rw [e] at this; simp at this
        · subst e
          have : ys = [] := by have := dy.len; simpa using this
          subst this
          exact okq hr q (by simp only [DV]; exact ⟨a, vs, rfl, ha, by simpa using dx⟩)
        · exact post_newT hr (dx.app dy) q
    · exact q.elim
  · simp only [DV] at rx ry
    obtain ⟨a, rfl, ha⟩ := rx
    obtain ⟨b, rfl, hb⟩ := ry
    split at q
    · rename_i xs ys e1 e2
      obtain ⟨vs, h1, d1⟩ := hr.cells _ _ a e1 ha
      obtain ⟨ws, h2, d2⟩ := hr.cells _ _ b e2 hb
      obtain ⟨z, q'⟩ := post_newL hr (d1.app d2) q
      exact .inr (.inr (.inr (.inl ⟨a, b, vs, ws, rfl, rfl, h1, h2, by simpa using z, q'⟩)))
    · exact q.elim
  · exact q.elim

noncomputable def intD (f : Int → Int → D) (c : Int → Int → Prop) [∀ i j, Decidable (c i j)] : D → D → HD → Out D
  | .int i, .int j, h => if c i j then .ok (f i j) h else .stuck
  | _, _, _ => .stuck
theorem intM {o : Value → Value → Sem Value} {f : Int → Int → V} {g : Int → Int → D} {c c' : Int → Int → Prop} [∀ i j, Decidable (c' i j)] (h : OpR X o (rI c f)) (hc : ∀ i j, c' i j → c i j) (hg : ∀ m H i j, DV X.K m H (g i j) (f i j)) : OpM X o (intD g c') := by
  refine ⟨_, h, fun m H h E x y v u Q hr rx ry q => ?_⟩
  unfold intD at q
  split at q
  · simp only [DV] at rx ry
    subst rx ry
    split at q
    · rename_i hc'
      exact ⟨_, _, rfl, rfl, hc _ _ hc', okq hr q (hg _ _ _ _)⟩
    · exact q.elim
  · exact q.elim
noncomputable def int0D (f : Int → Int → D) : D → D → HD → Out D
  | .int i, .int j, h => .ok (f i j) h
  | _, _, _ => .stuck
theorem int0M {o : Value → Value → Sem Value} {f : Int → Int → V} {g : Int → Int → D} (h : OpR X o (rI0 f)) (hg : ∀ m H i j, DV X.K m H (g i j) (f i j)) : OpM X o (int0D g) := by
  refine ⟨_, h, fun m H h E x y v u Q hr rx ry q => ?_⟩
  unfold int0D at q
  split at q
  · simp only [DV] at rx ry
    subst rx ry
    exact ⟨_, _, rfl, rfl, okq hr q (hg _ _ _ _)⟩
  · exact q.elim
noncomputable abbrev subD := int0D fun i j => .int (i - j)
theorem subM : OpM X (binaryOp .Sub) subD := int0M op_sub fun _ _ _ _ => by simp [DV]
noncomputable abbrev ltD := int0D fun i j => .bl (decide (i < j))
noncomputable abbrev leD := int0D fun i j => .bl (decide (i ≤ j))
noncomputable abbrev gtD := int0D fun i j => .bl (decide (j < i))
noncomputable abbrev geD := int0D fun i j => .bl (decide (j ≤ i))
theorem ltM : OpM X (compareOp .Lt) ltD := int0M op_lt fun _ _ _ _ => by simp [DV]
theorem leM : OpM X (compareOp .LtE) leD := int0M op_le fun _ _ _ _ => by simp [DV]
theorem gtM : OpM X (compareOp .Gt) gtD := int0M op_gt fun _ _ _ _ => by simp [DV]
theorem geM : OpM X (compareOp .GtE) geD := int0M op_ge fun _ _ _ _ => by simp [DV]
instance (i j : Int) : Decidable (CMul i j) := by unfold CMul; infer_instance
instance (i j : Int) : Decidable (CDiv i j) := by unfold CDiv; infer_instance
instance (i j : Int) : Decidable (CPow i j) := by unfold CPow; infer_instance
noncomputable abbrev modD := intD (fun i j => .int (i % j)) fun _ j => 0 < j
theorem modM : OpM X (binaryOp .Mod) modD := intM op_mod (fun _ _ h => h) fun _ _ _ _ => by simp [DV]
noncomputable abbrev powD := intD (fun i j => .int (i ^ j.toNat)) CPow
theorem powM : OpM X (binaryOp .Pow) powD := intM op_pow (fun _ _ h => h) fun _ _ _ _ => by simp [DV]
noncomputable def mulD : D → D → HD → Out D
  | .int i, .int j, h => if CMul i j then .ok (.int (i * j)) h else .stuck
  | .loc l, .int k, h => match h[l]? with
    | some (.lst xs) => if -(2 ^ 63) ≤ k ∧ k < 2 ^ 63 then newL (List.replicate k.toNat xs).flatten h else .stuck
    | _ => .stuck
  | _, _, _ => .stuck
theorem op_isnotB : OpR X (compareOp .IsNot) (fun x y H Q => ∃ b c, x = .bl b ∧ y = .bl c ∧ Q (.bl (!(b == c))) H) := by
  intro pins s σ H x y v u Q I rx ry h
  obtain ⟨b, c, rfl, rfl, q⟩ := h
  cases rx
  cases ry
  exact wpAny_isNot_plain rfl ⟨.bl _, H, I, by cases b <;> cases c <;> rfl, q⟩
noncomputable def isNonD : D → Bool
  | .non => true
  | _ => false
noncomputable def isD : D → D → HD → Out D
  | .bl b, .bl c, h => .ok (.bl (b == c)) h
  | x, .non, h => .ok (.bl (isNonD x)) h
  | _, _, _ => .stuck
noncomputable def isnotD : D → D → HD → Out D
  | .bl b, .bl c, h => .ok (.bl (!(b == c))) h
  | x, .non, h => .ok (.bl (!isNonD x)) h
  | _, _, _ => .stuck
theorem isNon_of {m : List Addr} {H : Hp} {x : D} {v : V} (r : DV X.K m H x v) : decide (v = .non) = isNonD x := by
  cases x <;> simp only [DV] at r <;> first | (subst r; rfl) | (obtain ⟨_, rfl, _⟩ := r; rfl) | (obtain ⟨_, _, rfl, _⟩ := r; rfl) | (obtain ⟨_, _, _, rfl, _⟩ := r; rfl) | (obtain ⟨rfl, _⟩ := r; rfl)
theorem isnotM : OpM X (compareOp .IsNot) isnotD := by
  refine ⟨_, op_isnotB.or op_notN, fun m H h E x y v u Q hr rx ry q => ?_⟩
  unfold isnotD at q
  split at q
  · simp only [DV] at rx ry
    subst rx ry
    exact .inl ⟨_, _, rfl, rfl, okq hr q (by simp [DV])⟩
  · simp only [DV] at ry
    subst ry
    exact .inr ⟨rfl, okq hr q (by simp [DV, isNon_of rx])⟩
  · exact q.elim
end
end LS


namespace LS
open PySem PySem.Spec PyProof.Rows L2


noncomputable def allSome {α : Type} : List (Option α) → Option (List α)
  | [] => some []
  | none :: _ => none
  | some a :: r => (allSome r).map (a :: ·)
noncomputable def dPy (h : HD) : Nat → D → Option PyData
  | _, .non => some .none
  | _, .bl b => some (.bool b)
  | _, .int i => some (.int i)
  | _, .str x => some (.str x)
  | n + 1, .tup ds => (allSome (ds.map (dPy h n))).map .tuple
  | n + 1, .loc l => match h[l]? with
    | some (.lst ds) => (allSome (ds.map (dPy h n))).map .list
    | _ => none
  | _, _ => none
section
variable {X : Cx} {E : XK} {pins : List (Addr × Obj)} {σ : L2.St} {H : Hp} {s : Shared} {m : List Addr} {h : HD}
theorem reads_all {n : Nat} (ih : ∀ (d : D) (v : V) (u : Value) (p : PyData), DV X.K m H d v → RelV v u → dPy h n d = some p → ∃ as, Reads s.heap u p as) :
    ∀ (ds : List D) (vs : List V) (us : List Value) (ps : List PyData), DVs X.K m H ds vs → Vals vs us → allSome (ds.map (dPy h n)) = some ps → ∃ as, ReadsAll s.heap us ps as
  | [], vs, us, ps, r, q, e => by
    simp only [DVs] at r
    subst r
    cases q
    simp [allSome] at e
    subst e
    exact ⟨[], .nil⟩
  | d :: ds, vs, us, ps, r, q, e => by
    simp only [DVs] at r
    obtain ⟨v, w, rfl, rv, rw'⟩ := r
    cases q with
    | cons q1 q2 =>
      rw [List.map_cons] at e
      cases ed : dPy h n d with
      | none => rw [ed] at e; simp [allSome] at e
      | some p =>
        rw [ed] at e
        simp only [allSome, Option.map_eq_some_iff] at e
        obtain ⟨ps', e1, rfl⟩ := e
        obtain ⟨as, h1⟩ := ih d v _ p rv q1 ed
        obtain ⟨bs, h2⟩ := reads_all ih ds w _ ps' rw' q2 e1
        exact ⟨as ++ bs, .cons h1 h2⟩
theorem reads_of (hok : HOk X.prog X.w H s.heap) (hr : HR X.K m h H) : ∀ (n : Nat) (d : D) (v : V) (u : Value) (p : PyData), DV X.K m H d v → RelV v u → dPy h n d = some p → ∃ as, Reads s.heap u p as := by
  intro n
  induction n with
  | zero =>
    intro d v u p r q e
    cases d <;> simp only [dPy, DV, Option.some.injEq] at e r <;> try (cases e; done)
    · subst e r; cases q; exact ⟨[], .none⟩
    · subst e r; cases q; exact ⟨[], .bool _⟩
    · subst e r; obtain ⟨t, rfl⟩ := q; exact ⟨[], .int _ _⟩
    · subst e r; obtain ⟨t, rfl⟩ := q; exact ⟨[], .str _ _⟩
  | succ n ih =>
    intro d v u p r q e
    cases d with
    | non => simp only [dPy, DV, Option.some.injEq] at e r; subst e r; cases q; exact ⟨[], .none⟩
    | bl b => simp only [dPy, DV, Option.some.injEq] at e r; subst e r; cases q; exact ⟨[], .bool _⟩
    | int i => simp only [dPy, DV, Option.some.injEq] at e r; subst e r; obtain ⟨t, rfl⟩ := q; exact ⟨[], .int _ _⟩
    | str x => simp only [dPy, DV, Option.some.injEq] at e r; subst e r; obtain ⟨t, rfl⟩ := q; exact ⟨[], .str _ _⟩
    | tup ds =>
      simp only [dPy, DV, Option.map_eq_some_iff] at e r
      obtain ⟨a, vs, rfl, ha, dv⟩ := r
      obtain ⟨ps, e1, rfl⟩ := e
      cases q
      obtain ⟨_, its, rv, ⟨o, ho, hc, k, hd⟩, _⟩ := hok a _ ha
      obtain ⟨as, h1⟩ := reads_all ih ds vs its ps dv rv e1
      exact ⟨as, .tuple ho hc hd (by simpa using h1)⟩
    | loc l =>
      simp only [DV] at r
      obtain ⟨a, rfl, ha⟩ := r
      cases q
      simp only [dPy] at e
      split at e
      · rename_i ds el
        simp only [Option.map_eq_some_iff] at e
        obtain ⟨ps, e1, rfl⟩ := e
        obtain ⟨vs, hv, dv⟩ := hr.cells l _ a el ha
        obtain ⟨_, its, k, rv, ho⟩ := hok a _ hv
        obtain ⟨as, h1⟩ := reads_all ih ds vs its ps dv rv e1
        exact ⟨_, .list ho rfl rfl (by simpa using h1)⟩
      · cases e
    | scr ns => simp [dPy] at e
    | adr a => simp [dPy] at e
    | ty a => simp [dPy] at e
    | exc n fs => simp [dPy] at e
    | edic => simp [dPy] at e
    | glo n => simp [dPy] at e
    | clo a vs ds => simp [dPy] at e

noncomputable def cmpDat (f : PyData → PyData → Bool) : D → D → HD → Out D := fun x y h => match dPy h 8 x, dPy h 8 y with
  | some p, some q => if SeqAt.shaped p = true ∧ SeqAt.shaped q = true then .ok (.bl (f p q)) h else .stuck
  | _, _ => .stuck
noncomputable abbrev eqD := cmpDat PyData.eqv
noncomputable abbrev neD := cmpDat fun p q => !PyData.eqv p q
theorem datM {o : CmpOp} {f : PyData → PyData → Bool}
    (rule : ∀ {s : Shared} {a b : Value} {p q : PyData} {as bs : List Addr} {Q : Value → Shared → Prop}, Reads s.heap a p as → Reads s.heap b q bs → SeqAt.shaped p = true → SeqAt.shaped q = true → Q (.bool (f p q)) s → wpAny (model X.prog X.w) X.A (compareOp o a b) Q X.xe s) :
    OpM X (compareOp o) (cmpDat f) := by
  refine ⟨fun v u H Q => ∃ m h x y, HR X.K m h H ∧ DV X.K m H x v ∧ DV X.K m H y u ∧ Post X.K (rD X.K) m H E0 Q (cmpDat f x y h), ?_, fun m H h E x y v u Q hr rx ry q => ⟨m, h, x, y, hr, rx, ry, ?_⟩⟩
  · intro pins s σ H x y v u Q I rx ry hq
    obtain ⟨m, h, dx, dy, hr, r1, r2, q⟩ := hq
    unfold cmpDat at q
    split at q
    · rename_i p p' e1 e2
      split at q
      · rename_i hs
        obtain ⟨as, h1⟩ := reads_of I.hok hr 8 dx x v p r1 rx e1
        obtain ⟨bs, h2⟩ := reads_of I.hok hr 8 dy y u p' r2 ry e2
        exact rule h1 h2 hs.1 hs.2 ⟨.bl _, H, I, rfl, okq hr q (by simp [DV])⟩
      · exact q.elim
    · exact q.elim
  · unfold cmpDat at q ⊢
    split
    · split
      · rename_i e1 e2 hs
        rw [e1, e2] at q
        simp only [hs] at q
        exact q
      · rename_i e1 e2 hs
        rw [e1, e2] at q
        simp only [hs] at q
        exact q.elim
    · rename_i hn
      split at q
      · rename_i e1 e2
        exact (hn _ _ e1 e2).elim
      · exact q.elim
theorem eqM (hu : X.A.units + 64 < cLine) : OpM X (compareOp .Eq) eqD := datM fun ra rb ha hb h => eq_dataH ra rb ha hb hu h
theorem neM (hu : X.A.units + 64 < cLine) : OpM X (compareOp .NotEq) neD := datM fun ra rb ha hb h => ne_dataH ra rb ha hb hu h


noncomputable def flatD : D → Option V
  | .non => some .non
  | .bl b => some (.bl b)
  | .int i => some (.int i)
  | .str x => some (.str x)
  | _ => none
theorem flat_of {d : D} {v w : V} (r : DV X.K m H d v) (e : flatD d = some w) : v = w ∧ flatV v = true := by
  cases d <;> simp only [flatD, Option.some.injEq, DV] at e r <;> first | (subst e r; exact ⟨rfl, rfl⟩) | cases e
theorem flats_of : ∀ {ds : List D} {vs ws : List V}, DVs X.K m H ds vs → allSome (ds.map flatD) = some ws → vs = ws ∧ vs.all flatV = true
  | [], vs, ws, r, e => by
    simp only [DVs] at r
    simp [allSome] at e
    subst r e
    exact ⟨rfl, rfl⟩
  | d :: ds, vs, ws, r, e => by
    simp only [DVs] at r
    obtain ⟨v, w, rfl, rv, rw'⟩ := r
    rw [List.map_cons] at e
    cases ed : flatD d with
    | none => rw [ed] at e; simp [allSome] at e
    | some p =>
      rw [ed] at e
      simp only [allSome, Option.map_eq_some_iff] at e
      obtain ⟨ps', e1, rfl⟩ := e
      obtain ⟨h1, h2⟩ := flat_of rv ed
      obtain ⟨h3, h4⟩ := flats_of rw' e1
      subst h1 h3
      exact ⟨rfl, by simp [h2, h4]⟩
noncomputable def itemsD : D → HD → Option (List D)
  | .tup ds, _ => some ds
  | .loc l, h => match h[l]? with
    | some (.lst ds) => some ds
    | _ => none
  | .scr ns, _ => some (ns.map .int)
  | _, _ => none
theorem ints_of {ns : List Int} : DVs X.K m H (ns.map .int) (ns.map V.int) := by
  induction ns with
  | nil => exact .nil
  | cons n ns ih => exact .cons (by simp [DV]) ih
theorem items_of {d : D} {v : V} {ds : List D} (hr : HR X.K m h H) (r : DV X.K m H d v) (e : itemsD d h = some ds) : ∃ p vs, v = .ref p ∧ (SqL X.K H p vs ∨ SqT X.K H p vs) ∧ DVs X.K m H ds vs := by
  cases d with
  | tup xs =>
    simp only [DV, itemsD, Option.some.injEq] at r e
    subst e
    obtain ⟨a, vs, rfl, ha, dv⟩ := r
    exact ⟨a, vs, rfl, .inr (SqT.of ha), dv⟩
  | loc l =>
    simp only [DV] at r
    obtain ⟨a, rfl, ha⟩ := r
    simp only [itemsD] at e
    split at e
    · rename_i xs el
      cases e
      obtain ⟨vs, hv, dv⟩ := hr.cells l _ a el ha
      exact ⟨a, vs, rfl, .inl (SqL.of hv), dv⟩
    · cases e
  | scr ns =>
    simp only [DV, itemsD, Option.some.injEq] at r e
    subst e
    obtain ⟨a, rfl, ha⟩ := r
    exact ⟨a, _, rfl, .inl ha.sq, ints_of⟩
  | _ => simp [itemsD] at e
noncomputable def inD (neg : Bool) : D → D → HD → Out D := fun x y h => match itemsD y h with
  | none => .stuck
  | some ds => match flatD x, allSome (ds.map flatD) with
    | some v, some vs => .ok (.bl (if neg then !inV v vs else inV v vs)) h
    | _, _ => .stuck
theorem in_rd {neg : Bool} : ∀ m H h E x y v u Q, HR X.K m h H → DV X.K m H x v → DV X.K m H y u → Post X.K (rD X.K) m H E Q (inD neg x y h) → rIn X.K neg v u H Q := fun m H h E x y v u Q hr rx ry q => by
  unfold inD at q
  split at q
  · exact q.elim
  · rename_i ds e
    split at q
    · rename_i w ws e1 e2
      obtain ⟨p, vs, rfl, hs, dv⟩ := items_of hr ry e
      obtain ⟨h1, h2⟩ := flat_of rx e1
      obtain ⟨h3, h4⟩ := flats_of dv e2
      subst h1 h3
      exact ⟨p, vs, rfl, hs, h2, h4, okq hr q (by simp [DV])⟩
    · exact q.elim
theorem inM : OpM X (compareOp .In) (inD false) := ⟨_, op_in_seq, in_rd⟩
noncomputable def ixD : D → D → HD → Out D := fun x y h => match itemsD x h, y with
  | some ds, .int i => match atI ds i with
    | some d => .ok d h
    | none => .stuck
  | _, _ => .stuck
theorem atI_dv {ds : List D} {vs : List V} {i : Int} {d : D} (r : DVs X.K m H ds vs) (e : atI ds i = some d) : ∃ v, atI vs i = some v ∧ DV X.K m H d v := by
  unfold atI at e ⊢
  rw [r.len] at e
  cases k : ixN vs.length i with
  | none => rw [k] at e; cases e
  | some j =>
    rw [k] at e
    exact r.get e
theorem ev_ix {a b : Expr} {pos : Pos} {f g : ME} (ha : Ev X E a f) (hb : Ev X E b g) (hs : PlainIx b) : Ev X E (.Subscript a b pos) (mOp ixD f g) :=
  pe_imp (pe_ix (ix_list.or ix_tup) ha hb hs) fun σ H Q hq => seq2 hq fun m H2 h2 x y v u hr rx ry q => by
    unfold ixD at q
    split at q
    · rename_i ds i e
      split at q
      · rename_i d ed
        simp only [DV] at ry
        subst ry
        obtain ⟨p, vs, rfl, hsq, dv⟩ := items_of hr rx e
        obtain ⟨w, e1, r1⟩ := atI_dv dv ed
        rcases hsq with hsq | hsq
        · exact .inl ⟨p, vs, i, w, rfl, rfl, hsq, e1, okq hr q r1⟩
        · exact .inr ⟨p, vs, i, w, rfl, rfl, hsq, e1, okq hr q r1⟩
      · exact q.elim
    · exact q.elim


noncomputable def lenD : D → HD → Out D := fun x h => match itemsD x h with
  | some ds => .ok (.int ds.length) h
  | none => .stuck
theorem one_of {F : D → HD → Out D} {ds : List D} {vs : List V} {Q : VK} {C : Prop} (r : DVs X.K m H ds vs) (q : Post X.K (rD X.K) m H E Q (ar1 F ds h)) (k : ∀ d v, vs = [v] → DV X.K m H d v → Post X.K (rD X.K) m H E Q (F d h) → C) : C := by
  unfold ar1 at q
  split at q
  · simp only [DVs] at r
    obtain ⟨v, w, rfl, rv, rfl⟩ := r
    exact k _ v rfl rv q
  · exact q.elim
theorem two_of {F : D → D → HD → Out D} {ds : List D} {vs : List V} {Q : VK} {C : Prop} (r : DVs X.K m H ds vs) (q : Post X.K (rD X.K) m H E Q (ar2 F ds h)) (k : ∀ d d' v v', vs = [v, v'] → DV X.K m H d v → DV X.K m H d' v' → Post X.K (rD X.K) m H E Q (F d d' h) → C) : C := by
  unfold ar2 at q
  split at q
  · simp only [DVs] at r
    obtain ⟨v, w, rfl, rv, v', w', rfl, rv', rfl⟩ := r
    exact k _ _ v v' rfl rv rv' q
  · exact q.elim
theorem lenM : CallM X (.builtin "len") (ar1 lenD) := by
  refine ⟨_, call_len_seq, fun m H h E ds vs Q hr r q => one_of r q fun d v ev rv q => ?_⟩
  unfold lenD at q
  split at q
  · rename_i xs e
    obtain ⟨p, ws, rfl, hs, dv⟩ := items_of hr rv e
    exact ⟨p, ws, ev, hs, by rw [← dv.len]; exact okq hr q (by simp [DV])⟩
  · exact q.elim
noncomputable def CDv (i j : Int) : Prop := 0 < j ∧ j < 18446744073709551616
instance (i j : Int) : Decidable (CDv i j) := by unfold CDv; infer_instance
theorem CDv.no {i j : Int} (h : CDv i j) : Builtin.divisionGoesByPylong i j = false := by
  refine PyProof.noPylong_of_log2 ?_
  have h0 : j.natAbs ≠ 0 := by have := h.1; (first | lia | omega)
  have h1 : j.natAbs < 2 ^ 64 := by have := h.2; have := h.1; (first | lia | omega)
  exact Nat.lt_trans ((Nat.log2_lt h0).mpr h1) (by decide)
theorem call_divmod' : CallR X (.builtin "divmod") (fun xs H Q => ∃ i j, xs = [.int i, .int j] ∧ CDv i j ∧ ∀ p, H p = none → Q (.ref p) (upd H p (.tup [.int (i / j), .int (i % j)]))) := by
  intro pins s σ H xs us Q I r h
  obtain ⟨i, j, rfl, hc, q⟩ := h
  obtain ⟨u, w', rfl, ⟨t, rfl⟩, ⟨t', rfl⟩⟩ := vals2 r
  have h1 := hc.1
  refine divmod_int (by (first | lia | omega)) ?_ (.inl hc.no)
  rw [Int.fdiv_eq_ediv_of_nonneg i (by (first | lia | omega)), Int.fmod_eq_emod_of_nonneg i (by (first | lia | omega))]
  have hn : H s.heap.objs.size = none := I.hok.fresh (Nat.le_refl _)
  refine ⟨.ref s.heap.objs.size, _, ?_, rfl, q _ hn⟩
  refine I.laid (fun b o e => Heap.get?_push_of_some _ e) (Nat.le_refl _) ⟨by simp only [List.length_cons, List.length_nil]; rw [sizeLine_eq]; decide, [.int (i / j) s.toks, .int (i % j) (s.toks + 1)], .cons ⟨_, rfl⟩ (.cons ⟨_, rfl⟩ .nil), ?_, NoDict.new⟩
  exact ⟨_, Heap.get?_push_size s.heap rfl, rfl, 0, rfl⟩
noncomputable def divmodD : D → D → HD → Out D
  | .int i, .int j, h => if CDv i j then .ok (.tup [.int (i / j), .int (i % j)]) h else .stuck
  | _, _, _ => .stuck
theorem divmodM : CallM X (.builtin "divmod") (ar2 divmodD) := by
  refine ⟨_, call_divmod', fun m H h E ds vs Q hr r q => two_of r q fun d d' v v' ev rv rv' q => ?_⟩
  unfold divmodD at q
  split at q
  · split at q
    · rename_i i j hc
      simp only [DV] at rv rv'
      subst rv rv'
      exact ⟨i, j, ev, hc, post_newT hr (.cons (by simp [DV]) (.cons (by simp [DV]) .nil)) q⟩
    · exact q.elim
  · exact q.elim
theorem op_fdiv' : OpR X (binaryOp .FloorDiv) (rI CDv fun i j => .int (i / j)) := opI fun i j _ _ _ _ _ hc q => by
  have h1 := hc.1
  exact floordiv_int (by (first | lia | omega)) (by rw [Int.fdiv_eq_ediv_of_nonneg i (by (first | lia | omega))]; exact q) (.inl hc.no)
noncomputable abbrev fdivD' := intD (fun i j => .int (i / j)) CDv
theorem fdivM' : OpM X (binaryOp .FloorDiv) fdivD' := intM op_fdiv' (fun _ _ h => h) fun _ _ _ _ => by simp [DV]
noncomputable def maxD : D → D → HD → Out D
  | .int i, .int j, h => .ok (.int (if j > i then j else i)) h
  | _, _, _ => .stuck
noncomputable def minD : D → D → HD → Out D
  | .int i, .int j, h => .ok (.int (if j < i then j else i)) h
  | _, _, _ => .stuck
theorem maxM (hc : X.calm = true) : CallM X (.builtin "max") (ar2 maxD) := by
  refine ⟨_, call_max2 hc, fun m H h E ds vs Q hr r q => two_of r q fun d d' v v' ev rv rv' q => ?_⟩
  unfold maxD at q
  split at q
  · simp only [DV] at rv rv'
    subst rv rv'
    exact ⟨_, _, ev, okq hr q (by simp [DV])⟩
  · exact q.elim
theorem minM (hc : X.calm = true) : CallM X (.builtin "min") (ar2 minD) := by
  refine ⟨_, call_min2 hc, fun m H h E ds vs Q hr r q => two_of r q fun d d' v v' ev rv rv' q => ?_⟩
  unfold minD at q
  split at q
  · simp only [DV] at rv rv'
    subst rv rv'
    exact ⟨_, _, ev, okq hr q (by simp [DV])⟩
  · exact q.elim
noncomputable def intOfD : D → HD → Out D
  | .int i, h => .ok (.int i) h
  | .bl b, h => .ok (.int (if b then 1 else 0)) h
  | _, _ => .stuck
theorem intOfM : CallM X (.type "int") (ar1 intOfD) := by
  refine ⟨_, call_int1, fun m H h E ds vs Q hr r q => one_of r q fun d v ev rv q => ?_⟩
  unfold intOfD at q
  split at q
  · simp only [DV] at rv; subst rv
    exact .inl ⟨_, ev, okq hr q (by simp [DV])⟩
  · simp only [DV] at rv; subst rv
    exact .inr ⟨_, ev, okq hr q (by simp [DV])⟩
  · exact q.elim
noncomputable def tupOfD : D → HD → Out D := fun x h => match x with
  | .tup ds => .ok (.tup ds) h
  | .loc l => match h[l]? with
    | some (.lst ds) => .ok (.tup ds) h
    | _ => .stuck
  | _ => .stuck
theorem tupOfM : CallM X (.type "tuple") (ar1 tupOfD) := by
  refine ⟨_, call_tuple_of, fun m H h E ds vs Q hr r q => one_of r q fun d v ev rv q => ?_⟩
  unfold tupOfD at q
  split at q
  · simp only [DV] at rv
    obtain ⟨a, ws, rfl, ha, dv⟩ := rv
    exact ⟨a, ws, ev, .inr ⟨SqT.of ha, okq hr q (by simp only [DV]; exact ⟨a, ws, rfl, ha, dv⟩)⟩⟩
  · split at q
    · rename_i ds' el
      simp only [DV] at rv
      obtain ⟨a, rfl, ha⟩ := rv
      obtain ⟨ws, hv, dv⟩ := hr.cells _ _ a el ha
      exact ⟨a, ws, ev, .inl ⟨SqL.of hv, post_newT hr dv q⟩⟩
    · exact q.elim
  · exact q.elim
end
end LS


namespace LS
open PySem PySem.Spec PyProof.Rows L2

theorem PostS.bind {α β : Type} {K : PySem.W.Frag} {m : List Addr} {H : Hp} {R : List Addr → Hp → α → β → Prop} {E : XK} {Q' : β → Hp → Prop} {Dn : Ends} {o : Out α} {k : α → HD → Out (Fl × Rho)}
    (h : PostS K m H E Dn (o.bind k)) (f : ∀ a h1 v m1 H1, o = .ok a h1 → m <+: m1 → Kp H H1 → HR K m1 h1 H1 → R m1 H1 a v → PostS K m1 H1 E Dn (k a h1) → Q' v H1) : Post K R m H E Q' o := by
  cases o with
  | ok a h1 => exact fun v m1 H1 p kk hr r => f a h1 v m1 H1 rfl p kk hr r (h.ahead p kk)
  | err C fs h1 => exact h
  | stuck => exact h
theorem PostS.here {K : PySem.W.Frag} {m : List Addr} {H : Hp} {E : XK} {Dn : Ends} {a : Fl × Rho} {h : HD} (hr : HR K m h H) (p : PostS K m H E Dn (.ok a h)) : FlOk K m H Dn a := p m H (List.prefix_refl _) (.refl _) hr

section
variable {X : Cx} {E : XK} {st : Stmt} {sts b1 b2 : List Stmt} {g g1 g2 : MS} {e : Expr} {f : ME} {pos : Pos} {t : MT}
noncomputable def mSkip : MS := fun ρ h => .ok (.nx, ρ) h
noncomputable def mSeq (g1 g2 : MS) : MS := fun ρ h => (g1 ρ h).bind fun x h1 => match x with
  | (.nx, ρ1) => g2 ρ1 h1
  | y => .ok y h1
theorem exs_nil : Exs X E [] mSkip := pss_imp pss_nil fun Dn σ H z1_ => by obtain ⟨m, ρ, h, hr, er, p⟩ := z1_; exact ((p.here hr) σ er)
theorem exs_one (h : Ex X E st g) : Exs X E [st] g := pss_one h
theorem exs_cons (h1 : Ex X E st g1) (h2 : Exs X E sts g2) : Exs X E (st :: sts) (mSeq g1 g2) :=
  pss_imp (pss_cons h1 h2) fun Dn σ H z2_ => by
    obtain ⟨m, ρ, h, hr, er, p⟩ := z2_
    refine ⟨m, ρ, h, hr, er, ?_⟩
    unfold mSeq at p
    cases o : g1 ρ h with
    | stuck => rw [o] at p; exact p
    | err C fs h1 => rw [o] at p; exact p
    | ok x h1 =>
      rw [o] at p
      obtain ⟨fl, ρ1⟩ := x
      intro m1 H1 p1 k1 hr1
      cases fl with
      | nx => exact fun σ1 er1 => ⟨m1, ρ1, h1, hr1, er1, PostS.ahead p1 k1 p⟩
      | bk => exact p m1 H1 p1 k1 hr1
      | ct => exact p m1 H1 p1 k1 hr1
      | rt d => exact p m1 H1 p1 k1 hr1
noncomputable def mExpr (f : ME) : MS := fun ρ h => (f ρ h).bind fun _ h1 => .ok (.nx, ρ) h1
theorem ex_expr (he : Ev X E e f) (hs : swapsWith e none pos.line X.env = pure false := by rfl) : Ex X E (.Expr e pos) (mExpr f) :=
  ps_imp (ps_expr he hs) fun Dn σ H z3_ => by obtain ⟨m, ρ, h, hr, er, p⟩ := z3_; exact (⟨m, ρ, h, hr, er, PostS.bind p fun x h1 v m1 H1 _ p1 k1 hr1 r1 q1 => (q1.here hr1) σ (er.keep p1 k1)⟩)
noncomputable def mRet (f : ME) : MS := fun ρ h => (f ρ h).bind fun d h1 => .ok (.rt d, ρ) h1
theorem ex_ret (he : Ev X E e f) : Ex X E (.Return (some e) pos) (mRet f) :=
  ps_imp (ps_ret he) fun Dn σ H z4_ => by obtain ⟨m, ρ, h, hr, er, p⟩ := z4_; exact (⟨m, ρ, h, hr, er, PostS.bind p fun x h1 v m1 H1 _ p1 k1 hr1 r1 q1 => (q1.here hr1) v r1⟩)
noncomputable def mIfS (t : MT) (g1 g2 : MS) : MS := fun ρ h => (t ρ h).bind fun b h1 => if b = true then g1 ρ h1 else g2 ρ h1
theorem ex_if {c : Expr} (hc : EvT X E c t) (ha : Exs X E b1 g1) (hb : Exs X E b2 g2) : Ex X E (.If c b1 b2 pos) (mIfS t g1 g2) :=
  ps_imp (ps_if hc ha hb) fun Dn σ H z5_ => by obtain ⟨m, ρ, h, hr, er, p⟩ := z5_; exact (⟨m, ρ, h, hr, er, PostS.bind p fun x h1 v m1 H1 _ p1 k1 hr1 r1 q1 => by
    cases r1
    cases x with
    | true => exact ⟨m1, ρ, h1, hr1, er.keep p1 k1, q1⟩
    | false => exact ⟨m1, ρ, h1, hr1, er.keep p1 k1, q1⟩⟩)
noncomputable def mNever : MS := fun _ _ => .stuck
theorem exs_never : Exs X E sts mNever := pss_imp pss_never fun Dn σ H z7_ => by obtain ⟨m, ρ, h, hr, er, p⟩ := z7_; exact (p)
noncomputable def mSet (i : Nat) (f : ME) : MS := fun ρ h => (f ρ h).bind fun d h1 => .ok (.nx, ρ.set i (some d)) h1
theorem ex_set {i : Nat} {x : Str} {pos' : Pos} (hN : X.N.Nodup) (hi : X.N[i]? = some x) (hx : Loc X.env.scope x) (he : Ev X E e f) (hs : swapsWith e (some (.Name x pos')) pos.line X.env = pure false := by rfl) (hf : X.fn x = true ∨ X.env.scope.names.lookup x = some .local := by first | exact .inl rfl | exact .inr rfl | assumption) :
    Ex X E (.Assign [.Name x pos'] e pos) (mSet i f) :=
  ps_imp (ps_set hN hi hx he hs hf) fun Dn σ H z9_ => by obtain ⟨m, ρ, h, hr, er, p⟩ := z9_; exact (⟨m, ρ, h, hr, er, PostS.bind p fun x h1 v m1 H1 _ p1 k1 hr1 r1 q1 => (q1.here hr1) _ ((er.keep p1 k1).set r1)⟩)
noncomputable def mPar (i j : Nat) (fa : MA) : MS := fun ρ h => (fa ρ h).bind fun ds h1 => match ds with
  | [x, y] => .ok (.nx, (ρ.set i (some x)).set j (some y)) h1
  | _ => .stuck
theorem ex_par {i j : Nat} {x y : Str} {a b : Expr} {fa : MA} {px py pt : Pos} {kt k2 : Nat} {pt2 : Pos} (hc : X.calm = true) (hN : X.N.Nodup) (hi : X.N[i]? = some x) (hj : X.N[j]? = some y) (hij : i ≠ j)
    (hx : X.env.scope.names.lookup x = some .local) (hy : X.env.scope.names.lookup y = some .local) (ha : EvA X E [a, b] fa)
    (hw : swappedStores [.Tuple [.Name x px, .Name y py] kt pt] (.Tuple [a, b] k2 pt2) X.env = pure (some [x, y]))
    (hs : swapsWithSole [.Tuple [.Name x px, .Name y py] kt pt] (.Tuple [a, b] k2 pt2) pos.line X.env = pure false := by rfl) :
    Ex X E (.Assign [.Tuple [.Name x px, .Name y py] kt pt] (.Tuple [a, b] k2 pt2) pos) (mPar i j fa) :=
  ps_imp (ps_par hc hN hi hj hij hx hy ha hw hs) fun Dn σ H z10_ => by obtain ⟨m, ρ, h, hr, er, p⟩ := z10_; exact (⟨m, ρ, h, hr, er, PostS.bind p fun x h1 v m1 H1 _ p1 k1 hr1 r1 q1 => by
    split at q1
    · simp only [rDs, DVs] at r1
      obtain ⟨v, w, rfl, rv, v', w', rfl, rv', rfl⟩ := r1
      exact ⟨v, v', rfl, (q1.here hr1) _ (((er.keep p1 k1).set rv).set rv')⟩
    · exact q1.elim⟩)

noncomputable abbrev MG := D → Rho → Option Rho
noncomputable def EvG (X : Cx) (tg : Expr) (sg : MG) : Prop :=
  ∃ gg : TG, PG X tg gg ∧ ∀ m H d v ρ σ ρ' Q, DV X.K m H d v → ER X.K m H ρ σ → sg d ρ = some ρ' → (∀ σ', ER X.K m H ρ' σ' → Q σ' H) → gg v σ H Q
noncomputable def sName (i : Nat) : MG := fun d ρ => some (ρ.set i (some d))
noncomputable def sPair (i j : Nat) : MG := fun d ρ => match d with
  | .tup [x, y] => some ((ρ.set i (some x)).set j (some y))
  | _ => none
theorem evG_name {i : Nat} {x : Str} (h : PG X (.Name x pos) (gName i)) : EvG X (.Name x pos) (sName i) := ⟨_, h, fun m H d v ρ σ ρ' Q r er e q => by
  simp only [sName, Option.some.injEq] at e
  subst e
  exact q _ (er.set r)⟩
theorem evG_pair {i j : Nat} {x y : Str} {px py : Pos} {kt : Nat} (h : PG X (.Tuple [.Name x px, .Name y py] kt pos) (gTup X.K 2 (gCons (gName i) (gCons (gName j) gNil)))) : EvG X (.Tuple [.Name x px, .Name y py] kt pos) (sPair i j) := ⟨_, h, fun m H d v ρ σ ρ' Q r er e q => by
  unfold sPair at e
  split at e
  · rename_i a b
    cases e
    simp only [DV, DVs] at r
    obtain ⟨p, vs, rfl, hp, v1, w1, rfl, r1, v2, w2, rfl, r2, rfl⟩ := r
    exact ⟨p, _, rfl, SqT.of hp, rfl, v1, _, rfl, v2, _, rfl, rfl, q _ ((er.set r1).set r2)⟩
  · cases e⟩
noncomputable def mUnp (sg : MG) (f : ME) : MS := fun ρ h => (f ρ h).bind fun d h1 => match sg d ρ with
  | some ρ1 => .ok (.nx, ρ1) h1
  | none => .stuck
theorem ex_unp {tg : Expr} {sg : MG} (he : Ev X E e f) (hg : EvG X tg sg) (hs : swapsWithSole [tg] e pos.line X.env = pure false := by rfl) (hw : swappedStores [tg] e X.env = pure none := by rfl)
    (h1 : (assignEach [tg] X.env).map (·.2) = [assign tg X.env] := by rfl) : Ex X E (.Assign [tg] e pos) (mUnp sg f) := by
  obtain ⟨gg, hg, i⟩ := hg
  exact ps_imp (ps_asg he hg hs hw h1) fun Dn σ H z11_ => by obtain ⟨m, ρ, h, hr, er, p⟩ := z11_; exact (⟨m, ρ, h, hr, er, PostS.bind p fun x h1 v m1 H1 _ p1 k1 hr1 r1 q1 => by
    split at q1
    · rename_i ρ1 es
      exact i m1 H1 x v ρ σ ρ1 _ r1 (er.keep p1 k1) es fun σ' er' => (q1.here hr1) σ' er'
    · exact q1.elim⟩)


/-- the lists that are walked, with what they must hold -/
noncomputable abbrev Src := List (Nat × List D)
noncomputable def srcOk (src : Src) (items : List D) (h : HD) : Prop := ∀ p ∈ src, h[p.1]? = some (.lst p.2)
theorem src0 {items : List D} {h : HD} : srcOk [] items h := fun p z => nomatch z
theorem src1 {items ds : List D} {h : HD} {l : Nat} (e : h[l]? = some (.lst ds)) : srcOk [(l, ds)] items h := fun p z => by
  rw [List.mem_singleton] at z
  subst z
  exact e
noncomputable def rIt (K : PySem.W.Frag) : List Addr → Hp → (List D × Src) → It → Prop := fun m1 H1 x J =>
  ∀ i m2 h2 H2, m1 <+: m2 → Kp H1 H2 → HR K m2 h2 H2 → srcOk x.2 x.1 h2 →
    (i < x.1.length → J.go i H2 ∧ ∀ y H3, J.yld i H2 y H3 → Kp H2 H3 ∧ HR K m2 h2 H3 ∧ ∃ d, x.1[i]? = some d ∧ DV K m2 H3 d y) ∧ (i = x.1.length → J.stop i H2)
noncomputable abbrev MI := Rho → HD → Out (List D × Src)
noncomputable abbrev EvI (X : Cx) (E : XK) (tg iter : Expr) (it : MI) : Prop := PI X tg iter (tM X.K (rIt X.K) E it)
theorem pi_imp {tg iter : Expr} {w w' : TI} (h : PI X tg iter w) (i : ∀ σ H R, w' σ H R → w σ H R) : PI X tg iter w' := fun pins s σ H R I q => h pins s σ H R I (i σ H R q)
theorem pi_seq {tg l : Expr} {tl : TE} (hl : PE X l tl) : PI X tg l (fun σ H R => tl σ H fun x H1 => ∃ a, x = .ref a ∧ (((∃ xs, SqL X.K H1 a xs) ∧ R (Itl X.K a) H1) ∨ ((∃ xs, SqT X.K H1 a xs) ∧ R (Itt X.K a) H1))) := by
  intro pins s σ H R I h
  refine thn (hl pins s σ H _ I h) fun v s1 z12_ => ?_
  obtain ⟨x, H1, I1, r1, q1⟩ := z12_
  obtain ⟨a, e, q⟩ := q1
  subst e
  cases r1
  rcases q with ⟨⟨xs, hq⟩, q⟩ | ⟨⟨xs, hq⟩, q⟩
  · obtain ⟨its, rv, p, hz⟩ := I1.list hq
    refine wpAny_pyIter_list p.isList ?_
    refine ⟨s1.heap.objs.size, [s1.heap.objs.size], _, _, H1, rfl, I1.kept (t' := s1.toks) fun b o e => Heap.get?_push_of_some _ e, turn_list a _, ⟨_, Heap.get?_push_size _ rfl, rfl, rfl⟩, fun b hb => ?_, q⟩
    have e : b = s1.heap.objs.size := by simpa using hb
    subst e
    exact I1.fpOk (Nat.le_refl _) (I1.hok.fresh (Nat.le_refl _))
  · obtain ⟨its, rv, p, hz⟩ := I1.tuple hq
    refine wpAny_pyIter_tuple (show s1.heap.IsTuple a its.toArray from p) ?_
    refine ⟨s1.heap.objs.size, [s1.heap.objs.size], _, _, H1, rfl, I1.kept (t' := s1.toks) fun b o e => Heap.get?_push_of_some _ e, turn_tuple a _, ⟨_, Heap.get?_push_size _ rfl, rfl, rfl⟩, fun b hb => ?_, q⟩
    have e : b = s1.heap.objs.size := by simpa using hb
    subst e
    exact I1.fpOk (Nat.le_refl _) (I1.hok.fresh (Nat.le_refl _))
noncomputable def srcD : D → List D → Src
  | .loc l, ds => [(l, ds)]
  | _, _ => []
noncomputable def iSeqD (d : D) (h : HD) : Out (List D × Src) := match itemsD d h with
  | some ds => .ok (ds, srcD d ds) h
  | none => .stuck
noncomputable def mISeq (f : ME) : MI := fun ρ h => (f ρ h).bind iSeqD
theorem Kp.lget {H H' : Hp} {a : Addr} {K : PySem.W.Frag} {xs : List V} (k : Kp H H') (h : FzL K H a xs) : SqL K H' a xs := (k.fzL h).sq
theorem it_list {K : PySem.W.Frag} {a : Addr} {m : List Addr} {H : Hp} {h : HD} {i : Nat} {items : List D} {vs : List V} (hr : HR K m h H) (hs : SqL K H a vs) (dv : DVs K m H items vs) (uniq : ∀ ys, SqL K H a ys → ys = vs ∨ True) :
    (i < items.length → (Itl K a).go i H ∧ ∀ y H3, (Itl K a).yld i H y H3 → Kp H H3 ∧ HR K m h H3 ∧ ∃ d, items[i]? = some d ∧ DV K m H3 d y) ∧ (i = items.length → (Itl K a).stop i H) := by
  refine ⟨fun hi => ?_, fun hi => ⟨vs, hs, by rw [← dv.len]; exact Nat.le_of_eq hi.symm⟩⟩
  have hd : items[i]? = some items[i] := List.getElem?_eq_getElem hi
  obtain ⟨v, e1, r1⟩ := dv.get hd
  refine ⟨⟨vs, v, hs, e1⟩, fun y H3 z13_ => ?_⟩
  obtain ⟨e3, hy⟩ := z13_
  subst e3
  have := hy vs hs
  rw [e1] at this
  cases this
  exact ⟨.refl _, hr, _, hd, r1⟩
theorem it_tup {K : PySem.W.Frag} {a : Addr} {m : List Addr} {H : Hp} {h : HD} {i : Nat} {items : List D} {vs : List V} (hr : HR K m h H) (hs : SqT K H a vs) (dv : DVs K m H items vs) :
    (i < items.length → (Itt K a).go i H ∧ ∀ y H3, (Itt K a).yld i H y H3 → Kp H H3 ∧ HR K m h H3 ∧ ∃ d, items[i]? = some d ∧ DV K m H3 d y) ∧ (i = items.length → (Itt K a).stop i H) := by
  refine ⟨fun hi => ?_, fun hi => ⟨vs, hs, by rw [← dv.len]; exact Nat.le_of_eq hi.symm⟩⟩
  have hd : items[i]? = some items[i] := List.getElem?_eq_getElem hi
  obtain ⟨v, e1, r1⟩ := dv.get hd
  refine ⟨⟨vs, v, hs, e1⟩, fun y H3 z14_ => ?_⟩
  obtain ⟨e3, hy⟩ := z14_
  subst e3
  have := hy vs hs
  rw [e1] at this
  cases this
  exact ⟨.refl _, hr, _, hd, r1⟩
theorem evI_seq {tg a : Expr} (ha : Ev X E a f) : EvI X E tg a (mISeq f) :=
  pi_imp (pi_seq ha) fun σ H R ⟨m, ρ, h, hr, er, p⟩ => ⟨m, ρ, h, hr, er, Post.bind p fun x h1 v m1 H1 _ p1 k1 hr1 r1 q1 => by
    unfold iSeqD at q1
    split at q1
    · rename_i ds eds
      cases x with
      | tup xs =>
        simp only [itemsD, Option.some.injEq] at eds
        subst eds
        simp only [rD, DV] at r1
        obtain ⟨a, vs, rfl, ha, dv⟩ := r1
        refine ⟨a, rfl, .inr ⟨⟨vs, SqT.of ha⟩, q1 _ m1 H1 (List.prefix_refl _) (.refl _) hr1 fun i m2 h2 H2 p2 k2 hr2 _ => ?_⟩⟩
        exact it_tup hr2 (SqT.of (k2 _ _ ha rfl)) (dv.keep p2 k2)
      | loc l =>
        simp only [rD, DV] at r1
        obtain ⟨a, rfl, ha⟩ := r1
        simp only [itemsD] at eds
        split at eds
        · rename_i xs el
          cases eds
          obtain ⟨vs, hv, dv⟩ := hr1.cells l _ a el ha
          refine ⟨a, rfl, .inl ⟨⟨vs, SqL.of hv⟩, q1 _ m1 H1 (List.prefix_refl _) (.refl _) hr1 fun i m2 h2 H2 p2 k2 hr2 hs => ?_⟩⟩
          obtain ⟨ws, hw, dw⟩ := hr2.cells l _ a (hs _ List.mem_cons_self) (pre_get p2 ha)
          exact it_list hr2 (SqL.of hw) dw fun _ _ => .inr trivial
        · cases eds
      | scr ns =>
        simp only [itemsD, Option.some.injEq] at eds
        subst eds
        simp only [rD, DV] at r1
        obtain ⟨a, rfl, ha⟩ := r1
        refine ⟨a, rfl, .inl ⟨⟨_, ha.sq⟩, q1 _ m1 H1 (List.prefix_refl _) (.refl _) hr1 fun i m2 h2 H2 p2 k2 hr2 _ => ?_⟩⟩
        exact it_list hr2 (k2.lget ha) ints_of fun _ _ => .inr trivial
      | _ => simp [itemsD] at eds
    · exact q1.elim⟩
noncomputable def rngL (lo : Int) (n : Nat) : List D := (List.range n).map fun k => .int (lo + (k : Nat))
theorem it_rng {K : PySem.W.Frag} {m1 : List Addr} {H1 : Hp} (lo : Int) (n : Nat) : rIt K m1 H1 (rngL lo n, []) (Itr lo n) := fun i m2 h2 H2 p2 k2 hr2 _ => by
  refine ⟨fun hi => ?_, fun hi => ?_⟩
  · have hi' : i < n := by simpa [rngL] using hi
    refine ⟨hi', fun y H3 z16_ => ?_⟩
    obtain ⟨e3, ey⟩ := z16_
    subst e3 ey
    refine ⟨.refl _, hr2, .int (lo + i), ?_, by simp [DV]⟩
    simp [rngL, List.getElem?_range, hi']
  · show n ≤ i
    have hi' : i = n := by simpa [rngL] using hi
    (first | lia | omega)
@[irreducible] noncomputable def rng1D : List D → HD → Out (List D × Src) := fun ds h => match ds with
  | [.int j] => @ite _ (-(2 ^ 62) ≤ j ∧ j < 2 ^ 62) (Classical.propDecidable _) (.ok (rngL 0 j.toNat, []) h) .stuck
  | _ => .stuck
@[irreducible] noncomputable def rng2D : List D → HD → Out (List D × Src) := fun ds h => match ds with
  | [.int i, .int j] => @ite _ ((-(2 ^ 62) ≤ i ∧ i < 2 ^ 62) ∧ -(2 ^ 62) ≤ j ∧ j < 2 ^ 62) (Classical.propDecidable _) (.ok (rngL i (j - i).toNat, []) h) .stuck
  | _ => .stuck
noncomputable def mIRng1 (fa : MA) : MI := fun ρ h => (fa ρ h).bind rng1D
noncomputable def mIRng2 (fa : MA) : MI := fun ρ h => (fa ρ h).bind rng2D
theorem evI_range1 {tg a : Expr} {fa : MA} {p pos : Pos} (hg : Gl X "range") (hm : X.mg "range" = none) (ha : EvA X E [a] fa) (hs : starEach [a] X.env = [(false, eval a X.env)] := by rfl) : EvI X E tg (.Call (.Name "range" p) [a] [] pos) (mIRng1 fa) :=
  pi_imp (pi_range1 hg hm ha hs) fun σ H R z17_ => by obtain ⟨m, ρ, h, hr, er, p⟩ := z17_; exact (⟨m, ρ, h, hr, er, Post.bind p fun x h1 v m1 H1 _ p1 k1 hr1 r1 q1 => by
    unfold rng1D at q1
    split at q1
    · split at q1
      · rename_i hj
        simp only [rDs, DVs, DV] at r1
        obtain ⟨v, w, rfl, rfl, rfl⟩ := r1
        exact ⟨_, rfl, hj.1, hj.2, q1 _ m1 H1 (List.prefix_refl _) (.refl _) hr1 (it_rng 0 _)⟩
      · exact q1.elim
    · exact q1.elim⟩)
theorem evI_range2 {tg a b : Expr} {fa : MA} {p pos : Pos} (hg : Gl X "range") (hm : X.mg "range" = none) (ha : EvA X E [a, b] fa) (hs : starEach [a, b] X.env = [(false, eval a X.env), (false, eval b X.env)] := by rfl) (hs2 : starEach [b] X.env = [(false, eval b X.env)] := by rfl) : EvI X E tg (.Call (.Name "range" p) [a, b] [] pos) (mIRng2 fa) :=
  pi_imp (pi_range2 hg hm ha hs hs2) fun σ H R z18_ => by obtain ⟨m, ρ, h, hr, er, p⟩ := z18_; exact (⟨m, ρ, h, hr, er, Post.bind p fun x h1 v m1 H1 _ p1 k1 hr1 r1 q1 => by
    unfold rng2D at q1
    split at q1
    · split at q1
      · rename_i hj
        simp only [rDs, DVs, DV] at r1
        obtain ⟨v, w, rfl, rfl, v', w', rfl, rfl, rfl⟩ := r1
        exact ⟨_, _, rfl, ⟨hj.1.1, hj.1.2, hj.2.1, hj.2.2⟩, q1 _ m1 H1 (List.prefix_refl _) (.refl _) hr1 (it_rng _ _)⟩
      · exact q1.elim
    · exact q1.elim⟩)

open Classical in
noncomputable def loopM (src : Src) (items : List D) (sg : MG) (body : MS) : List D → MS
  | [] => fun ρ h => if srcOk src items h then .ok (.nx, ρ) h else .stuck
  | d :: ds => fun ρ h => if srcOk src items h then match sg d ρ with
      | none => .stuck
      | some ρ1 => (body ρ1 h).bind fun x h2 => match x with
        | (.nx, ρ2) => loopM src items sg body ds ρ2 h2
        | (.ct, ρ2) => loopM src items sg body ds ρ2 h2
        | (.bk, ρ2) => .ok (.nx, ρ2) h2
        | (.rt d, ρ2) => .ok (.rt d, ρ2) h2
    else .stuck
noncomputable def mFor (it : MI) (sg : MG) (body : MS) : MS := fun ρ h => (it ρ h).bind fun x h1 => loopM x.2 x.1 sg body x.1 ρ h1
inductive FoI (K : PySem.W.Frag) (E : XK) (Dn : Ends) (src : Src) (items : List D) (sg : MG) (g : MS) (m1 : List Addr) (H1 : Hp) (i n : Nat) (σ2 : L2.St) (H2 : Hp) : Prop where
  | mk (e : n = items.length - i) (l : i ≤ items.length) (m2 : List Addr) (ρ2 : Rho) (h2 : HD) (p : m1 <+: m2) (k : Kp H1 H2) (hr : HR K m2 h2 H2) (er : ER K m2 H2 ρ2 σ2) (q : PostS K m2 H2 E Dn (loopM src items sg g (items.drop i) ρ2 h2)) : FoI K E Dn src items sg g m1 H1 i n σ2 H2
inductive FoJ (K : PySem.W.Frag) (E : XK) (Dn : Ends) (src : Src) (items : List D) (sg : MG) (g : MS) (m1 : List Addr) (H1 : Hp) (i : Nat) (σ2 : L2.St) (H2 : Hp) : Prop where
  | mk (m2 : List Addr) (ρ2 : Rho) (h2 : HD) (p : m1 <+: m2) (k : Kp H1 H2) (hr : HR K m2 h2 H2) (er : ER K m2 H2 ρ2 σ2) (q : PostS K m2 H2 E Dn (loopM src items sg g (items.drop i) ρ2 h2)) : FoJ K E Dn src items sg g m1 H1 i σ2 H2
theorem ex_for {tg iter : Expr} {body : List Stmt} {it : MI} {sg : MG} {g : MS} (hp : PassesOwn (model X.prog X.w) X.A X.env X.xe) (hc : X.calm = true) (hi : EvI X E tg iter it) (hg : EvG X tg sg) (hb : Exs X E body g)
    (hs : ∀ x, foldedSetIterable iter X.env x = pure x := by intro _; rfl) : Ex X E (.For tg iter body [] pos) (mFor it sg g) := by
  obtain ⟨gg, hg, ig⟩ := hg
  refine ps_imp (ps_for hp hc hi hg hb hs) ?_
  rintro Dn σ H ⟨m, ρ, h, hr, er, p⟩
  refine ⟨m, ρ, h, hr, er, PostS.bind p fun x h1 J m1 H1 _ p1 k1 hr1 r1 q1 => ?_⟩
  obtain ⟨items, src⟩ := x
  refine ⟨FoI X.K E Dn src items sg g m1 H1, ⟨items.length, rfl, Nat.zero_le _, m1, ρ, h1, List.prefix_refl _, .refl _, hr1, er.keep p1 k1, by simpa using q1⟩, ?_⟩
  rintro i n σ2 H2 ⟨rfl, hi, m2, ρ2, h2, p2, k2, hr2, er2, q2⟩
  by_cases hlt : i < items.length
  · rw [List.drop_eq_getElem_cons hlt] at q2
    unfold loopM at q2
    split at q2
    · rename_i hs
      obtain ⟨hgo, hy⟩ := (r1 i m2 h2 H2 p2 k2 hr2 hs).1 hlt
      refine .inr ⟨hgo, FoJ X.K E Dn src items sg g m1 H1 (i + 1), fun σ5 H5 z20_ => by obtain ⟨m5, ρ5, h5, a1, a2, a3, a4, a5⟩ := z20_; exact (⟨items.length - (i + 1), by (first | lia | omega), rfl, hlt, m5, ρ5, h5, a1, a2, a3, a4, a5⟩), fun y H3 hyl => ?_⟩
      obtain ⟨k3, hr3, d, ed, rd⟩ := hy y H3 hyl
      have ed' : d = items[i] := by rw [List.getElem?_eq_getElem hlt] at ed; exact (Option.some.inj ed).symm
      subst ed'
      split at q2
      · exact q2.elim
      · rename_i ρ3 es
        refine ig m2 H3 _ y ρ2 σ2 ρ3 _ rd (er2.keep (List.prefix_refl _) k3) es fun σ4 er4 => ?_
        refine ⟨m2, ρ3, h2, hr3, er4, ?_⟩
        have q3 := PostS.ahead (List.prefix_refl _) k3 q2
        cases o : g ρ3 h2 with
        | stuck => rw [o] at q3; exact q3
        | err C fs h5 => rw [o] at q3; exact q3
        | ok z h5 =>
          rw [o] at q3
          obtain ⟨fl, ρ5⟩ := z
          intro m5 H5 p5 k5 hr5
          have pk : m1 <+: m5 := p2.trans p5
          have kk : Kp H1 H5 := (k2.trans k3).trans k5
          cases fl with
          | nx => exact fun σ5 er5 => ⟨m5, ρ5, h5, pk, kk, hr5, er5, PostS.ahead p5 k5 q3⟩
          | ct => exact fun σ5 er5 => ⟨m5, ρ5, h5, pk, kk, hr5, er5, PostS.ahead p5 k5 q3⟩
          | bk => exact fun σ5 er5 => q3 m5 H5 p5 k5 hr5 σ5 er5
          | rt d => exact fun v rv => q3 m5 H5 p5 k5 hr5 v rv
    · exact q2.elim
  · have he : i = items.length := Nat.le_antisymm hi (Nat.le_of_not_lt hlt)
    subst he
    rw [List.drop_length] at q2
    unfold loopM at q2
    split at q2
    · rename_i hs
      exact .inl ⟨(r1 _ m2 h2 H2 p2 k2 hr2 hs).2 rfl, (q2.here hr2) σ2 er2⟩
    · exact q2.elim
end
end LS


namespace LS
open PySem PySem.Spec PyProof.Rows L2

section
variable {M : Model} {A : Around} {E : Value → Shared → Prop} {s : Shared}
/-- the free names' cells -/
theorem closure_loop {env : Env} : ∀ (names : List (Str × NameKind)) (acc : List (Str × Addr)), (∀ y ∈ names, y.2 = .free → ∃ c, env.cells.lookup y.1 = some c) →
    ∃ cl : List (Str × Addr), (forIn names acc (fun (x : Str × NameKind) (cs : List (Str × Addr)) => match x with
      | (name, kind) => if (kind == NameKind.free) = true then do let y ← cellOf env name; pure (ForInStep.yield ((name, y) :: cs)) else pure (ForInStep.yield cs)) : Sem (List (Str × Addr))) = pure cl ∧
      (∀ x c, (x, c) ∈ cl → (x, c) ∈ acc ∨ (env.cells.lookup x = some c ∧ (x, NameKind.free) ∈ names)) ∧ (∀ y ∈ names, y.2 = .free → ∃ c, (y.1, c) ∈ cl) ∧ (∀ p ∈ acc, p ∈ cl)
  | [], acc, _ => ⟨acc, rfl, fun x c h => .inl h, fun y hy => absurd hy (by simp), fun p h => h⟩
  | (name, kind) :: r, acc, h => by
    rw [List.forIn_cons]
    by_cases hk : kind = .free
    · subst hk
      obtain ⟨c, hc⟩ := h (name, .free) List.mem_cons_self rfl
      obtain ⟨cl, e, h1, h2, h3⟩ := closure_loop (env := env) r ((name, c) :: acc) (fun y hy => h y (List.mem_cons_of_mem _ hy))
      refine ⟨cl, ?_, fun x c' hm => ?_, fun y hy hf => ?_, fun p hp => h3 p (List.mem_cons_of_mem _ hp)⟩
      · rw [← e]
        have : cellOf env name = pure c := by unfold cellOf; rw [hc]
        simp only [this, beq_self_eq_true, if_true, pure_bind]
      · rcases h1 x c' hm with q | ⟨q1, q2⟩
        · rcases List.mem_cons.mp q with q | q
          · cases q; exact .inr ⟨hc, List.mem_cons_self⟩
          · exact .inl q
        · exact .inr ⟨q1, List.mem_cons_of_mem _ q2⟩
      · rcases List.mem_cons.mp hy with q | q
        · subst q; exact ⟨c, h3 _ List.mem_cons_self⟩
        · exact h2 y q hf
    · obtain ⟨cl, e, h1, h2, h3⟩ := closure_loop (env := env) r acc (fun y hy => h y (List.mem_cons_of_mem _ hy))
      refine ⟨cl, ?_, fun x c' hm => ?_, fun y hy hf => ?_, h3⟩
      · rw [← e]
        have hk' : (kind == NameKind.free) = false := by simpa using hk
        simp only [hk', Bool.false_eq_true, if_false, pure_bind]
      · rcases h1 x c' hm with q | ⟨q1, q2⟩
        · exact .inl q
        · exact .inr ⟨q1, List.mem_cons_of_mem _ q2⟩
      · rcases List.mem_cons.mp hy with q | q
        · subst q; exact absurd hf hk
        · exact h2 y q hf
theorem closureFor_some {scope : Scope} {env : Env} (h : ∀ y ∈ scope.names, y.2 = .free → ∃ c, env.cells.lookup y.1 = some c) :
    ∃ cl : List (Str × Addr), closureFor scope env = pure cl ∧ (∀ x c, (x, c) ∈ cl → env.cells.lookup x = some c ∧ (x, NameKind.free) ∈ scope.names) ∧ (∀ y ∈ scope.names, y.2 = .free → ∃ c, (y.1, c) ∈ cl) := by
  obtain ⟨cl, e, h1, h2, h3⟩ := closure_loop (env := env) scope.names [] h
  refine ⟨cl, ?_, fun x c hm => ?_, h2⟩
  · unfold closureFor
    simp only [bind_pure]
    exact e
  · rcases h1 x c hm with q | q
    · exact nomatch q
    · exact q
theorem newEnv_comp {scope : Scope} {globals : Addr} {cl : List (Str × Addr)} {qual : Str} {around : Env} {Q : Env → Shared → Prop}
    (h : Q (newEnv scope s.heap.objs.size globals (cellsFrom (s.heap.objs.size + 1) scope.names cl) qual none .none (some around) builtinsNs) { s with heap := pushCells (s.heap.push { cls := .type "dict", data := .dict #[] }) scope.names }) :
    wpAny M A (newFunctionEnv scope globals cl [] qual none .none (some around)) Q E s := by
  simp only [newFunctionEnv, Option.isSome_some, if_true]
  refine wpAny_bind (wpAny_alloc ?_)
  refine wpAny_bind (wpAny_layCells _ (fun name kind cells => by cases hkc : kind == NameKind.cell <;> simp [hkc]) _ _ _ _ ?_)
  simp only [List.forIn_nil, pure_bind]
  refine wpAny_pure ?_
  rw [show ({ s with heap := s.heap.push { cls := .type "dict", data := .dict #[] } } : Shared).heap.objs.size = s.heap.objs.size + 1 from Heap.size_push ..]
  exact h
end
section
variable {prog : Program} {w : World} {A : Around} {R : Result → Shared → Prop} {s : Shared}
theorem compLoop_go {elt target iter : Expr} {ifs : List Expr} {scope : Scope} {pos : Pos} {it acc : Value} {env : Env} (I : Nat → Shared → Prop)
    (turn : ∀ n s, I n s → wpAny (model prog w) A (pyNext it) (fun r s₁ => match r with
      | none => R (.ok .next) s₁
      | some v => wpAny (model prog w) A (letOwnedTupleGo target it v) (fun _ s₁' => wpAny (model prog w) A (assign target env v) (fun _ s₂ =>
          wpAny (model prog w) A (forIn ifs true fun c r => if r = true then do let ok ← isTrue c env (eval c env); pure (ForInStep.yield ok) else pure (ForInStep.yield r)) (fun ok s₃ =>
            if ok = true then wpAny (model prog w) A (eval elt env) (fun x s₄ =>
              wpAny (model prog w) A (call (.builtin "list.append") [acc, x]) (fun _ s₅ => ∃ m, m < n ∧ I m s₅) (notedBy (model prog w) A env fun e s' => R (.error e) s') s₄) (notedBy (model prog w) A env fun e s' => R (.error e) s') s₃
            else ∃ m, m < n ∧ I m s₃) (notedBy (model prog w) A env fun e s' => R (.error e) s') s₂) (notedBy (model prog w) A env fun e s' => R (.error e) s') s₁') (notedBy (model prog w) A env fun e s' => R (.error e) s') s₁) (notedBy (model prog w) A env fun e s' => R (.error e) s') s)
    (n : Nat) (h : I n s) :
    codeAny (model prog w) A (.compLoop (.ListComp elt [⟨target, iter, ifs, 0⟩] scope pos) 0 it acc env) R s := by
  refine codeAny_loop rfl I (fun n s hI => ?_) n h
  show wpAny _ A ((compTurn (.ListComp elt [⟨target, iter, ifs, 0⟩] scope pos) 0 it acc env).onRaise (fun x => do noteFrame x env; theTreesLotGoes x)) _ _ s
  refine wpAny_noted ?_
  rw [compTurn_list]
  refine wpAny_bind (wpAny_standAt (wpAny_bind (wpAny_mono (turn n s hI) (fun r s₁ h₁ => ?_) fun _ _ h' => h')))
  cases r with
  | none => exact wpAny_pure h₁
  | some v =>
    refine wpAny_bind (wpAny_mono h₁ (fun _ s₁' h₁' => ?_) fun _ _ h' => h')
    refine wpAny_bind (wpAny_mono h₁' (fun _ s₂ h₂ => wpAny_bind (wpAny_mono h₂ (fun ok s₃ h₃ => ?_) fun _ _ h' => h')) fun _ _ h' => h')
    cases ok with
    | false => exact wpAny_pure ⟨rfl, h₃⟩
    | true =>
      exact wpAny_bind (wpAny_bind (wpAny_mono h₃ (fun x s₄ h₄ => wpAny_bind (wpAny_mono h₄ (fun _ s₅ h₅ => wpAny_pure (wpAny_pure ⟨rfl, h₅⟩)) fun _ _ h' => h')) fun _ _ h' => h'))
end
/-- the tests -/
noncomputable def PTs (X : Cx) (ifs : List Expr) (t : TT) : Prop := ∀ (pins : List (Addr × Obj)) (s : Shared) (σ : L2.St) (H : Hp) (Q : Bool → Hp → Prop), Inv X pins σ H s → t σ H Q →
  wpAny (model X.prog X.w) X.A (forIn ifs true fun c r => if r = true then do let ok ← isTrue c X.env (eval c X.env); pure (ForInStep.yield ok) else pure (ForInStep.yield r)) (TP X pins σ Q) X.xe s
theorem pts_nil {X : Cx} : PTs X [] (fun _ H Q => Q true H) := fun _ _ _ H _ I h => wpAny_tests_nil ⟨H, I, h⟩
theorem pts_one {X : Cx} {c : Expr} {t : TT} (h : PT X c t) : PTs X [c] t := fun pins s σ H Q I q => wpAny_tests_one (h pins s σ H Q I q)

noncomputable def cEnv (env : Env) (scope : Scope) (C : Addr) (cells : List (Str × Addr)) : Env :=
  { scope := relabel scope env, locals := C, globals := env.globals, cells := cells, qual := env.qual, func := none, code := env.code, frame := env.frame, builtins := env.builtins }
noncomputable def cCx (X : Cx) (Nc : List Str) (scope : Scope) (C D : Addr) (cells : List (Str × Addr)) (fp : List Addr) (s₀ : Shared) (H₀ : Hp) (pins : List (Addr × Obj)) : Cx :=
  { X with N := Nc, s₀ := s₀, H₀ := H₀, env := cEnv X.env scope C cells, outer := X.stack, stack := X.stack, ex := D :: fp, fn := fun x => scope.names.lookup x == some .cell, pn := X.pn ++ pins, xe := fun _ _ => False }
noncomputable def cSt (cs : List (Option Nat)) (σ : L2.St) : L2.St := cs.map fun o => o.bind fun j => (σ[j]?).join
noncomputable def Sub (σ σ' : L2.St) : Prop := σ.length = σ'.length ∧ ∀ (i : Nat) v, σ[i]? = some (some v) → σ'[i]? = some (some v)
noncomputable def tComp (cs : List (Option Nat)) (wi : TI) (g : TG) (tc : TT) (te : TE) : TE := fun σ H Q => wi σ H fun J H1 => ∃ W : Nat → Nat → List V → Hp → Prop, (∃ n, W 0 n [] H1) ∧ ∀ i n acc H, W i n acc H →
  (J.stop i H ∧ acc.length ≤ sizeLine ∧ ∀ p, H p = none → Q (.ref p) (upd H p (.lst acc))) ∨
  (J.go i H ∧ acc.length < sizeLine ∧ ∀ x H', J.yld i H x H' → g x (cSt cs σ) H' fun σ2 H2 => Sub (cSt cs σ) σ2 ∧ tc σ2 H2 fun b H3 => if b = true then te σ2 H3 fun y H4 => ∃ n', n' < n ∧ W (i + 1) n' (acc ++ [y]) H4 else ∃ n', n' < n ∧ W (i + 1) n' acc H3)
end LS


namespace LS
open PySem PySem.Spec PyProof.Rows L2

theorem cells_mem : ∀ (names : List (Str × NameKind)) (h : Heap) (acc : List (Str × Addr)) (x : Str) (c : Addr), (x, c) ∈ cellsFrom h.objs.size names acc → (x, c) ∈ acc ∨ (h.objs.size ≤ c ∧ (x, NameKind.cell) ∈ names ∧ (pushCells h names).IsCell c none)
  | [], _, _, _, _, m => .inl m
  | (name, kind) :: r, h, acc, x, c, m => by
    unfold cellsFrom at m
    unfold pushCells
    split at m
    · rename_i hk
      rw [if_pos hk]
      have hk' : kind = .cell := by simpa using hk
      have e : h.objs.size + 1 = (h.push { cls := .type "cell", data := .cell none }).objs.size := (Heap.size_push ..).symm
      rw [e] at m
      rcases cells_mem r _ _ x c m with q | ⟨q1, q2, q3⟩
      · rcases List.mem_cons.mp q with q | q
        · cases q
          refine .inr ⟨Nat.le_refl _, by rw [hk']; exact List.mem_cons_self, ?_⟩
          exact (show (h.push { cls := .type "cell", data := .cell none }).IsCell h.objs.size none from ⟨_, Heap.get?_push_size _ rfl, rfl⟩).keeps fun b o e => pushCells_keeps _ _ b o e
        · exact .inl q
      · exact .inr ⟨by rw [← e] at q1; exact Nat.le_of_succ_le q1, List.mem_cons_of_mem _ q2, q3⟩
    · rename_i hk
      rw [if_neg hk]
      rcases cells_mem r h acc x c m with q | ⟨q1, q2, q3⟩
      · exact .inl q
      · exact .inr ⟨q1, List.mem_cons_of_mem _ q2, q3⟩
theorem cells_inj : ∀ (names : List (Str × NameKind)) (h : Heap) (acc : List (Str × Addr)), (∀ x c, (x, c) ∈ acc → c < h.objs.size) → (∀ x y c, (x, c) ∈ acc → (y, c) ∈ acc → x = y) →
    ∀ x y c, (x, c) ∈ cellsFrom h.objs.size names acc → (y, c) ∈ cellsFrom h.objs.size names acc → x = y
  | [], _, _, _, i => i
  | (name, kind) :: r, h, acc, lt, i => by
    unfold cellsFrom
    split
    · have e : h.objs.size + 1 = (h.push { cls := .type "cell", data := .cell none }).objs.size := (Heap.size_push ..).symm
      rw [e]
      refine cells_inj r _ _ (fun x c m => ?_) (fun x y c m m' => ?_)
      · rw [← e]
        rcases List.mem_cons.mp m with q | q
        · cases q; exact Nat.lt_succ_self _
        · exact Nat.lt_succ_of_lt (lt x c q)
      · rcases List.mem_cons.mp m with q | q <;> rcases List.mem_cons.mp m' with q' | q'
        · cases q; cases q'; rfl
        · cases q; exact absurd (lt y _ q') (Nat.lt_irrefl _)
        · cases q'; exact absurd (lt x _ q) (Nat.lt_irrefl _)
        · exact i x y c q q'
    · exact cells_inj r h acc lt i
theorem lookup_mem {α : Type} {l : List (Str × α)} {x : Str} {k : α} (nd : (l.map (·.1)).Nodup) (h : (x, k) ∈ l) : l.lookup x = some k := by
  induction l with
  | nil => cases h
  | cons p r ih =>
    obtain ⟨y, j⟩ := p
    rw [List.map_cons, List.nodup_cons] at nd
    rw [List.lookup_cons]
    rcases List.mem_cons.mp h with e | e
    · cases e; simp
    · have : x ≠ y := by
        rintro rfl
        exact nd.1 (List.mem_map.mpr ⟨(x, k), e, rfl⟩)
      have hb : (x == y) = false := by simpa using this
      rw [hb]
      exact ih nd.2 e
theorem relabel_one {env : Env} {x n : Str} {j : NameKind} {r : List (Str × NameKind)} {k : NameKind} (h : List.lookup x ((if (j == NameKind.free && env.scope.kind == .function && env.kindOf n == some .cell) = true then (n, NameKind.cell) else (n, j)) :: r) = some k) :
    (x = n ∧ (k = j ∨ (j = .free ∧ k = .cell))) ∨ (x ≠ n ∧ List.lookup x r = some k) := by
  by_cases hx : x = n
  · subst hx
    refine .inl ⟨rfl, ?_⟩
    split at h
    · rename_i hc
      rw [List.lookup_cons] at h
      simp only [beq_self_eq_true] at h
      cases h
      simp only [Bool.and_eq_true] at hc
      exact .inr ⟨by simpa using hc.1.1, rfl⟩
    · rw [List.lookup_cons] at h
      simp only [beq_self_eq_true] at h
      cases h
      exact .inl rfl
  · have hb : (x == n) = false := by simpa using hx
    refine .inr ⟨hx, ?_⟩
    split at h <;> (rw [List.lookup_cons] at h; simp only [hb] at h; exact h)
theorem relabel_look {scope : Scope} {env : Env} {x : Str} {k : NameKind} : (relabel scope env).names.lookup x = some k → ∃ k0, scope.names.lookup x = some k0 ∧ (k = k0 ∨ (k0 = .free ∧ k = .cell)) := by
  show (scope.names.map _).lookup x = some k → _
  induction scope.names with
  | nil => intro h; cases h
  | cons p r ih =>
    obtain ⟨n, j⟩ := p
    intro h
    rw [List.map_cons] at h
    rw [List.lookup_cons]
    rcases relabel_one h with ⟨hx, hk⟩ | ⟨hx, hr⟩
    · subst hx
      simp only [beq_self_eq_true]
      exact ⟨j, rfl, hk⟩
    · have hb : (x == n) = false := by simpa using hx
      rw [hb]
      exact ih hr

structure CScope (X : Cx) (scope : Scope) (Nc : List Str) (cs : List (Option Nat)) : Prop where
  kind : scope.kind = .function
  loc : ∀ y ∈ scope.names, y.2 = .local → scope.names.lookup y.1 = some .local
  free : ∀ y ∈ scope.names, y.2 = .free → X.env.kindOf y.1 = some .cell ∨ X.env.kindOf y.1 = some .free
  nd : (scope.names.map (·.1)).Nodup
  len : cs.length = Nc.length
  out : ∀ (i : Nat) (x : Str) (j : Nat), Nc[i]? = some x → cs[i]? = some (some j) → X.N[j]? = some x ∧ scope.names.lookup x = some .free

theorem nlt {a b : Addr} (h : a < b) : @LT.lt Nat instLTNat a b := h
theorem nne {a b : Addr} (h : @LT.lt Nat instLTNat a b) : a ≠ b := Nat.ne_of_lt h
theorem nne' {a b : Addr} (h : @LT.lt Nat instLTNat a b) : b ≠ a := Ne.symm (Nat.ne_of_lt h)
section
variable {X : Cx} {pins : List (Addr × Obj)} {σ : L2.St} {H : Hp} {s : Shared}
/-- the state at a block's start -/
theorem inv_block {scope : Scope} {Nc : List Str} {cs : List (Option Nat)} {fp : List Addr} {cl : List (Str × Addr)} (S : CScope X scope Nc cs) (I : Inv X pins σ H s) (f : ∀ b ∈ fp, FpOk X pins H b) (ob : ∀ b ∈ fp, ∃ o, s.heap.get? b = some o)
    (hcl : ∀ x c, (x, c) ∈ cl → X.env.cells.lookup x = some c ∧ (x, NameKind.free) ∈ scope.names) (hcl2 : ∀ y ∈ scope.names, y.2 = .free → ∃ c, (y.1, c) ∈ cl) {s3 : Shared} (e3 : s3 = { s with heap := s.heap.push { cls := .type "list", data := .seq ([] : List Value).toArray } }) :
    Inv (cCx X Nc scope s3.heap.objs.size s.heap.objs.size (cellsFrom (s3.heap.objs.size + 1) scope.names cl) fp s3 H pins) [] (cSt cs σ) H
      { s3 with heap := pushCells (s3.heap.push { cls := .type "dict", data := .dict #[] }) scope.names } := by
  have k3 : ∀ b o, s.heap.get? b = some o → s3.heap.get? b = some o := fun b o e => by subst e3; exact Heap.get?_push_of_some _ e
  have sz3 : s3.heap.objs.size = s.heap.objs.size + 1 := by subst e3; exact Heap.size_push ..
  have szd : (s3.heap.push { cls := .type "dict", data := .dict #[] }).objs.size = s3.heap.objs.size + 1 := Heap.size_push ..
  have k34 : ∀ b o, s3.heap.get? b = some o → (pushCells (s3.heap.push { cls := .type "dict", data := .dict #[] }) scope.names).get? b = some o := fun b o e => pushCells_keeps _ _ b o (Heap.get?_push_of_some _ e)
  have k4 : ∀ b o, s.heap.get? b = some o → (pushCells (s3.heap.push { cls := .type "dict", data := .dict #[] }) scope.names).get? b = some o := fun b o e => k34 b o (k3 b o e)
  have cllt : ∀ x c, (x, c) ∈ cl → c < s.heap.objs.size := fun x c m => by
    obtain ⟨v, q⟩ := I.cell x c (hcl x c m).1
    exact q.lt
  have cm : ∀ x c, (cellsFrom (s3.heap.objs.size + 1) scope.names cl).lookup x = some c → (x, c) ∈ cl ∨ (s3.heap.objs.size + 1 ≤ c ∧ (x, NameKind.cell) ∈ scope.names ∧ (pushCells (s3.heap.push { cls := .type "dict", data := .dict #[] }) scope.names).IsCell c none) := fun x c e => by
    have m := mem_of_lookup e
    rw [← szd] at m
    have := cells_mem scope.names _ cl x c m
    rw [szd] at this
    exact this
  have frs_lt : ∀ b ∈ frs X.stack, b < s.heap.objs.size := fun b hb => by
    obtain ⟨_, o, ho, _⟩ := I.stack.mem hb
    exact Heap.lt_size ho
  have nfs : ∀ b, b ≠ X.env.locals → b ∉ X.fs → b ∉ frs X.stack := fun b h1 h2 hb => by
    rcases List.mem_cons.mp (I.stkSub b hb) with q | q
    · exact h1 q
    · exact h2 q
  have ok : (cCx X Nc scope s3.heap.objs.size s.heap.objs.size (cellsFrom (s3.heap.objs.size + 1) scope.names cl) fp s3 H pins).Ok := by
    refine ⟨I.ok.mod, S.kind, I.ok.glob, I.ok.blt, Nat.le_refl _, fun x y c e1 e2 => ?_, fun x hx => ?_, fun x c hf e => ?_, I.ok.hd, I.ok.frames, .inl rfl, fun b hb => ?_, fun b o e => ?_, ?_, fun b o e hb => ?_, fun b hb => ?_, ?_, I.stkFree⟩
    · have m1 := mem_of_lookup e1
      have m2 := mem_of_lookup e2
      have m1' : (x, c) ∈ cellsFrom (s3.heap.push { cls := .type "dict", data := .dict #[] }).objs.size scope.names cl := by rw [szd]; exact m1
      have m2' : (y, c) ∈ cellsFrom (s3.heap.push { cls := .type "dict", data := .dict #[] }).objs.size scope.names cl := by rw [szd]; exact m2
      exact cells_inj scope.names (s3.heap.push { cls := .type "dict", data := .dict #[] }) cl (fun x c m => by rw [szd, sz3]; exact Nat.lt_of_lt_of_le (cllt x c m) (by (first | lia | omega)))
        (fun x y c a b => I.ok.inj x y c (hcl x c a).1 (hcl y c b).1) x y c m1' m2'
    · have : ∃ k, (relabel scope X.env).names.lookup x = some k ∧ (k = .cell ∨ k = .free) := by
        rcases hx with q | q
        · exact ⟨_, q, .inl rfl⟩
        · exact ⟨_, q, .inr rfl⟩
      obtain ⟨k, e1, hk⟩ := this
      obtain ⟨k0, e0, hk0⟩ := relabel_look e1
      refine Option.isSome_iff_exists.mp (PySem.W.cellsFrom_some _ _ _ ?_)
      have : k0 = .cell ∨ k0 = .free := by
        rcases hk0 with q | ⟨q, _⟩
        · rw [← q]; exact hk
        · exact .inr q
      rcases this with q | q
      · subst q; exact .inl e0
      · subst q
        obtain ⟨c, hc⟩ := hcl2 _ (mem_of_lookup e0) rfl
        refine .inr ?_
        cases hl : cl.lookup x with
        | some c' => rfl
        | none =>
          exfalso
          have : ∀ p ∈ cl, p.1 ≠ x := fun p hp e => by
            have h2 := List.lookup_eq_none_iff.mp hl p hp
            rw [e] at h2
            simp at h2
          exact this _ hc rfl
    · have hk : scope.names.lookup x = some .cell := by
        have : (scope.names.lookup x == some NameKind.cell) = true := hf
        simpa using this
      rcases cm x c e with q | ⟨q1, _, _⟩
      · have := lookup_mem S.nd (hcl x c q).2
        rw [hk] at this
        cases this
      · exact Nat.le_of_succ_le q1
    · rcases List.mem_cons.mp hb with q | q
      · subst q
        refine ⟨nne (show _ < s3.heap.objs.size by (first | lia | omega)), fun x c e => ?_⟩
        rcases cm x c e with q | ⟨q1, _, _⟩
        · exact Nat.ne_of_lt (cllt x c q)
        · exact nne' (Nat.lt_of_lt_of_le (by (first | lia | omega)) q1)
      · obtain ⟨o, ho⟩ := ob b q
        have hlt := nlt (Heap.lt_size ho)
        refine ⟨nne (show _ < s3.heap.objs.size by (first | lia | omega)), fun x c e => ?_⟩
        rcases cm x c e with q2 | ⟨q1, _, _⟩
        · exact (f b q).2.2.2.2.1 x c (hcl x c q2).1
        · exact nne' (Nat.lt_of_lt_of_le (by (first | lia | omega)) q1)
    · obtain ⟨h1, h2⟩ := I.bs b o e
      exact ⟨k3 b o h1, h2⟩
    · show X.base.objs.size ≤ s3.heap.objs.size
      have := Nat.le_trans I.ok.bsz I.sz
      (first | lia | omega)
    · obtain ⟨h1, h2⟩ := I.bs b o e
      rcases List.mem_cons.mp hb with q | q
      · exact absurd q (nne (Heap.lt_size h1))
      · rcases (f b q).2.2.2.1 with z | z
        · exact I.ok.noex b o e z
        · exact absurd (Nat.lt_of_lt_of_le (Heap.lt_size (I.ok.bs b o e).1) z) (Nat.lt_irrefl _)
    · rcases List.mem_cons.mp hb with q | q
      · subst q
        intro z
        exact absurd (frs_lt _ z) (Nat.lt_irrefl _)
      · exact nfs b (f b q).2.1 (f b q).2.2.1
    · exact I.stack.of_keeps fun b o e _ => ⟨o, k3 b o e, rfl⟩
  refine ⟨ok, rfl, ?_, ?_, ?_, fun x c e => ?_, ?_, fun x c e => ?_, fun p hp => ?_, I.hok.kept k4, ?_⟩
  · show AllBare s3.gens
    subst e3; exact I.bare
  · exact Un.kept k34
  · refine ⟨fun _ => none, (Heap.Ns.new s3.heap (.type "dict")).keeps (pushCells_keeps _ _), fun i x v e1 e2 e3' => ?_⟩
    unfold cSt at e2
    rw [List.getElem?_map] at e2
    cases ec : cs[i]? with
    | none => rw [ec] at e2; cases e2
    | some o =>
      rw [ec] at e2
      cases o with
      | none => cases e2
      | some j =>
        simp only [Option.map_some, Option.bind_some, Option.some.injEq] at e2
        have e2' : σ[j]? = some (some v) := by
          cases ej : σ[j]? with
          | none => rw [ej] at e2; cases e2
          | some w => rw [ej] at e2; simp at e2; rw [e2]
        obtain ⟨hN, hfr⟩ := S.out i x j e1 ec
        have hfm := mem_of_lookup hfr
        have hkind := S.free _ hfm rfl
        obtain ⟨m, hn, hl⟩ := I.loc
        obtain ⟨u, r, look⟩ := hl j x v hN e2' (by
          rcases hkind with q | q
          · exact .inr (.inl q)
          · exact .inr (.inr q))
        refine ⟨u, r, .inr ?_⟩
        rcases look with ⟨q, _⟩ | ⟨_, c, ec', hc⟩
        · rcases hkind with z | z <;> (rw [q] at z; cases z)
        · obtain ⟨c', hc'⟩ := hcl2 _ hfm rfl
          have hv : (cCx X Nc scope s3.heap.objs.size s.heap.objs.size (cellsFrom (s3.heap.objs.size + 1) scope.names cl) fp s3 H pins).env.kindOf x = some .cell ∨ (cCx X Nc scope s3.heap.objs.size s.heap.objs.size (cellsFrom (s3.heap.objs.size + 1) scope.names cl) fp s3 H pins).env.kindOf x = some .free := by
            rcases e3' with z | z | z
            · obtain ⟨k0, a1, a2⟩ := relabel_look z
              rw [hfr] at a1
              cases a1
              rcases a2 with a2 | ⟨_, a2⟩ <;> cases a2
            · exact .inl z
            · exact .inr z
          refine ⟨hv, c, ?_, hc.keeps k4⟩
          obtain ⟨c2, h2⟩ := ok.has x hv
          rw [h2]
          rcases cm x c2 h2 with q | ⟨_, q, _⟩
          · rw [← ec', (hcl x c2 q).1]
          · have := lookup_mem S.nd q
            rw [hfr] at this
            cases this
  · rcases cm x c e with q | ⟨_, _, q⟩
    · obtain ⟨v, z⟩ := I.cell x c (hcl x c q).1
      exact ⟨v, z.keeps k4⟩
    · exact ⟨none, q⟩
  · exact I.hok.fresh (show s.heap.objs.size ≤ s3.heap.objs.size by (first | lia | omega))
  · rcases cm x c e with q | ⟨q, _, _⟩
    · exact I.freeC x c (hcl x c q).1
    · exact I.hok.fresh (by (first | lia | omega))
  · have hp' : p ∈ X.pn ++ pins := by
      rcases List.mem_append.mp hp with q | q
      · exact q
      · exact absurd q (by simp)
    obtain ⟨a1, a2, a3, a4, a5⟩ := I.pin p hp'
    refine ⟨k4 _ _ a1, a2, ?_, nfs p.1 a3 a4, a5⟩
    show p.1 ≠ s3.heap.objs.size
    exact nne (Nat.lt_of_lt_of_le (Heap.lt_size a1) (by (first | lia | omega)))
  · show (cSt cs σ).length = Nc.length
    simp [cSt, S.len]
end
end LS

namespace LS
open PySem PySem.Spec PyProof.Rows L2

section
variable {X : Cx} {elt tg iter : Expr} {ifs : List Expr} {scope : Scope} {pos : Pos} {Nc : List Str} {cs : List (Option Nat)} {wi : TI} {g : TG} {tc : TT} {te : TE}
/-- behind the block -/
theorem block_inv {pins : List (Addr × Obj)} {σ : L2.St} {H H' : Hp} {s s3 s' : Shared} {fp : List Addr} {C : Addr} {cells : List (Str × Addr)} {po : List (Addr × Obj)} {σc : L2.St} {acc : List V} {its : List Value} {n : Nat}
    (I : Inv X pins σ H s) (f : ∀ b ∈ fp, FpOk X pins H b) (e3 : s3 = { s with heap := s.heap.push { cls := .type "list", data := .seq ([] : List Value).toArray } }) (hC : C = s3.heap.objs.size)
    (I' : Inv (cCx X Nc scope C s.heap.objs.size cells fp s3 H pins) po σc H' s') (hD : H' s.heap.objs.size = none) (hl : acc.length ≤ sizeLine) (rv : Vals acc its) (ho : s'.heap.get? s.heap.objs.size = some { cls := .type "list", data := .seq its.toArray n })
    {h' : Heap} (sb : Heap.SameBut C s'.heap h') : Inv X pins σ (upd H' s.heap.objs.size (.lst acc)) { s' with heap := h' } := by
  have k3 : ∀ b o, s.heap.get? b = some o → s3.heap.get? b = some o := fun b o e => by subst e3; exact Heap.get?_push_of_some _ e
  have sz3 : s3.heap.objs.size = s.heap.objs.size + 1 := by subst e3; exact Heap.size_push ..
  have neD : ∀ b o, s.heap.get? b = some o → b ≠ s.heap.objs.size := fun b o e => nne (Heap.lt_size e)
  have neC : ∀ b o, s.heap.get? b = some o → b ≠ C := fun b o e => by rw [hC]; exact nne (Nat.lt_of_lt_of_le (Heap.lt_size e) (by (first | lia | omega)))
  have DC : s.heap.objs.size ≠ C := by rw [hC]; exact nne (by (first | lia | omega))
  have U : Un (frs X.stack) (s.heap.objs.size :: fp) H H' s3.heap s'.heap := I'.base
  have exn : ∀ b o, s.heap.get? b = some o → b ∉ fp → b ∉ s.heap.objs.size :: fp := fun b o e hx hb => by
    rcases List.mem_cons.mp hb with z | z
    · exact neD b o e z
    · exact hx z
  have neT : ∀ b u, H' b = some u → b ≠ s.heap.objs.size := fun b u e => ne_of_none e hD
  have hCn : H' C = none := I'.free
  refine I.call' (s' := { s' with heap := h' }) (ch := fp) ?_ ?_ ?_ I'.bare ?_
  · show s'.os = s.os
    have := I'.os
    rw [this]
    show s3.os = s.os
    subst e3; rfl
  · refine ⟨fun b o e nn hb hx => ?_, fun b o e nn hb hx => ?_, fun b o e nn hx => ?_, fun b o e hx => ?_, fun b xs e => ?_, fun b o u e => ?_, fun b ps e => ?_⟩
    · exact (sb.2 b (neC b o e)).trans (U.keep b o (k3 b o e) nn hb (exn b o e hx))
    · obtain ⟨sl, z⟩ := U.slot b o (k3 b o e) nn hb (exn b o e hx)
      exact ⟨sl, (sb.2 b (neC b o e)).trans z⟩
    · rw [upd_ne (neD b o e)]
      exact U.free b o (k3 b o e) nn (exn b o e hx)
    · obtain ⟨o', z⟩ := U.there b o (k3 b o e) (exn b o e hx)
      exact ⟨o', (sb.2 b (neC b o e)).trans z⟩
    · have z := U.tups b xs e
      rw [upd_ne (neT b _ z)]
      exact z
    · have z := U.frzs b o u e
      rw [upd_ne (neT b _ z)]
      exact z
    · obtain ⟨more, z⟩ := U.tbls b ps e
      exact ⟨more, by rw [upd_ne (neT b _ z)]; exact z⟩
  · intro b u e
    by_cases hb : b = s.heap.objs.size
    · subst hb
      rw [upd_same] at e
      cases e
      exact ⟨hl, its, n, rv, (sb.2 _ DC).trans ho⟩
    · rw [upd_ne hb] at e
      refine (I'.hok b u e).stay (fun c v hc z => (sb.2 c ?_).trans z) (fun c z => by rw [upd_ne (neT c _ z)]; exact z) fun c xs z => by rw [upd_ne (neT c _ z)]; exact z
      rcases hc with rfl | hc
      · exact ne_of_none e hCn
      · exact ne_of_none hc hCn
  · intro b hb
    obtain ⟨_, f1, _, f3, f4, f5⟩ := f b hb
    exact ⟨f3, f1, f4, f5⟩
inductive CLI (W : Nat → Nat → List V → Hp → Prop) (Xc : Cx) (σc : L2.St) (tn : Nat → Heap → Prop) (fp : List Addr) (Da : Addr) (n : Nat) (s' : Shared) : Prop where
  | mk (i : Nat) (acc : List V) (H' : Hp) (its : List Value) (k : Nat) (w : W i n acc H') (ii : Inv Xc [] σc H' s') (st : tn i s'.heap) (fr : ∀ b ∈ fp, H' b = none) (hD : H' Da = none) (rv : Vals acc its) (ho : s'.heap.get? Da = some { cls := .type "list", data := .seq its.toArray k }) : CLI W Xc σc tn fp Da n s'
theorem comp_core {use : Option (Value → Sem Unit)} {QQ : Value → Shared → Prop} {ppos : Pos} {pins : List (Addr × Obj)} {s : Shared} {σ : L2.St} {H : Hp} {Q : VK} (hcalm : X.calm = true) (S : CScope X scope Nc cs) (hi : PI X tg iter wi)
    (hb : ∀ (C D : Addr) (cells : List (Str × Addr)) (fp : List Addr) (s₀ : Shared) (H₀ : Hp) (pins : List (Addr × Obj)), PG (cCx X Nc scope C D cells fp s₀ H₀ pins) tg g ∧ PTs (cCx X Nc scope C D cells fp s₀ H₀ pins) ifs tc ∧ PE (cCx X Nc scope C D cells fp s₀ H₀ pins) elt te)
    (hsf : ∀ x, foldedSetIterable iter X.env x = pure x) (I : Inv X pins σ H s) (h : tComp cs wi g tc te σ H Q)
    (fin : ∀ (s6 : Shared) (C D : Addr) (H7 : Hp) (m6 : Str → Option Value), s6.heap.Ns C m6 → H7 C = none → X.s₀.heap.objs.size ≤ C → C ≠ X.env.locals → (∀ x c, X.env.cells.lookup x = some c → c ≠ C) → (∀ p ∈ X.pn ++ pins, p.1 ≠ C) →
      (∀ h', Heap.SameBut C s6.heap h' → Inv X pins σ H7 { s6 with heap := h' }) → Q (.ref D) H7 → compPost (model X.prog X.w) X.A X.xe use QQ (.ref D) C (.ok .next) s6) :
    wpAny (model X.prog X.w) X.A (comprehension (.ListComp elt [⟨tg, iter, ifs, 0⟩] scope pos) scope X.env ppos (newList []) false (eval iter X.env) use) QQ X.xe s := by
  obtain ⟨cl, hclos, hcl, hcl2⟩ := closureFor_some (scope := scope) (env := X.env) fun y hy hf => I.ok.has y.1 (S.free y hy hf)
  refine wpAny_comprehension_free (use := use) rfl hsf hclos S.kind S.loc (thn (hi pins s σ H _ I h) fun xv s1 h1 => thn h1 fun itv s2 h2 => ?_)
  obtain ⟨it, fp, tn, J, H2, e, I2, T, st2, f2, W, ⟨n0, w0⟩, turn⟩ := h2
  subst e
  refine wpAny_newObj_type ?_
  generalize e3 : ({ s2 with heap := s2.heap.push { cls := .type "list", data := .seq ([] : List Value).toArray } } : Shared) = s3
  refine newEnv_comp ?_
  have ob2 : ∀ b ∈ fp, ∃ o, s2.heap.get? b = some o := fun b hb => let ⟨o, e, _⟩ := T.obj _ _ st2 b hb; ⟨o, e⟩
  have I4 := inv_block (fp := fp) (cl := cl) S I2 f2 ob2 hcl hcl2 e3.symm
  generalize e4 : ({ s3 with heap := pushCells (s3.heap.push { cls := .type "dict", data := .dict #[] }) scope.names } : Shared) = s4 at I4
  generalize ecl : cellsFrom (s3.heap.objs.size + 1) scope.names cl = cells at I4
  obtain ⟨pg, pt, pe⟩ := hb s3.heap.objs.size s2.heap.objs.size cells fp s3 H2 pins
  generalize eX : cCx X Nc scope s3.heap.objs.size s2.heap.objs.size cells fp s3 H2 pins = Xc at I4 pg pt pe
  have xP : Xc.prog = X.prog := by subst eX; rfl
  have xw : Xc.w = X.w := by subst eX; rfl
  have xK : Xc.K = X.K := by subst eX; rfl
  have xA : Xc.A = X.A := by subst eX; rfl
  have xE : Xc.env = cEnv X.env scope s3.heap.objs.size cells := by subst eX; rfl
  have xL : Xc.env.locals = s3.heap.objs.size := by subst eX; rfl
  have xe : Xc.xe = fun _ _ => False := by subst eX; rfl
  have xc : Xc.calm = true := by subst eX; exact hcalm
  have xex : Xc.ex = s2.heap.objs.size :: fp := by subst eX; rfl
  have okc := I4.ok
  have k3 : ∀ b o, s2.heap.get? b = some o → s3.heap.get? b = some o := fun b o e => by subst e3; exact Heap.get?_push_of_some _ e
  have sz3 : s3.heap.objs.size = s2.heap.objs.size + 1 := by subst e3; exact Heap.size_push ..
  have k34 : ∀ b o, s3.heap.get? b = some o → s4.heap.get? b = some o := fun b o e => by subst e4; exact pushCells_keeps _ _ b o (Heap.get?_push_of_some _ e)
  have hDC : s2.heap.objs.size ≠ Xc.env.locals := by rw [xL]; exact nne (by (first | lia | omega))
  have hDcell : ∀ x c, Xc.env.cells.lookup x = some c → c ≠ s2.heap.objs.size := fun x c e => (okc.exf _ (by rw [xex]; exact List.mem_cons_self)).2 x c e
  have hDpin : ∀ p ∈ Xc.pn, p.1 ≠ s2.heap.objs.size := fun p hp => by
    have hp' : p ∈ X.pn ++ pins := by subst eX; exact hp
    exact nne (Heap.lt_size (I2.pin p hp').1)
  have hDfp : s2.heap.objs.size ∉ fp := fun hm => by
    obtain ⟨o, e⟩ := ob2 _ hm
    exact absurd (Heap.lt_size e) (Nat.lt_irrefl _)
  have hDex : s2.heap.objs.size ∈ Xc.ex := by rw [xex]; exact List.mem_cons_self
  have hDfs : s2.heap.objs.size ∉ Xc.fs := okc.exfs _ hDex
  have fpC : ∀ {po : List (Addr × Obj)} {H' : Hp}, (∀ b ∈ fp, H' b = none) → (∀ p ∈ po, p.1 = s2.heap.objs.size) → ∀ b ∈ fp, FpOk Xc po H' b := fun {po H'} hn hp b hb => by
    have hbx : b ∈ Xc.ex := by rw [xex]; exact List.mem_cons_of_mem _ hb
    refine ⟨hn b hb, (okc.exf b hbx).1, okc.exfs b hbx, .inl hbx, (okc.exf b hbx).2, fun p hpp => ?_⟩
    rcases List.mem_append.mp hpp with z | z
    · have hp' : p ∈ X.pn ++ pins := by subst eX; exact z
      exact (f2 b hb).2.2.2.2.2 p hp'
    · rw [hp p z]
      intro e
      exact hDfp (e ▸ hb)
  -- the loop
  have loop : ∀ sx, sx = s4 → codeAny (model X.prog X.w) X.A (.compLoop (.ListComp elt [⟨tg, iter, ifs, 0⟩] scope pos) 0 (.ref it) (.ref s2.heap.objs.size) Xc.env)
      (compPost (model X.prog X.w) X.A X.xe use QQ (.ref s2.heap.objs.size) s3.heap.objs.size) sx := by
    rintro sx rfl
    refine compLoop_go (CLI W Xc (cSt cs σ) tn fp s2.heap.objs.size) ?_ n0
      ⟨0, [], H2, [], 0, w0, I4, ?_, fun b hb => (f2 b hb).1, I2.hok.fresh (Nat.le_refl _), .nil, ?_⟩
    · rintro n s5 ⟨i, acc, H5, its, k, w5, I5, st5, fr5, hD5, rv5, ho5⟩
      have pin1 : Inv Xc [(s2.heap.objs.size, { cls := .type "list", data := .seq its.toArray k })] (cSt cs σ) H5 s5 := I5.pins_of fun p hp => by
        rw [List.mem_singleton] at hp
        subst hp
        exact ⟨ho5, hD5, hDC, hDfs, fun v z => by cases z⟩
      have pone : ∀ p ∈ [((s2.heap.objs.size : Addr), ({ cls := .type "list", data := .seq its.toArray k } : Obj))], p.1 = s2.heap.objs.size := fun p hp => by
        rw [List.mem_singleton] at hp; subst hp; rfl
      rcases turn i n acc H5 w5 with ⟨stop, hlen, qn⟩ | ⟨go, hlen, step⟩
      · have z1 := T.done Xc xP xw xK xc i _ s5 (cSt cs σ) H5 (fun _ _ => False) pin1 (fpC fr5 pone) st5 stop
        rw [xA] at z1
        refine wpAny_mono z1 (fun r s6 z1_ => ?_) fun _ _ z => False.elim z
        obtain ⟨hr, I6⟩ := z1_
        subst hr
        obtain ⟨m6, hn6, _⟩ := I6.loc
        obtain ⟨ho6, hD6, _⟩ := I6.pin _ (List.mem_append_right _ List.mem_cons_self)
        rw [xL] at hn6
        have lt2 : ∀ b, b < s2.heap.objs.size → b ≠ s3.heap.objs.size := fun b hb => nne (Nat.lt_of_lt_of_le hb (by (first | lia | omega)))
        refine fin s6 s3.heap.objs.size s2.heap.objs.size (upd H5 s2.heap.objs.size (.lst acc)) m6 hn6 ?_ (Nat.le_trans I2.sz (by (first | lia | omega))) ?_ ?_ ?_ ?_ (qn _ hD6)
        · rw [upd_ne (nne' (by (first | lia | omega)))]
          have := I6.free
          rw [xL] at this
          exact this
        · obtain ⟨m2, hn2, _⟩ := I2.loc
          exact Ne.symm (lt2 _ hn2.lt)
        · intro x c hx
          obtain ⟨v, hv⟩ := I2.cell x c hx
          obtain ⟨o, ho, _⟩ := hv
          exact lt2 _ (Heap.lt_size ho)
        · intro p hp
          exact lt2 _ (Heap.lt_size (I2.pin p hp).1)
        · intro h' sb
          subst eX
          exact block_inv I2 f2 e3.symm rfl I6 hD6 hlen rv5 ho6 sb
      · have z1 := T.item Xc xP xw xK xc i _ s5 (cSt cs σ) H5 (fun _ _ => False) pin1 (fpC fr5 pone) st5 go
        rw [xA] at z1
        refine wpAny_mono z1 (fun r s6 z2_ => ?_) fun _ _ z => False.elim z
        obtain ⟨u, hr, h6⟩ := z2_
        subst hr
        refine wpAny_mono h6 (fun _ s7 z3_ => ?_) fun _ _ z => False.elim z
        obtain ⟨x, H7, I7, r7, y7, st7, fr7⟩ := z3_
        have I7' := I7.pinned (fp := fp) (fpC fr7 pone) (T.obj _ _ st7)
        have z2 := pg _ s7 (cSt cs σ) H7 x u _ I7' r7 (step x H7 y7)
        rw [xP, xw, xA, xe] at z2
        refine wpAny_mono z2 (fun _ s8 z4_ => ?_) fun _ _ z => False.elim z
        obtain ⟨σ8, H8, I8, sub8, q8⟩ := z4_
        have z3 := pt _ s8 σ8 H8 _ I8 q8
        rw [xP, xw, xA, xe] at z3
        refine wpAny_mono z3 (fun ok s9 z5_ => ?_) fun _ _ z => False.elim z
        obtain ⟨H9, I9, q9⟩ := z5_
        have back : ∀ {sy : Shared} {Hy : Hp}, Inv Xc ([(s2.heap.objs.size, { cls := .type "list", data := .seq its.toArray k })] ++ pinsAt fp s7.heap) σ8 Hy sy →
            Inv Xc [] (cSt cs σ) Hy sy ∧ tn (i + 1) sy.heap ∧ (∀ b ∈ fp, Hy b = none) ∧ Hy s2.heap.objs.size = none ∧ sy.heap.get? s2.heap.objs.size = some { cls := .type "list", data := .seq its.toArray k } := fun {sy Hy} Iy => by
          obtain ⟨ho, hD, _⟩ := Iy.pin _ (List.mem_append_right _ (List.mem_append_left _ List.mem_cons_self))
          refine ⟨(Iy.pins_of fun p hp => absurd hp (by simp)).weak (sub8.1) (fun j v z => sub8.2 j v z), T.keep _ _ _ st7 fun b hb o e => (Iy.pin (b, o) (List.mem_append_right _ (List.mem_append_right _ (mem_pinsAt hb e)))).1, fun b hb => ?_, hD, ho⟩
          obtain ⟨o, e, _⟩ := T.obj _ _ st7 b hb
          exact (Iy.pin (b, o) (List.mem_append_right _ (List.mem_append_right _ (mem_pinsAt hb e)))).2.1
        cases ok with
        | false =>
          simp only [Bool.false_eq_true, if_false] at q9 ⊢
          obtain ⟨n', hn', w'⟩ := q9
          obtain ⟨a1, a2, a3, a4, a5⟩ := back I9
          exact ⟨n', hn', i + 1, acc, H9, its, k, w', a1, a2, a3, a4, rv5, a5⟩
        | true =>
          simp only [if_true] at q9 ⊢
          have z4 := pe _ s9 σ8 H9 _ I9 q9
          rw [xP, xw, xA, xe] at z4
          refine wpAny_mono z4 (fun y s10 z6_ => ?_) fun _ _ z => False.elim z
          obtain ⟨yv, H10, I10, r10, n', hn', w'⟩ := z6_
          obtain ⟨a1, a2, a3, a4, a5⟩ := back I10
          have hlen' := rv5.length
          refine wpAny_list_append_plain ⟨k, a5⟩ (fun h' ⟨k', hl'⟩ sb => ?_) (by rw [List.size_toArray]; (first | lia | omega))
          have tu : Inv Xc [] (cSt cs σ) H10 { s10 with heap := h' } := a1.turned (t' := s10.toks) (it := s2.heap.objs.size) (fun b o hb e => (sb.2 b hb).trans e) a4 hDC (.inl hDex) hDcell (fun p hp => by
            rcases List.mem_append.mp hp with z | z
            · exact hDpin p z
            · exact absurd z (by simp))
          refine ⟨n', hn', i + 1, acc ++ [yv], H10, its ++ [y], k', w', tu, T.keep _ _ _ a2 (fun b hb o e => (sb.2 b (fun z => hDfp (z ▸ hb))).trans e), a3, a4, rv5.append (.cons r10 .nil), ?_⟩
          rw [hl']
          simp
    · exact T.keep _ _ _ st2 fun b hb o e => k34 b o (k3 b o e)
    · refine k34 _ _ ?_
      subst e3
      exact Heap.get?_push_size _ rfl
  have fin := loop s4 rfl
  have hst4 : tn 0 s4.heap := T.keep _ _ _ st2 fun b hb o e => k34 b o (k3 b o e)
  rw [xE] at fin
  have := codeAny_compStart_list fin (T.self X.A 0 s4 _ _ hst4 fin)
  exact this
theorem pe_comp (hcalm : X.calm = true) (S : CScope X scope Nc cs) (hi : PI X tg iter wi)
    (hb : ∀ (C D : Addr) (cells : List (Str × Addr)) (fp : List Addr) (s₀ : Shared) (H₀ : Hp) (pins : List (Addr × Obj)), PG (cCx X Nc scope C D cells fp s₀ H₀ pins) tg g ∧ PTs (cCx X Nc scope C D cells fp s₀ H₀ pins) ifs tc ∧ PE (cCx X Nc scope C D cells fp s₀ H₀ pins) elt te)
    (hsf : ∀ x, foldedSetIterable iter X.env x = pure x := by intro _; rfl) : PE X (.ListComp elt [⟨tg, iter, ifs, 0⟩] scope pos) (tComp cs wi g tc te) := by
  intro pins s σ H Q I h
  rw [eval_ListComp]
  exact comp_core (use := none) hcalm S hi hb hsf I h fun s6 C D H7 m6 hn _ _ _ _ _ inv q => ⟨m6, hn, fun h' sb => ⟨.ref D, H7, inv h' sb, rfl, q⟩⟩
end
end LS

namespace LS
open PySem PySem.Spec PyProof.Rows L2

noncomputable def noErr {α : Type} : Out α → Out α
  | .ok a h => .ok a h
  | _ => .stuck
@[simp] theorem noErr_ok {α : Type} (a : α) (h : HD) : noErr (.ok a h) = .ok a h := rfl
theorem noErr_post {α β γ δ : Type} {K : PySem.W.Frag} {R : List Addr → Hp → α → β → Prop} {R' : List Addr → Hp → γ → δ → Prop} {m : List Addr} {H : Hp} {E : XK} {Q : δ → Hp → Prop} {Q' : β → Hp → Prop} {o : Out α} {k : α → HD → Out γ}
    (h : Post K R' m H E Q ((noErr o).bind k)) (f : ∀ a h1 v m1 H1, o = .ok a h1 → m <+: m1 → Kp H H1 → HR K m1 h1 H1 → R m1 H1 a v → Post K R' m1 H1 E Q (k a h1) → Q' v H1) : Post K R m H E0 Q' o := by
  cases o with
  | ok a h1 => exact fun v m1 H1 p kk hr r => f a h1 v m1 H1 rfl p kk hr r (Post.ahead p kk h)
  | err C fs h1 => exact False.elim h
  | stuck => exact False.elim h
noncomputable def cRho (cs : List (Option Nat)) (ρ : Rho) : Rho := cs.map fun o => o.bind fun j => (ρ[j]?).join
theorem join_some {α : Type} {l : List (Option α)} {j : Nat} {a : α} : (l[j]?).join = some a ↔ l[j]? = some (some a) := by
  cases h : l[j]? with
  | none => simp
  | some o => simp
theorem ER.comp {K : PySem.W.Frag} {m : List Addr} {H : Hp} {ρ : Rho} {σ : L2.St} (cs : List (Option Nat)) (er : ER K m H ρ σ) : ER K m H (cRho cs ρ) (cSt cs σ) := by
  refine ⟨by simp [cRho, cSt], fun i d e => ?_⟩
  unfold cRho at e
  rw [List.getElem?_map] at e
  cases ec : cs[i]? with
  | none => rw [ec] at e; cases e
  | some o =>
    rw [ec] at e
    cases o with
    | none => cases e
    | some j =>
      simp only [Option.map_some, Option.bind_some, Option.some.injEq] at e
      obtain ⟨v, e1, r⟩ := er.2 j d (join_some.mp e)
      refine ⟨v, ?_, r⟩
      unfold cSt
      rw [List.getElem?_map, ec]
      simp only [Option.map_some, Option.bind_some, Option.some.injEq]
      exact join_some.mpr e1
theorem Sub.set {cs : List (Option Nat)} {σ : L2.St} {σ' : L2.St} {i : Nat} {v : V} (h : cs[i]? = some none) (s : Sub (cSt cs σ) σ') : Sub (cSt cs σ) (σ'.set i (some v)) := by
  refine ⟨by rw [s.1]; simp, fun j w e => ?_⟩
  have hj : i ≠ j := by
    rintro rfl
    unfold cSt at e
    rw [List.getElem?_map, h] at e
    cases e
  rw [List.getElem?_set_ne hj]
  exact s.2 j w e
theorem Sub.refl (σ : L2.St) : Sub σ σ := ⟨rfl, fun _ _ h => h⟩
noncomputable def GOkC (K : PySem.W.Frag) (cs : List (Option Nat)) (gg : TG) (sg : MG) : Prop :=
  ∀ m H d v ρ σ0 ρ' Q, DV K m H d v → ER K m H ρ (cSt cs σ0) → sg d ρ = some ρ' → (∀ σ', Sub (cSt cs σ0) σ' → ER K m H ρ' σ' → Q σ' H) → gg v (cSt cs σ0) H Q
theorem gokc_name {K : PySem.W.Frag} {cs : List (Option Nat)} {i : Nat} (h : cs[i]? = some none) : GOkC K cs (gName i) (sName i) := fun m H d v ρ σ0 ρ' Q r er e q => by
  simp only [sName, Option.some.injEq] at e
  subst e
  exact q _ ((Sub.refl _).set h) (er.set r)
theorem gokc_pair {K : PySem.W.Frag} {cs : List (Option Nat)} {i j : Nat} (h : cs[i]? = some none) (h' : cs[j]? = some none) : GOkC K cs (gTup K 2 (gCons (gName i) (gCons (gName j) gNil))) (sPair i j) := fun m H d v ρ σ0 ρ' Q r er e q => by
  unfold sPair at e
  split at e
  · rename_i a b
    cases e
    simp only [DV, DVs] at r
    obtain ⟨p, vs, rfl, hp, v1, w1, rfl, r1, v2, w2, rfl, r2, rfl⟩ := r
    exact ⟨p, _, rfl, SqT.of hp, rfl, v1, _, rfl, v2, _, rfl, rfl, q _ (((Sub.refl _).set h).set h') ((er.set r1).set r2)⟩
  · cases e
noncomputable abbrev EvTs (X : Cx) (E : XK) (ifs : List Expr) (t : MT) : Prop := PTs X ifs (tBo X.K E t)
noncomputable def mTrue : MT := fun _ h => .ok true h
theorem evTs_nil {X : Cx} {E : XK} : EvTs X E [] mTrue := fun pins s σ H Q I z1_ => by obtain ⟨m, ρ, h, hr, er, p⟩ := z1_; exact (pts_nil pins s σ H Q I (p true m H (List.prefix_refl _) (.refl _) hr rfl))
theorem evTs_one {X : Cx} {E : XK} {c : Expr} {t : MT} (h : EvT X E c t) : EvTs X E [c] t := pts_one h
open Classical in
noncomputable def compL (src : Src) (items : List D) (sg : MG) (t : MT) (f : ME) (ρc : Rho) : List D → HD → Out (List D)
  | [], h => if srcOk src items h then .ok [] h else .stuck
  | d :: ds, h => if srcOk src items h then match sg d ρc with
      | none => .stuck
      | some ρ1 => (noErr (t ρ1 h)).bind fun b h1 => if b = true then (noErr (f ρ1 h1)).bind fun y h2 => (compL src items sg t f ρc ds h2).bind fun ys h3 => .ok (y :: ys) h3 else compL src items sg t f ρc ds h1
    else .stuck
noncomputable def mComp (cs : List (Option Nat)) (it : MI) (sg : MG) (t : MT) (f : ME) : ME := fun ρ h => (it ρ h).bind fun x h1 => if x.1.length ≤ sizeLine then (compL x.2 x.1 sg t f (cRho cs ρ) x.1 h1).bind newL else .stuck
theorem Out.bind_assoc {α β γ : Type} (o : Out α) (k : α → HD → Out β) (l : β → HD → Out γ) : (o.bind k).bind l = o.bind fun a h => (k a h).bind l := by cases o <;> rfl
section
variable {X : Cx} {E : XK} {elt tg iter : Expr} {ifs : List Expr} {scope : Scope} {pos : Pos} {Nc : List Str} {cs : List (Option Nat)} {it : MI} {gg : TG} {sg : MG} {t : MT} {f : ME}
inductive CmI (K : PySem.W.Frag) (E : XK) (Q : VK) (src : Src) (items : List D) (sg : MG) (t : MT) (f : ME) (ρc : Rho) (m1 : List Addr) (H1 : Hp) (i n : Nat) (acc : List V) (H2 : Hp) : Prop where
  | mk (e : n = items.length - i) (l : i ≤ items.length) (a : acc.length ≤ i) (m2 : List Addr) (h2 : HD) (dacc : List D) (p : m1 <+: m2) (k : Kp H1 H2) (hr : HR K m2 h2 H2) (da : DVs K m2 H2 dacc acc) (q : Post K (rD K) m2 H2 E Q ((compL src items sg t f ρc (items.drop i) h2).bind fun ys h3 => newL (dacc ++ ys) h3)) : CmI K E Q src items sg t f ρc m1 H1 i n acc H2
theorem comp_rd (hg : GOkC X.K cs gg sg) : ∀ σ H Q, tD X.K E (mComp cs it sg t f) σ H Q → tComp cs (tM X.K (rIt X.K) E it) gg (tBo X.K E0 t) (tD X.K E0 f) σ H Q := by
  refine ?_
  rintro σ H Q ⟨m, ρ, h, hr, er, p⟩
  refine ⟨m, ρ, h, hr, er, Post.bind p fun x h1 J m1 H1 _ p1 k1 hr1 r1 q1 => ?_⟩
  obtain ⟨items, src⟩ := x
  dsimp only at q1
  split at q1
  · rename_i hz
    have er1 : ER X.K m1 H1 (cRho cs ρ) (cSt cs σ) := (er.keep p1 k1).comp cs
    refine ⟨CmI X.K E Q src items sg t f (cRho cs ρ) m1 H1,
      ⟨items.length, rfl, Nat.zero_le _, Nat.le_refl _, m1, h1, [], List.prefix_refl _, .refl _, hr1, .nil, by simpa using q1⟩, ?_⟩
    rintro i n acc H2 ⟨rfl, hi', ha, m2, h2, dacc, p2, k2, hr2, da, q2⟩
    by_cases hlt : i < items.length
    · rw [List.drop_eq_getElem_cons hlt] at q2
      unfold compL at q2
      split at q2
      · rename_i hs
        obtain ⟨hgo, hy⟩ := (r1 i m2 h2 H2 p2 k2 hr2 hs).1 hlt
        refine .inr ⟨hgo, by (first | lia | omega), fun y H3 hyl => ?_⟩
        obtain ⟨k3, hr3, d, ed, rd⟩ := hy y H3 hyl
        have ed' : d = items[i] := by rw [List.getElem?_eq_getElem hlt] at ed; exact (Option.some.inj ed).symm
        subst ed'
        split at q2
        · exact q2.elim
        · rename_i ρ3 es
          have er3 : ER X.K m2 H3 (cRho cs ρ) (cSt cs σ) := er1.keep p2 (k2.trans k3)
          refine hg m2 H3 _ y (cRho cs ρ) σ ρ3 _ rd er3 es fun σ4 sub4 er4 => ⟨sub4, m2, ρ3, h2, hr3, er4, ?_⟩
          rw [Out.bind_assoc] at q2
          refine noErr_post (Post.ahead (List.prefix_refl _) k3 q2) fun b h5 v m5 H5 _ p5 k5 hr5 r5 q5 => ?_
          cases r5
          cases b with
          | false =>
            simp only [Bool.false_eq_true, if_false] at q5 ⊢
            exact ⟨items.length - (i + 1), by (first | lia | omega), rfl, hlt, by (first | lia | omega), m5, h5, dacc, p2.trans p5, (k2.trans k3).trans k5, hr5, DVs.keep p5 (k3.trans k5) da, q5⟩
          | true =>
            simp only [if_true] at q5 ⊢
            rw [Out.bind_assoc] at q5
            refine ⟨m5, ρ3, h5, hr5, er4.keep p5 k5, noErr_post q5 fun z h6 w m6 H6 _ p6 k6 hr6 r6 q6 => ?_⟩
            refine ⟨items.length - (i + 1), by (first | lia | omega), rfl, hlt, by simp; (first | lia | omega), m6, h6, dacc ++ [z], (p2.trans p5).trans p6, ((k2.trans k3).trans k5).trans k6, hr6, (DVs.keep (p5.trans p6) ((k3.trans k5).trans k6) da).app (.cons r6 .nil), ?_⟩
            rw [Out.bind_assoc] at q6
            simp only [Out.bind_ok] at q6
            simpa using q6
      · exact q2.elim
    · have he : i = items.length := Nat.le_antisymm hi' (Nat.le_of_not_lt hlt)
      subst he
      rw [List.drop_length] at q2
      unfold compL at q2
      split at q2
      · rename_i hs
        simp only [Out.bind_ok, List.append_nil] at q2
        obtain ⟨z1, z2⟩ := post_newL hr2 da q2
        exact .inl ⟨(r1 _ m2 h2 H2 p2 k2 hr2 hs).2 rfl, z1, z2⟩
      · exact q2.elim
  · exact q1.elim
theorem ev_comp (hcalm : X.calm = true) (S : CScope X scope Nc cs) (hi : EvI X E tg iter it) (hg : GOkC X.K cs gg sg)
    (hb : ∀ (C D : Addr) (cells : List (Str × Addr)) (fp : List Addr) (s₀ : Shared) (H₀ : Hp) (pins : List (Addr × Obj)), PG (cCx X Nc scope C D cells fp s₀ H₀ pins) tg gg ∧ EvTs (cCx X Nc scope C D cells fp s₀ H₀ pins) E0 ifs t ∧ Ev (cCx X Nc scope C D cells fp s₀ H₀ pins) E0 elt f)
    (hsf : ∀ x, foldedSetIterable iter X.env x = pure x := by intro _; rfl) : Ev X E (.ListComp elt [⟨tg, iter, ifs, 0⟩] scope pos) (mComp cs it sg t f) := by
  exact pe_imp (pe_comp (g := gg) (tc := tBo X.K E0 t) (te := tD X.K E0 f) hcalm S hi hb hsf) (comp_rd hg)
/-- name = [..] -/
theorem ex_setC {i : Nat} {x : Str} {pos' pos2 : Pos} (hcalm : X.calm = true) (hN : X.N.Nodup) (hix : X.N[i]? = some x) (hx : Loc X.env.scope x) (S : CScope X scope Nc cs) (hi : EvI X E tg iter it) (hg : GOkC X.K cs gg sg)
    (hb : ∀ (C D : Addr) (cells : List (Str × Addr)) (fp : List Addr) (s₀ : Shared) (H₀ : Hp) (pins : List (Addr × Obj)), PG (cCx X Nc scope C D cells fp s₀ H₀ pins) tg gg ∧ EvTs (cCx X Nc scope C D cells fp s₀ H₀ pins) E0 ifs t ∧ Ev (cCx X Nc scope C D cells fp s₀ H₀ pins) E0 elt f)
    (hsf : ∀ x, foldedSetIterable iter X.env x = pure x := by intro _; rfl) (hsw : swapsWith (.ListComp elt [⟨tg, iter, ifs, 0⟩] scope pos) (some (.Name x pos')) pos2.line X.env = pure true := by rfl)
    (hf : X.fn x = true ∨ X.env.scope.names.lookup x = some .local := by first | exact .inl rfl | exact .inr rfl | assumption) : Ex X E (.Assign [.Name x pos'] (.ListComp elt [⟨tg, iter, ifs, 0⟩] scope pos) pos2) (mSet i (mComp cs it sg t f)) := by
  rintro pins s σ H D I ⟨m, ρ, h, hr, er, p⟩
  have hq : tComp cs (tM X.K (rIt X.K) E it) gg (tBo X.K E0 t) (tD X.K E0 f) σ H (fun v H1 => D.nx (σ.set i (some v)) H1) := comp_rd hg σ H _ ⟨m, ρ, h, hr, er, PostS.bind p fun y h1 v m1 H1 _ p1 k1 hr1 r1 q1 => (q1.here hr1) _ ((er.keep p1 k1).set r1)⟩
  rw [exec_Assign_Name_used _ _ _ _ hsw]
  refine wpAny_bind (wpAny_standAt (wpAny_bind ?_))
  show wpAny _ X.A (do let _ ← comprehension (.ListComp elt [⟨tg, iter, ifs, 0⟩] scope pos) scope X.env _ (newList []) false (eval iter X.env) (some (assign (.Name x pos') X.env))) _ _ s
  refine wpAny_bind (wpAny_mono (comp_core (QQ := fun _ s' => SP X pins D .next s') hcalm S hi hb hsf I hq fun s6 C Dd H7 m6 hn hC h0 hL hc hp inv q => ?_) (fun _ s' z => wpAny_pure (wpAny_pure z)) fun _ _ z => z)
  have I6 : Inv X pins σ H7 s6 := inv s6.heap ⟨rfl, fun _ _ => rfl⟩
  refine wpAny_assign_Name (store_ok2 I6 hN hix hx (v := .ref Dd) rfl (fun s7 I7 z3_ => ?_) hf)
  obtain ⟨a, sb7, ha⟩ := z3_
  have nCa : C ≠ a := by
    rcases ha with z | z
    · rw [z]; exact hL
    · exact Ne.symm (hc x a z)
  obtain ⟨o, es, ep, e1, e2⟩ := hn
  refine ⟨m6, ⟨o, es, ep, (sb7.2 C nCa).trans e1, e2⟩, fun h' sb => ?_⟩
  exact ⟨_, H7, I7.turned (t' := s7.toks) (it := C) (fun b o hb e => (sb.2 b hb).trans e) hC hL (.inr h0) hc hp, q⟩
end
end LS

namespace LS
open PySem PySem.Spec PyProof.Rows L2

section
variable {X : Cx} {E : XK}

noncomputable def tyD : D → HD → Option String
  | .non, _ => some "NoneType"
  | .bl _, _ => some "bool"
  | .int _, _ => some "int"
  | .str _, _ => some "str"
  | .tup _, _ => some "tuple"
  | .loc l, h => match h[l]? with
    | some (.lst _) => some "list"
    | _ => none
  | _, _ => none
theorem ty_of {m : List Addr} {H : Hp} {h : HD} {d : D} {v : V} {t : String} (hr : HR X.K m h H) (r : DV X.K m H d v) (e : tyD d h = some t) : TyOf X.K H v (.type t) := by
  cases d with
  | non => simp only [tyD, Option.some.injEq, DV] at e r; subst e r; exact .non
  | bl b => simp only [tyD, Option.some.injEq, DV] at e r; subst e r; exact .bl _
  | int i => simp only [tyD, Option.some.injEq, DV] at e r; subst e r; exact .int _
  | str x => simp only [tyD, Option.some.injEq, DV] at e r; subst e r; exact .str _
  | tup ds => simp only [tyD, Option.some.injEq, DV] at e r; subst e; obtain ⟨a, vs, rfl, ha, _⟩ := r; exact .tup ha
  | loc l =>
    simp only [DV] at r
    obtain ⟨a, rfl, ha⟩ := r
    simp only [tyD] at e
    split at e
    · rename_i ds el
      cases e
      obtain ⟨vs, hv, _⟩ := hr.cells l _ a el ha
      exact .lst hv
    · cases e
  | _ => simp [tyD] at e
noncomputable def subL : List (String × String × Bool) := [("NoneType", "int", false), ("bool", "int", true), ("int", "int", true), ("str", "int", false), ("tuple", "int", false), ("list", "int", false), ("NoneType", "bool", false), ("bool", "bool", true), ("int", "bool", false), ("str", "bool", false), ("tuple", "bool", false), ("list", "bool", false), ("NoneType", "tuple", false), ("bool", "tuple", false), ("int", "tuple", false), ("str", "tuple", false), ("tuple", "tuple", true), ("list", "tuple", false), ("NoneType", "str", false), ("bool", "str", false), ("int", "str", false), ("str", "str", true), ("tuple", "str", false), ("list", "str", false), ("NoneType", "list", false), ("bool", "list", false), ("int", "list", false), ("str", "list", false), ("tuple", "list", false), ("list", "list", true), ("dict", "int", false), ("dict", "bool", false), ("dict", "tuple", false), ("dict", "str", false), ("dict", "list", false)]
noncomputable def subT (t c : String) : Option Bool := (subL.find? fun p => p.1 == t && p.2.1 == c).map fun p => p.2.2
theorem subL_ok {K : PySem.W.Frag} : ∀ p ∈ subL, PySem.W.kitOne K (.type p.1) (.type p.2.1) = some p.2.2 := by
  unfold subL
  simp only [List.forall_mem_cons]
  exact ⟨rfl, rfl, rfl, rfl, rfl, rfl, rfl, rfl, rfl, rfl, rfl, rfl, rfl, rfl, rfl, rfl, rfl, rfl, rfl, rfl, rfl, rfl, rfl, rfl, rfl, rfl, rfl, rfl, rfl, rfl, rfl, rfl, rfl, rfl, rfl, fun _ h => nomatch h⟩
theorem subT_ok {K : PySem.W.Frag} {t c : String} {b : Bool} (h : subT t c = some b) : PySem.W.kitOne K (.type t) (.type c) = some b := by
  unfold subT at h
  rw [Option.map_eq_some_iff] at h
  obtain ⟨p, hp, rfl⟩ := h
  have e := List.find?_some hp
  rw [Bool.and_eq_true, beq_iff_eq, beq_iff_eq] at e
  rw [← e.1, ← e.2]
  exact subL_ok p (List.mem_of_find?_eq_some hp)
noncomputable def instD : D → D → HD → Out D := fun x y h => match y, tyD x h with
  | .ty T, some t => match subT t T with
    | some b => .ok (.bl b) h
    | none => .stuck
  | _, _ => .stuck
theorem ev_ty {x : Str} {T : String} {pos : Pos} (hg : Gl X x) (hm : X.mg x = none) (hv : bootBuiltins x = some (.type T)) (hn : x ≠ "__name__" := by decide) (hd : (x == ("__debug__" : Str)) = false := by decide) : Ev X E (.Name x pos) (mC (.ty T)) :=
  ev_c (pe_bltn (v := .ty T) hg hm hv rfl hn hd) fun _ _ => by simp [DV]


theorem old_kept' {h h2 h' : Heap} {it : Addr} (k : ∀ b o, h.get? b = some o → h2.get? b = some o) (hit : h.objs.size ≤ it) (hk : ∀ b o, b ∉ [it] → h2.get? b = some o → h'.get? b = some o) : ∀ b o, h.get? b = some o → h'.get? b = some o := fun b o e =>
  hk b o (by rw [List.mem_singleton]; exact nne (Nat.lt_of_lt_of_le (Heap.lt_size e) hit)) (k b o e)
noncomputable def asInt : D → Option Int
  | .int i => some i
  | _ => none
noncomputable def sumD : D → HD → Out D := fun x h => match itemsD x h with
  | some ds => match allSome (ds.map asInt) with
    | some ns => .ok (.int ns.sum) h
    | none => .stuck
  | none => .stuck
theorem ints_back {m : List Addr} {H : Hp} : ∀ {ds : List D} {vs : List V} {ns : List Int}, DVs X.K m H ds vs → allSome (ds.map asInt) = some ns → vs = ns.map V.int
  | [], vs, ns, r, e => by
    simp only [DVs] at r
    simp [allSome] at e
    subst r e
    rfl
  | d :: ds, vs, ns, r, e => by
    simp only [DVs] at r
    obtain ⟨v, w, rfl, rv, rw'⟩ := r
    rw [List.map_cons] at e
    cases d with
    | int i =>
      simp only [asInt, allSome, Option.map_eq_some_iff] at e
      obtain ⟨ns', e1, rfl⟩ := e
      simp only [DV] at rv
      subst rv
      rw [ints_back rw' e1]
      rfl
    | _ => simp [asInt, allSome] at e
theorem call_all (hc : X.calm = true) : CallR X (.builtin "all") (fun xs H Q => ∃ (p : Addr) (bs : List Bool), xs = [.ref p] ∧ SqL X.K H p (bs.map V.bl) ∧ Q (.bl (bs.all id)) H) := by
  intro pins s σ H xs us Q I r h
  obtain ⟨p, bs, rfl, hs, q⟩ := h
  obtain ⟨u, rfl, rx⟩ := vals1 r
  cases rx
  have hh : X.A.in1.handled = none := I.ok.hd hc
  obtain ⟨its, rv, pl, hz⟩ := I.list hs
  have hl := rv.length
  rw [List.length_map] at hl
  have hlt : p < s.heap.objs.size := by obtain ⟨_, e, _⟩ := pl.isList; exact Heap.lt_size e
  have item : ∀ (i : Nat) (v : Value), its.toArray[i]? = some v → v = .bool (bs.getD i true) := fun i v e => by
    have e' : its[i]? = some v := by simpa using e
    have hi : i < its.length := (List.getElem?_eq_some_iff.mp e').1
    have hn : (bs.map V.bl)[i]? = some (V.bl (bs.getD i true)) := by
      rw [List.getElem?_map, List.getElem?_eq_getElem (by (first | lia | omega))]
      simp [List.getD_eq_getElem?_getD, List.getElem?_eq_getElem (show i < bs.length by (first | lia | omega))]
    obtain ⟨u, h1, h2⟩ := rv.get hn
    rw [e'] at h1
    cases h1
    exact h2
  refine call_all_walk (wpAny_pyIter_list pl.isList ?_)
  refine ⟨s.heap.objs.size, [s.heap.objs.size, p], [s.heap.objs.size], its.toArray.size, _, _, fun i => bs.getD i true, rfl, Walks.list (A := X.A.in1) hh _ p (nne hlt) its.toArray, ⟨⟨_, Heap.get?_push_size _ rfl, rfl, rfl⟩, pl.isList.push _⟩, fun i v s' Q' E' e hQ => ?_, fun h' tk hk => ?_⟩
  · rw [item i v e]
    exact wpAny_truthy_bool hQ
  · have e : (List.range its.toArray.size).all (fun i => bs.getD i true) = bs.all id := by
      rw [List.size_toArray, ← hl]
      apply Bool.eq_iff_iff.mpr
      simp only [List.all_eq_true, List.mem_range, id]
      constructor
      · intro h b hb
        obtain ⟨i, hi, rfl⟩ := List.getElem_of_mem hb
        have := h i hi
        simpa [List.getD_eq_getElem?_getD, List.getElem?_eq_getElem hi] using this
      · intro h i hi
        have := h bs[i] (List.getElem_mem hi)
        simpa [List.getD_eq_getElem?_getD, List.getElem?_eq_getElem hi] using this
    rw [e]
    exact ⟨.bl _, H, I.kept (old_kept' (fun b o e => Heap.get?_push_of_some _ e) (Nat.le_refl _) hk), rfl, q⟩
noncomputable def asBl : D → Option Bool
  | .bl b => some b
  | _ => none
noncomputable def allD : D → HD → Out D := fun x h => match x with
  | .loc l => match h[l]? with
    | some (.lst ds) => match allSome (ds.map asBl) with
      | some bs => .ok (.bl (bs.all id)) h
      | none => .stuck
    | _ => .stuck
  | _ => .stuck
theorem bls_back {m : List Addr} {H : Hp} : ∀ {ds : List D} {vs : List V} {bs : List Bool}, DVs X.K m H ds vs → allSome (ds.map asBl) = some bs → vs = bs.map V.bl
  | [], vs, ns, r, e => by
    simp only [DVs] at r
    simp [allSome] at e
    subst r e
    rfl
  | d :: ds, vs, ns, r, e => by
    simp only [DVs] at r
    obtain ⟨v, w, rfl, rv, rw'⟩ := r
    rw [List.map_cons] at e
    cases d with
    | bl i =>
      simp only [asBl, allSome, Option.map_eq_some_iff] at e
      obtain ⟨ns', e1, rfl⟩ := e
      simp only [DV] at rv
      subst rv
      rw [bls_back rw' e1]
      rfl
    | _ => simp [asBl, allSome] at e
theorem allM (hc : X.calm = true) : CallM X (.builtin "all") (ar1 allD) := by
  refine ⟨_, call_all hc, fun m H h E ds vs Q hr r q => one_of r q fun d v ev rv q => ?_⟩
  unfold allD at q
  split at q
  · rename_i l
    split at q
    · rename_i xs el
      split at q
      · rename_i bs eb
        simp only [DV] at rv
        obtain ⟨a, rfl, ha⟩ := rv
        obtain ⟨ws, hv, dv⟩ := hr.cells _ _ a el ha
        have := bls_back dv eb
        subst this
        exact ⟨a, bs, ev, SqL.of hv, okq hr q (by simp [DV])⟩
      · exact q.elim
    · exact q.elim
  · exact q.elim


noncomputable def appD : D → D → HD → Out D := fun x y h => match x with
  | .loc l => match h[l]? with
    | some (.lst ds) => if ds.length < sizeLine then .ok .non (h.set l (.lst (ds ++ [y]))) else .stuck
    | _ => .stuck
  | _ => .stuck
noncomputable def isLst : D → HD → Out D := fun x h => match x with
  | .loc l => match h[l]? with
    | some (.lst _) => .ok x h
    | _ => .stuck
  | _ => .stuck
noncomputable def mApp (f g : ME) : ME := fun ρ h => ((f ρ h).bind isLst).bind fun x h1 => (g ρ h1).bind fun y h2 => appD x y h2
theorem ev_append {o e : Expr} {f g : ME} {apos cpos : Pos} (ho : Ev X E o f) (he : Ev X E e g)
    (hbase : attributeBase o "append" X.env (eval o X.env) = eval o X.env := by rfl)
    (hfew : ((backTo cpos (starEach [e] X.env)).all (fun x => !x.1) && (backToKw cpos (keywordEach [] X.env)).all (fun x => x.1.isSome)
      && decide ([e].length + ([] : List Keyword).length + (if ([] : List Keyword).isEmpty then 0 else 1) < 30)) = true := by rfl)
    (hline : (apos.endLine == cpos.line) = true := by rfl) (hs : starEach [e] X.env = (false, eval e X.env) :: starEach [] X.env := by rfl) (hplain : (backTo cpos (starEach [] X.env)).any (·.1) = false := by rfl) :
    Ev X E (.Call (.Attribute o "append" apos) [e] [] cpos) (mApp f g) :=
  pe_imp (pe_bm PySem.F.plainAttrs_list PySem.F.slot_list_append PySem.F.type_list_append mt_append ho (evA_cons he evA_nil hs) hbase hfew hline hs hplain) fun σ H Q z1_ => by
    obtain ⟨m, ρ, h, hr, er, p⟩ := z1_
    refine ⟨m, ρ, h, hr, er, ?_⟩
    unfold mApp at p
    rw [Out.bind_assoc] at p
    refine Post.bind p fun x h1 v m1 H1 eo p1 k1 hr1 r1 q1 => ?_
    clear eo
    unfold isLst at q1
    split at q1
    · rename_i l
      split at q1
      · rename_i ds el
        simp only [Out.bind_ok] at q1
        have r1' := r1
        simp only [rD, DV] at r1'
        obtain ⟨a, rfl, ha⟩ := r1'
        obtain ⟨ws, hv, dv⟩ := hr1.cells l _ a el ha
        refine ⟨.inl ⟨rfl, ws, SqL.of hv⟩, m1, ρ, h1, hr1, er.keep p1 k1, ?_⟩
        have q2 : Post X.K (rD X.K) m1 H1 E Q ((mCons g mNil ρ h1).bind fun ys h2 => match ys with
          | [y] => appD (.loc l) y h2
          | _ => .stuck) := by
          unfold mCons mNil
          rw [Out.bind_assoc]
          exact q1
        refine Post.bind q2 fun ys h2 vs m2 H2 eo p2 k2 hr2 r2 q3 => ?_
        clear eo
        split at q3
        · rename_i y
          simp only [rDs, DVs] at r2
          obtain ⟨yv, w, rfl, ry, rfl⟩ := r2
          unfold appD at q3
          simp only at q3
          split at q3
          · rename_i ds2 el2
            split at q3
            · rename_i hz
              have ha2 := pre_get p2 ha
              obtain ⟨ws2, hv2, dv2⟩ := hr2.cells l _ a el2 ha2
              refine ⟨a, ws2, yv, rfl, rfl, hv2, by rw [← dv2.len]; exact hz, ?_⟩
              refine q3 .non m2 _ (List.prefix_refl _) (.set hv2 rfl) (hr2.setCell ha2 hv2 rfl ⟨_, upd_same, ?_⟩) (by simp [rD, DV])
              exact (dv2.app (.cons ry .nil)).keep (List.prefix_refl _) (.set hv2 rfl)
            · exact q3.elim
          · exact q3.elim
        · exact q3.elim
      · exact q1.elim
    · exact q1.elim
noncomputable def setD : D → D → D → HD → Out (Fl × Rho) → Out (Fl × Rho) := fun o i v h k => match o, i with
  | .loc l, .int n => match h[l]? with
    | some (.lst ds) => match ixN ds.length n with
      | some j => match k with
        | .ok a _ => .ok a (h.set l (.lst (ds.set j v)))
        | _ => .stuck
      | none => .stuck
    | _ => .stuck
  | _, _ => .stuck
noncomputable def mSetIx (fo fi fv : ME) : MS := fun ρ h => (fv ρ h).bind fun v h1 => (fo ρ h1).bind fun o h2 => (fi ρ h2).bind fun i h3 => setD o i v h3 (.ok (.nx, ρ) h3)
theorem ex_setIx {o i e : Expr} {fo fi fv : ME} {pos pos' : Pos} (ho : Ev X E o fo) (hi : Ev X E i fi) (he : Ev X E e fv)
    (ha : ∀ v, assign (.Subscript o i pos') X.env v = (do
      let ov ← holding [v] (eval o X.env)
      let iv ← holding [v, ov] (eval i X.env)
      standAt pos'
      holding [v, ov, iv] (setItem ov iv v)
      release [v, ov, iv] []) := by intro _; rfl)
    (hs : swapsWithSole [.Subscript o i pos'] e pos.line X.env = pure false := by rfl) (hw : swappedStores [.Subscript o i pos'] e X.env = pure none := by rfl)
    (h1 : (assignEach [.Subscript o i pos'] X.env).map (·.2) = [assign (.Subscript o i pos') X.env] := by rfl) : Ex X E (.Assign [.Subscript o i pos'] e pos) (mSetIx fo fi fv) :=
  ps_imp (ps_asg he (pg_sub ho hi set_list ha) hs hw h1) fun Dn σ H ⟨m, ρ, h, hr, er, p⟩ => ⟨m, ρ, h, hr, er, PostS.bind p fun v h1 vv m1 H1 eo1 p1 k1 hr1 r1 q1 => by
    refine ⟨m1, ρ, h1, hr1, er.keep p1 k1, PostS.bind q1 fun ov h2 vo m2 H2 eo2 p2 k2 hr2 r2 q2 => ?_⟩
    refine ⟨m2, ρ, h2, hr2, (er.keep p1 k1).keep p2 k2, PostS.bind q2 fun iv h3 vi m3 H3 eo3 p3 k3 hr3 r3 q3 => ?_⟩
    clear eo1 eo2 eo3
    unfold setD at q3
    split at q3
    · rename_i l n
      split at q3
      · rename_i ds el
        split at q3
        · rename_i j ej
          have ro := DV.keep p3 k3 r2
          simp only [DV] at ro
          obtain ⟨a, rfl, ha⟩ := ro
          have ri := r3
          simp only [rD, DV] at ri
          subst ri
          obtain ⟨ws, hv, dv⟩ := hr3.cells l _ a el ha
          refine ⟨a, ws, n, j, rfl, rfl, hv, by rw [← dv.len]; exact ej, ?_⟩
          have rvv := DV.keep p3 k3 (DV.keep p2 k2 r1)
          have hr4 : HR X.K m3 (h3.set l (.lst (ds.set j v))) (upd H3 a (.lst (ws.set j vv))) := hr3.setCell ha hv rfl ⟨_, upd_same, (dv.set j rvv).keep (List.prefix_refl _) (.set hv rfl)⟩
          exact q3 m3 _ (List.prefix_refl _) (.set hv rfl) hr4 σ ((((er.keep p1 k1).keep p2 k2).keep p3 k3).keep (List.prefix_refl _) (.set hv rfl))
        · exact q3.elim
      · exact q3.elim
    · exact q3.elim⟩
end

noncomputable def mBody (n : Nat) (g : MS) : List D → HD → Out D := fun ds h => (g (ds.map some ++ List.replicate (n - ds.length) none) h).bind fun x h1 => match x with
  | (.nx, _) => .ok .non h1
  | (.rt d, _) => .ok d h1
  | _ => .stuck
end LS


namespace LS
open PySem PySem.Spec PyProof.Rows L2
open AutoSeq1 (wpAny_loadPart')

section
variable {prog : Program} {w : World} {A : Around} {E : Value → Shared → Prop} {s : Shared}
theorem nextOf_tuple_item {it l : Addr} {i : Nat} {items : Array Value} {x : Value} {Q : Value → Shared → Prop} (hit : s.heap.IsTupleIter it l i)
    (hl : s.heap.IsTuple l items) (hx : items[i]? = some x)
    (hQ : ∀ h', h'.IsTupleIter it l (i + 1) → Heap.SameBut it s.heap h' → Q x { s with heap := h' }) :
    wpAny (model prog w) A (Builtin.SmallTypes.nextOf (.ref it)) Q E s := by
  obtain ⟨o, ho, hc, hd⟩ := id hit
  obtain ⟨ol, hol, _, nl, hdl⟩ := hl
  unfold Builtin.SmallTypes.nextOf
  refine wpAny_bind (wpAny_callSpecial?_slot (name := Str.ofString "__next__") hit.typeIs F.slot_tuple_iterator_next
    (wpAny_call_entry F.slot_tuple_iterator_next hit.typeIs F.entry_tuple_iterator_next ?_ (F.args_tuple_iterator_next_1 _)))
  show wpAny _ _ (field (.ref it) 0 >>= _) _ _ s
  refine wpAny_bind (wpAny_field ho hd (x := .ref l) rfl ?_)
  show wpAny _ _ (if (Value.ref l == Value.none) = true then _ else _) _ _ s
  rw [if_neg (show ¬ ((Value.ref l == Value.none) = true) from Bool.false_ne_true)]
  show wpAny _ _ (field (.ref it) 1 >>= _) _ _ s
  refine wpAny_bind (wpAny_field ho hd (x := .int i 0) rfl ?_)
  show wpAny _ _ (seqItems? (.ref l) >>= _) _ _ s
  refine wpAny_bind (wpAny_seqItems hol hdl ?_)
  simp only [Int.toNat_natCast, hx]
  refine wpAny_bind (wpAny_setField ho hd (by simp) (wpAny_pure ⟨x, rfl, wpAny_pure (hQ _ ?_ (Heap.SameBut.update ..))⟩))
  exact ⟨_, Heap.get?_update_self _ ho (Obj.isFreed_of_fields (Obj.data_mapFields hd _)), (Obj.cls_mapFields ..).trans hc, by
    rw [Obj.data_mapFields hd]; simp [rawInt]⟩
theorem nextOf_tuple_end {it l : Addr} {i : Nat} {items : Array Value} {Q : Value → Shared → Prop} (hh : A.handled = none)
    (hit : s.heap.IsTupleIter it l i) (hl : s.heap.IsTuple l items) (hx : items[i]? = none)
    (hE : ∀ h' e, Heap.ExtBut it s.heap h' → (∃ o, h'.get? e = some o ∧ o.cls = .type "StopIteration") → E (.ref e) { s with heap := h' }) :
    wpAny (model prog w) A (Builtin.SmallTypes.nextOf (.ref it)) Q E s := by
  obtain ⟨o, ho, hc, hd⟩ := id hit
  obtain ⟨ol, hol, _, nl, hdl⟩ := hl
  unfold Builtin.SmallTypes.nextOf
  refine wpAny_bind (wpAny_callSpecial?_slot (name := Str.ofString "__next__") hit.typeIs F.slot_tuple_iterator_next
    (wpAny_call_entry F.slot_tuple_iterator_next hit.typeIs F.entry_tuple_iterator_next ?_ (F.args_tuple_iterator_next_1 _)))
  show wpAny _ _ (field (.ref it) 0 >>= _) _ _ s
  refine wpAny_bind (wpAny_field ho hd (x := .ref l) rfl ?_)
  show wpAny _ _ (if (Value.ref l == Value.none) = true then _ else _) _ _ s
  rw [if_neg (show ¬ ((Value.ref l == Value.none) = true) from Bool.false_ne_true)]
  show wpAny _ _ (field (.ref it) 1 >>= _) _ _ s
  refine wpAny_bind (wpAny_field ho hd (x := .int i 0) rfl ?_)
  show wpAny _ _ (seqItems? (.ref l) >>= _) _ _ s
  refine wpAny_bind (wpAny_seqItems hol hdl ?_)
  simp only [Int.toNat_natCast, hx]
  refine wpAny_bind (wpAny_rule (wpAny_bind (wpAny_setField ho hd (by simp) ?_)))
  show wpAny _ _ (newExc (.type "StopIteration") [] >>= _) _ _ _
  refine wpAny_bind ?_
  simp only [newExc, newTuple]
  refine wpAny_bind (wpAny_newObj_type ?_ (by size_fits))
  refine wpAny_bind (m := firstArgMember _ _) (wpAny_of_eq (a := Value.none) (by first | rfl | (simp only [firstArgMember]; rfl)) ?_)
  refine wpAny_newObj_type ?_ (by size_fits)
  simp only [raiseNew]
  refine wpAny_bind (wpAny_handled ?_)
  first | rw [show A.in1.handled = none from hh] | rw [hh]
  refine wpAny_bind (wpAny_pure (wpAny_throw ?_))
  exact hE _ _ (((Heap.SameBut.update ..).extBut.push _).push _) ⟨_, Heap.get?_push_size _ rfl, rfl⟩
end
theorem draws_tuple {prog : Program} {w : World} {A : Around} (hh : A.handled = none) (it l : Addr) (hne : l ≠ it) (items : Array Value) :
    Draws prog w A it [it, l] items.size (fun i v => items[i]? = some v) (fun i h => h.IsTupleIter it l i ∧ h.IsTuple l items) where
  live := fun _ _ st => let ⟨o, ho, _⟩ := st.1; ⟨o, ho⟩
  frame := fun _ _ _ st hk => ⟨st.1.at fun o e => hk it (by simp) o e, st.2.at fun o e => hk l (by simp) o e⟩
  item := fun i s Q E hi st hQ => by
    refine nextOf_tuple_item st.1 st.2 (x := items[i]) (by simp [hi]) fun h' hit' hs' => ?_
    exact hQ _ h' s.toks (by simp [hi]) ⟨hit', st.2.extBut hs'.extBut hne⟩ hs'
  done := fun s Q E st hE => nextOf_tuple_end hh st.1 st.2 (by simp) hE
section
variable {prog : Program} {w : World} {A : Around} {E : Value → Shared → Prop} {s : Shared}
end
/-- what enumerate of the tuple t yields -/
noncomputable def Ite (K : PySem.W.Frag) (t : Addr) (xs : List V) : It := ⟨fun i H => i < xs.length ∧ SqT K H t xs, fun i H x H' => ∃ p v, H p = none ∧ x = .ref p ∧ xs[i]? = some v ∧ H' = upd H p (.tup [.int i, v]), fun i H => i = xs.length ∧ SqT K H t xs⟩
section
variable {X : Cx} {E : XK}
noncomputable def enumL (ds : List D) : List D := ds.mapIdx fun i d => .tup [.int (i : Nat), d]
noncomputable def enumD : List D → HD → Out (List D × Src) := fun ds h => match ds with
  | [.tup xs] => .ok (enumL xs, []) h
  | _ => .stuck
noncomputable def mIEnum (fa : MA) : MI := fun ρ h => (fa ρ h).bind enumD
end
end LS


namespace LS
open PySem PySem.Spec PyProof.Rows L2
section
variable {prog : Program} {w : World} {A : Around} {E : Value → Shared → Prop} {s : Shared}
end
section
variable {X : Cx} {E : XK} {e : Expr} {f : ME}
noncomputable def rev2D : D → HD → Out D := fun x h => match x with
  | .tup [a, b] => .ok (.tup [b, a]) h
  | _ => .stuck
noncomputable def mRev2 (f : ME) : ME := fun ρ h => (f ρ h).bind rev2D
end
end LS

namespace LS
open PySem PySem.Spec PyProof.Rows L2
structure CSc (X : Cx) (scope : Scope) (Nc : List Str) (cs : List (Option Nat)) : Prop where
  kind : scope.kind = .function
  loc : (scope.names.all fun y => y.2 != .local || scope.names.lookup y.1 == some .local) = true
  free : (scope.names.all fun y => y.2 != .free || (X.env.kindOf y.1 == some .cell || X.env.kindOf y.1 == some .free)) = true
  nd : (scope.names.map (·.1)).Nodup
  len : cs.length = Nc.length
  out : ((Nc.zip cs).all fun p => match p.2 with
    | none => true
    | some j => X.N[j]? == some p.1 && scope.names.lookup p.1 == some .free) = true
theorem CSc.ok {X : Cx} {scope : Scope} {Nc : List Str} {cs : List (Option Nat)} (S : CSc X scope Nc cs) : CScope X scope Nc cs := by
  refine ⟨S.kind, fun y hy e => ?_, fun y hy e => ?_, S.nd, S.len, fun i x j h1 h2 => ?_⟩
  · have := List.all_eq_true.mp S.loc y hy
    rw [e] at this
    simpa using this
  · have := List.all_eq_true.mp S.free y hy
    rw [e] at this
    simpa using this
  · have hz : (Nc.zip cs)[i]? = some (x, some j) := by
      rw [List.getElem?_zip_eq_some]
      exact ⟨h1, h2⟩
    have := List.all_eq_true.mp S.out (x, some j) (List.mem_of_getElem? hz)
    simpa using this
/-- what is asked of a def that is called -/
structure Dn (K : PySem.W.Frag) (mg : Str → Option Value) (x : Str) (ps : List Str) (st : Stmt) (f : Addr) (fd : FuncData) : Prop where
  fn : Fun K x x st f fd
  bd : Binds K fd ps []
  mg : mg x = some (.ref f)
end LS
namespace LS
open PySem PySem.Spec PyProof.Rows L2
section
variable {X : Cx} {E : XK}
theorem ev_neg {a : Expr} {f : ME} {pos : Pos} (ha : Ev X E a f) : Ev X E (.UnaryOp .USub a pos) (fun ρ h => (f ρ h).bind fun x h1 => match x with
    | .int i => .ok (.int (-i)) h1
    | _ => .stuck) :=
  pe_imp (pe_un un_neg ha) fun σ H Q z1_ => by obtain ⟨m, ρ, h, hr, er, p⟩ := z1_; exact (⟨m, ρ, h, hr, er, Post.bind p fun x h1 v m1 H1 eo p1 k1 hr1 r1 q1 => by
    clear eo
    split at q1
    · simp only [rD, DV] at r1
      subst r1
      exact ⟨_, rfl, okq hr1 q1 (by simp [DV])⟩
    · exact q1.elim⟩)
noncomputable def mNeg (f : ME) : ME := fun ρ h => (f ρ h).bind fun x h1 => match x with
    | .int i => .ok (.int (-i)) h1
    | _ => .stuck
theorem pair_pg {i j : Nat} {x y : Str} {px py tp : Pos} {kt : Nat} (hc : X.calm = true) (h1 : PG X (.Name x px) (gName i)) (h2 : PG X (.Name y py) (gName j)) : PG X (.Tuple [.Name x px, .Name y py] kt tp) (gTup X.K 2 (gCons (gName i) (gCons (gName j) gNil))) :=
  pg_tup hc (pgs_cons h1 (pgs_cons h2 pgs_nil))
end
end LS

namespace LS
open PySem PySem.Spec PyProof.Rows L2

noncomputable def CMl (i j : Int) : Prop := CMul i j ∨ (Builtin.Int.intBits i ≤ 16777216 ∧ Builtin.Int.intBits j ≤ 16777216)
instance (i j : Int) : Decidable (CMl i j) := by unfold CMl; infer_instance
theorem CMl.ok {i j : Int} (h : CMl i j) : IntMulOk i j := by
  rcases h with h | ⟨h1, h2⟩
  · exact h.ok
  · unfold IntMulOk
    intro z
    simp only [Bool.and_eq_true, decide_eq_true_eq] at z
    have := z.2
    unfold Builtin.Int.intTooBig at this
    simp only [decide_eq_true_eq] at this
    have hb : (bitsLine : Int) = 134217728 := by first | rfl | decide
    (first | lia | omega)
variable {X : Cx}
theorem op_mul' : OpR X (binaryOp .Mult) (rI CMl fun i j => .int (i * j)) := opI fun _ _ _ _ _ _ _ hc q => mul_int q hc.ok
noncomputable def mulD' : D → D → HD → Out D
  | .int i, .int j, h => if CMl i j then .ok (.int (i * j)) h else .stuck
  | .loc l, .int k, h => match h[l]? with
    | some (.lst xs) => if -(2 ^ 63) ≤ k ∧ k < 2 ^ 63 then newL (List.replicate k.toNat xs).flatten h else .stuck
    | _ => .stuck
  | _, _, _ => .stuck
theorem mulM' : OpM X (binaryOp .Mult) mulD' := by
  refine ⟨_, op_mul'.or op_rep, fun m H h E x y v u Q hr rx ry q => ?_⟩
  unfold mulD' at q
  split at q
  · simp only [DV] at rx ry
    subst rx ry
    split at q
    · rename_i hc
      exact .inl ⟨_, _, rfl, rfl, hc, okq hr q (by simp [DV])⟩
    · exact q.elim
  · simp only [DV] at rx ry
    obtain ⟨a, rfl, ha⟩ := rx
    subst ry
    split at q
    · rename_i k _ xs e
      split at q
      · rename_i hk
        obtain ⟨vs, h1, d1⟩ := hr.cells _ _ a e ha
        obtain ⟨z, q'⟩ := post_newL hr (d1.rep k.toNat) q
        refine .inr ⟨a, k, vs, rfl, rfl, h1, hk.1, hk.2, ?_, q'⟩
        rw [len_rep] at z
        rw [Nat.mul_comm]; exact z
      · exact q.elim
    · exact q.elim
  · exact q.elim
end LS

namespace Att
open PySem PySem.W PySem.Calls PyProof.Rows
theorem bits_items {ns : List Int} (h : WData.layable (.list (ns.map WData.int)) = true) : ∀ n ∈ ns, Builtin.Int.intBits n ≤ 2 ^ 20 := by
  have hw : WData.weight (.list (ns.map WData.int)) ≤ 2 ^ 20 := (layableW_iff.mp h).2.2
  have key : ∀ (ns : List Int) (b : Nat), WData.weightAll (ns.map WData.int) ≤ b → ∀ n ∈ ns, Builtin.Int.intBits n ≤ b := by
    intro ns
    induction ns with
    | nil => intro b _ n hn; cases hn
    | cons m r ih =>
      intro b hb n hn
      have e : WData.weightAll ((m :: r).map WData.int) = Builtin.Int.intBits m + 1 + WData.weightAll (r.map WData.int) := by
        simp only [List.map_cons, WData.weightAll, WData.weight]
        rfl
      rw [e] at hb
      rcases List.mem_cons.mp hn with z | z
      · subst z; (first | lia | omega)
      · exact ih b (by (first | lia | omega)) n z
  exact key ns _ (by simpa only [WData.weight] using hw)
theorem attach_bits {l : OpenLaw} {n : Nat} {q : Program} {loose : List Str} {XP : (Str → Option Value) → Heap → Prop} {YP : World → Heap → Prop} {d : DefRec}
    (hn : l.most = some n) (hdf : d.params.defaults = [])
    (call : ∀ (w : World) (s₀ s₁ : Shared) (mg mb : Str → Option Value) (fa : Addr) (o : Obj) (pm cd doc : Value) (a : Addr) (vs : List Value) (ns : List Int), (∀ n ∈ ns, Builtin.Int.intBits n ≤ 2 ^ 20) →
      Ground q loose [] XP w s₀ mg mb s₁.heap → YP w s₁.heap →
      s₁.heap.get? fa = some o → o.data = .func (docDef d.name d.params d.body d.scope pm cd doc) → s₁.heap.CodeRec cd d.name → mg d.name = some (.ref fa) →
      s₁.heap.get? a = some { cls := .type "list", data := .seq vs.toArray } → IntsAre vs ns → ns.length ≤ n → s₁.gens = #[] →
      codeAny (model l.prog w) callerA (.call (.ref fa) ⟨[.ref a], []⟩) (fun r s' => r = .ok (.ret (.bool true)) ∧ OldK s₁.heap s'.heap ∧ s'.os = s₁.os ∧ AllBare s'.gens) s₁) :
    WalkO q loose XP YP l.row.toRowW d [] (fun f vs => PySem.call f vs) := by
  intro w s₀ s₁ mg mb G Y fa o pm cd doc dV kV ho hd hcd hD hmg hg args vals as hpre hlay hrd hwl hlo
  obtain rfl : dV = .none := Dflts.none hD hdf
  obtain rfl : kV = .none := Dflts.noKw hD
  obtain ⟨a, vs, ns, rfl, rfl, hobj, hints, hlen⟩ := script_of hn hpre hwl
  have hb := bits_items (layableW_arg hlay _ List.mem_cons_self)
  refine enter_call (codeAny_mono (call w s₀ s₁ mg mb fa o pm cd doc a vs ns hb G Y ho (fd_plain hd) hcd hmg hobj hints hlen hg) fun r s' hq => ?_)
  obtain ⟨rfl, h2, h3, h4⟩ := hq
  exact ⟨.inl ⟨.bool true, .bool true, [], rfl, fun _ => rfl, .bool true, post_true l _, fun _ => ⟨List.Pairwise.nil, fun _ hm => (nomatch hm)⟩⟩, h2, h3, h4⟩
end Att
namespace LS
open PySem PySem.Spec PyProof.Rows L2
end LS


namespace LS
open PySem PySem.Spec PyProof.Rows L2
noncomputable def Wp {α : Type} (o : Out α) (Q : α → HD → Prop) : Prop := match o with
  | .ok a h => Q a h
  | _ => False
section
variable {α β : Type} {o : Out α} {Q Q' : α → HD → Prop}
@[simp] theorem wp_ok (a : α) (h : HD) : Wp (.ok a h) Q = Q a h := rfl
@[simp] theorem wp_stuck : Wp .stuck Q = False := rfl
theorem wpe {o' : Out α} (e : o = o') (h : Wp o' Q) : Wp o Q := e ▸ h
theorem wp_bind {k : α → HD → Out β} {Q : β → HD → Prop} : Wp (o.bind k) Q = Wp o fun a h => Wp (k a h) Q := by cases o <;> rfl
theorem Wp.mono (h : Wp o Q) (f : ∀ a h, Q a h → Q' a h) : Wp o Q' := by
  cases o with
  | ok a h' => exact f _ _ h
  | _ => exact h.elim
theorem Wp.ex (h : Wp o Q) : ∃ a h', o = .ok a h' ∧ Q a h' := by
  cases o with
  | ok a h' => exact ⟨a, h', rfl, h⟩
  | _ => exact h.elim
end
/-- all old cells as they were -/
noncomputable def Sm (h h' : HD) : Prop := ∀ (l : Nat) (c : Cell), h[l]? = some c → h'[l]? = some c
theorem Sm.refl (h : HD) : Sm h h := fun _ _ e => e
theorem Sm.trans {h h1 h2 : HD} (a : Sm h h1) (b : Sm h1 h2) : Sm h h2 := fun l c e => b l c (a l c e)
theorem Sm.app (h t : HD) : Sm h (h ++ t) := fun l c e => by
  rw [List.getElem?_append_left (List.getElem?_eq_some_iff.mp e).1]; exact e
/-- nothing but new cells -/
noncomputable def Pu {α : Type} (o : Out α) (h : HD) (a : α) : Prop := Wp o fun x h' => x = a ∧ Sm h h'
section
variable {α β : Type} {o : Out α} {h : HD} {a : α}
theorem Pu.wp {Q : α → HD → Prop} (p : Pu o h a) (k : ∀ h', Sm h h' → Q a h') : Wp o Q := Wp.mono p fun x h' z1_ => by obtain ⟨e, s⟩ := z1_; subst e; exact k h' s
theorem Pu.ok : Pu (.ok a h) h a := ⟨rfl, .refl _⟩
theorem Pu.bind {k : α → HD → Out β} {b : β} (p : Pu o h a) (q : ∀ h', Sm h h' → Pu (k a h') h' b) : Pu (o.bind k) h b := by
  unfold Pu
  rw [wp_bind]
  exact p.wp fun h' s => Wp.mono (q h' s) fun x h2 z2_ => by obtain ⟨e, s2⟩ := z2_; exact (⟨e, s.trans s2⟩)
theorem Pu.noErr (p : Pu o h a) : Pu (noErr o) h a := by
  obtain ⟨x, h', e, q⟩ := Wp.ex p
  rw [e]; exact q
end
noncomputable def par2 (i j : Nat) (ρ : Rho) (ds : List D) (h : HD) : Out (Fl × Rho) := match ds with
  | [x, y] => .ok (.nx, (ρ.set i (some x)).set j (some y)) h
  | _ => .stuck
noncomputable def unpO (o : Option Rho) (h : HD) : Out (Fl × Rho) := match o with
  | some ρ1 => .ok (.nx, ρ1) h
  | none => .stuck
noncomputable def andK (g : HD → Out D) (x : D) (h : HD) : Out D := match x with
  | .bl true => g h
  | .bl false => .ok (.bl false) h
  | _ => .stuck
noncomputable def orK (g : HD → Out D) (x : D) (h : HD) : Out D := match x with
  | .bl true => .ok (.bl true) h
  | .bl false => g h
  | _ => .stuck
noncomputable def notK (x : D) (h : HD) : Out D := match x with
  | .bl b => .ok (.bl (!b)) h
  | _ => .stuck
noncomputable def negK (x : D) (h : HD) : Out D := match x with
  | .int i => .ok (.int (-i)) h
  | _ => .stuck
@[simp] theorem wp_par2 {i j : Nat} {ρ : Rho} {x y : D} {h : HD} {Q : Fl × Rho → HD → Prop} : Wp (par2 i j ρ [x, y] h) Q = Q (.nx, (ρ.set i (some x)).set j (some y)) h := rfl
@[simp] theorem wp_unpO {ρ : Rho} {h : HD} {Q : Fl × Rho → HD → Prop} : Wp (unpO (some ρ) h) Q = Q (.nx, ρ) h := rfl
@[simp] theorem andK_t {g : HD → Out D} {h : HD} : andK g (.bl true) h = g h := rfl
@[simp] theorem andK_f {g : HD → Out D} {h : HD} : andK g (.bl false) h = .ok (.bl false) h := rfl
@[simp] theorem orK_t {g : HD → Out D} {h : HD} : orK g (.bl true) h = .ok (.bl true) h := rfl
@[simp] theorem orK_f {g : HD → Out D} {h : HD} : orK g (.bl false) h = g h := rfl
@[simp] theorem notK_b {b : Bool} {h : HD} : notK (.bl b) h = .ok (.bl (!b)) h := rfl
@[simp] theorem negK_i {i : Int} {h : HD} : negK (.int i) h = .ok (.int (-i)) h := rfl

noncomputable def kSeq (g : MS) (Q : Fl × Rho → HD → Prop) : Fl × Rho → HD → Prop
  | (.nx, ρ), h => Wp (g ρ h) Q
  | y, h => Q y h
noncomputable def kBody (Q : D → HD → Prop) : Fl × Rho → HD → Prop
  | (.nx, _), h => Q .non h
  | (.rt d, _), h => Q d h
  | _, _ => False
section
variable {ρ : Rho} {h : HD} {Q : Fl × Rho → HD → Prop} {QB : D → HD → Prop} {g g1 g2 : MS} {f : ME} {t : MT}
@[simp] theorem kSeq_nx : kSeq g Q (.nx, ρ) h = Wp (g ρ h) Q := rfl
@[simp] theorem kSeq_rt {d : D} : kSeq g Q (.rt d, ρ) h = Q (.rt d, ρ) h := rfl
@[simp] theorem kBody_nx : kBody QB (.nx, ρ) h = QB .non h := rfl
@[simp] theorem kBody_rt {d : D} : kBody QB (.rt d, ρ) h = QB d h := rfl
@[simp] theorem wp_seq : Wp (mSeq g1 g2 ρ h) Q = Wp (g1 ρ h) (kSeq g2 Q) := by
  unfold mSeq
  rw [wp_bind]
  congr 1
  funext x h'
  obtain ⟨fl, ρ1⟩ := x
  cases fl <;> rfl
theorem wp_body {n : Nat} {ds : List D} : Wp (mBody n g ds h) QB = Wp (g (ds.map some ++ List.replicate (n - ds.length) none) h) (kBody QB) := by
  unfold mBody
  rw [wp_bind]
  congr 1
  funext x h'
  obtain ⟨fl, ρ1⟩ := x
  cases fl <;> rfl
@[simp] theorem wp_skip : Wp (mSkip ρ h) Q = Q (.nx, ρ) h := rfl
@[simp] theorem wp_expr : Wp (mExpr f ρ h) Q = Wp (f ρ h) fun _ h1 => Q (.nx, ρ) h1 := by unfold mExpr; rw [wp_bind]; rfl
@[simp] theorem wp_ret : Wp (mRet f ρ h) Q = Wp (f ρ h) fun d h1 => Q (.rt d, ρ) h1 := by unfold mRet; rw [wp_bind]; rfl
@[simp] theorem wp_set {i : Nat} : Wp (mSet i f ρ h) Q = Wp (f ρ h) fun d h1 => Q (.nx, ρ.set i (some d)) h1 := by unfold mSet; rw [wp_bind]; rfl
@[simp] theorem wp_ifS : Wp (mIfS t g1 g2 ρ h) Q = Wp (t ρ h) fun b h1 => Wp (if b = true then g1 ρ h1 else g2 ρ h1) Q := by unfold mIfS; rw [wp_bind]
@[simp] theorem wp_par {i j : Nat} {fa : MA} : Wp (mPar i j fa ρ h) Q = Wp (fa ρ h) fun ds h1 => Wp (par2 i j ρ ds h1) Q := by unfold mPar; rw [wp_bind]; rfl
@[simp] theorem wp_unp {sg : MG} : Wp (mUnp sg f ρ h) Q = Wp (f ρ h) fun d h1 => Wp (unpO (sg d ρ) h1) Q := by unfold mUnp; rw [wp_bind]; rfl
@[simp] theorem wp_setIx {fo fi fv : ME} : Wp (mSetIx fo fi fv ρ h) Q = Wp (fv ρ h) fun v h1 => Wp (fo ρ h1) fun o h2 => Wp (fi ρ h2) fun i h3 => Wp (setD o i v h3 (.ok (.nx, ρ) h3)) Q := by
  unfold mSetIx; simp only [wp_bind]
end

section
variable {ρ : Rho} {h : HD} {Q : D → HD → Prop} {QB : Bool → HD → Prop} {QA : List D → HD → Prop} {f g k : ME} {t u : MT} {fa : MA} {op op' : D → D → HD → Out D} {F : List D → HD → Out D}
@[simp] theorem wp_var0 {d : D} {r : Rho} : Wp (mVar 0 (some d :: r) h) Q = Q d h := rfl
@[simp] theorem wp_varS {i : Nat} {x : Option D} {r : Rho} : Wp (mVar (i + 1) (x :: r) h) Q = Wp (mVar i r h) Q := rfl
@[simp] theorem wp_c {d : D} : Wp (mC d ρ h) Q = Q d h := rfl
@[simp] theorem wp_op : Wp (mOp op f g ρ h) Q = Wp (f ρ h) fun x h1 => Wp (g ρ h1) fun y h2 => Wp (op x y h2) Q := by unfold mOp; simp only [wp_bind]
@[simp] theorem wp_call : Wp (mCall F fa ρ h) Q = Wp (fa ρ h) fun ds h1 => Wp (F ds h1) Q := by unfold mCall; rw [wp_bind]
@[simp] theorem wp_nil : Wp (mNil ρ h) QA = QA [] h := rfl
@[simp] theorem wp_cons : Wp (mCons f fa ρ h) QA = Wp (f ρ h) fun x h1 => Wp (fa ρ h1) fun xs h2 => QA (x :: xs) h2 := by unfold mCons; simp only [wp_bind]; rfl
@[simp] theorem wp_tup : Wp (mTup fa ρ h) Q = Wp (fa ρ h) fun xs h1 => Wp (if xs.length ≤ sizeLine then .ok (.tup xs) h1 else .stuck) Q := by unfold mTup; simp only [wp_bind]
@[simp] theorem wp_lst : Wp (mLst fa ρ h) Q = Wp (fa ρ h) fun xs h1 => Wp (newL xs h1) Q := by unfold mLst; simp only [wp_bind]
@[simp] theorem wp_tb : Wp (mTb f ρ h) QB = Wp (f ρ h) fun x h1 => Wp (asB x h1) QB := by unfold mTb; rw [wp_bind]
@[simp] theorem wp_tru : Wp (mTru f ρ h) QB = Wp (f ρ h) fun x h1 => Wp (truD x h1) QB := by unfold mTru; rw [wp_bind]
@[simp] theorem wp_not : Wp (mNot t ρ h) QB = Wp (t ρ h) fun b h1 => QB (!b) h1 := by unfold mNot; rw [wp_bind]; rfl
@[simp] theorem wp_and : Wp (mAnd t u ρ h) QB = Wp (t ρ h) fun b h1 => Wp (if b = true then u ρ h1 else .ok false h1) QB := by unfold mAnd; rw [wp_bind]
@[simp] theorem wp_or : Wp (mOr t u ρ h) QB = Wp (t ρ h) fun b h1 => Wp (if b = true then .ok true h1 else u ρ h1) QB := by unfold mOr; rw [wp_bind]
@[simp] theorem wp_andV : Wp (mAndV f g ρ h) Q = Wp (f ρ h) fun x h1 => Wp (andK (g ρ) x h1) Q := by unfold mAndV; rw [wp_bind]; rfl
@[simp] theorem wp_orV : Wp (mOrV f g ρ h) Q = Wp (f ρ h) fun x h1 => Wp (orK (g ρ) x h1) Q := by unfold mOrV; rw [wp_bind]; rfl
@[simp] theorem wp_notV : Wp (mNotV f ρ h) Q = Wp (f ρ h) fun x h1 => Wp (notK x h1) Q := by unfold mNotV; rw [wp_bind]; rfl
@[simp] theorem wp_neg : Wp (mNeg f ρ h) Q = Wp (f ρ h) fun x h1 => Wp (negK x h1) Q := by unfold mNeg; rw [wp_bind]; rfl
@[simp] theorem wp_if : Wp (mIf t f g ρ h) Q = Wp (t ρ h) fun b h1 => Wp (if b = true then f ρ h1 else g ρ h1) Q := by unfold mIf; rw [wp_bind]
@[simp] theorem wp_chain : Wp (mChain op op' f g k ρ h) Q = Wp (f ρ h) fun x h1 => Wp (g ρ h1) fun y h2 => Wp (op x y h2) fun z h3 => Wp (andK (fun h => (k ρ h).bind fun w h4 => op' y w h4) z h3) Q := by unfold mChain; simp only [wp_bind]; rfl
@[simp] theorem wp_rev2 : Wp (mRev2 f ρ h) Q = Wp (f ρ h) fun x h1 => Wp (rev2D x h1) Q := by unfold mRev2; rw [wp_bind]
@[simp] theorem wp_app : Wp (mApp f g ρ h) Q = Wp (f ρ h) fun x h1 => Wp (isLst x h1) fun x h1 => Wp (g ρ h1) fun y h2 => Wp (appD x y h2) Q := by unfold mApp; simp only [wp_bind]
@[simp] theorem wp_true : Wp (mTrue ρ h) QB = QB true h := rfl
theorem wp_newL {xs : List D} (hn : xs.length ≤ sizeLine) (q : ∀ l h', Sm h h' → h'[l]? = some (.lst xs) → l = h.length → h' = h ++ [.lst xs] → Q (.loc l) h') : Wp (newL xs h) Q := by
  unfold newL
  rw [if_pos hn]
  exact q h.length _ (.app _ _) (by simp) rfl rfl
end

section
variable {ρ : Rho} {h : HD} {QI : (List D × Src) → HD → Prop} {f : ME} {fa : MA}
@[simp] theorem wp_iseq : Wp (mISeq f ρ h) QI = Wp (f ρ h) fun d h1 => Wp (iSeqD d h1) QI := by unfold mISeq; rw [wp_bind]
@[simp] theorem wp_irng1 : Wp (mIRng1 fa ρ h) QI = Wp (fa ρ h) fun d h1 => Wp (rng1D d h1) QI := by unfold mIRng1; rw [wp_bind]
@[simp] theorem wp_irng2 : Wp (mIRng2 fa ρ h) QI = Wp (fa ρ h) fun d h1 => Wp (rng2D d h1) QI := by unfold mIRng2; rw [wp_bind]
@[simp] theorem wp_ienum : Wp (mIEnum fa ρ h) QI = Wp (fa ρ h) fun d h1 => Wp (enumD d h1) QI := by unfold mIEnum; rw [wp_bind]
theorem rng1_ok {n : Nat} (hn : n ≤ 1000) : rng1D [.int (n : Int)] h = .ok ((List.range n).map fun k => D.int ((k : Nat) : Int), []) h := by
  have : (-(2 ^ 62) : Int) ≤ (n : Int) ∧ (n : Int) < 2 ^ 62 := by (first | lia | omega)
  unfold rng1D
  simp only
  rw [if_pos this]
  simp [rngL]
end

theorem compL_pu {α : Type} {src : Src} {items : List D} {sg : MG} {t : MT} {f : ME} {ρc : Rho} (φ : α → D) (g : α → Bool) (e : α → D) (ρ1 : α → Rho) :
    ∀ (xs : List α) (h : HD), (∀ h', Sm h h' → srcOk src items h') → (∀ x ∈ xs, sg (φ x) ρc = some (ρ1 x)) → (∀ x ∈ xs, ∀ h', Sm h h' → Pu (t (ρ1 x) h') h' (g x)) → (∀ x ∈ xs, g x = true → ∀ h', Sm h h' → Pu (f (ρ1 x) h') h' (e x)) →
      Pu (compL src items sg t f ρc (xs.map φ) h) h ((xs.filter g).map e)
  | [], h, hs, _, _, _ => by
    simp only [List.map_nil, List.filter_nil, compL]
    rw [if_pos (hs h (.refl _))]
    exact .ok
  | x :: xs, h, hs, hg, ht, hf => by
    simp only [List.map_cons, compL]
    rw [if_pos (hs h (.refl _)), hg x List.mem_cons_self]
    simp only
    refine Pu.bind (ht x List.mem_cons_self h (.refl _)).noErr fun h1 s1 => ?_
    have ih : ∀ h2, Sm h h2 → Pu (compL src items sg t f ρc (xs.map φ) h2) h2 ((xs.filter g).map e) := fun h2 s2 => compL_pu φ g e ρ1 xs h2 (fun h' s' => hs h' (s2.trans s'))
      (fun y hy => hg y (List.mem_cons_of_mem _ hy)) (fun y hy h' s' => ht y (List.mem_cons_of_mem _ hy) h' (s2.trans s')) (fun y hy gy h' s' => hf y (List.mem_cons_of_mem _ hy) gy h' (s2.trans s'))
    cases hgx : g x with
    | false =>
      rw [if_neg Bool.false_ne_true, List.filter_cons_of_neg (by simp [hgx])]
      exact ih h1 s1
    | true =>
      rw [if_pos rfl, List.filter_cons_of_pos hgx]
      refine Pu.bind (hf x List.mem_cons_self hgx h1 s1).noErr fun h2 s2 => ?_
      exact Pu.bind (ih h2 (s1.trans s2)) fun h3 _ => .ok
theorem filter_tt {α : Type} {xs : List α} : xs.filter (fun _ => true) = xs := List.filter_eq_self.mpr fun _ _ => rfl
section
variable {α : Type} {cs : List (Option Nat)} {it : MI} {sg : MG} {t : MT} {f : ME} {ρ : Rho} {h : HD} {src : Src} {xs : List α} {φ : α → D}
theorem comp_wp {Q : D → HD → Prop} (g : α → Bool) (e : α → D) (ρ1 : α → Rho) (hi : Wp (it ρ h) fun x h' => x = (xs.map φ, src) ∧ Sm h h' ∧ ∀ h2, Sm h' h2 → srcOk src (xs.map φ) h2) (hn : xs.length ≤ sizeLine)
    (hg : ∀ x ∈ xs, sg (φ x) (cRho cs ρ) = some (ρ1 x)) (ht : ∀ x ∈ xs, ∀ h', Sm h h' → Pu (t (ρ1 x) h') h' (g x)) (hf : ∀ x ∈ xs, g x = true → ∀ h', Sm h h' → Pu (f (ρ1 x) h') h' (e x))
    (q : ∀ l h', Sm h h' → h'[l]? = some (.lst ((xs.filter g).map e)) → Q (.loc l) h') : Wp (mComp cs it sg t f ρ h) Q := by
  unfold mComp
  rw [wp_bind]
  refine Wp.mono hi fun x h1 z4_ => ?_
  obtain ⟨ex, s1, hs⟩ := z4_
  subst ex
  rw [if_pos (by simpa using hn), wp_bind]
  refine (compL_pu φ g e ρ1 xs h1 hs hg (fun x hx h' s' => ht x hx h' (s1.trans s')) (fun x hx gx h' s' => hf x hx gx h' (s1.trans s'))).wp fun h2 s2 => ?_
  refine wp_newL ?_ fun l h3 s3 e3 _ _ => q l h3 ((s1.trans s2).trans s3) e3
  rw [List.length_map]
  exact Nat.le_trans (List.length_filter_le _ _) hn
theorem comp_tup (g : α → Bool) (e : α → D) (ρ1 : α → Rho) (hi : Wp (it ρ h) fun x h' => x = (xs.map φ, src) ∧ Sm h h' ∧ ∀ h2, Sm h' h2 → srcOk src (xs.map φ) h2) (hn : xs.length ≤ sizeLine)
    (hg : ∀ x ∈ xs, sg (φ x) (cRho cs ρ) = some (ρ1 x)) (ht : ∀ x ∈ xs, ∀ h', Sm h h' → Pu (t (ρ1 x) h') h' (g x)) (hf : ∀ x ∈ xs, g x = true → ∀ h', Sm h h' → Pu (f (ρ1 x) h') h' (e x)) :
    Pu (mCall (ar1 tupOfD) (mCons (mComp cs it sg t f) mNil) ρ h) h (.tup ((xs.filter g).map e)) := by
  unfold Pu
  rw [wp_call, wp_cons]
  refine comp_wp g e ρ1 hi hn hg ht hf fun l h' s' e' => ?_
  rw [wp_nil]
  simp only [ar1, tupOfD, e']
  exact ⟨rfl, s'⟩
theorem comp_tup' (e : α → D) (ρ1 : α → Rho) (hi : Wp (it ρ h) fun x h' => x = (xs.map φ, src) ∧ Sm h h' ∧ ∀ h2, Sm h' h2 → srcOk src (xs.map φ) h2) (hn : xs.length ≤ sizeLine)
    (hg : ∀ x ∈ xs, sg (φ x) (cRho cs ρ) = some (ρ1 x)) (hf : ∀ x ∈ xs, ∀ h', Sm h h' → Pu (f (ρ1 x) h') h' (e x)) :
    Pu (mCall (ar1 tupOfD) (mCons (mComp cs it sg mTrue f) mNil) ρ h) h (.tup (xs.map e)) := by
  have := comp_tup (t := mTrue) (f := f) (fun _ => true) e ρ1 hi hn hg (fun x hx h' s' => (.ok : Pu (.ok true h') h' true)) (fun x hx _ h' s' => hf x hx h' s')
  rw [filter_tt] at this
  exact this
theorem allSome_map {β γ : Type} {f : β → Option γ} {g : β → γ} : ∀ {xs : List β}, (∀ x ∈ xs, f x = some (g x)) → allSome (xs.map f) = some (xs.map g)
  | [], _ => rfl
  | x :: xs, hf => by
    simp only [List.map_cons, hf x List.mem_cons_self, allSome, allSome_map (fun y hy => hf y (List.mem_cons_of_mem _ hy)), Option.map_some]
theorem comp_all (b : α → Bool) (ρ1 : α → Rho) (hi : Wp (it ρ h) fun x h' => x = (xs.map φ, src) ∧ Sm h h' ∧ ∀ h2, Sm h' h2 → srcOk src (xs.map φ) h2) (hn : xs.length ≤ sizeLine)
    (hg : ∀ x ∈ xs, sg (φ x) (cRho cs ρ) = some (ρ1 x)) (hf : ∀ x ∈ xs, ∀ h', Sm h h' → Pu (f (ρ1 x) h') h' (.bl (b x))) :
    Pu (mCall (ar1 allD) (mCons (mComp cs it sg mTrue f) mNil) ρ h) h (.bl (xs.all b)) := by
  unfold Pu
  rw [wp_call, wp_cons]
  refine comp_wp (fun _ => true) (fun x => .bl (b x)) ρ1 hi hn hg (fun x hx h' s' => (.ok : Pu (.ok true h') h' true)) (fun x hx _ h' s' => hf x hx h' s') fun l h' s' e' => ?_
  rw [wp_nil]
  rw [filter_tt] at e'
  simp only [ar1, allD, e', List.map_map]
  rw [allSome_map (f := asBl ∘ fun x => D.bl (b x)) (g := b) (fun x _ => rfl)]
  refine ⟨?_, s'⟩
  simp [List.all_map]
end

noncomputable def kLoop (I : Rho → HD → Prop) (Q : Fl × Rho → HD → Prop) : Fl × Rho → HD → Prop
  | (.nx, ρ), h => I ρ h
  | (.ct, ρ), h => I ρ h
  | (.bk, ρ), h => Q (.nx, ρ) h
  | (.rt d, ρ), h => Q (.rt d, ρ) h
theorem loop_wp {α : Type} {src : Src} {items : List D} {sg : MG} {body : MS} {Q : Fl × Rho → HD → Prop} (φ : α → D) (I : List α → Rho → HD → Prop) (ho : ∀ xs ρ h, I xs ρ h → srcOk src items h)
    (step : ∀ x xs ρ h, I (x :: xs) ρ h → ∃ ρ1, sg (φ x) ρ = some ρ1 ∧ Wp (body ρ1 h) (kLoop (I xs) Q)) (done : ∀ ρ h, I [] ρ h → Q (.nx, ρ) h) : ∀ (xs : List α) (ρ : Rho) (h : HD), I xs ρ h → Wp (loopM src items sg body (xs.map φ) ρ h) Q
  | [], ρ, h, i => by
    simp only [List.map_nil, loopM]
    rw [if_pos (ho _ _ _ i)]
    exact done ρ h i
  | x :: xs, ρ, h, i => by
    simp only [List.map_cons, loopM]
    rw [if_pos (ho _ _ _ i)]
    obtain ⟨ρ1, e, w⟩ := step x xs ρ h i
    rw [e]
    simp only
    rw [wp_bind]
    refine Wp.mono w fun y h' k => ?_
    obtain ⟨fl, ρ2⟩ := y
    cases fl with
    | nx => exact loop_wp φ I ho step done xs ρ2 h' k
    | ct => exact loop_wp φ I ho step done xs ρ2 h' k
    | bk => exact k
    | rt d => exact k
theorem for_wp {α : Type} {src : Src} {it : MI} {sg : MG} {body : MS} {Q : Fl × Rho → HD → Prop} {ρ : Rho} {h : HD} {xs : List α} (φ : α → D) (I : List α → Rho → HD → Prop) (hi : Wp (it ρ h) fun x h' => x = (xs.map φ, src) ∧ I xs ρ h') (ho : ∀ ys ρ h, I ys ρ h → srcOk src (xs.map φ) h)
    (step : ∀ x xs ρ h, I (x :: xs) ρ h → ∃ ρ1, sg (φ x) ρ = some ρ1 ∧ Wp (body ρ1 h) (kLoop (I xs) Q)) (done : ∀ ρ h, I [] ρ h → Q (.nx, ρ) h) : Wp (mFor it sg body ρ h) Q := by
  unfold mFor
  rw [wp_bind]
  refine Wp.mono hi fun x h1 z5_ => ?_
  obtain ⟨e, i⟩ := z5_
  subst e
  exact loop_wp φ I ho step done xs ρ h1 i

/-- data without lists, as the library reads it -/
noncomputable def Py (d : D) (p : PyData) : Prop := dPy [] 8 d = some p ∧ SeqAt.shaped p = true
end LS

namespace LS
open PySem PySem.Spec PyProof.Rows L2
@[simp] theorem sz0 : (0 ≤ sizeLine) = True := eq_true (Nat.zero_le _)
@[simp] theorem sz1 : (1 ≤ sizeLine) = True := eq_true (by unfold sizeLine; (first | lia | omega))
@[simp] theorem sz2 : (2 ≤ sizeLine) = True := eq_true (by unfold sizeLine; (first | lia | omega))
@[simp] theorem sz3 : (3 ≤ sizeLine) = True := eq_true (by unfold sizeLine; (first | lia | omega))
@[simp] theorem sz4 : (4 ≤ sizeLine) = True := eq_true (by unfold sizeLine; (first | lia | omega))
@[simp] theorem sz5 : (5 ≤ sizeLine) = True := eq_true (by unfold sizeLine; (first | lia | omega))
section
variable {h : HD} {a b c : D} {ds es : List D} {i j : Int} {F1 : D → HD → Out D} {F2 : D → D → HD → Out D} {F3 : D → D → D → HD → Out D}
@[simp] theorem ar1_ok : ar1 F1 [a] h = F1 a h := rfl
@[simp] theorem ar2_ok : ar2 F2 [a, b] h = F2 a b h := rfl
@[simp] theorem ar3_ok : ar3 F3 [a, b, c] h = F3 a b c h := rfl
@[simp] theorem asB_ok {b : Bool} : asB (.bl b) h = .ok b h := rfl
@[simp] theorem tru_bl {b : Bool} : truD (.bl b) h = .ok b h := rfl
@[simp] theorem tru_non : truD .non h = .ok false h := rfl
@[simp] theorem tru_int : truD (.int i) h = .ok (i != 0) h := rfl
@[simp] theorem tru_tup : truD (.tup ds) h = .ok (!ds.isEmpty) h := rfl
@[simp] theorem inst_ii : instD (.int i) (.ty "int") h = .ok (.bl true) h := rfl
@[simp] theorem inst_ib : instD (.int i) (.ty "bool") h = .ok (.bl false) h := rfl
@[simp] theorem inst_it : instD (.int i) (.ty "tuple") h = .ok (.bl false) h := rfl
@[simp] theorem inst_tt : instD (.tup ds) (.ty "tuple") h = .ok (.bl true) h := rfl
@[simp] theorem inst_ti : instD (.tup ds) (.ty "int") h = .ok (.bl false) h := rfl
@[simp] theorem add_ii : addD (.int i) (.int j) h = .ok (.int (i + j)) h := rfl
@[simp] theorem int0_ii {f : Int → Int → D} : int0D f (.int i) (.int j) h = .ok (f i j) h := rfl
@[simp] theorem is_bb {b c : Bool} : isD (.bl b) (.bl c) h = .ok (.bl (b == c)) h := rfl
@[simp] theorem isnot_bb {b c : Bool} : isnotD (.bl b) (.bl c) h = .ok (.bl (!(b == c))) h := rfl
@[simp] theorem len_tup : lenD (.tup ds) h = .ok (.int ds.length) h := rfl
@[simp] theorem len_scr {ns : List Int} : lenD (.scr ns) h = .ok (.int ns.length) h := by simp [lenD, itemsD]
@[simp] theorem iseq_tup : iSeqD (.tup ds) h = .ok (ds, []) h := rfl
@[simp] theorem tupOf_tup : tupOfD (.tup ds) h = .ok (.tup ds) h := rfl
@[simp] theorem rev2_ok : rev2D (.tup [a, b]) h = .ok (.tup [b, a]) h := rfl
@[simp] theorem max_ii : maxD (.int i) (.int j) h = .ok (.int (if j > i then j else i)) h := rfl
@[simp] theorem min_ii : minD (.int i) (.int j) h = .ok (.int (if j < i then j else i)) h := rfl
@[simp] theorem intOf_bl {b : Bool} : intOfD (.bl b) h = .ok (.int (if b then 1 else 0)) h := rfl
@[simp] theorem intOf_int : intOfD (.int i) h = .ok (.int i) h := rfl
@[simp] theorem sName_ok {ρ : Rho} {k : Nat} : sName k a ρ = some (ρ.set k (some a)) := rfl
@[simp] theorem sPair_ok {ρ : Rho} {k l : Nat} : sPair k l (.tup [a, b]) ρ = some ((ρ.set k (some a)).set l (some b)) := rfl
@[simp] theorem eq_bb {b c : Bool} : eqD (.bl b) (.bl c) h = .ok (.bl (b == c)) h := rfl
@[simp] theorem ne_bb {b c : Bool} : neD (.bl b) (.bl c) h = .ok (.bl (!(b == c))) h := rfl
@[simp] theorem eq_ii : eqD (.int i) (.int j) h = .ok (.bl (i == j)) h := rfl
@[simp] theorem ne_ii : neD (.int i) (.int j) h = .ok (.bl (!(i == j))) h := rfl
theorem loc_tup {l : Nat} (e : h[l]? = some (.lst ds)) : tupOfD (.loc l) h = .ok (.tup ds) h := by simp only [tupOfD, e]
theorem loc_isLst {l : Nat} (e : h[l]? = some (.lst ds)) : isLst (.loc l) h = .ok (.loc l) h := by simp only [isLst, e]
theorem loc_app {l : Nat} (e : h[l]? = some (.lst ds)) (hn : ds.length < sizeLine) : appD (.loc l) a h = .ok .non (h.set l (.lst (ds ++ [a]))) := by simp only [appD, e]; rw [if_pos hn]
theorem ix_tup {k : Nat} (e : ds[k]? = some a) : ixD (.tup ds) (.int (k : Nat)) h = .ok a h := by
  have hk : k < ds.length := (List.getElem?_eq_some_iff.mp e).1
  have e1 : atI ds ((k : Nat) : Int) = some a := by
    unfold atI ixN
    rw [if_pos (by (first | lia | omega)), if_pos (by (first | lia | omega))]
    simpa using e
  simp only [ixD, itemsD, e1]
@[simp] theorem ix_pair0 : ixD (.tup [a, b]) (.int 0) h = .ok a h := rfl
@[simp] theorem ix_pair1 : ixD (.tup [a, b]) (.int 1) h = .ok b h := rfl
theorem ix_scr {ns : List Int} {k : Nat} (e : ns[k]? = some i) : ixD (.scr ns) (.int (k : Nat)) h = .ok (.int i) h := by
  have hk : k < ns.length := (List.getElem?_eq_some_iff.mp e).1
  have e1 : atI (ns.map D.int) ((k : Nat) : Int) = some (.int i) := by
    unfold atI ixN
    rw [if_pos (by (first | lia | omega)), if_pos (by simpa using hk)]
    simp [e]
  simp only [ixD, itemsD, e1]
theorem ix_loc {l k : Nat} (el : h[l]? = some (.lst ds)) (e : ds[k]? = some a) : ixD (.loc l) (.int (k : Nat)) h = .ok a h := by
  have hk : k < ds.length := (List.getElem?_eq_some_iff.mp e).1
  have e1 : atI ds ((k : Nat) : Int) = some a := by
    unfold atI ixN
    rw [if_pos (by (first | lia | omega)), if_pos (by (first | lia | omega))]
    simpa using e
  simp only [ixD, itemsD, el, e1]
theorem set_loc {l k : Nat} {ρ : Rho} (el : h[l]? = some (.lst ds)) (hk : k < ds.length) : setD (.loc l) (.int (k : Nat)) a h (.ok (.nx, ρ) h) = .ok (.nx, ρ) (h.set l (.lst (ds.set k a))) := by
  have : ixN ds.length ((k : Nat) : Int) = some k := by
    unfold ixN
    rw [if_pos (by (first | lia | omega)), if_pos (by (first | lia | omega))]
    simp
  simp only [setD, el, this]
theorem in_ints {neg : Bool} {k : Nat} {ks : List Nat} : inD neg (.int (k : Nat)) (.tup (ks.map fun i => .int ((i : Nat) : Int))) h = .ok (.bl (if neg then !ks.contains k else ks.contains k)) h := by
  have e : allSome ((ks.map fun i => D.int ((i : Nat) : Int)).map flatD) = some (ks.map fun i => V.int ((i : Nat) : Int)) := by
    rw [List.map_map]
    exact allSome_map (f := flatD ∘ fun i => D.int ((i : Nat) : Int)) (fun x _ => rfl)
  have e2 : inV (V.int ((k : Nat) : Int)) (ks.map fun i => V.int ((i : Nat) : Int)) = ks.contains k := by
    unfold inV
    rw [List.any_map, List.contains_eq_any_beq]
    congr 1
    funext i
    change (((i : Nat) : Int) == ((k : Nat) : Int)) = _
    rw [Bool.eq_iff_iff]
    simp
    (first | lia | omega)
  simp only [inD, itemsD, e, flatD, e2]
end

noncomputable def xTup (cs : List (Option Nat)) (it : MI) (sg : MG) (t : MT) (f : ME) : ME := mCall (ar1 tupOfD) (mCons (mComp cs it sg t f) mNil)
noncomputable def xAll (cs : List (Option Nat)) (it : MI) (sg : MG) (t : MT) (f : ME) : ME := mCall (ar1 allD) (mCons (mComp cs it sg t f) mNil)
section
variable {α : Type} {cs : List (Option Nat)} {it : MI} {sg : MG} {t : MT} {f : ME} {ρ : Rho} {h : HD} {src : Src} {xs : List α} {φ : α → D}
@[simp] theorem xTup_fold : mCall (ar1 tupOfD) (mCons (mComp cs it sg t f) mNil) ρ h = xTup cs it sg t f ρ h := rfl
@[simp] theorem xAll_fold : mCall (ar1 allD) (mCons (mComp cs it sg t f) mNil) ρ h = xAll cs it sg t f ρ h := rfl
/-- what is walked, with nothing changed -/
noncomputable def It0 (o : Out (List D × Src)) (h : HD) (ds : List D) (src : Src) : Prop := Wp o fun x h' => x = (ds, src) ∧ Sm h h' ∧ ∀ h2, Sm h' h2 → srcOk src ds h2
theorem p_xAll (b : α → Bool) (ρ1 : α → Rho) (hi : It0 (it ρ h) h (xs.map φ) src) (hg : ∀ x ∈ xs, sg (φ x) (cRho cs ρ) = some (ρ1 x)) (hf : ∀ x ∈ xs, ∀ h', Sm h h' → Pu (f (ρ1 x) h') h' (.bl (b x))) (hn : xs.length ≤ sizeLine) :
    Pu (xAll cs it sg mTrue f ρ h) h (.bl (xs.all b)) := comp_all b ρ1 hi hn hg hf
end
end LS

namespace LS
open PySem PySem.Spec PyProof.Rows L2
section
variable {h : HD} {i j : Int}
theorem mul_r (h1 : -18446744073709551616 < j) (h2 : j < 18446744073709551616) : mulD' (.int i) (.int j) h = .ok (.int (i * j)) h := by
  have : CMl i j := .inl (.inr ⟨by (first | lia | omega), by (first | lia | omega)⟩)
  simp only [mulD']; rw [if_pos this]
theorem mul_l (h1 : -18446744073709551616 < i) (h2 : i < 18446744073709551616) : mulD' (.int i) (.int j) h = .ok (.int (i * j)) h := by
  have : CMl i j := .inl (.inl ⟨by (first | lia | omega), by (first | lia | omega)⟩)
  simp only [mulD']; rw [if_pos this]
theorem mul_b (h1 : Builtin.Int.intBits i ≤ 16777216) (h2 : Builtin.Int.intBits j ≤ 16777216) : mulD' (.int i) (.int j) h = .ok (.int (i * j)) h := by
  have : CMl i j := .inr ⟨h1, h2⟩
  simp only [mulD']; rw [if_pos this]
theorem mod_p (h1 : 0 < j) : modD (.int i) (.int j) h = .ok (.int (i % j)) h := by
  simp only [modD, intD]; rw [if_pos h1]
theorem fdiv_p (h1 : 0 < j) (h2 : j < 18446744073709551616) : fdivD' (.int i) (.int j) h = .ok (.int (i / j)) h := by
  have : CDv i j := ⟨h1, h2⟩
  simp only [fdivD', intD]; rw [if_pos this]
theorem divmod_p (h1 : 0 < j) (h2 : j < 18446744073709551616) : divmodD (.int i) (.int j) h = .ok (.tup [.int (i / j), .int (i % j)]) h := by
  have : CDv i j := ⟨h1, h2⟩
  simp only [divmodD]; rw [if_pos this]
end
theorem wp_noErr {α : Type} {o : Out α} {Q : α → HD → Prop} : Wp (noErr o) Q = Wp o Q := by cases o <;> rfl
/-- a comprehension over numbers, with what stays about the heap -/
theorem compN_wp {src : Src} {items : List D} {sg : MG} {t : MT} {f : ME} {ρc : Rho} (φ : Nat → D) (I : HD → Prop) (T : Nat → Bool → Prop) (R : Nat → D → Prop) (ρ1 : Nat → Rho) (hs : ∀ h, I h → srcOk src items h) :
    ∀ (xs : List Nat) (h : HD), xs.Nodup → I h → (∀ x ∈ xs, sg (φ x) ρc = some (ρ1 x)) → (∀ x ∈ xs, ∀ h, I h → Wp (t (ρ1 x) h) fun b h1 => T x b ∧ if b = true then Wp (f (ρ1 x) h1) (fun y h2 => I h2 ∧ R x y) else I h1) →
      Wp (compL src items sg t f ρc (xs.map φ) h) fun ys h' => I h' ∧ ∃ (g : Nat → Bool) (e : Nat → D), ys = (xs.filter g).map e ∧ (∀ x ∈ xs, g x = true → R x (e x)) ∧ ∀ x ∈ xs, T x (g x)
  | [], h, _, i, _, _ => by
    simp only [List.map_nil, compL]
    rw [if_pos (hs h i)]
    exact ⟨i, fun _ => true, fun _ => .non, rfl, by simp, by simp⟩
  | x :: xs, h, hd, i, hg, ht => by
    simp only [List.map_cons, compL]
    rw [if_pos (hs h i), hg x List.mem_cons_self]
    simp only
    rw [wp_bind, wp_noErr]
    rw [List.nodup_cons] at hd
    refine Wp.mono (ht x List.mem_cons_self h i) fun b h1 z1_ => ?_
    obtain ⟨tb, w⟩ := z1_
    have ih : ∀ h2, I h2 → _ := fun h2 i2 => compN_wp φ I T R ρ1 hs xs h2 hd.2 i2 (fun y hy => hg y (List.mem_cons_of_mem _ hy)) (fun y hy => ht y (List.mem_cons_of_mem _ hy))
    cases b with
    | false =>
      rw [if_neg Bool.false_ne_true] at w ⊢
      refine Wp.mono (ih h1 w) ?_
      rintro ys h' ⟨i', g, e, ey, hr, tr⟩
      refine ⟨i', fun y => if y = x then false else g y, e, ?_, ?_, ?_⟩
      · rw [List.filter_cons_of_neg (by simp), ey]
        congr 1
        refine List.filter_congr fun y hy => ?_
        rw [if_neg]
        intro z; subst z; exact hd.1 hy
      · intro y hy gy
        rcases List.mem_cons.mp hy with z | z
        · subst z; simp at gy
        · refine hr y z ?_
          by_cases hz : y = x
          · subst hz; exact absurd z hd.1
          · simpa [hz] using gy
      · intro y hy
        by_cases hz : y = x
        · subst hz; simpa using tb
        · simp only [if_neg hz]
          exact tr y (by rcases List.mem_cons.mp hy with z | z; exact absurd z hz; exact z)
    | true =>
      rw [if_pos rfl] at w ⊢
      rw [wp_bind, wp_noErr]
      refine Wp.mono w fun y h2 z3_ => ?_
      obtain ⟨i2, ry⟩ := z3_
      rw [wp_bind]
      refine Wp.mono (ih h2 i2) ?_
      rintro ys h' ⟨i', g, e, ey, hr, tr⟩
      refine ⟨i', fun z => if z = x then true else g z, fun z => if z = x then y else e z, ?_, ?_, ?_⟩
      · rw [List.filter_cons_of_pos (by simp), List.map_cons, if_pos rfl, ey]
        congr 1
        rw [show xs.filter (fun z => if z = x then true else g z) = xs.filter g from List.filter_congr fun z hz => by
          rw [if_neg]
          intro q; subst q; exact hd.1 hz]
        refine List.map_congr_left fun z hz => ?_
        rw [if_neg]
        intro q; subst q; exact hd.1 (List.mem_filter.mp hz).1
      · intro z hz gz
        by_cases q : z = x
        · subst q; simpa using ry
        · rcases List.mem_cons.mp hz with w | w
          · exact absurd w q
          · simp only [if_neg q] at gz ⊢
            exact hr z w gz
      · intro z hz
        by_cases q : z = x
        · subst q; simpa using tb
        · simp only [if_neg q]
          exact tr z (by rcases List.mem_cons.mp hz with w | w; exact absurd w q; exact w)
theorem compN_tup {cs : List (Option Nat)} {it : MI} {sg : MG} {t : MT} {f : ME} {ρ : Rho} {h : HD} {src : Src} {xs : List Nat} {Q : D → HD → Prop} (φ : Nat → D) (I : HD → Prop) (T : Nat → Bool → Prop) (R : Nat → D → Prop) (ρ1 : Nat → Rho) (hi : Wp (it ρ h) fun x h' => x = (xs.map φ, src) ∧ I h') (hs : ∀ h, I h → srcOk src (xs.map φ) h)
    (hnew : ∀ h c, I h → I (h ++ [c])) (hd : xs.Nodup) (hn : xs.length ≤ sizeLine) (hg : ∀ x ∈ xs, sg (φ x) (cRho cs ρ) = some (ρ1 x)) (ht : ∀ x ∈ xs, ∀ h, I h → Wp (t (ρ1 x) h) fun b h1 => T x b ∧ if b = true then Wp (f (ρ1 x) h1) (fun y h2 => I h2 ∧ R x y) else I h1)
    (q : ∀ h' (g : Nat → Bool) (e : Nat → D), I h' → (∀ x ∈ xs, g x = true → R x (e x)) → (∀ x ∈ xs, T x (g x)) → Q (.tup ((xs.filter g).map e)) h') : Wp (xTup cs it sg t f ρ h) Q := by
  unfold xTup
  rw [wp_call, wp_cons]
  unfold mComp
  rw [wp_bind]
  refine Wp.mono hi fun x h1 z5_ => ?_
  obtain ⟨ex, i1⟩ := z5_
  subst ex
  rw [if_pos (by simpa using hn), wp_bind]
  refine Wp.mono (compN_wp φ I T R ρ1 hs xs h1 hd i1 hg ht) fun ys h2 z6_ => ?_
  obtain ⟨i2, g, e, ey, hr, tr⟩ := z6_
  subst ey
  refine wp_newL ?_ fun l h3 s3 e3 _ eh => ?_
  · rw [List.length_map]
    exact Nat.le_trans (List.length_filter_le _ _) hn
  · rw [wp_nil]
    simp only [ar1, tupOfD, e3]
    refine q h3 g e ?_ hr tr
    rw [eh]
    exact hnew _ _ i2

/-- data of a depth, as the library reads it -/
structure PyN (n : Nat) (d : D) (p : PyData) : Prop where
  rd : ∀ k, n ≤ k → dPy [] k d = some p
  ly : p.canLay0 = true
  dp : p.depth ≤ n
theorem PyN.py {n : Nat} {d : D} {p : PyData} (h : PyN n d p) (hn : n ≤ 8) : Py d p := ⟨h.rd 8 hn, by
  unfold SeqAt.shaped
  rw [h.ly]
  have := h.dp
  simp
  (first | lia | omega)⟩
end LS


namespace LS
open PySem PySem.Spec PyProof.Rows L2
open Classical in
/-- a heap with some objects left out -/
noncomputable def blank (p : Addr → Prop) (h : Heap) : Heap := ⟨h.objs.mapIdx fun i o => if p i then { o with data := .freed } else o, h.life⟩
theorem blank_none {p : Addr → Prop} {h : Heap} {b : Addr} (hp : p b) : (blank p h).get? b = none := by
  unfold blank Heap.get?
  simp only [Array.getElem?_mapIdx]
  cases e : h.objs[b]? with
  | none => rfl
  | some o => simp [hp]
theorem blank_keep {p : Addr → Prop} {h : Heap} {b : Addr} (hp : ¬ p b) : (blank p h).get? b = h.get? b := by
  unfold blank Heap.get?
  simp only [Array.getElem?_mapIdx]
  cases e : h.objs[b]? with
  | none => rfl
  | some o => simp [hp]
theorem blank_stays {p : Addr → Prop} {h : Heap} : (blank p h).StaysIn h := fun b o e => by
  by_cases hp : p b
  · rw [blank_none hp] at e; cases e
  · rw [blank_keep hp] at e; exact e
/-- an exception in flight: its object and its last traceback are new, and neither is tracked -/
inductive Fly (h0 h : Heap) (H : Hp) (a : Addr) (C : Value) : Prop where
  | mk (new : h0.get? a = none) (no : H a = none) (oe : Obj) (vs : Array Value) (a0 : Value) (T : Addr) (oT : Obj) (ts : Array Value) (e1 : h.get? a = some oe) (e2 : oe.cls = C ∧ vs[0]? = some a0) (e3 : oe.data = .fields vs) (e4 : vs[1]? = some (.ref T)) (e5 : h0.get? T = none) (e6 : H T = none) (e7 : T ≠ a) (e8 : h.get? T = some oT) (e9 : oT.data = .fields ts) (e10 : ts[3]? = some .none) : Fly h0 h H a C
/-- a class of the text, by its name -/
noncomputable abbrev clsV (n : Str) : Value := .str n 0
/-- how an exception lies behind a call: its class is one of the text's, and is told by its name -/
inductive CXE (P : Program) (w : World) (K : PySem.W.Frag) (outer : List Env) (H : Hp) (s : Shared) (E : XK) (e : Value) (s' : Shared) : Prop where
  | mk (a C : Addr) (n : Str) (H' : Hp) (ee : e = .ref a) (os : s'.os = s.os) (bare : AllBare s'.gens) (un : Un (frs outer) [] H H' s.heap s'.heap) (hok : HOk P w H' s'.heap) (fly : Fly s.heap s'.heap H' a (.ref C)) (nm : PySem.W.nsIn K mainGlobals n = some (some (.ref C))) (q : E (clsV n) none H') : CXE P w K outer H s E e s'
theorem frames_blank {h base : Heap} {p : Addr → Prop} : ∀ {l : List Env}, h.FunFrames base l → (∀ b ∈ frs l, p b) → h.FunFrames (blank p h) l
  | [], _, _ => trivial
  | env :: rest, ⟨k, ⟨L, o, hf, _, ho, hd⟩, r⟩, hp => ⟨k, ⟨L, o, hf, blank_none (hp L (by unfold frs; rw [List.filterMap_cons, hf]; exact List.mem_cons_self)), ho, hd⟩,
    frames_blank r fun b hb => hp b (by
      unfold frs at hb ⊢
      rw [List.filterMap_cons, hf]
      exact List.mem_cons_of_mem _ hb)⟩
theorem obj_ex {P : Program} {w : World} {H : Hp} {h : Heap} {a : Addr} {o : HO} (x : ObjOk P w H h a o) : ∃ ob, h.get? a = some ob := by
  cases o with
  | lst xs => obtain ⟨_, _, _, _, e⟩ := x; exact ⟨_, e⟩
  | tup xs => obtain ⟨_, _, _, ⟨_, e, _⟩, _⟩ := x; exact ⟨_, e⟩
  | own y => exact x
  | xd fs => obtain ⟨_, ⟨_, _, _, e, _⟩, _⟩ := x; exact ⟨_, e⟩
  | frz ob u => obtain ⟨e, _⟩ := x; exact ⟨_, e⟩
  | tbl ps => exact ⟨_, x⟩
  | ext φ => exact x.2.1
/-- what is asked of a body's context, so that exceptions leave its frame -/
structure Lv (X : Cx) (E : XK) : Prop where
  xe : ∀ e s', wpAny (model X.prog X.w) X.A (leaving X.env e) (fun _ s'' => CXE X.prog X.w X.K X.outer X.H₀ X.s₀ E e s'') (fun e' s'' => CXE X.prog X.w X.K X.outer X.H₀ X.s₀ E e' s'') s' → X.xe e s'
  stk : X.stack = X.env :: X.outer
  fr : X.env.frame = some X.env.locals
  ex : X.ex = []
theorem lvE {P : Program} {w : World} {K : PySem.W.Frag} {mg : Str → Option Value} {base : Heap} {N : List Str} {qual : Str} {scope : Scope} {f : Addr} {cd : Value} {A : Around} {outer : List Env} {s : Shared} {H : Hp} {E : XK} : Lv (cxOf (CXE P w K) P w K mg base N qual scope f cd A outer s H E) E :=
  ⟨fun _ _ h => h, rfl, rfl, rfl⟩
section
variable {X : Cx} {E : XK}
theorem Lv.frs (lv : Lv X E) : L2.frs X.stack = X.env.locals :: X.fs := by
  rw [lv.stk]; unfold L2.frs; rw [List.filterMap_cons, lv.fr]; rfl
/-- what an exception that leaves a def's frame has kept -/
theorem left_okG {pins : List (Addr × Obj)} {σ : L2.St} {H' : Hp} {s' : Shared} {h' : Heap} {a T : Addr} {C : Value} (lv : Lv X E)
    (I : Inv X pins σ H' s')
    (na : X.s₀.heap.get? a = none) (nT : X.s₀.heap.get? T = none) (ha : H' a = none) (hT : H' T = none) {a0 : Value}
    (L : Heap.LeftW (blank (fun b => b = a ∨ b = T ∨ b ∈ frs X.stack) s'.heap) X.stack a C a0 s'.heap h') :
    Un X.fs [] X.H₀ H' X.s₀.heap h' ∧ HOk X.prog X.w H' h' ∧ Fly X.s₀.heap h' H' a C := by
  obtain ⟨stay, ff, ⟨oe, vs, T2, oT, ts, e1, e2, e3, e4, e5, e6, e7, e8, e9⟩, ups⟩ := L
  have B : Un X.fs [] X.H₀ H' X.s₀.heap s'.heap := by have := I.base; rw [lv.ex] at this; exact this
  have stk := I.stack
  have frNone : ∀ b ∈ frs X.stack, H' b = none := fun b hb => I.stkFree b hb
  have keepOf : ∀ b o, ¬ (b = a ∨ b = T ∨ b ∈ frs X.stack) → s'.heap.get? b = some o → h'.get? b = some o := fun b o hb e => stay b o (by rw [blank_keep hb]; exact e)
  have notL : ∀ b o, X.s₀.heap.get? b = some o → b ∉ X.fs → b ∉ frs X.stack := fun b o e hb z => by
    rw [lv.frs] at z
    rcases List.mem_cons.mp z with z | z
    · have := Heap.lt_size e
      rw [z] at this
      exact absurd (Nat.lt_of_lt_of_le this I.ok.above) (Nat.lt_irrefl _)
    · exact hb z
  have old : ∀ b o, X.s₀.heap.get? b = some o → b ≠ a ∧ b ≠ T := fun b o e => ⟨fun z => (by rw [z, na] at e; cases e), fun z => (by rw [z, nT] at e; cases e)⟩
  have noFields : ∀ b, b ∈ frs X.stack → ∃ o, s'.heap.get? b = some o ∧ ∀ vs, o.data ≠ .fields vs := fun b hb => (stk.mem hb).2
  have any : ∀ b o, X.s₀.heap.get? b = some o → s'.heap.get? b ≠ none → ∃ o', h'.get? b = some o' := fun b o e hn => by
    cases e' : s'.heap.get? b with
    | none => exact absurd e' hn
    | some o' =>
      by_cases hb : b ∈ frs X.stack
      · obtain ⟨o2, h2, d2⟩ := noFields b hb
        obtain ⟨sl, h3⟩ := ups b o2 h2 d2
        exact ⟨_, h3⟩
      · exact ⟨o', keepOf b o' (fun z => by rcases z with z | z | z; exact (old b o e).1 z; exact (old b o e).2 z; exact hb z) e'⟩
  refine ⟨⟨fun b o e n hb hx => ?_, fun b o e n hb hx => ?_, B.free, fun b o e hx => ?_, B.tups, B.frzs, B.tbls⟩, fun b o e => ?_, na, ha, oe, vs, a0, T2, oT, ts, e1, e2, e3, e4, ?_, ?_, e6, e7, e8, e9⟩
  · exact keepOf b o (fun z => by rcases z with z | z | z; exact (old b o e).1 z; exact (old b o e).2 z; exact notL b o e hb z) (B.keep b o e n hb hx)
  · obtain ⟨sl, h1⟩ := B.slot b o e n hb hx
    have hb' : b ∈ frs X.stack := by rw [lv.frs]; exact List.mem_cons_of_mem _ hb
    obtain ⟨o2, h2, d2⟩ := noFields b hb'
    rw [h1] at h2
    cases h2
    obtain ⟨sl2, h3⟩ := ups b _ h1 d2
    exact ⟨sl2, h3⟩
  · obtain ⟨o', h1⟩ := B.there b o e hx
    exact any b o e (by rw [h1]; simp)
  · refine (I.hok b o e).stay (fun c u hc q => keepOf c u (fun z => ?_) q) (fun _ q => q) fun _ _ q => q
    have hc' : H' c ≠ none := by
      rcases hc with rfl | hc
      · rw [e]; simp
      · rw [hc]; simp
    rcases z with z | z | z
    · exact hc' (z ▸ ha)
    · exact hc' (z ▸ hT)
    · exact hc' (frNone c z)
  · cases q : X.s₀.heap.get? T2 with
    | none => rfl
    | some o =>
      exfalso
      obtain ⟨o', h1⟩ := B.there T2 o q (by simp)
      by_cases hb : T2 ∈ frs X.stack
      · obtain ⟨o2, h2, d2⟩ := noFields T2 hb
        obtain ⟨sl, h3⟩ := ups T2 o2 h2 d2
        rw [h3] at e7
        cases e7
        exact d2 _ e8
      · rw [blank_keep (fun z => by rcases z with z | z | z; exact (old T2 o q).1 z; exact (old T2 o q).2 z; exact hb z), h1] at e5
        cases e5
  · cases q : H' T2 with
    | none => rfl
    | some o =>
      exfalso
      by_cases hb : T2 = a ∨ T2 = T ∨ T2 ∈ frs X.stack
      · rcases hb with z | z | z
        · rw [z, ha] at q; cases q
        · rw [z, hT] at q; cases q
        · rw [frNone T2 z] at q; cases q
      · rw [blank_keep hb] at e5
        obtain ⟨ob, eb⟩ := obj_ex (I.hok T2 o q)
        rw [eb] at e5
        cases e5
theorem Lv.older (lv : Lv X E) {pins : List (Addr × Obj)} {σ : L2.St} {H1 : Hp} {s1 : Shared} (I : Inv X pins σ H1 s1) : ∀ b, s1.heap.get? b = none → X.s₀.heap.get? b = none := fun b hb => by
  cases q : X.s₀.heap.get? b with
  | none => rfl
  | some o =>
    obtain ⟨o', h1⟩ := I.base.there b o q (by rw [lv.ex]; simp)
    rw [hb] at h1; cases h1
/-- an exception of a callee leaves this body's frame, too -/
theorem passG (lv : Lv X E) : Passes (CXE X.prog X.w X.K) X E := by
  rintro pins σ H1 s1 e s' I ⟨a, C, n, H', ee, os, bare, un, hok, fly, nm, q⟩
  subst ee
  have I' : Inv X pins σ H' s' := I.call' os un hok bare (fun b hb => absurd hb (by simp))
  obtain ⟨fnew, fno, oe, vs, a0, T, oT, ts, e1, e2, e3, e4, e5, e6, e7, e8, e9, e10⟩ := fly
  have fro : X.A.frames = some (X.env :: X.outer) := by rw [← lv.stk]; exact I'.ok.frames
  have stk : s'.heap.FunFrames X.base (X.env :: X.outer) := by have := I'.stack; rw [lv.stk] at this; exact this
  refine lv.xe _ _ (wpAny_leaving_nextW (base := blank (fun b => b = a ∨ b = T ∨ b ∈ frs X.stack) s'.heap) (cls := .ref C) (a0 := a0) fro (frames_blank stk fun b hb => .inr (.inr (by rw [lv.stk]; exact hb))) lv.fr
    ⟨oe, vs, T, oT, ts, e1, e2, e3, e4, blank_none (.inr (.inl rfl)), e7, e8, e9, e10⟩ blank_stays (blank_none (.inl rfl)) fun h' L => ?_)
  obtain ⟨u1, u2, u3⟩ := left_okG lv I' (lv.older I a fnew) (lv.older I T e5) fno e6 (by rw [lv.stk] at *; exact L)
  exact ⟨a, C, n, H', rfl, I'.os, bare, u1, u2, u3, nm, q⟩
/-- an exception that this body has made leaves its frame -/
theorem madeG (lv : Lv X E) {pins : List (Addr × Obj)} {σ : L2.St} {H1 : Hp} {s1 : Shared} {h' : Heap} {a C : Addr} {n : Str} {vs : List Value} (I : Inv X pins σ H1 s1)
    (m : Heap.MadeExcOf s1.heap h' a (.ref C) vs) (nm : PySem.W.nsIn X.K mainGlobals n = some (some (.ref C))) (q : E (clsV n) none H1) : X.xe (.ref a) { s1 with heap := h' } := by
  have I' : Inv X pins σ H1 { s1 with heap := h' } := I.kept m.keeps
  obtain ⟨t, e1, e2, e3⟩ := m.there
  have fresh : H1 a = none := by
    cases q : H1 a with
    | none => rfl
    | some o =>
      obtain ⟨ob, eb⟩ := obj_ex (I.hok a o q)
      rw [m.new] at eb; cases eb
  have fro : X.A.frames = some (X.env :: X.outer) := by rw [← lv.stk]; exact I'.ok.frames
  have stk : h'.FunFrames X.base (X.env :: X.outer) := by have := I'.stack; rw [lv.stk] at this; exact this
  refine lv.xe _ _ (wpAny_leaving_firstW (base := blank (fun b => b = a ∨ b = a ∨ b ∈ frs X.stack) h') (a0 := .ref t) fro (frames_blank stk fun b hb => .inr (.inr (by rw [lv.stk]; exact hb))) lv.fr
    e1 blank_stays (blank_none (.inl rfl)) rfl rfl rfl fun h2 L => ?_)
  obtain ⟨u1, u2, u3⟩ := left_okG lv I' (lv.older I a m.new) (lv.older I a m.new) fresh fresh (by rw [lv.stk] at *; exact L)
  exact ⟨a, C, n, H1, rfl, I'.os, I'.bare, u1, u2, u3, nm, q⟩
end
section
variable {P : Program} {w : World} {K : PySem.W.Frag} {mg : Str → Option Value} {base : Heap} {N : List Str} {qual : Str} {scope : Scope} {f : Addr} {cd : Value} {A : Around} {outer : List Env} {s : Shared} {H : Hp} {E : XK}
theorem passE : Passes (CXE P w K) (cxOf (CXE P w K) P w K mg base N qual scope f cd A outer s H E) E := passG lvE
theorem madeE {pins : List (Addr × Obj)} {σ : L2.St} {H1 : Hp} {s1 : Shared} {h' : Heap} {a C : Addr} {n : Str} {vs : List Value} (I : Inv (cxOf (CXE P w K) P w K mg base N qual scope f cd A outer s H E) pins σ H1 s1)
    (m : Heap.MadeExcOf s1.heap h' a (.ref C) vs) (nm : PySem.W.nsIn K mainGlobals n = some (some (.ref C))) (q : E (clsV n) none H1) : (cxOf (CXE P w K) P w K mg base N qual scope f cd A outer s H E).xe (.ref a) { s1 with heap := h' } := madeG lvE I m nm q
end
end LS


namespace LS
open PySem PySem.Spec PyProof.Rows L2
/-- an own exception class without __init__ -/
inductive ExcOb (h : Heap) (C : Addr) (bmB : List Value) (newId : String) : Prop where
  | mk (bm : List Value) (N : Addr) (nm q : Str) (bs : List Value) (hdct : Bool) (sn : List Str) (sub : List Value) (ab : Bool) (col : Option Bool) (dd : Option Addr) (k0 k1 k2 k3 k5 : Option Value) (mN : Str → Option Value)
      (hC : h.get? C = some (excClassObj nm q C N bs bm hdct sn sub ab col dd k0 k1 k2 k3 k5 newId)) (hN : h.Ns N mN) (hni : mN "__init__" = none) (T : OwnTail h bmB bm) : ExcOb h C bmB newId
noncomputable def ExcAt (K : PySem.W.Frag) (C : Addr) (bmB : List Value) (newId : String) : Prop := ∀ h : Heap, K.In h → ExcOb h C bmB newId
noncomputable def clsOf : Data → Option ClassData
  | .cls c => some c
  | _ => none
theorem clsOf_some {d : Data} {c : ClassData} (h : clsOf d = some c) : d = .cls c := by
  cases d <;> first | (cases h; rfl) | cases h
inductive Six {α : Type} (l : List α) : Prop where
  | mk (a b c d e f : α) (q : l = [a, b, c, d, e, f]) : Six l
theorem six {α : Type} {l : List α} (h : l.length = 6) : Six l := by
  cases l with
  | nil => cases h
  | cons a l => cases l with
    | nil => cases h
    | cons b l => cases l with
      | nil => cases h
      | cons c l => cases l with
        | nil => cases h
        | cons d l => cases l with
          | nil => cases h
          | cons e l => cases l with
            | nil => cases h
            | cons f l => cases l with
              | nil => exact ⟨a, b, c, d, e, f, rfl⟩
              | cons g l => cases h
noncomputable def excY (K : PySem.W.Frag) (C : Addr) (bmB : List Value) (newId : String) (o : Obj) (cd : ClassData) : Bool :=
  decide (o.cls = .type "type") && (decide (cd.mro = .ref C :: cd.mro.tail) && (!cd.hasDel && (PySem.W.tailIn K bmB cd.mro.tail && (PySem.W.nsOkIn K cd.ns && (PySem.W.nsIn K cd.ns "__init__" == some none && (decide (o.slots.toList.length = 6) && decide (o.slots.toList[4]? = some (some (.builtin newId)))))))))
noncomputable def excX (K : PySem.W.Frag) (C : Addr) (bmB : List Value) (newId : String) : Bool := match K.lookup C with
  | some o => (match clsOf o.data with
    | some cd => excY K C bmB newId o cd
    | none => false)
  | none => false
theorem exc_at {K : PySem.W.Frag} {C : Addr} {bmB : List Value} {newId : String} (q : excX K C bmB newId = true) : ExcAt K C bmB newId := by
  intro h X
  unfold excX at q
  cases lk : K.lookup C with
  | none => rw [lk] at q; cases q
  | some o =>
    rw [lk] at q
    replace q : (match clsOf o.data with | some cd => excY K C bmB newId o cd | none => false) = true := q
    cases ec : clsOf o.data with
    | none => rw [ec] at q; cases q
    | some cd =>
      rw [ec] at q
      replace q : excY K C bmB newId o cd = true := q
      unfold excY at q
      simp only [Bool.and_eq_true, decide_eq_true_eq, Bool.not_eq_true', beq_iff_eq] at q
      obtain ⟨e1, e2, e3, e4, e5, e6, e7, e8⟩ := q
      obtain ⟨cls, od, dt, ⟨sl⟩⟩ := o
      obtain ⟨nm, bs, mro, ns, qn, hd, sn, sub, ab, col, del⟩ := cd
      replace ec := clsOf_some ec
      simp only at ec e1 e2 e3 e4 e5 e6 e7 e8
      obtain ⟨k0, k1, k2, k3, k4, k5, rfl⟩ := six e7
      cases mro with
      | nil => cases e2
      | cons c bm =>
        cases e2
        cases Option.some.inj e8
        subst ec e1 e3
        exact ⟨_, _, _, _, _, _, _, _, _, _, _, _, _, _, _, _, h.nsMap ns, X _ _ lk, .of_isNs (PySem.W.isNs_of_in X e5), PySem.W.nsMap_none_of_in X e5 e6, PySem.W.tail_of_in X e4⟩
noncomputable abbrev veM : List Value := [.type "ValueError", .type "Exception", .type "BaseException", .type "object"]
/-- what a body that makes an exception may do with it -/
noncomputable def Throws (X : Cx) (E : XK) : Prop := ∀ (pins : List (Addr × Obj)) (σ : L2.St) (H1 : Hp) (s1 : Shared) (h' : Heap) (a C : Addr) (n : Str) (vs : List Value), Inv X pins σ H1 s1 → Heap.MadeExcOf s1.heap h' a (.ref C) vs → PySem.W.nsIn X.K mainGlobals n = some (some (.ref C)) → E (clsV n) none H1 → X.xe (.ref a) { s1 with heap := h' }
theorem throwsE {P : Program} {w : World} {K : PySem.W.Frag} {mg : Str → Option Value} {base : Heap} {N : List Str} {qual : Str} {scope : Scope} {f : Addr} {cd : Value} {A : Around} {outer : List Env} {s : Shared} {H : Hp} {E : XK} :
    Throws (cxOf (CXE P w K) P w K mg base N qual scope f cd A outer s H E) E := fun pins σ H1 s1 h' a C n vs I m nm q => madeE I m nm q
section
variable {X : Cx} {E : XK}
noncomputable def mRaise (n : Str) (fa : MA) : MS := fun ρ h => (fa ρ h).bind fun xs h1 => if xs.length ≤ sizeLine then .err (clsV n) [] h1 else .stuck
theorem ex_raise {x : Str} {C : Addr} {e : Expr} {es : List Expr} {fa : MA} {np cpos pos : Pos} (O : ExcAt X.K C veM "ValueError.__new__") (nmC : PySem.W.nsIn X.K mainGlobals x = some (some (.ref C))) (hg : Gl X x) (hc : X.calm = true) (th : Throws X E) (ha : EvA X E (e :: es) fa)
    (hdb : (x == ("__debug__" : Str)) = false := by decide) (he : starEach (e :: es) X.env = (false, eval e X.env) :: starEach es X.env := by rfl) (hpl : (backTo cpos (starEach (e :: es) X.env)).any (·.1) = false := by rfl) :
    Ex X E (.Raise (some (.Call (.Name x np) (e :: es) [] cpos)) none pos) (mRaise x fa) := by
  rintro pins s σ H D I ⟨m, ρ, h, hr, er, p⟩
  have hm : X.mg x = some (.ref C) := PySem.W.mg_of I.mod.kin I.mod.glob nmC
  obtain ⟨bm, NN, nm, q, bs, hdct, sn, sub, ab, col, dd, k0, k1, k2, k3, k5, mN, hC, hN, hni, T⟩ := O X.base I.mod.kin
  refine wpAny_Raise_call_subT (C := C) (nm := nm) (q := q) (N := NN) (bs := bs) (bm := bm) (hdct := hdct) (sn := sn) (sub := sub) (ab := ab) (col := col) (dd := dd) (k0 := k0) (k1 := k1) (k2 := k2) (k3 := k3) (k5 := k5)
    PySem.F.excBase_ValueError (mN := mN) (T.hasType PySem.F.excBase_ValueError.hasBase) (I.ok.hd hc) hpl hni (ld_glob I hg hm ⟨rfl, ?_⟩ hdb)
  have hh := ha cpos pins s σ H (fun vs H1 => vs.length ≤ sizeLine ∧ E (clsV x) none H1) I ⟨m, ρ, h, hr, er, PostS.bind p fun xs h1 vs m1 H1 _ p1 k1 hr1 r1 q1 => by
    split at q1
    · rename_i hz
      exact ⟨by rw [← DVs.len r1]; exact hz, q1 none m1 H1 (List.prefix_refl _) (.refl _) hr1 (fun f d z => by cases z)⟩
    · exact q1.elim⟩
  rw [he] at hh ⊢
  exact Calls.evalArgs_plain (thn hh fun us s1 z1_ => by obtain ⟨vs, H1, I1, r, hl, q1⟩ := z1_; exact (⟨rfl, by rw [← r.length]; exact hl, I1.bk _ _ hC, hN.keeps I1.bk, T.keeps I1.bk, fun h' a z => th pins σ H1 s1 h' a C x us I1 z nmC q1⟩))

inductive spE (K : PySem.W.Frag) (F : List D → HD → Out D) (vs : List V) (H : Hp) (Q : VK) (E : XK) : Prop where
  | mk (m : List Addr) (ds : List D) (h : HD) (hr : HR K m h H) (r : DVs K m H ds vs) (p : Post K (rD K) m H E Q (F ds h)) : spE K F vs H Q E
theorem passE0 {P : Program} {w : World} {K : PySem.W.Frag} {X : Cx} : Passes (CXE P w K) X E0 := fun _ _ _ _ _ _ _ z2_ => by obtain ⟨_, _, _, _, _, _, _, _, _, _, _, q⟩ := z2_; exact (q.elim)
theorem ar_lenE {K : PySem.W.Frag} {n : Nat} {F : List D → HD → Out D} (ar : Ar n F) {vs : List V} {H : Hp} {Q : VK} {E' : XK} (h : spE K F vs H Q E') : vs.length = n := by
  obtain ⟨m, ds, hd, hr, r, p⟩ := h
  rw [← r.len]
  by_cases e : ds.length = n
  · exact e
  · rw [ar ds hd e] at p; exact p.elim
/-- a def that may be called, by its mirror, whose exceptions are told -/
structure CaE (P : Program) (w : World) (K : PySem.W.Frag) (mg : Str → Option Value) (base : Heap) (x : Str) (k : Nat) (F : List D → HD → Out D) : Prop where
  ex : ∃ (f : Addr) (fd : FuncData) (ps : List Str), FnOk P w K mg base (CXE P w K) k f fd ps (spE K F) ∧ Binds K fd ps [] ∧ mg x = some (.ref f) ∧ PySem.W.keepIn K (.ref f) = true
theorem ev_caE {k k' : Nat} {F : List D → HD → Out D} {fa : MA} {x : Str} {p pos : Pos} {e : Expr} {es : List Expr} (C : CaE X.prog X.w X.K X.mg X.base x k F) (hr : Room k' X.A) (hx : Passes (CXE X.prog X.w X.K) X E) (ha : EvA X E (e :: es) fa) (hk : k ≤ k' := by decide) (hg : Gl X x := by rfl)
    (hdb : (x == ("__debug__" : Str)) = false := by decide) (he : starEach (e :: es) X.env = (false, eval e X.env) :: starEach es X.env := by rfl) (hpl : (backTo pos (starEach es X.env)).any (·.1) = false := by rfl) :
    Ev X E (.Call (.Name x p) (e :: es) [] pos) (mCall F fa) := by
  obtain ⟨f, fd, ps, G, hb, hm, hkp⟩ := C.ex
  exact pe_imp (pe_call (E := E) G (hr.mono hk) hg hm hkp hb .nil hx ha hdb he hpl) fun σ H Q z3_ => by obtain ⟨m, ρ, hd, hr, er, p⟩ := z3_; exact (⟨m, ρ, hd, hr, er, Post.bind p fun xs h1 vs m1 H1 e1 p1 k1 hr1 r1 q1 => by
    rw [List.append_nil]
    exact ⟨m1, xs, h1, hr1, r1, q1⟩⟩)
theorem fn_mirrorE {P : Program} {w : World} {K : PySem.W.Frag} {mg : Str → Option Value} {base : Heap} {x qual : Str} {st : Stmt} {f : Addr} {fd : FuncData} {N ps : List Str} {k : Nat} {F : List D → HD → Out D} {g : MS} (Fn : Fun K x qual st f fd) (S : FnScope N ps (defScope st)) (ar : Ar ps.length F)
    (hg : ∀ ds h, ds.length = ps.length → F ds h = mBody N.length g ds h)
    (hbody : ∀ (cdv : Value) (A : Around) (outer : List Env) (s : Shared) (H : Hp) (E : XK), Room k (A.deeper (envOfC qual (defScope st) s.heap.objs.size f cdv)) → Exs (cxOf (CXE P w K) P w K mg base N qual (defScope st) f cdv A outer s H E) E (defBody st) g) : FnOk P w K mg base (CXE P w K) (k + 1) f fd ps (spE K F) := by
  obtain ⟨oc, od, kV, doc, pm, an, cdv, ct, osl, rfl, lk, hcd⟩ := Fn.ex
  refine fn_of lk hcd S (fun vs H Q E h => ar_lenE ar h) fun A outer s H vs Q E hr h => ?_
  refine ⟨_, hbody cdv A outer s H E hr, ?_⟩
  have hl := ar_lenE ar h
  obtain ⟨m, ds, hd, hr1, r, p⟩ := h
  have hld : ds.length = ps.length := by rw [r.len]; exact hl
  refine ⟨m, ds.map some ++ List.replicate (N.length - ds.length) none, hd, hr1, ER.start r, ?_⟩
  rw [hg ds hd hld] at p
  unfold mBody at p
  cases o : g (ds.map some ++ List.replicate (N.length - ds.length) none) hd with
  | stuck => rw [o] at p; exact p
  | err C fs h1 => rw [o] at p; exact p
  | ok a h1 =>
    rw [o] at p
    obtain ⟨fl, ρ1⟩ := a
    intro m1 H1 p1 k1 hr1
    cases fl with
    | nx => exact fun σ er => p .non m1 H1 p1 k1 hr1 (by simp [rD, DV])
    | bk => exact False.elim p
    | ct => exact False.elim p
    | rt d => exact fun v rv => p v m1 H1 p1 k1 hr1 rv
end
/-- a loop lets an exception of its body pass -/
theorem ownE {P : Program} {w : World} {K : PySem.W.Frag} {mg : Str → Option Value} {base : Heap} {N : List Str} {qual : Str} {scope : Scope} {f : Addr} {cd : Value} {A : Around} {outer : List Env} {s : Shared} {H : Hp} {E : XK} :
    PassesOwn (model P w) (cxOf (CXE P w K) P w K mg base N qual scope f cd A outer s H E).A (cxOf (CXE P w K) P w K mg base N qual scope f cd A outer s H E).env (cxOf (CXE P w K) P w K mg base N qual scope f cd A outer s H E).xe := by
  passes_own
end LS


namespace LS
open PySem PySem.Spec PyProof.Rows L2
section
variable {X : Cx} {E : XK}
noncomputable abbrev MO := Rho → HD → Out (Option Int)
noncomputable abbrev EvO (X : Cx) (E : XK) (e : Option Expr) (f : MO) : Prop := PO X e (tM X.K (fun _ _ a b => a = b) E f)
noncomputable def mNoPart : MO := fun _ h => .ok none h
noncomputable def mPart (f : ME) : MO := fun ρ h => (f ρ h).bind fun x h1 => match x with
  | .int i => .ok (some i) h1
  | _ => .stuck
theorem po_imp {e : Option Expr} {t t' : TO} (h : PO X e t) (i : ∀ σ H Q, t' σ H Q → t σ H Q) : PO X e t' := fun pins s σ H Q I q => h pins s σ H Q I (i σ H Q q)
theorem evO_none : EvO X E none mNoPart := po_imp po_none fun σ H Q z1_ => by obtain ⟨m, ρ, h, hr, er, p⟩ := z1_; exact (p none m H (List.prefix_refl _) (.refl _) hr rfl)
theorem evO_some {e : Expr} {f : ME} (he : Ev X E e f) : EvO X E (some e) (mPart f) := po_imp (po_some he) fun σ H Q z2_ => by obtain ⟨m, ρ, h, hr, er, p⟩ := z2_; exact (⟨m, ρ, h, hr, er, Post.bind p fun x h1 v m1 H1 eo p1 k1 hr1 r1 q1 => by
  clear eo
  split at q1
  · rename_i i
    simp only [rD, DV] at r1
    exact ⟨i, r1, q1 (some i) m1 H1 (List.prefix_refl _) (.refl _) hr1 rfl⟩
  · exact q1.elim⟩)
noncomputable def cutD (xs : List D) (lo hi : Option Int) : List D := (xs.drop (HT.sIx xs.length 0 lo)).take (HT.sIx xs.length xs.length hi - HT.sIx xs.length 0 lo)
noncomputable def slD (x : D) (lo hi : Option Int) (h : HD) : Out D := match x with
  | .tup xs => if HT.sIx xs.length 0 lo = 0 ∧ HT.sIx xs.length xs.length hi = xs.length then .stuck else .ok (.tup (cutD xs lo hi)) h
  | _ => .stuck
noncomputable def mSlice (f : ME) (lo hi : MO) : ME := fun ρ h => (f ρ h).bind fun x h1 => (lo ρ h1).bind fun l h2 => (hi ρ h2).bind fun u h3 => slD x l u h3
theorem DVs.cut {K : PySem.W.Frag} {m : List Addr} {H : Hp} {ds : List D} {vs : List V} (r : DVs K m H ds vs) (lo hi : Option Int) : DVs K m H (cutD ds lo hi) (cutV vs lo hi) := by
  unfold cutD cutV
  rw [r.len]
  exact (r.drop _).take _
noncomputable def augK (o i x y : D) (ρ : Rho) (h : HD) : Out (Fl × Rho) := match x, y with
  | .int a, .int b => setD o i (.int (a + b)) h (.ok (.nx, ρ) h)
  | _, _ => .stuck
noncomputable def augGet (o i : D) (h : HD) : Out D := match o, i with
  | .loc l, .int n => if 0 ≤ n then (match h[l]? with
      | some (.lst ds) => (match ds[n.toNat]? with
        | some d => .ok d h
        | none => .stuck)
      | _ => .stuck) else .stuck
  | _, _ => .stuck
noncomputable def mAugIx (fo fi fv : ME) : MS := fun ρ h => (fo ρ h).bind fun o h1 => (fi ρ h1).bind fun i h2 => (augGet o i h2).bind fun x h3 => (fv ρ h3).bind fun y h4 => augK o i x y ρ h4
end
end LS


namespace LS
open PySem PySem.Spec PyProof.Rows L2
theorem vals_ints : ∀ {ns : List Int} {its : List Value}, Vals (ns.map V.int) its → ∃ ys : List (Int × Tok), its = ys.map (fun p => Value.int p.1 p.2) ∧ ys.map (·.1) = ns
  | [], its, r => by cases r; exact ⟨[], rfl, rfl⟩
  | n :: ns, its, r => by
    cases r with
    | cons r1 r2 =>
      obtain ⟨t, rfl⟩ := r1
      obtain ⟨ys, rfl, e⟩ := vals_ints r2
      exact ⟨(n, t) :: ys, rfl, by simp [e]⟩
section
variable {X : Cx}
/-- the least, the greatest -/
noncomputable def leastL : List Int → Int
  | [] => 0
  | n :: ns => ns.foldl min n
noncomputable def extD (f : List Int → Int) : D → HD → Out D := fun x h => match x with
  | .loc l => match h[l]? with
    | some (.lst ds) => match allSome (ds.map asInt) with
      | some ns => if ns = [] then .stuck else .ok (.int (f ns)) h
      | none => .stuck
    | _ => .stuck
  | _ => .stuck
end
end LS


namespace LS
open PySem PySem.Spec PyProof.Rows L2
section
variable {X : Cx} {E : XK}
noncomputable def enumD2 : List D → HD → Out (List D × Src) := enumD
noncomputable def mIEnum2 (fa : MA) : MI := fun ρ h => (fa ρ h).bind enumD2
end
end LS


namespace LS
open PySem PySem.Spec PyProof.Rows L2
/-- what must stand apart -/
structure ZAp (z TI TO p q : Addr) (f g : List Addr) : Prop where
  a1 : TI ≠ z
  a2 : TO ≠ z
  a3 : p ≠ z
  a4 : q ≠ z
  a5 : TI ≠ TO
  a6 : TI ≠ p
  a7 : TI ≠ q
  a8 : TO ≠ p
  a9 : TO ≠ q
  b1 : p ≠ q
  b2 : z ∉ f
  b3 : z ∉ g
  b4 : TO ∉ f
  b5 : TO ∉ g
  b6 : p ∉ g
  b7 : q ∉ f
section
variable {prog : Program} {w : World} {A : Around} {E : Value → Shared → Prop} {s : Shared} {z TI TO p q : Addr} {f g : List Addr} {n1 n2 k : Nat} {P1 P2 : Nat → Value → Prop} {S1 S2 : Nat → Heap → Prop} {a b : Value}
theorem zipD_next {Q : Value → Shared → Prop} (D1 : Draws prog w A p f n1 P1 S1) (D2 : Draws prog w A q g n2 P2 S2) (ap : ZAp z TI TO p q f g)
    (zz : IsZip s.heap z TI TO .none) (zi : IsPair s.heap TI (.ref p) (.ref q)) (zo : IsPair s.heap TO a b) (s1 : S1 k s.heap) (s2 : S2 k s.heap) (l1 : k < n1) (l2 : k < n2)
    (hQ : ∀ h' tk x y, P1 k x → P2 k y → IsZip h' z TI TO (rawInt s.heap.objs.size) → IsPair h' TO x y → S1 (k + 1) h' → S2 (k + 1) h' → IsPair h' s.heap.objs.size x y →
      (∀ c o, c ≠ z → c ≠ TO → c ≠ p → c ≠ q → s.heap.get? c = some o → h'.get? c = some o) → Q (.ref s.heap.objs.size) { s with heap := h', toks := tk }) :
    wpAny (model prog w) A (Builtin.«zip.__next__» ⟨[.ref z], []⟩) (fun fin s' => ∃ v, fin = .done (.ret v) ∧ Q v s') E s := by
  show wpAny _ _ (field (.ref z) 2 >>= _) _ _ _
  refine wpAny_bind (wpAny_field zz rfl (x := .bool false) rfl ?_)
  show wpAny _ _ (field (.ref z) 3 >>= _) _ _ _
  refine wpAny_bind (wpAny_field zz rfl (x := .ref TI) rfl ?_)
  refine wpAny_bind (wpAny_seqItems zi rfl ?_)
  show wpAny _ _ (Builtin.SmallTypes.ownedTupleIsFree (.ref z) >>= _) _ _ _
  refine wpAny_bind ?_
  unfold Builtin.SmallTypes.ownedTupleIsFree
  refine wpAny_bind (wpAny_field zz rfl (x := .none) rfl (wpAny_pure ?_))
  simp only [if_true]
  refine wpAny_bind (wpAny_rule ?_)
  refine wpAny_bind (wpAny_field zz rfl (x := .ref TO) rfl ?_)
  refine wpAny_bind (wpAny_setField_rec zz (by simp) fun m1 zz1 t1 => ?_)
  replace zz1 : IsZip m1 z TI TO .ellipsis := zz1
  refine wpAny_bind ?_
  simp only [List.zipIdx_cons, List.zipIdx_nil, List.forIn_cons, List.forIn_nil]
  refine wpAny_bind (wpAny_bind (wpAny_onRaise ?_))
  show wpAny _ _ (Builtin.SmallTypes.nextOf (.ref p) >>= _) _ _ _
  refine wpAny_bind (D1.item k _ _ _ l1 (D1.frame k _ _ s1 fun c hc o e => t1.extBut _ _ (fun y => ap.b2 (y ▸ hc)) e) fun x m2 tk2 px s12 t2 => wpAny_pure ?_)
  have zo2 : IsPair m2 TO a b := t2.extBut _ _ ap.a8 (t1.extBut _ _ ap.a2 zo)
  refine wpAny_bind (wpAny_seqItems zo2 rfl ?_)
  refine wpAny_bind (wpAny_updateSeq_pair zo2 fun m3 zo3 t3 => ?_)
  replace zo3 : IsPair m3 TO x b := zo3
  refine wpAny_bind (wpAny_letGo (wpAny_pure ?_))
  refine wpAny_bind (wpAny_bind (wpAny_onRaise ?_))
  show wpAny _ _ (Builtin.SmallTypes.nextOf (.ref q) >>= _) _ _ _
  have s23 : S2 k m3 := D2.frame k _ _ s2 fun c hc o e => t3.extBut _ _ (fun y => ap.b5 (y ▸ hc)) (t2.extBut _ _ (fun y => ap.b6 (y ▸ hc)) (t1.extBut _ _ (fun y => ap.b3 (y ▸ hc)) e))
  refine wpAny_bind (D2.item k _ _ _ l2 s23 fun y m4 tk4 py s24 t4 => wpAny_pure ?_)
  have zo4 : IsPair m4 TO x b := t4.extBut _ _ ap.a9 zo3
  refine wpAny_bind (wpAny_seqItems zo4 rfl ?_)
  refine wpAny_bind (wpAny_updateSeq_pair zo4 fun m5 zo5 t5 => ?_)
  replace zo5 : IsPair m5 TO x y := zo5
  refine wpAny_bind (wpAny_letGo (wpAny_pure (wpAny_pure ?_)))
  refine wpAny_bind (wpAny_seqItems zo5 rfl ?_)
  refine wpAny_bind (wpAny_newTuple ?_)
  have sz : m5.objs.size = s.heap.objs.size := by rw [t5.1, t4.1, t3.1, t2.1, t1.1]
  have zz5 : IsZip m5 z TI TO .ellipsis := t5.extBut _ _ ap.a2.symm (t4.extBut _ _ ap.a4.symm (t3.extBut _ _ ap.a2.symm (t2.extBut _ _ ap.a3.symm zz1)))
  have kp : ∀ c o, c ≠ z → c ≠ TO → c ≠ p → c ≠ q → s.heap.get? c = some o → m5.get? c = some o := fun c o c1 c2 c3 c4 e => t5.extBut _ _ c2 (t4.extBut _ _ c4 (t3.extBut _ _ c2 (t2.extBut _ _ c3 (t1.extBut _ _ c1 e))))
  have zlt : z < m5.objs.size := Heap.lt_size zz5
  show wpAny _ _ (Builtin.SmallTypes.ownedTupleHandOut (.ref z) (.ref m5.objs.size) >>= _) _ _ _
  refine wpAny_bind ?_
  unfold Builtin.SmallTypes.ownedTupleHandOut
  have zz6 : IsZip (m5.push { cls := .type "tuple", data := .seq #[x, y] }) z TI TO .ellipsis := Heap.get?_push_of_some _ zz5
  refine wpAny_bind (wpAny_setField_rec zz6 (by simp) fun m7 zz7 t7 => ?_)
  replace zz7 : IsZip m7 z TI TO (rawInt m5.objs.size) := zz7
  refine wpAny_setField_rec zz7 (by simp) fun m8 zz8 t8 => ?_
  replace zz8 : IsZip m8 z TI TO (rawInt m5.objs.size) := zz8
  have up : ∀ c o, c ≠ z → m5.get? c = some o → m8.get? c = some o := fun c o c1 e => t8.extBut _ _ c1 (t7.extBut _ _ c1 (Heap.get?_push_of_some _ e))
  have nw : IsPair m8 m5.objs.size x y := t8.extBut _ _ (Nat.ne_of_gt zlt) (t7.extBut _ _ (Nat.ne_of_gt zlt) (Heap.get?_push_size _ rfl))
  rw [sz] at zz8 nw
  refine wpAny_pure ⟨_, rfl, ?_⟩
  show Q (.ref m5.objs.size) _
  rw [sz]
  refine hQ m8 tk4 x y px py zz8 (up _ _ ap.a2 zo5) (D1.frame _ m2 m8 s12 fun c hc o e => ?_) (D2.frame _ m4 m8 s24 fun c hc o e => ?_) nw fun c o c1 c2 c3 c4 e => up c o c1 (kp c o c1 c2 c3 c4 e)
  · have n1 : c ≠ TO := fun y => ap.b4 (y ▸ hc)
    exact up c o (fun y => ap.b2 (y ▸ hc)) (t5.extBut _ _ n1 (t4.extBut _ _ (fun y => ap.b7 (y ▸ hc)) (t3.extBut _ _ n1 e)))
  · exact up c o (fun y => ap.b3 (y ▸ hc)) (t5.extBut _ _ (fun y => ap.b5 (y ▸ hc)) e)
theorem zipD_stop {Q : Fin → Shared → Prop} (D1 : Draws prog w A p f n1 P1 S1) (D2 : Draws prog w A q g n2 P2 S2) (ap : ZAp z TI TO p q f g)
    (zz : IsZip s.heap z TI TO .none) (zi : IsPair s.heap TI (.ref p) (.ref q)) (zo : IsPair s.heap TO a b) (s1 : S1 k s.heap) (s2 : S2 k s.heap) (hk : k = n1 ∨ (k < n1 ∧ k = n2))
    (hE : ∀ h' tk e, (∀ c o, c ≠ z → c ≠ TO → c ≠ p → c ≠ q → s.heap.get? c = some o → h'.get? c = some o) → (∃ o, h'.get? e = some o ∧ o.cls = .type "StopIteration") → E (.ref e) { s with heap := h', toks := tk }) :
    wpAny (model prog w) A (Builtin.«zip.__next__» ⟨[.ref z], []⟩) Q E s := by
  show wpAny _ _ (field (.ref z) 2 >>= _) _ _ _
  refine wpAny_bind (wpAny_field zz rfl (x := .bool false) rfl ?_)
  show wpAny _ _ (field (.ref z) 3 >>= _) _ _ _
  refine wpAny_bind (wpAny_field zz rfl (x := .ref TI) rfl ?_)
  refine wpAny_bind (wpAny_seqItems zi rfl ?_)
  show wpAny _ _ (Builtin.SmallTypes.ownedTupleIsFree (.ref z) >>= _) _ _ _
  refine wpAny_bind ?_
  unfold Builtin.SmallTypes.ownedTupleIsFree
  refine wpAny_bind (wpAny_field zz rfl (x := .none) rfl (wpAny_pure ?_))
  simp only [if_true]
  refine wpAny_bind (wpAny_rule ?_)
  refine wpAny_bind (wpAny_field zz rfl (x := .ref TO) rfl ?_)
  refine wpAny_bind (wpAny_setField_rec zz (by simp) fun m1 zz1 t1 => ?_)
  replace zz1 : IsZip m1 z TI TO .ellipsis := zz1
  refine wpAny_bind ?_
  simp only [List.zipIdx_cons, List.zipIdx_nil, List.forIn_cons, List.forIn_nil]
  refine wpAny_bind (wpAny_bind (wpAny_onRaise ?_))
  show wpAny _ _ (Builtin.SmallTypes.nextOf (.ref p) >>= _) _ _ _
  have s11 := D1.frame k _ m1 s1 fun c hc o e => t1.extBut _ _ (fun y => ap.b2 (y ▸ hc)) e
  rcases hk with hk | ⟨hk, hk2⟩
  · subst hk
    refine wpAny_bind (D1.done _ _ _ s11 fun m2 e t2 he => ?_)
    obtain ⟨oe, e1, e2⟩ := he
    have zz2 : IsZip m2 z TI TO .ellipsis := t2 _ _ ap.a3.symm zz1
    have ne : e ≠ z := fun y => by subst y; rw [zz2] at e1; cases e1; simp at e2
    exact wpAny_setField_rec zz2 (by simp) fun m3 _ t3 => hE m3 _ e (fun c o c1 _ c3 _ y => t3.extBut _ _ c1 (t2 _ _ c3 (t1.extBut _ _ c1 y))) ⟨oe, t3.extBut _ _ ne e1, e2⟩
  · subst hk2
    refine wpAny_bind (D1.item k _ _ _ hk s11 fun x m2 tk2 px s12 t2 => wpAny_pure ?_)
    have zo2 : IsPair m2 TO a b := t2.extBut _ _ ap.a8 (t1.extBut _ _ ap.a2 zo)
    refine wpAny_bind (wpAny_seqItems zo2 rfl ?_)
    refine wpAny_bind (wpAny_updateSeq_pair zo2 fun m3 zo3 t3 => ?_)
    refine wpAny_bind (wpAny_letGo (wpAny_pure ?_))
    refine wpAny_bind (wpAny_bind (wpAny_onRaise ?_))
    show wpAny _ _ (Builtin.SmallTypes.nextOf (.ref q) >>= _) _ _ _
    have s23 : S2 k m3 := D2.frame k _ _ s2 fun c hc o e => t3.extBut _ _ (fun y => ap.b5 (y ▸ hc)) (t2.extBut _ _ (fun y => ap.b6 (y ▸ hc)) (t1.extBut _ _ (fun y => ap.b3 (y ▸ hc)) e))
    refine wpAny_bind (D2.done _ _ _ s23 fun m4 e t4 he => ?_)
    obtain ⟨oe, e1, e2⟩ := he
    have zz4 : IsZip m4 z TI TO .ellipsis := t4 _ _ ap.a4.symm (t3.extBut _ _ ap.a2.symm (t2.extBut _ _ ap.a3.symm zz1))
    have ne : e ≠ z := fun y => by subst y; rw [zz4] at e1; cases e1; simp at e2
    exact wpAny_setField_rec zz4 (by simp) fun m5 _ t5 => hE m5 _ e (fun c o c1 c2 c3 c4 y => t5.extBut _ _ c1 (t4 _ _ c4 (t3.extBut _ _ c2 (t2.extBut _ _ c3 (t1.extBut _ _ c1 y))))) ⟨oe, t5.extBut _ _ ne e1, e2⟩
theorem nextZ_item {Q : Option Value → Shared → Prop} (D1 : Draws prog w A.in1 p f n1 P1 S1) (D2 : Draws prog w A.in1 q g n2 P2 S2) (ap : ZAp z TI TO p q f g)
    (zz : IsZip s.heap z TI TO .none) (zi : IsPair s.heap TI (.ref p) (.ref q)) (zo : IsPair s.heap TO a b) (s1 : S1 k s.heap) (s2 : S2 k s.heap) (l1 : k < n1) (l2 : k < n2)
    (hQ : ∀ h' tk x y, P1 k x → P2 k y → IsZip h' z TI TO (rawInt s.heap.objs.size) → IsPair h' TO x y → S1 (k + 1) h' → S2 (k + 1) h' → IsPair h' s.heap.objs.size x y →
      (∀ c o, c ≠ z → c ≠ TO → c ≠ p → c ≠ q → s.heap.get? c = some o → h'.get? c = some o) → Q (some (.ref s.heap.objs.size)) { s with heap := h', toks := tk }) :
    wpAny (model prog w) A (pyNext (.ref z)) Q E s := by
  have hT : s.TypeIs (.ref z) "zip" := ⟨_, zz, rfl⟩
  unfold pyNext
  exact wpAny_bind (wpAny_attempt (wpAny_callSpecial?_slot (name := Str.ofString "__next__") hT F.slot_zip_next (wpAny_call_entry F.slot_zip_next hT F.entry_zip_next
    (zipD_next D1 D2 ap zz zi zo s1 s2 l1 l2 fun h' tk x y c1 c2 c3 c4 c5 c6 c7 c8 => wpAny_pure (hQ h' tk x y c1 c2 c3 c4 c5 c6 c7 c8)) (F.args_zip_next_1 _))))
theorem nextZ_stop {Q : Option Value → Shared → Prop} (D1 : Draws prog w A.in1 p f n1 P1 S1) (D2 : Draws prog w A.in1 q g n2 P2 S2) (ap : ZAp z TI TO p q f g)
    (zz : IsZip s.heap z TI TO .none) (zi : IsPair s.heap TI (.ref p) (.ref q)) (zo : IsPair s.heap TO a b) (s1 : S1 k s.heap) (s2 : S2 k s.heap) (hk : k = n1 ∨ (k < n1 ∧ k = n2))
    (hQ : ∀ h' tk, (∀ c o, c ≠ z → c ≠ TO → c ≠ p → c ≠ q → s.heap.get? c = some o → h'.get? c = some o) → Q none { s with heap := h', toks := tk }) : wpAny (model prog w) A (pyNext (.ref z)) Q E s := by
  have hT : s.TypeIs (.ref z) "zip" := ⟨_, zz, rfl⟩
  unfold pyNext
  refine wpAny_bind (wpAny_attempt (wpAny_callSpecial?_slot (name := Str.ofString "__next__") hT F.slot_zip_next (wpAny_call_entry F.slot_zip_next hT F.entry_zip_next
    (zipD_stop D1 D2 ap zz zi zo s1 s2 hk fun h' tk e kp he => ?_) (F.args_zip_next_1 _))))
  obtain ⟨o, ho, hc⟩ := he
  refine wpAny_bind (wpAny_isInstance (T := "StopIteration") (b := true) ⟨o, ho, hc⟩ isSubtype_stop ?_)
  exact wpAny_pure (hQ _ _ kp)
end
end LS

namespace LS
open PySem PySem.Spec PyProof.Rows L2
open AutoSeq1 (wpAny_loadPart')

noncomputable abbrev iterO (l : Addr) : Obj := { cls := .type "tuple_iterator", data := .fields #[.ref l, .int 0 0] }
theorem titObj {h : Heap} {it l : Addr} {i : Nat} (x : h.IsTupleIter it l i) : ∃ o, h.get? it = some o ∧ ∀ v, o.data ≠ .cell v := by
  obtain ⟨o, e, c, d⟩ := x
  exact ⟨o, e, fun v z => by rw [d] at z; cases z⟩
section
variable {X : Cx} {pins : List (Addr × Obj)} {σ : L2.St} {H : Hp} {s : Shared}
theorem seqK {a : Addr} {xs : List V} (I : Inv X pins σ H s) (h : SqT X.K H a xs) : ∃ its : List Value, Vals xs its ∧ s.heap.IsTuple a its.toArray ∧ a < s.heap.objs.size := by
  obtain ⟨its, r, p, _⟩ := I.tuple h
  exact ⟨its, r, p, p.lt⟩
end
/-- what zip yields -/
noncomputable def Itz (K : PySem.W.Frag) (t u : Addr) : It := ⟨fun i H => ∃ xs ys, SqT K H t xs ∧ SqT K H u ys ∧ i < xs.length ∧ i < ys.length,
  fun i H x H' => ∃ p v v', H p = none ∧ x = .ref p ∧ (∀ xs : List V, SqT K H t xs → xs[i]? = some v) ∧ (∀ ys : List V, SqT K H u ys → ys[i]? = some v') ∧ H' = upd H p (.tup [v, v']),
  fun i H => ∃ xs ys, SqT K H t xs ∧ SqT K H u ys ∧ (i = xs.length ∨ (i < xs.length ∧ i = ys.length))⟩
inductive ZSt (z TI TO p q t u : Addr) (i : Nat) (h : Heap) : Prop where
  | mk (zz : IsZip h z TI TO .none) (zi : IsPair h TI (.ref p) (.ref q)) (zo : ∃ a b, IsPair h TO a b) (x1 : h.IsTupleIter p t i) (x2 : h.IsTupleIter q u i) : ZSt z TI TO p q t u i h
theorem turn_zip {P : Program} {w : World} {K : PySem.W.Frag} {elts : List Expr} {kt : Nat} {tpos : Pos} (z TI TO p q t u : Addr) (ap : ZAp z TI TO p q [p, t] [q, u]) (n1 : t ≠ p) (n2 : u ≠ q) :
    Turn P w K (.Tuple elts kt tpos) (Itz K t u) [z, TI, TO, p, q] z (ZSt z TI TO p q t u) where
  mem := by simp
  obj := fun i h st c hc => by
    obtain ⟨zz, zi, ⟨a, b, zo⟩, x1, x2⟩ := st
    simp only [List.mem_cons, List.not_mem_nil, or_false] at hc
    rcases hc with rfl | rfl | rfl | rfl | rfl
    · exact ⟨_, zz, fun v y => by cases y⟩
    · exact ⟨_, zi, fun v y => by cases y⟩
    · exact ⟨_, zo, fun v y => by cases y⟩
    · exact titObj x1
    · exact titObj x2
  keep := fun i h h' st kp => by
    obtain ⟨zz, zi, ⟨a, b, zo⟩, x1, x2⟩ := st
    exact ⟨kp z (by simp) _ zz, kp TI (by simp) _ zi, ⟨a, b, kp TO (by simp) _ zo⟩, Heap.IsTupleIter.at x1 fun o e => kp p (by simp) o e, Heap.IsTupleIter.at x2 fun o e => kp q (by simp) o e⟩
  item := by
    intro X hP hw hK hc i pins s σ H E I hf st hg
    subst hP hw hK
    obtain ⟨zz, zi, ⟨a, b, zo⟩, x1, x2⟩ := st
    obtain ⟨xs, ys, hq1, hq2, l1, l2⟩ := hg
    obtain ⟨it1, rv1, sq1, lt1⟩ := seqK I hq1
    obtain ⟨it2, rv2, sq2, lt2⟩ := seqK I hq2
    have e1 := rv1.length
    have e2 := rv2.length
    have hh : X.A.in1.handled = none := I.ok.hd hc
    refine nextZ_item (draws_tuple hh p t n1 it1.toArray) (draws_tuple hh q u n2 it2.toArray) ap zz zi zo ⟨x1, sq1⟩ ⟨x2, sq2⟩ (by rw [List.size_toArray]; (first | lia | omega)) (by rw [List.size_toArray]; (first | lia | omega)) fun h1 tk x y px py zz1 zo1 st1 st2 nw kp => ?_
    refine ⟨.ref s.heap.objs.size, rfl, wpAny_letOwnedTupleGo_zip zz1 fun h2 zz2 sb => ?_⟩
    have hx : xs[i]? = some xs[i] := List.getElem?_eq_getElem l1
    have hy : ys[i]? = some ys[i] := List.getElem?_eq_getElem l2
    obtain ⟨u1, hu1, ru1⟩ := rv1.get hx
    obtain ⟨u2, hu2, ru2⟩ := rv2.get hy
    have hux : u1 = x := by
      have : it1[i]? = some x := by simpa using px
      rw [hu1] at this
      exact Option.some.inj this
    have huy : u2 = y := by
      have : it2[i]? = some y := by simpa using py
      rw [hu2] at this
      exact Option.some.inj this
    subst hux huy
    have hfr : H s.heap.objs.size = none := I.hok.fresh (Nat.le_refl _)
    have kk : ∀ c o, c ∉ [z, TI, TO, p, q] → s.heap.get? c = some o → h2.get? c = some o := fun c o hc e => by
      simp only [List.mem_cons, List.not_mem_nil, or_false, not_or] at hc
      exact (sb.2 c hc.1).trans (kp c o hc.1 hc.2.2.1 hc.2.2.2.1 hc.2.2.2.2 e)
    have nal : ∀ c o, s.heap.get? c = some o → c ≠ s.heap.objs.size := fun c o e => nne (Heap.lt_size e)
    have na : s.heap.objs.size ≠ z := Ne.symm (nal z _ zz)
    have hnew : h2.get? s.heap.objs.size = some { cls := .type "tuple", data := .seq #[u1, u2] } := (sb.2 _ na).trans nw
    have ntr : ∀ c o, H c = some o → c ∉ [z, TI, TO, p, q] := fun c o e hc => by
      rw [(hf c hc).1] at e; cases e
    refine ⟨.ref s.heap.objs.size, upd H s.heap.objs.size (.tup [xs[i], ys[i]]), ?_, rfl, ⟨s.heap.objs.size, xs[i], ys[i], hfr, rfl, fun zs hz => by rw [I.tuple_inj hz hq1]; exact hx, fun zs hz => by rw [I.tuple_inj hz hq2]; exact hy, rfl⟩,
      ⟨zz2, (sb.2 TI ap.a1).trans (kp TI _ ap.a1 ap.a5 ap.a6 ap.a7 zi), ⟨u1, u2, (sb.2 TO ap.a2).trans zo1⟩, Heap.IsTupleIter.at st1.1 fun o e => (sb.2 p ap.a3).trans e, Heap.IsTupleIter.at st2.1 fun o e => (sb.2 q ap.a4).trans e⟩, fun c hc => ?_⟩
    · show Inv X pins σ _ { s with heap := h2, gens := s.gens, drawn := s.drawn, toks := tk }
      refine I.step (g' := s.gens) (d' := s.drawn) (t' := tk) (h' := h2) (ch := [z, TI, TO, p, q]) (fun c hc => ?_) (fun c o _ _ hc e _ => kk c o hc e) (fun c o _ _ hc e _ => ⟨o.slots, kk c o hc e⟩) (fun c o _ e n => by rw [upd_ne (nal c o e)]; exact n)
        (fun c o hc e => ⟨o, kk c o hc e⟩) (fun c zs e => by rw [upd_ne (ne_of_none e hfr)]; exact e) (fun c o v e => by rw [upd_ne (ne_of_none e hfr)]; exact e) (fun c ps e => ⟨#[], by rw [upd_ne (ne_of_none e hfr), e]; simp⟩) (fun m hm => ?_) (fun c o e => ?_) I.bare
      · obtain ⟨_, c1, _, c3, c4, c5⟩ := hf c hc
        exact ⟨c3, c1, c4, c5⟩
      · obtain ⟨o, es, ep, e, r⟩ := hm
        exact ⟨o, es, ep, kk _ o (fun hc => (hf _ hc).2.1 rfl) e, r⟩
      · by_cases hb : c = s.heap.objs.size
        · subst hb
          rw [upd_same] at e
          cases e
          exact ⟨by simp only [List.length_cons, List.length_nil]; rw [sizeLine_eq]; decide, [u1, u2], .cons ru1 (.cons ru2 .nil), ⟨_, hnew, rfl, 0, rfl⟩, fun o e => by rw [hnew] at e; cases e; rfl⟩
        · rw [upd_ne hb] at e
          refine (I.hok c o e).stay (fun d v hd e' => kk d v ?_ e') (fun d e' => by rw [upd_ne (ne_of_none e' hfr)]; exact e') fun d zs e' => by rw [upd_ne (ne_of_none e' hfr)]; exact e'
          rcases hd with rfl | hd
          · exact ntr d _ e
          · exact ntr d _ hd
    · have nc : c ≠ s.heap.objs.size := by
        simp only [List.mem_cons, List.not_mem_nil, or_false] at hc
        rcases hc with rfl | rfl | rfl | rfl | rfl
        · exact nal _ _ zz
        · exact nal _ _ zi
        · exact nal _ _ zo
        · obtain ⟨o, e, _⟩ := titObj x1; exact nal _ _ e
        · obtain ⟨o, e, _⟩ := titObj x2; exact nal _ _ e
      rw [upd_ne nc]
      exact (hf c hc).1
  done := by
    intro X hP hw hK hc i pins s σ H E I hf st hg
    subst hP hw hK
    obtain ⟨zz, zi, ⟨a, b, zo⟩, x1, x2⟩ := st
    obtain ⟨xs, ys, hq1, hq2, hl⟩ := hg
    obtain ⟨it1, rv1, sq1, lt1⟩ := seqK I hq1
    obtain ⟨it2, rv2, sq2, lt2⟩ := seqK I hq2
    have e1 := rv1.length
    have e2 := rv2.length
    have hh : X.A.in1.handled = none := I.ok.hd hc
    refine nextZ_stop (draws_tuple hh p t n1 it1.toArray) (draws_tuple hh q u n2 it2.toArray) ap zz zi zo ⟨x1, sq1⟩ ⟨x2, sq2⟩ (by simp only [List.size_toArray]; (first | lia | omega)) fun h' tk kp => ⟨rfl, ?_⟩
    have kk : ∀ c o, c ∉ [z, TI, TO, p, q] → s.heap.get? c = some o → h'.get? c = some o := fun c o hc e => by
      simp only [List.mem_cons, List.not_mem_nil, or_false, not_or] at hc
      exact kp c o hc.1 hc.2.2.1 hc.2.2.2.1 hc.2.2.2.2 e
    have ntr : ∀ c o, H c = some o → c ∉ [z, TI, TO, p, q] := fun c o e hc => by
      rw [(hf c hc).1] at e; cases e
    show Inv X pins σ _ { s with heap := h', gens := s.gens, drawn := s.drawn, toks := tk }
    refine I.step (g' := s.gens) (d' := s.drawn) (t' := tk) (h' := h') (ch := [z, TI, TO, p, q]) (fun c hc => ?_) (fun c o _ _ hc e _ => kk c o hc e) (fun c o _ _ hc e _ => ⟨o.slots, kk c o hc e⟩) (fun c o _ e n => n)
      (fun c o hc e => ⟨o, kk c o hc e⟩) (fun c zs e => e) (fun c o v e => e) (fun c ps e => ⟨#[], by rw [e]; simp⟩) (fun m hm => ?_) (fun c o e => ?_) I.bare
    · obtain ⟨_, c1, _, c3, c4, c5⟩ := hf c hc
      exact ⟨c3, c1, c4, c5⟩
    · obtain ⟨o, es, ep, e, r⟩ := hm
      exact ⟨o, es, ep, kk _ o (fun hc => (hf _ hc).2.1 rfl) e, r⟩
    · refine (I.hok c o e).stay (fun d v hd e' => kk d v ?_ e') (fun d e' => e') fun d zs e' => e'
      rcases hd with rfl | hd
      · exact ntr d _ e
      · exact ntr d _ hd
  self := fun A i s Q E st h => by cases st with | mk zz zi zo x1 x2 => exact wpAny_pyIter_zip zz h

noncomputable abbrev zA (h : Heap) (t : Addr) : Heap := h.push (iterO t)
noncomputable abbrev zB (h : Heap) (t u : Addr) : Heap := (zA h t).push (iterO u)
noncomputable abbrev zC (h : Heap) (t u : Addr) : Heap := (zB h t u).push { cls := .type "tuple", data := .seq #[.ref h.objs.size, .ref (zA h t).objs.size] }
noncomputable abbrev zD (h : Heap) (t u : Addr) : Heap := (zC h t u).push { cls := .type "tuple", data := .seq #[.none, .none] }
noncomputable abbrev zE (h : Heap) (t u : Addr) : Heap := (zD h t u).push { cls := .type "zip", data := .fields #[.none, .bool false, .bool false, .ref (zB h t u).objs.size, .ref (zC h t u).objs.size] }
theorem meets_zipK (t u : Addr) (xs ys : Array Value) :
    Meets (Builtin.«zip.__new__» ⟨[.type "zip", .ref t, .ref u], []⟩) (fun _ R s => s.heap.IsTuple t xs ∧ s.heap.IsTuple u ys ∧
      R (.ok (.ret (.ref (zD s.heap t u).objs.size))) { s with heap := zE s.heap t u }) :=
  .of_wp fun prog w A R s h => by
    obtain ⟨hp, g, d, tk, os⟩ := s; obtain ⟨hl1, hl2, h⟩ := h
    have hsub := sub_zip
    have hL1 : (Shared.heap ⟨hp, g, d, tk, os⟩).IsTuple t xs := hl1
    have hL2 : (Shared.heap ⟨hp.push (iterO t), g, d, tk, os⟩).IsTuple u ys := Heap.IsTuple.push hl2 _
    wp_walk using wpAny_pyIter_tuple hL1, wpAny_pyIter_tuple hL2
    exact ⟨_, rfl, h⟩
theorem call_zipK {prog : Program} {w : World} {A : Around} {E : Value → Shared → Prop} {s : Shared} {t u : Addr} {xs ys : Array Value} {Q : Value → Shared → Prop} (h1 : s.heap.IsTuple t xs) (h2 : s.heap.IsTuple u ys)
    (h : ∀ h', IsZip h' (s.heap.objs.size + 4) (s.heap.objs.size + 2) (s.heap.objs.size + 3) .none → IsPair h' (s.heap.objs.size + 2) (.ref s.heap.objs.size) (.ref (s.heap.objs.size + 1)) →
      IsPair h' (s.heap.objs.size + 3) .none .none → h'.IsTupleIter s.heap.objs.size t 0 → h'.IsTupleIter (s.heap.objs.size + 1) u 0 → (∀ c o, s.heap.get? c = some o → h'.get? c = some o) → Q (.ref (s.heap.objs.size + 4)) { s with heap := h' }) :
    wpAny (model prog w) A (call (.type "zip") [.ref t, .ref u]) Q E s := by
  refine callType_new F.called_zip (by decide) (F.typeCall_zip_2 _ _) (F.newCall_zip_2 _ _) (fun obj => F.args_object_init_3 obj _ _) F.entry_zip_new
    (meets_zipK t u xs ys) ⟨h1, h2, ?_⟩
  have y1 : (zA s.heap t).objs.size = s.heap.objs.size + 1 := Heap.size_push ..
  have y2 : (zB s.heap t u).objs.size = s.heap.objs.size + 2 := by rw [Heap.size_push, y1]
  have y3 : (zC s.heap t u).objs.size = s.heap.objs.size + 3 := by rw [Heap.size_push, y2]
  have y4 : (zD s.heap t u).objs.size = s.heap.objs.size + 4 := by rw [Heap.size_push, y3]
  have g5 : (zE s.heap t u).get? (zD s.heap t u).objs.size = some _ := Heap.get?_push_size _ rfl
  have g4 : (zE s.heap t u).get? (zC s.heap t u).objs.size = some _ := Heap.get?_push_of_some _ (Heap.get?_push_size _ rfl)
  have g3 : (zE s.heap t u).get? (zB s.heap t u).objs.size = some _ := Heap.get?_push_of_some _ (Heap.get?_push_of_some _ (Heap.get?_push_size _ rfl))
  have g2 : (zE s.heap t u).get? (zA s.heap t).objs.size = some (iterO u) := Heap.get?_push_of_some _ (Heap.get?_push_of_some _ (Heap.get?_push_of_some _ (Heap.get?_push_size _ rfl)))
  have g1 : (zE s.heap t u).get? s.heap.objs.size = some (iterO t) := Heap.get?_push_of_some _ (Heap.get?_push_of_some _ (Heap.get?_push_of_some _ (Heap.get?_push_of_some _ (Heap.get?_push_size _ rfl))))
  show _ ∧ _
  rw [y2, y3, y4] at g5
  rw [y1, y2] at g3
  rw [y3] at g4
  rw [y1] at g2
  rw [y4]
  exact ⟨⟨_, g5, rfl⟩, h _ g5 g3 g4 ⟨_, g1, rfl, rfl⟩ ⟨_, g2, rfl, rfl⟩ fun c o x => Heap.get?_push_of_some _ (Heap.get?_push_of_some _ (Heap.get?_push_of_some _ (Heap.get?_push_of_some _ (Heap.get?_push_of_some _ x))))⟩
section
variable {X : Cx} {E : XK}
theorem nm2 {a b c : Nat} (h1 : a ≠ b) (h2 : a ≠ c) : a ∉ [b, c] := fun z => by
  rcases List.mem_cons.mp z with z | z
  · exact h1 z
  · exact h2 (List.mem_singleton.mp z)
theorem zap_of {n t u : Nat} (lt1 : t < n) (lt2 : u < n) : ZAp (n + 4) (n + 2) (n + 3) n (n + 1) [n, t] [n + 1, u] := by
  have g : ∀ {k v : Nat}, v < n → n + k ≠ v := fun h e => Nat.not_le_of_lt h (e ▸ Nat.le_add_right _ _)
  have d : ∀ {j k : Nat}, j ≠ k → n + j ≠ n + k := fun h e => h (Nat.add_left_cancel e)
  have d0 : ∀ {k : Nat}, 0 ≠ k → n ≠ n + k := fun h => d (j := 0) h
  exact ⟨d (by decide), d (by decide), d0 (by decide), d (by decide), d (by decide), (d0 (by decide)).symm, d (by decide), (d0 (by decide)).symm, d (by decide), d0 (by decide),
    nm2 (d0 (by decide)).symm (g lt1), nm2 (d (by decide)) (g lt2), nm2 (d0 (by decide)).symm (g lt1), nm2 (d (by decide)) (g lt2), nm2 (d0 (by decide)) (g (k := 0) lt2), nm2 (d0 (by decide)).symm (g lt1)⟩
theorem pi_zip {elts : List Expr} {kt : Nat} {tpos p pos : Pos} {a b : Expr} {ta : TA} (hg : Gl X "zip") (hm : X.mg "zip" = none) (ha : PA X [a, b] ta) (hs : starEach [a, b] X.env = [(false, eval a X.env), (false, eval b X.env)] := by rfl) (hs2 : starEach [b] X.env = [(false, eval b X.env)] := by rfl) :
    PI X (.Tuple elts kt tpos) (.Call (.Name "zip" p) [a, b] [] pos) (fun σ H R => ta σ H fun vs H1 => ∃ t u xs ys, vs = [.ref t, .ref u] ∧ SqT X.K H1 t xs ∧ SqT X.K H1 u ys ∧ R (Itz X.K t u) H1) := by
  intro pins s σ H R I h
  refine Call_ (ld_blt I hg hm PyProof.Rows.boot_zip (PyProof.Rows.callWith_type1 (thn (ha pos pins s σ H _ I h) fun us s1 ⟨vs, H1, I1, r1, q1⟩ => ?_) (by rw [hs, hs2]) (by rw [hs2]; rfl)))
  obtain ⟨t, u, xs, ys, e, hq1, hq2, q⟩ := q1
  subst e
  cases r1 with
  | cons r rr =>
    cases rr with
    | cons r' rr =>
      cases rr
      cases r
      cases r'
      obtain ⟨it1, rv1, sq1, lt1⟩ := seqK I1 hq1
      obtain ⟨it2, rv2, sq2, lt2⟩ := seqK I1 hq2
      refine call_zipK sq1 sq2 fun h' zz zi zo x1 x2 kp => wpAny_pyIter_zip (s := { s1 with heap := h' }) zz ?_
      have I2 : Inv X pins σ H1 { s1 with heap := h' } := I1.kept (t' := s1.toks) kp
      have fr : ∀ c, s1.heap.objs.size ≤ c → FpOk X pins H1 c := fun c hc => I1.fpOk hc (I1.hok.fresh hc)
      have m0 : s1.heap.objs.size ≠ s1.heap.objs.size + 4 := Nat.ne_of_lt (by (first | lia | omega))
      have ap := zap_of lt1 lt2
      refine ⟨s1.heap.objs.size + 4, [s1.heap.objs.size + 4, s1.heap.objs.size + 2, s1.heap.objs.size + 3, s1.heap.objs.size, s1.heap.objs.size + 1], _, _, H1, rfl, I2, turn_zip _ _ _ _ _ t u ap (nne lt1) (nne (Nat.lt_succ_of_lt lt2)), ⟨zz, zi, ⟨_, _, zo⟩, x1, x2⟩, fun c hc => ?_, q⟩
      simp only [List.mem_cons, List.not_mem_nil, or_false] at hc
      rcases hc with rfl | rfl | rfl | rfl | rfl
      · exact fr _ (Nat.le_add_right _ _)
      · exact fr _ (Nat.le_add_right _ _)
      · exact fr _ (Nat.le_add_right _ _)
      · exact fr _ (Nat.le_refl _)
      · exact fr _ (Nat.le_add_right _ _)
noncomputable def zipL (xs ys : List D) : List D := List.zipWith (fun a b => .tup [a, b]) xs ys
noncomputable def zipD : List D → HD → Out (List D × Src) := fun ds h => match ds with
  | [.tup xs, .tup ys] => .ok (zipL xs ys, []) h
  | _ => .stuck
noncomputable def mIZip (fa : MA) : MI := fun ρ h => (fa ρ h).bind zipD
theorem evI_zip {elts : List Expr} {kt : Nat} {tpos p pos : Pos} {a b : Expr} {fa : MA} (hg : Gl X "zip") (hm : X.mg "zip" = none) (ha : EvA X E [a, b] fa) (hs : starEach [a, b] X.env = [(false, eval a X.env), (false, eval b X.env)] := by rfl) (hs2 : starEach [b] X.env = [(false, eval b X.env)] := by rfl) :
    EvI X E (.Tuple elts kt tpos) (.Call (.Name "zip" p) [a, b] [] pos) (mIZip fa) :=
  pi_imp (pi_zip hg hm ha hs hs2) fun σ H R ⟨m, ρ, h, hr, er, p⟩ => ⟨m, ρ, h, hr, er, Post.bind p fun x h1 v m1 H1 eo p1 k1 hr1 r1 q1 => by
    clear eo
    unfold zipD at q1
    split at q1
    · rename_i xs ys
      simp only [rDs, DVs] at r1
      obtain ⟨v1, w1, rfl, rv1, v2, w2, rfl, rv2, rfl⟩ := r1
      simp only [DV] at rv1 rv2
      obtain ⟨t, ws1, rfl, ha1, dv1⟩ := rv1
      obtain ⟨u, ws2, rfl, ha2, dv2⟩ := rv2
      refine ⟨t, u, ws1, ws2, rfl, SqT.of ha1, SqT.of ha2, q1 _ m1 H1 (List.prefix_refl _) (.refl _) hr1 fun i m2 h2 H2 p2 k2 hr2 hsr => ?_⟩
      have sw1 : SqT X.K H2 t ws1 := SqT.of (k2 _ _ ha1 rfl)
      have sw2 : SqT X.K H2 u ws2 := SqT.of (k2 _ _ ha2 rfl)
      have dw1 := dv1.keep p2 k2
      have dw2 := dv2.keep p2 k2
      have n1 := dw1.len
      have n2 := dw2.len
      have nl : (zipL xs ys).length = min xs.length ys.length := by simp [zipL]
      refine ⟨fun hi => ?_, fun hi => ⟨ws1, ws2, sw1, sw2, by dsimp only at hi; (first | lia | omega)⟩⟩
      dsimp only at hi
      have i1 : i < xs.length := by (first | lia | omega)
      have i2 : i < ys.length := by (first | lia | omega)
      refine ⟨⟨ws1, ws2, sw1, sw2, by (first | lia | omega), by (first | lia | omega)⟩, fun y H3 z3_ => ?_⟩
      obtain ⟨pp, vv, vv', hp, ey, ev, ev', eH⟩ := z3_
      subst ey eH
      have g1 : xs[i]? = some xs[i] := List.getElem?_eq_getElem i1
      have g2 : ys[i]? = some ys[i] := List.getElem?_eq_getElem i2
      obtain ⟨c1, z1, r1'⟩ := dw1.get g1
      obtain ⟨c2, z2, r2'⟩ := dw2.get g2
      rw [ev ws1 sw1] at z1
      rw [ev' ws2 sw2] at z2
      cases z1
      cases z2
      refine ⟨.new hp, hr2.new hp, .tup [xs[i], ys[i]], ?_, ?_⟩
      · simp [zipL, List.getElem?_zipWith, g1, g2]
      · simp only [DV]
        exact ⟨pp, _, rfl, upd_same, .cons (DV.keep (List.prefix_refl _) (.new hp) r1') (.cons (DV.keep (List.prefix_refl _) (.new hp) r2') .nil)⟩
    · exact q1.elim⟩
end
end LS

namespace LS
open PySem PySem.Spec PyProof.Rows L2
section
variable {ρ : Rho} {h : HD} {QI : (List D × Src) → HD → Prop} {Q : D → HD → Prop} {QO : Option Int → HD → Prop} {QS : Fl × Rho → HD → Prop} {f fo fi fv : ME} {lo hi : MO} {fa : MA}
@[simp] theorem wp_ienum2 : Wp (mIEnum2 fa ρ h) QI = Wp (fa ρ h) fun d h1 => Wp (enumD2 d h1) QI := by unfold mIEnum2; rw [wp_bind]
@[simp] theorem wp_izip : Wp (mIZip fa ρ h) QI = Wp (fa ρ h) fun d h1 => Wp (zipD d h1) QI := by unfold mIZip; rw [wp_bind]
@[simp] theorem wp_slice : Wp (mSlice f lo hi ρ h) Q = Wp (f ρ h) fun x h1 => Wp (lo ρ h1) fun l h2 => Wp (hi ρ h2) fun u h3 => Wp (slD x l u h3) Q := by unfold mSlice; simp only [wp_bind]
@[simp] theorem wp_noPart : Wp (mNoPart ρ h) QO = QO none h := rfl
@[simp] theorem wp_part : Wp (mPart f ρ h) QO = Wp (f ρ h) fun x h1 => Wp (match x with
  | .int i => (.ok (some i) h1 : Out (Option Int))
  | _ => .stuck) QO := by unfold mPart; rw [wp_bind] <;> rfl
@[simp] theorem wp_augIx : Wp (mAugIx fo fi fv ρ h) QS = Wp (fo ρ h) fun o h1 => Wp (fi ρ h1) fun i h2 => Wp (augGet o i h2) fun x h3 => Wp (fv ρ h3) fun y h4 => Wp (augK o i x y ρ h4) QS := by unfold mAugIx; simp only [wp_bind]
theorem iseq_loc {l : Nat} {ds : List D} (e : h[l]? = some (.lst ds)) : iSeqD (.loc l) h = .ok (ds, [(l, ds)]) h := by
  simp only [iSeqD, itemsD, e, srcD]
theorem len_loc {l : Nat} {ds : List D} (e : h[l]? = some (.lst ds)) : lenD (.loc l) h = .ok (.int ds.length) h := by
  simp only [lenD, itemsD, e]
end

noncomputable def xSum (cs : List (Option Nat)) (it : MI) (sg : MG) (t : MT) (f : ME) : ME := mCall (ar1 sumD) (mCons (mComp cs it sg t f) mNil)
noncomputable def xExt (F : List Int → Int) (cs : List (Option Nat)) (it : MI) (sg : MG) (t : MT) (f : ME) : ME := mCall (ar1 (extD F)) (mCons (mComp cs it sg t f) mNil)
section
variable {α : Type} {cs : List (Option Nat)} {it : MI} {sg : MG} {t : MT} {f : ME} {ρ : Rho} {h : HD} {src : Src} {xs : List α} {φ : α → D} {F : List Int → Int}
@[simp] theorem xSum_fold : mCall (ar1 sumD) (mCons (mComp cs it sg t f) mNil) ρ h = xSum cs it sg t f ρ h := rfl
@[simp] theorem xExt_fold : mCall (ar1 (extD F)) (mCons (mComp cs it sg t f) mNil) ρ h = xExt F cs it sg t f ρ h := rfl
end
end LS


namespace LS
open PySem PySem.Spec PyProof.Rows L2
section
variable {X : Cx} {E : XK}
end
section
variable {X : Cx}
noncomputable def anyD : D → HD → Out D := fun x h => match x with
  | .loc l => match h[l]? with
    | some (.lst ds) => match allSome (ds.map asBl) with
      | some bs => .ok (.bl (bs.any id)) h
      | none => .stuck
    | _ => .stuck
  | _ => .stuck
end
noncomputable def xAny (cs : List (Option Nat)) (it : MI) (sg : MG) (t : MT) (f : ME) : ME := mCall (ar1 anyD) (mCons (mComp cs it sg t f) mNil)
section
variable {α : Type} {cs : List (Option Nat)} {it : MI} {sg : MG} {t : MT} {f : ME} {ρ : Rho} {h : HD} {src : Src} {xs : List α} {φ : α → D}
@[simp] theorem xAny_fold : mCall (ar1 anyD) (mCons (mComp cs it sg t f) mNil) ρ h = xAny cs it sg t f ρ h := rfl
end
end LS


namespace LK
open LS
noncomputable def rsum (n : Nat) (r : Nat → Bool) : Int := ((List.range n).map fun j => if r j then (1 : Int) else 0).sum
/-- how many are lit in column j when the rows R are switched -/
noncomputable def cc (H : Nat) (f : Nat → Nat → Bool) (R : Nat → Bool) (j : Nat) : Int := rsum H fun i => Bool.xor (f i j) (R i)
noncomputable def tot (W : Nat) (H : Int) (c : Nat → Int) (C : Nat → Bool) : Int := ((List.range W).map fun j => if C j then H - c j else c j).sum
noncomputable def few (W : Nat) (H : Int) (c : Nat → Int) : Int := ((List.range W).map fun j => if H - c j < c j then H - c j else c j).sum
noncomputable def TT (H W : Nat) (f : Nat → Nat → Bool) (R C : Nat → Bool) : Int := tot W H (cc H f R) C
noncomputable def ext (n : Nat) (R : Nat → Bool) : Nat → Bool := fun i => if i = n then true else R i
noncomputable def LL (s : Nat) : Nat → List (Nat → Bool)
  | 0 => [fun _ => false]
  | k + 1 => LL s k ++ (LL s k).map (ext (s + k))
/-- what is left -/
noncomputable def left (H W : Nat) (f : Nat → Nat → Bool) : Int := leastL ((LL 1 (H - 1)).map fun R => few W H (cc H f R))
end LK

namespace LK
open LS
/-- how many of a list are k -/
noncomputable def cnt (L : List Int) (k : Int) : Int := (L.map fun x => if x = k then (1 : Int) else 0).sum
/-- of a board, with the rows R: how many lots of columns leave k -/
noncomputable def hk (H W : Nat) (f : Nat → Nat → Bool) (k : Int) (R : Nat → Bool) : Int := cnt ((LL 0 W).map (TT H W f R)) k
noncomputable def NN (H W : Nat) (f : Nat → Nat → Bool) (k : Int) : Int := ((LL 1 (H - 1)).map (hk H W f k)).sum
end LK


namespace LS
open PySem PySem.Spec PyProof.Rows L2 PySem.W

/-- what is asked of an own exception's class -/
structure EC (K : Frag) (C : Addr) : Prop where
  ga : findIn K (.ref C) "__getattribute__" = some (some (.builtin "BaseException.__getattribute__"))
  gt : findIn K (.ref C) "__getattr__" = some none
  cl : (clsIn K C).isSome = true
  ac : findIn K (.ref C) "__class__" = some (some (.builtin "object.__class__"))
  sg : specialIn K (.builtin "object.__class__") "__get__" = some (some (.builtin "getset_descriptor.__get__"))
  tk : takesIn K (.builtin "object.__class__") = some true
  mo : mroIn K C (.type "object") = some true
  mb : mroIn K C (.type "BaseException") = some true
section
variable {prog : Program} {w : World} {A : Around} {E : Value → Shared → Prop} {s : Shared} {K : Frag} {x C : Addr} {ox : Obj} {od : Option Obj}
/-- a thing of this class -/
noncomputable def TyAt (x C : Addr) (h : Heap) : Prop := ∃ o, h.get? x = some o ∧ o.cls = .ref C
theorem TyAt.type {M : Model} {h : Heap} (t : TyAt x C h) : Looks M h (typeOf (.ref x)) (.ref C) := by
  obtain ⟨o, h1, h2⟩ := t
  exact h2 ▸ (Looks.ld h1).andThen .now
theorem exc_look {M : Model} {h : Heap} (c : EC K C) (X : K.In h) : Looks M h (Builtin.ObjectAttr.find (.ref x) (.ref C) "__class__") (.bind (.builtin "getset_descriptor.__get__") (.builtin "object.__class__")) := by
  have L1 := looks_findIn (M := M) X c.ac
  have L2 : Looks M h (Builtin.ObjectAttr.getOf (some (.builtin "object.__class__"))) (some (.builtin "getset_descriptor.__get__")) := looks_specialIn X c.sg
  have L3 := looks_takesIn (M := M) X c.tk
  refine L1.andThen (L2.andThen ?_)
  exact (show Looks M h (Builtin.ObjectAttr.dataDescriptor? (some (.builtin "object.__class__")) (some (.builtin "getset_descriptor.__get__"))) (some (.builtin "getset_descriptor.__get__", .builtin "object.__class__")) from L3.andThen .now).andThen (Looks.tag .now)
theorem class_get' {R : Result → Shared → Prop} {tp : Value} (X : K.In s.heap) (I : TyAt x C s.heap) (hm : mroIn K C (.type "object") = some true)
    (h : R (.ok (.ret (.ref C))) s) : codeAny (model prog w) A (.call (.builtin "getset_descriptor.__get__") ⟨[.builtin "object.__class__", .ref x, tp], []⟩) R s := by
  obtain ⟨hh, g, dr, t, os⟩ := s
  have L0 := I.type (M := model prog w)
  have L1 := looks_mroIn (M := model prog w) X hm
  refine codeAny_call_builtin KF.slot_gs.plain KF.entry_gs (KF.slot_gs.check _ _ _ _ _ _ _ _ KF.type_class (KF.args_gs _ _ _) ?_)
  unfold Builtin.«getset_descriptor.__get__» Builtin.Getset_descriptor.descrGet
  rw [dga_obj]
  refine wpAny_bind (wpAny_pure ?_)
  unfold Builtin.Getset_descriptor.descrGetter Builtin.Getset_descriptor.descrCheckInstance Builtin.Getset_descriptor.descrNameAndClass isInstance
  simp only [KF.owner_class]
  repeat lk
  refine ⟨Code.quiet_builtin _ (by decide +kernel), codeAny_builtin KF.entry_class ?_⟩
  unfold Builtin.«object.__class__» shownTypeOf
  repeat lk
  exact h
theorem exc_class {Q : Option Value → Shared → Prop} (c : EC K C) (X : K.In s.heap) (I : TyAt x C s.heap) (h : Q (some (.ref C)) { s with toks := s.toks + 1 }) : wpAny (model prog w) A (getAttr? (.ref x) "__class__") Q E s := by
  obtain ⟨hh, g, d, t, os⟩ := s
  have L0 := I.type (M := model prog w)
  have L1 := looks_findIn (M := model prog w) X c.ga
  have L2 := looks_findIn (M := model prog w) X c.gt
  have LF := exc_look (M := model prog w) (x := x) c X
  have LB := looks_mroIn (M := model prog w) X c.mb
  have ha := F.args_bexc_ga (.ref x) (.str "__class__" t)
  have hk : builtinKind "BaseException.__getattribute__" = some .slot := by decide +kernel
  have hsplit : splitId "BaseException.__getattribute__" = some ("BaseException", "__getattribute__") := by decide +kernel
  have hx2 : (Value.builtin "BaseException.__getattribute__" == Value.builtin "object.__getattribute__") = false := by decide +kernel
  have hx1 : (onTheHeap (Value.ref C) && Value.builtin "BaseException.__getattribute__" == Value.builtin "object.__getattribute__") = false := by rw [hx2]; rfl
  unfold getAttr? getAttrBy? getAttrBy
  refine wpAny_bind (wpAny_mkText (wpAny_bind (wpAny_attempt (wpAny_holding (wpAny_bind (L0.at (wpAny_bind (L1.at ?_))))))))
  dsimp only
  rw [hx1]
  simp only [Bool.false_eq_true, if_false]
  unfold getAttrByItsOwn hookBefore
  refine wpAny_bind ?_
  show wpAny _ _ (typeLookup (.ref C) "__getattr__") _ _ _
  refine L2.at ?_
  refine wpAny_bind (wpAny_attempt (wpAny_holding ?_))
  unfold callGetattribute boundAndCalled
  simp only [Bool.false_and, Bool.false_eq_true, if_false]
  rw [PySem.F.attr_ValueError.ga.bind (.ref x)]
  refine wpAny_bind (wpAny_pure (wpAny_call (codeAny_call_builtin PySem.F.attr_ValueError.ga.plain F.entry_bexc_ga ?_)))
  simp only [checkBuiltinCall, hk, hsplit]
  refine wpAny_bind ?_
  unfold isInstance
  refine wpAny_bind (L0.at (LB.at ?_))
  wp_step
  unfold Builtin.«object.__getattribute__»
  repeat lk
  refine wpAny_run (class_get' (s := ⟨hh, g, d, t + 1, os⟩) X I c.mo ?_) (by intro z; cases z)
  refine wpAny_pure (wpAny_pure ?_)
  exact handed_on rfl (wpAny_pure h)
/-- an exception's kind, for isinstance -/
theorem kitx_exc (c : EC K C) : KitX K (.ref x) (.ref C) (TyAt x C) where
  ty := fun _ _ _ I => I.type
  it := fun _ _ X _ => by
    obtain ⟨cdD, hcD⟩ := Option.isSome_iff_exists.mp c.cl
    unfold clsIn at hcD
    split at hcD
    · rename_i c' d' cd' sl' ho
      intro A' Q' E' s' k q
      unfold isType loadHead
      exact wpAny_bind (wpAny_loadPart (k _ _ (X _ _ ho)) (wpAny_pure q))
    · cases hcD
  ne := fun h tp dd its n sl X htp => by
    obtain ⟨cdD, hcD⟩ := Option.isSome_iff_exists.mp c.cl
    refine Bool.eq_false_iff.mpr fun q => ?_
    have e : C = tp := Value.ref.inj (beq_iff_eq.mp q)
    subst e
    unfold clsIn at hcD
    split at hcD
    · rename_i c' d' cd' sl' ho
      have z := (X _ _ ho).symm.trans htp
      cases z
    · cases hcD
  ca := fun X I k => exc_class c X I k
end
end LS


namespace LS
open PySem PySem.Spec PyProof.Rows L2 PySem.W

noncomputable def excNames : List Str := ["NoBoard", "NoLine", "NoSwitching", "NoNumber", "Unlike", "NoNet", "NoPlace", "NoText", "NoRow", "TooMany", "SwitchError"]
/-- whether the one class stands under the other -/
noncomputable def excSub (n n' : Str) : Bool := n == n' || n' == "SwitchError"
noncomputable def ecOk (K : Frag) (C : Addr) : Bool :=
  findIn K (.ref C) "__getattribute__" == some (some (.builtin "BaseException.__getattribute__")) && findIn K (.ref C) "__getattr__" == some none && (clsIn K C).isSome &&
  findIn K (.ref C) "__class__" == some (some (.builtin "object.__class__")) && specialIn K (.builtin "object.__class__") "__get__" == some (some (.builtin "getset_descriptor.__get__")) &&
  takesIn K (.builtin "object.__class__") == some true && mroIn K C (.type "object") == some true && mroIn K C (.type "BaseException") == some true
theorem ec_of {K : Frag} {C : Addr} (h : ecOk K C = true) : EC K C := by
  unfold ecOk at h
  simp only [Bool.and_eq_true, beq_iff_eq] at h
  obtain ⟨⟨⟨⟨⟨⟨⟨h1, h2⟩, h3⟩, h4⟩, h5⟩, h6⟩, h7⟩, h8⟩ := h
  exact ⟨h1, h2, h3, h4, h5, h6, h7, h8⟩
noncomputable def excOf (K : Frag) (n : Str) : Option Addr := match nsIn K mainGlobals n with
  | some (some (.ref C)) => some C
  | _ => none
theorem excOf_some {K : Frag} {n : Str} {C : Addr} (h : excOf K n = some C) : nsIn K mainGlobals n = some (some (.ref C)) := by
  unfold excOf at h
  split at h
  · rename_i e; cases h; exact e
  · cases h
/-- one class of the text: what it is, and how it stands to the others -/
noncomputable def etOne (K : Frag) (n : Str) (C S : Addr) : Bool :=
  ecOk K C && kitOne K (.ref C) (.type "ValueError") == some true && (n == "TooMany" || excX K C veM "ValueError.__new__") && exmOne K (.ref C) (.ref S) == some true &&
    excNames.all fun n' => match excOf K n' with
      | some C' => kitOne K (.ref C) (.ref C') == some (excSub n n')
      | none => false
noncomputable def etOk (K : Frag) : Bool := match excOf K "SwitchError" with
  | some S => excNames.all fun n => match excOf K n with
    | some C => etOne K n C S
    | none => false
  | none => false
structure ET (K : Frag) (n : Str) (C : Addr) : Prop where
  ec : EC K C
  ve : kitOne K (.ref C) (.type "ValueError") = some true
  at_ : n ≠ "TooMany" → ExcAt K C veM "ValueError.__new__"
  sw : ∀ S, nsIn K mainGlobals "SwitchError" = some (some (.ref S)) → exmOne K (.ref C) (.ref S) = some true
  sub : ∀ n' C', n' ∈ excNames → nsIn K mainGlobals n' = some (some (.ref C')) → kitOne K (.ref C) (.ref C') = some (excSub n n')
theorem et_of {K : Frag} (h : etOk K = true) {n : Str} {C : Addr} (hn : n ∈ excNames) (hC : nsIn K mainGlobals n = some (some (.ref C))) : ET K n C := by
  unfold etOk at h
  split at h
  · rename_i S hS
    have h1 := List.all_eq_true.mp h n hn
    have e : excOf K n = some C := by unfold excOf; rw [hC]
    rw [e] at h1
    have h1 : etOne K n C S = true := h1
    unfold etOne at h1
    simp only [Bool.and_eq_true, beq_iff_eq, Bool.or_eq_true] at h1
    obtain ⟨⟨⟨⟨a1, a2⟩, a3⟩, a4⟩, a5⟩ := h1
    refine ⟨ec_of a1, a2, fun z => exc_at (a3.resolve_left z), fun S' hS' => ?_, fun n' C' hn' hC' => ?_⟩
    · have := excOf_some hS
      rw [this] at hS'
      cases hS'
      exact a4
    · have z := List.all_eq_true.mp a5 n' hn'
      have e' : excOf K n' = some C' := by unfold excOf; rw [hC']
      rw [e'] at z
      exact beq_iff_eq.mp z
  · cases h

section
variable {X : Cx} {E : XK}

theorem ev_glo {x : Str} {a : Addr} {pos : Pos} (hg : Gl X x) (hn : nsIn X.K mainGlobals x = some (some (.ref a))) (hd : (x == ("__debug__" : Str)) = false := by decide) : Ev X E (.Name x pos) (mC (.glo x)) :=
  fun pins s σ H Q I z1_ => by obtain ⟨m, ρ, h, hr, er, p⟩ := z1_; exact (ld_glob I hg (mg_of I.mod.kin I.mod.glob hn) ⟨.ref a, H, I, rfl, p (.ref a) m H (List.prefix_refl _) (.refl _) hr (by simp only [rD, DV]; exact ⟨a, rfl, hn⟩)⟩ hd)

noncomputable def NoE {α : Type} : Out α → Prop
  | .err _ _ _ => False
  | _ => True
theorem Post.noE {α β : Type} {K : Frag} {R : List Addr → Hp → α → β → Prop} {m : List Addr} {H : Hp} {E E' : XK} {Q : β → Hp → Prop} {o : Out α} (n : NoE o) (h : Post K R m H E Q o) : Post K R m H E' Q o := by
  cases o with
  | ok a h1 => exact h
  | err C fs h1 => exact False.elim n
  | stuck => exact h
theorem callM_of {f : Value} {F : List D → HD → Out D} (hF : ∀ ds h, NoE (F ds h))
    (hc : ∀ (pins : List (Addr × Obj)) (s : Shared) (σ : L2.St) (H : Hp) (m : List Addr) (h : HD) (ds : List D) (vs : List V) (us : List Value) (Q : VK), Inv X pins σ H s → HR X.K m h H → DVs X.K m H ds vs → Vals vs us → Post X.K (rD X.K) m H E0 Q (F ds h) →
      wpAny (model X.prog X.w) X.A (call f us) (EP X pins σ Q) X.xe s) : CallM X f F :=
  ⟨fun vs H Q => ∃ m h ds, HR X.K m h H ∧ DVs X.K m H ds vs ∧ Post X.K (rD X.K) m H E0 Q (F ds h), fun pins s σ H vs us Q I r z2_ => by obtain ⟨m, h, ds, hr, rd, q⟩ := z2_; exact (hc pins s σ H m h ds vs us Q I hr rd r q), fun m H h E ds vs Q hr rd q => ⟨m, h, ds, hr, rd, Post.noE (hF ds h) q⟩⟩
noncomputable def instX : D → D → HD → Out D := fun x y h => match x with
  | .exc n _ => (match y with
    | .glo n' => if n ∈ excNames ∧ n' ∈ excNames then .ok (.bl (excSub n n')) h else .stuck
    | .ty T => if n ∈ excNames ∧ T = "ValueError" then .ok (.bl true) h else .stuck
    | _ => .stuck)
  | .edic => (match y with
    | .ty T => (match subT "dict" T with
      | some b => .ok (.bl b) h
      | none => .stuck)
    | _ => .stuck)
  | _ => instD x y h
theorem instM_r (pins : List (Addr × Obj)) (s : Shared) (σ : L2.St) (H : Hp) (m : List Addr) (h : HD) (x y : D) (v v' : V) (u u' : Value) (Q : VK) (I : Inv X pins σ H s) (hr : HR X.K m h H) (rx : DV X.K m H x v) (ry : DV X.K m H y v') (r : RelV v u) (r' : RelV v' u')
    (q : Post X.K (rD X.K) m H E0 Q (instD x y h)) : wpAny (model X.prog X.w) X.A (call (.builtin "isinstance") [u, u']) (EP X pins σ Q) X.xe s := by
  unfold instD at q
  split at q
  · rename_i T t et
    split at q
    · rename_i b eb
      simp only [DV] at ry
      subst ry
      cases (show u' = Value.type T from r')
      exact isinst_ok I r (ty_of hr rx et) (subT_ok eb) fun tk => ⟨.bl b, H, I.tok _, rfl, okq hr q (by simp [DV])⟩
    · exact q.elim
  · exact q.elim
theorem instXM (et : etOk X.K = true) : CallM X (.builtin "isinstance") (ar2 instX) := by
  refine callM_of (fun ds h => ?_) fun pins s σ H m h ds vs us Q I hr rd r q => two_of rd q fun x y v v' ev rx ry q => ?_
  · unfold ar2 instX instD
    repeat' split
    all_goals trivial
  · subst ev
    obtain ⟨u, u', rfl, r1, r2⟩ := vals2 r
    unfold instX at q
    split at q
    · rename_i n fs
      simp only [DV] at rx
      obtain ⟨a, C, da, rfl, hC, ha, _⟩ := rx
      cases (show u = Value.ref a from r1)
      obtain ⟨⟨o, ws, ho, hcl, hdi, hdat⟩, _⟩ := (show ObjOk X.prog X.w H s.heap a (.ext (ExcIs C da a)) from I.hok a _ ha)
      have key : ∀ (c : Value) (b : Bool), EC X.K C → kitOne X.K (.ref C) c = some b → Q (.bl b) H → wpAny (model X.prog X.w) X.A (call (.builtin "isinstance") [.ref a, c]) (EP X pins σ Q) X.xe s := by
        intro c b ec e q
        exact kia_one (kitx_exc ec) I.kIn ⟨o, ho, hcl⟩ e (fun z => nomatch z) fun tk => ⟨.bl b, H, I.tok _, rfl, q⟩
      split at q
      · rename_i n'
        split at q
        · rename_i hn
          simp only [DV] at ry
          obtain ⟨C', rfl, hC'⟩ := ry
          cases (show u' = Value.ref C' from r2)
          have t := et_of et hn.1 hC
          exact key _ _ t.ec (t.sub n' C' hn.2 hC') (okq hr q (by simp [DV]))
        · exact q.elim
      · rename_i T
        split at q
        · rename_i hn
          simp only [DV] at ry
          subst ry
          cases (show u' = Value.type T from r2)
          obtain ⟨hn, rfl⟩ := hn
          have t := et_of et hn hC
          exact key _ _ t.ec t.ve (okq hr q (by simp [DV]))
        · exact q.elim
      · exact q.elim
    · split at q
      · rename_i T
        split at q
        · rename_i b eb
          simp only [DV] at rx ry
          obtain ⟨a, rfl, ha⟩ := rx
          subst ry
          cases (show u = Value.ref a from r1)
          cases (show u' = Value.type T from r2)
          obtain ⟨⟨_, o, ep, ho, hx, hd⟩, _⟩ := (show ObjOk X.prog X.w H s.heap a (.ext (DicIs a)) from I.hok a _ ha)
          exact kia_one kitx_dict I.kIn ⟨o, ho, hx.1⟩ (subT_ok eb) (fun z => nomatch z) fun tk => ⟨.bl b, H, I.tok _, rfl, okq hr q (by simp [DV])⟩
        · exact q.elim
      · exact q.elim
    · exact instM_r pins s σ H m h x y v v' u u' Q I hr rx ry r1 r2 q
end
end LS


namespace LS
open PySem PySem.Spec PyProof.Rows L2 PySem.W
section
variable {X : Cx} {E : XK}
noncomputable def mMet1 (chk : D → HD → Out D) (op : D → D → HD → Out D) (f g : ME) : ME := fun ρ h => ((f ρ h).bind chk).bind fun x h1 => (g ρ h1).bind fun y h2 => op x y h2
/-- a thing of this type, seen at every state -/
noncomputable def TyP (X : Cx) (T : String) (x : V) (H : Hp) : Prop := ∀ (pins : List (Addr × Obj)) (σ : L2.St) (s : Shared) (u : Value), Inv X pins σ H s → RelV x u → s.TypeIs u T ∧ ∀ a, u = .ref a → ∃ ob, s.heap.get? a = some ob ∧ ob.dict = none
noncomputable def tBMG (X : Cx) (T : String) (r : V → List V → Hp → VK → Prop) (to : TE) (t : TA) : TE := fun σ H Q => to σ H fun x H1 => TyP X T x H1 ∧ t σ H1 fun xs H2 => r x xs H2 Q
theorem pe_bmG {o e : Expr} {es : List Expr} {to : TE} {t : TA} {name : Str} {apos cpos : Pos} {T id : String} {r : V → List V → Hp → VK → Prop} (pa : PlainAttrs T) (slot : Slot T name id) (hty : typeOf (.builtin id) = pure (.type "method_descriptor")) (hm : MtR X id r) (ho : PE X o to) (ha : PA X (e :: es) t)
    (hbase : attributeBase o name X.env (eval o X.env) = eval o X.env := by rfl)
    (hfew : ((backTo cpos (starEach (e :: es) X.env)).all (fun x => !x.1) && (backToKw cpos (keywordEach [] X.env)).all (fun x => x.1.isSome)
      && decide ((e :: es).length + ([] : List Keyword).length + (if ([] : List Keyword).isEmpty then 0 else 1) < 30)) = true := by rfl)
    (hline : (apos.endLine == cpos.line) = true := by rfl) (hs : starEach (e :: es) X.env = (false, eval e X.env) :: starEach es X.env := by rfl) (hplain : (backTo cpos (starEach es X.env)).any (·.1) = false := by rfl) :
    PE X (.Call (.Attribute o name apos) (e :: es) [] cpos) (tBMG X T r to t) := by
  intro pins s σ H Q I h
  refine wpAny_Call_method_late hbase hfew hline rfl (thn (ho pins s σ H _ I h) fun v s1 z1_ => ?_)
  obtain ⟨x, H1, I1, r1, ty, q1⟩ := z1_
  obtain ⟨h1, h2⟩ := ty pins σ s1 v I1 r1
  refine ⟨T, id, pa, slot, hty, h1, h2, ?_⟩
  have hA := ha cpos pins s1 σ H1 _ I1 q1
  rw [hs] at hA ⊢
  refine Calls.callWith_builtin (by show (false || (backTo cpos (starEach es X.env)).any (·.1)) = false; rw [hplain] <;> rfl) (Calls.evalArgs_plain ?_)
  exact thn hA fun us s2 z2_ => by obtain ⟨vs, H2, I2, r2, q2⟩ := z2_; exact (hm pins s2 σ H2 x vs v us Q I2 r1 r2 q2)
structure Chk (X : Cx) (T : String) (chk : D → HD → Out D) : Prop where
  two : ∀ x h, chk x h = .ok x h ∨ chk x h = .stuck
  ty : ∀ m H h x v, HR X.K m h H → DV X.K m H x v → chk x h = .ok x h → TyP X T v H
noncomputable def MetM (X : Cx) (id : String) (op : D → D → HD → Out D) : Prop :=
  ∀ (pins : List (Addr × Obj)) (s : Shared) (σ : L2.St) (H : Hp) (m : List Addr) (h : HD) (x y : D) (v yv : V) (u uy : Value) (Q : VK), Inv X pins σ H s → HR X.K m h H → DV X.K m H x v → DV X.K m H y yv → RelV v u → RelV yv uy → Post X.K (rD X.K) m H E0 Q (op x y h) →
    wpAny (model X.prog X.w) X.A (call (.builtin id) [u, uy]) (EP X pins σ Q) X.xe s
theorem ev_met1 {o e : Expr} {f g : ME} {name : Str} {T id : String} {chk : D → HD → Out D} {op : D → D → HD → Out D} {apos cpos : Pos} (pa : PlainAttrs T) (slot : Slot T name id) (hty : typeOf (.builtin id) = pure (.type "method_descriptor"))
    (hc : Chk X T chk) (hn : ∀ x y h, NoE (op x y h)) (hm : MetM X id op) (ho : Ev X E o f) (he : Ev X E e g)
    (hbase : attributeBase o name X.env (eval o X.env) = eval o X.env := by rfl)
    (hfew : ((backTo cpos (starEach [e] X.env)).all (fun x => !x.1) && (backToKw cpos (keywordEach [] X.env)).all (fun x => x.1.isSome)
      && decide ([e].length + ([] : List Keyword).length + (if ([] : List Keyword).isEmpty then 0 else 1) < 30)) = true := by rfl)
    (hline : (apos.endLine == cpos.line) = true := by rfl) (hs : starEach [e] X.env = (false, eval e X.env) :: starEach [] X.env := by rfl) (hplain : (backTo cpos (starEach [] X.env)).any (·.1) = false := by rfl) :
    Ev X E (.Call (.Attribute o name apos) [e] [] cpos) (mMet1 chk op f g) := by
  have hr : MtR X id (fun v vs H Q => ∃ m h x y yv, vs = [yv] ∧ HR X.K m h H ∧ DV X.K m H x v ∧ DV X.K m H y yv ∧ Post X.K (rD X.K) m H E0 Q (op x y h)) := by
    rintro pins s σ H v vs u us Q I r rs ⟨m, h, x, y, yv, ev, hr, rx, ry, q⟩
    subst ev
    obtain ⟨uy, rfl, r2⟩ := vals1 rs
    exact hm pins s σ H m h x y v yv u uy Q I hr rx ry r r2 q
  refine pe_imp (pe_bmG pa slot hty hr ho (evA_cons he evA_nil hs) hbase hfew hline hs hplain) fun σ H Q z3_ => ?_
  obtain ⟨m, ρ, h, hr, er, p⟩ := z3_
  refine ⟨m, ρ, h, hr, er, ?_⟩
  unfold mMet1 at p
  rw [Out.bind_assoc] at p
  refine Post.bind p fun x h1 v m1 H1 eo p1 k1 hr1 r1 q1 => ?_
  clear eo
  rcases hc.two x h1 with ec | ec
  · rw [ec] at q1
    simp only [Out.bind_ok] at q1
    refine ⟨hc.ty m1 H1 h1 x v hr1 r1 ec, m1, ρ, h1, hr1, er.keep p1 k1, ?_⟩
    have q2 : Post X.K (rD X.K) m1 H1 E Q ((mCons g mNil ρ h1).bind fun ys h2 => match ys with
      | [y] => op x y h2
      | _ => .stuck) := by
      unfold mCons mNil
      rw [Out.bind_assoc]
      exact q1
    refine Post.bind q2 fun ys h2 vs m2 H2 eo p2 k2 hr2 r2 q3 => ?_
    clear eo
    split at q3
    · rename_i y
      simp only [rDs, DVs] at r2
      obtain ⟨yv, w, rfl, ry, rfl⟩ := r2
      exact ⟨m2, h2, x, y, yv, rfl, hr2, DV.keep p2 k2 r1, ry, Post.noE (hn x y h2) q3⟩
    · exact q3.elim
  · rw [ec] at q1
    exact q1.elim
theorem chk_lst : Chk X "list" isLst where
  two := fun x h => by
    unfold isLst
    split
    · split
      · exact .inl rfl
      · exact .inr rfl
    · exact .inr rfl
  ty := fun m H h x v hr r e => by
    unfold isLst at e
    split at e
    · rename_i l
      split at e
      · rename_i ds el
        simp only [DV] at r
        obtain ⟨a, rfl, ha⟩ := r
        obtain ⟨ws, hv, dv⟩ := hr.cells l _ a el ha
        exact fun pins σ s u I ru => tyV_is I ru (.inl ⟨rfl, ws, SqL.of hv⟩)
      · cases e
    · cases e

noncomputable def countV (x : V) (xs : List V) : Nat := xs.countP fun y => eqV y x
theorem countP_eqU {x : V} : ∀ {xs : List V} {us : List Value}, Vals xs us → xs.all flatV = true → us.countP (eqU x) = countV x xs
  | _, _, .nil, _ => rfl
  | y :: xs, u :: us, .cons r t, f => by
    rw [List.all_cons, Bool.and_eq_true] at f
    unfold countV
    rw [List.countP_cons, List.countP_cons, eqU_of r f.1, countP_eqU t f.2]
    rfl
noncomputable def countD : D → D → HD → Out D := fun x y h => match itemsD x h with
  | none => .stuck
  | some ds => match flatD y, allSome (ds.map flatD) with
    | some v, some vs => .ok (.int (countV v vs)) h
    | _, _ => .stuck
theorem countD_noE (x y : D) (h : HD) : NoE (countD x y h) := by
  unfold countD
  repeat' split
  all_goals trivial
noncomputable def countLD : D → D → HD → Out D := fun x y h => (isLst x h).bind fun _ _ => countD x y h
theorem countLM : MetM X "list.count" countLD := by
  intro pins s σ H m h x y v yv u uy Q I hr rx ry r r2 q
  unfold countLD at q
  rcases (chk_lst (X := X)).two x h with ec | ec
  · rw [ec] at q
    simp only [Out.bind_ok] at q
    unfold isLst at ec
    split at ec
    · rename_i l
      split at ec
      · rename_i ds el
        unfold countD itemsD at q
        simp only [el] at q
        split at q
        · rename_i w ws e1 e2
          simp only [DV] at rx
          obtain ⟨a, rfl, ha⟩ := rx
          cases (show u = Value.ref a from r)
          obtain ⟨vs, hv, dv⟩ := hr.cells l _ a el ha
          obtain ⟨h1, h2⟩ := flat_of ry e1
          obtain ⟨h3, h4⟩ := flats_of dv e2
          subst h1 h3
          obtain ⟨z, its, n, rr, hl, e⟩ := I.lstM hv
          refine call_meets F.slot_list_count ⟨_, e, rfl⟩ F.entry_list_count (F.args_list_count_2 _ _) (PySem.SeqAt.list_countAt a its.toArray n none #[] uy (eqU yv)) ⟨e, fun w hw => mem_eqAt r2 h2 rr h4 w (by simpa using hw), ?_⟩
          refine ⟨.int _, H, I.tok _, ⟨_, rfl⟩, ?_⟩
          rw [show (its.toArray.toList.countP (eqU yv)) = countV yv vs by rw [← countP_eqU rr h4]]
          exact okq hr q (by simp [DV])
        · exact q.elim
      · cases ec
    · cases ec
  · rw [ec] at q; exact q.elim

noncomputable def idxV (x : V) (xs : List V) : Option Nat := xs.findIdx? fun y => eqV y x
noncomputable def indexD : D → D → HD → Out D := fun x y h => match x with
  | .loc l => (match h[l]? with
    | some (.lst ds) => (match flatD y, allSome (ds.map flatD) with
      | some v, some vs => (match idxV v vs with
        | some j => .ok (.int j) h
        | none => .stuck)
      | _, _ => .stuck)
    | _ => .stuck)
  | _ => .stuck
theorem indexD_noE (x y : D) (h : HD) : NoE (indexD x y h) := by
  unfold indexD
  repeat' split
  all_goals trivial
theorem countLD_noE (x y : D) (h : HD) : NoE (countLD x y h) := by
  unfold countLD
  rcases (show isLst x h = .ok x h ∨ isLst x h = .stuck by
      unfold isLst
      split
      · split
        · exact .inl rfl
        · exact .inr rfl
      · exact .inr rfl) with e | e
  · rw [e]; exact countD_noE x y h
  · rw [e]; trivial
theorem vals_at {xs : List V} {us : List Value} (r : Vals xs us) {x : V} (f : xs.all flatV = true) {j : Nat} (hj : j < us.length) : eqU x us[j] = eqV (xs[j]'(by rw [r.length]; exact hj)) x := by
  have hx : j < xs.length := by rw [r.length]; exact hj
  obtain ⟨u, e, ru⟩ := r.get (List.getElem?_eq_getElem hx)
  rw [List.getElem?_eq_getElem hj] at e
  cases e
  exact eqU_of ru (List.all_eq_true.mp f _ (List.getElem_mem hx))
theorem indexM : MetM X "list.index" indexD := by
  intro pins s σ H m h x y v yv u uy Q I hr rx ry r r2 q
  unfold indexD at q
  split at q
  · rename_i l
    split at q
    · rename_i ds el
      split at q
      · rename_i w ws e1 e2
        split at q
        · rename_i j ej
          simp only [DV] at rx
          obtain ⟨a, rfl, ha⟩ := rx
          cases (show u = Value.ref a from r)
          obtain ⟨vs, hv, dv⟩ := hr.cells l _ a el ha
          obtain ⟨h1, h2⟩ := flat_of ry e1
          obtain ⟨h3, h4⟩ := flats_of dv e2
          subst h1 h3
          obtain ⟨z, its, n, rr, hl, e⟩ := I.lstM hv
          unfold idxV at ej
          rw [List.findIdx?_eq_some_iff_getElem] at ej
          obtain ⟨hj, hit, hno⟩ := ej
          have hji : j < its.length := by rw [← hl]; exact hj
          have hsl : (j : Int) < 2 ^ 63 - 1 := by have := line63; (first | lia | omega)
          refine call_meets F.slot_list_index ⟨_, e, rfl⟩ F.entry_list_index (F.args_list_index_2 _ _) (PySem.SeqAt.list_indexAt a its.toArray n none #[] uy (eqU yv) j (by simpa using hji) hsl ?_ ?_) ⟨e, fun w hw => mem_eqAt r2 h2 rr h4 w (by simpa using hw), ?_⟩
          · have := vals_at rr h4 (x := yv) hji
            simp only [List.getElem_toArray]
            rw [this]; exact hit
          · intro k hk hkj
            have hk' : k < its.length := by simpa using hk
            have := vals_at rr h4 (x := yv) hk'
            simp only [List.getElem_toArray]
            rw [this]
            simpa using hno k hkj
          · exact ⟨.int _, H, I.tok _, ⟨_, rfl⟩, okq hr q (by simp [DV])⟩
        · exact q.elim
      · exact q.elim
    · exact q.elim
  · exact q.elim
end
end LS


namespace LS
open PySem PySem.Spec PyProof.Rows L2 PySem.W
theorem among_app {pos : Pos} {l r : List Value} {cv : Value} (_ : TriplesOk l) (e : codeAmong pos l = some cv) : codeAmong pos (l ++ r) = some cv := by
  rename_i ht
  clear ht
  fun_induction codeAmong pos l with
  | case1 line t col u c rest h => rw [List.cons_append, List.cons_append, List.cons_append, codeAmong, if_pos h]; exact e
  | case2 line t col u c rest h ih => rw [List.cons_append, List.cons_append, List.cons_append, codeAmong, if_neg h]; exact ih e
  | case3 => cases e
theorem among_snoc {pos p2 : Pos} {c cv : Value} : ∀ {l : List Value}, TriplesOk l → codeAmong p2 (l ++ [rawInt pos.line, rawInt pos.col, c]) = some cv → codeAmong p2 l = some cv ∨ cv = c
  | [], _, e => by
    simp only [List.nil_append, rawInt, codeAmong] at e
    split at e
    · exact .inr (Option.some.inj e).symm
    · cases e
  | .int i t :: .int j u :: c' :: l, h, e => by
    simp only [codeAmong, List.cons_append] at e ⊢
    split at e
    · rename_i z
      rw [if_pos z]; exact .inl e
    · rename_i z
      rw [if_neg z]; exact among_snoc (by simpa [TriplesOk] using h) e
/-- the table's place within HR -/
theorem HR.tab {K : Frag} {m : List Addr} {h : HD} {H H' : Hp} {P : Addr} (r : HR K m h H) (k : Kp H H') (s : ∀ b, b ≠ P → H b ≠ none → H' b = H b) (t : TabIs K H' P) (tt : TabIs K H P) : HR K m h H' := by
  refine ⟨r.len, r.nd, fun l c a e q => ?_⟩
  have hm : a ∈ m := List.mem_of_getElem? q
  have hn : H a ≠ none := r.mem hm
  have := r.cells l c a e q
  cases c with
  | lst ds =>
    obtain ⟨vs, e1, e2⟩ := this
    have ha : a ≠ P := by
      rintro rfl
      obtain ⟨_, ps, z, _⟩ := tt
      rw [z] at e1; cases e1
    exact ⟨vs, by rw [s a ha hn]; exact e1, e2.keep (List.prefix_refl _) k⟩
  | tab =>
    by_cases ha : a = P
    · subst ha; exact t
    · exact TabIs.keep this k (s a ha hn)
/-- what is asked of a body that makes lambdas -/
structure LamX (X : Cx) (c P : Addr) : Prop where
  code : X.env.code = .ref c
  tp : tabP X.K = some (c, P)
  hd : codeHdIn X.K c P = true
  qual : X.env.qual = "law.<locals>."
  bm : ∃ bm o, X.mg "__builtins__" = some (.ref bm) ∧ bm ≠ builtinsNs ∧ X.base.get? bm = some o ∧ o.cls = .type "module" ∧ o.dict = some builtinsNs ∧ o.data = .plain
section
variable {X : Cx} {E : Value → Shared → Prop} {c P : Addr} {pins : List (Addr × Obj)} {σ : L2.St} {H : Hp} {s : Shared}
theorem LamX.builtins (L : LamX X c P) (I : Inv X pins σ H s) (t : TabIs X.K H P) : s.heap.BuiltinsAt X.mg P := by
  obtain ⟨bm, o, h1, h2, h3, h4, h5, h6⟩ := L.bm
  obtain ⟨e, n⟩ := I.bs bm o h3
  refine ⟨bm, o, h1, h2, fun z => ?_, fun z => ?_, e, h4, h5, h6⟩
  · obtain ⟨og, es, ep, e1, e2, _⟩ := I.mod.glob
    rw [z, e1] at h3
    cases h3
    rw [e2] at h6; cases h6
  · obtain ⟨_, ps, q, _⟩ := t
    rw [z, q] at n; cases n
noncomputable abbrev lamQ : Str := "law.<locals>.<lambda>"
theorem lam_make {params : Arguments} {body : Expr} {scope : Scope} {pos : Pos} {clos : List (Str × Addr)} {Q : Value → Shared → Prop} {A : Around} (L : LamX X c P) (I : Inv X pins σ H s) (t : TabIs X.K H P) (hdef : defaultsOf params X.env = ([], [])) (hcl : closureFor scope X.env = pure clos)
    (k : ∀ (f' c' : Addr) (ctv pm : Value) (h' : Heap) (tk : Nat) (H' : Hp), Inv X pins σ H' { s with heap := h', toks := tk } → Kp H H' → TabIs X.K H' P → (∀ b, b ≠ P → H b ≠ none → H' b = H b) → (∀ b o, b ≠ P → s.heap.get? b = some o → h'.get? b = some o) → s.heap.objs.size ≤ f' →
      H' f' = none → h'.get? f' = some (kla_obj "<lambda>" lamQ params body scope clos pm c' ctv) → (∃ ps, H' P = some (.tbl ps) ∧ codeAmong pos ps.toList = some (.ref c')) → Q (.ref f') { s with heap := h', toks := tk }) :
    wpAny (model X.prog X.w) A (eval (.Lambda params body scope pos) X.env) Q E s := by
  have hB := L.builtins I t
  have hg : s.heap.Ns mainGlobals X.mg := I.mod.glob.keeps I.bk
  have hCd : CodeHd s.heap c P := codeHd_of_K I.kIn L.hd
  obtain ⟨ht1, ps, hps, htr, hcs⟩ := id t
  have hP : s.heap.get? P = some (tabObj ps) := I.hok P _ hps
  have hgP : mainGlobals ≠ P := fun z => by
    obtain ⟨og, es, ep, e1, e2, _⟩ := I.mod.glob
    have := (I.bs _ _ e1).2
    rw [z, hps] at this; cases this
  have hq : X.env.qual ++ "<lambda>" = lamQ := by rw [L.qual]; decide +kernel
  refine kla_eval hdef ?_
  rw [hq]
  cases hc : codeAmong pos ps.toList with
  | some cv =>
    obtain ⟨c', rfl, hx⟩ := hcs pos cv hc
    refine kla_makeFunctionHit (mg := X.mg) hcl I.ok.glob hg L.code hCd hP htr hc hB fun ctv h' tk hk hsz => ?_
    have hk2 : ∀ b o, s.heap.get? b = some o → (h'.push (kla_obj "<lambda>" lamQ params body scope clos ((X.mg "__name__").getD .none) c' ctv)).get? b = some o := fun b o e => Heap.get?_push_of_some _ (hk b o e)
    exact k _ c' ctv _ _ tk H (I.kept hk2) (.refl _) t (fun _ _ _ => rfl) (fun b o _ e => hk2 b o e) hsz (I.hok.fresh hsz) (Heap.get?_push_size _ rfl) ⟨ps, hps, hc⟩
  | none =>
    refine kla_makeFunction (mg := X.mg) hcl I.ok.glob hg L.code hCd hP htr hc hgP hB fun c' ctv h' tk hx hge hlt hrec htb => ?_
    generalize ho : kla_obj "<lambda>" lamQ params body scope clos ((X.mg "__name__").getD .none) c' ctv = fo
    have hk2 : ∀ b o, b ≠ P → s.heap.get? b = some o → (h'.push fo).get? b = some o := fun b o hb e => Heap.get?_push_of_some _ (hx b o hb e)
    have hPs : P < s.heap.objs.size := Heap.lt_size hP
    have hc'P : c' ≠ P := nne' (Nat.lt_of_lt_of_le hPs hge)
    have hc'n : H c' = none := I.hok.fresh hge
    generalize hps' : ps ++ #[rawInt pos.line, rawInt pos.col, .ref c'] = ps' at htb
    have tl : ps'.toList = ps.toList ++ [rawInt pos.line, rawInt pos.col, .ref c'] := by rw [← hps']; simp
    have hH : ∀ b, b ≠ P → H b ≠ none → upd (upd H P (.tbl ps')) c' (.ext (CodeIs lamQ c')) b = H b := fun b hb hn => by
      have : b ≠ c' := fun z => hn (z ▸ hc'n)
      rw [upd_ne this, upd_ne hb]
    have hHP : upd (upd H P (.tbl ps')) c' (.ext (CodeIs lamQ c')) P = some (.tbl ps') := by rw [upd_ne (Ne.symm hc'P), upd_same]
    have kp : Kp H (upd (upd H P (.tbl ps')) c' (.ext (CodeIs lamQ c'))) := fun b o e i => by
      have : b ≠ P := fun z => by rw [z, hps] at e; cases e; cases i
      rw [hH b this (by rw [e]; simp)]; exact e
    have lt' : ∀ b o, s.heap.get? b = some o → b ≠ c' := fun b o e => nne (Nat.lt_of_lt_of_le (Heap.lt_size e) hge)
    have un : Un X.fs [] H (upd (upd H P (.tbl ps')) c' (.ext (CodeIs lamQ c'))) s.heap (h'.push fo) := by
      have neP : ∀ {b}, H b = none → b ≠ P := fun {b} n z => by rw [z, hps] at n; cases n
      refine ⟨fun b o e n _ _ => hk2 b o (neP n) e, fun b o e n _ _ => ⟨o.slots, hk2 b o (neP n) e⟩, fun b o e n _ => ?_, fun b o e _ => ?_, fun b xs e => ?_, fun b o u e => ?_, fun b qs e => ?_⟩
      · rw [upd_ne (lt' b o e), upd_ne (neP n)]; exact n
      · by_cases hb : b = P
        · subst hb; exact ⟨_, Heap.get?_push_of_some _ htb⟩
        · exact ⟨o, hk2 b o hb e⟩
      · rw [hH b (fun z => by rw [z, hps] at e; cases e) (by rw [e]; simp)]; exact e
      · rw [hH b (fun z => by rw [z, hps] at e; cases e) (by rw [e]; simp)]; exact e
      · by_cases hb : b = P
        · subst hb
          rw [hps] at e; cases e
          exact ⟨_, by rw [hHP, ← hps']⟩
        · exact ⟨#[], by rw [hH b hb (by rw [e]; simp), e]; simp⟩
    have hok : HOk X.prog X.w (upd (upd H P (.tbl ps')) c' (.ext (CodeIs lamQ c'))) (h'.push fo) := by
      intro b o e
      by_cases hb : b = c'
      · subst hb
        rw [upd_same] at e
        cases e
        have r1 : (h'.push fo).CodeRec (.ref b) lamQ := hrec.keeps fun b o e => Heap.get?_push_of_some _ e
        refine ⟨r1, ?_, fun h1 h2 z1 z2 => ?_⟩
        · obtain ⟨c2, oc, vs, t2, e1, e2, _⟩ := r1
          cases e1
          exact ⟨oc, e2⟩
        · obtain ⟨c2, oc, vs, t2, e1, e2, e3⟩ := z1
          cases e1
          exact ⟨_, oc, vs, t2, rfl, z2 _ e2, e3⟩
      · by_cases hbP : b = P
        · subst hbP
          rw [hHP] at e
          cases e
          exact Heap.get?_push_of_some _ htb
        · rw [upd_ne hb, upd_ne hbP] at e
          refine (I.hok b o e).stay (fun d u hd q => hk2 d u ?_ q) (fun d q => ?_) fun d xs q => ?_
          · rcases hd with rfl | hd
            · exact hbP
            · exact fun z => by rw [z, hps] at hd; cases hd
          · rw [hH d (fun z => by rw [z, hps] at q; cases q) (by rw [q]; simp)]; exact q
          · rw [hH d (fun z => by rw [z, hps] at q; cases q) (by rw [q]; simp)]; exact q
    have hsz : s.heap.objs.size ≤ h'.objs.size := Nat.le_of_lt (Nat.lt_of_le_of_lt hge hlt)
    refine k _ c' ctv ((X.mg "__name__").getD .none) _ tk _ (I.un un hok) kp ⟨ht1, ps', hHP, ?_, fun p2 cv e => ?_⟩ hH hk2 hsz ?_ (by rw [← ho]; exact Heap.get?_push_size _ rfl) ⟨ps', hHP, ?_⟩
    · rw [tl]; exact TriplesOk_snoc _ _ _ _ htr
    · rw [tl] at e
      rcases among_snoc htr e with z | z
      · obtain ⟨c2, z1, z2⟩ := hcs p2 cv z
        exact ⟨c2, z1, kp _ _ z2 rfl⟩
      · exact ⟨c', z, upd_same⟩
    · have n1 : h'.objs.size ≠ c' := nne' hlt
      have n2 : h'.objs.size ≠ P := nne' (Nat.lt_of_lt_of_le hPs hsz)
      rw [upd_ne n1, upd_ne n2]; exact I.hok.fresh hsz
    · rw [tl]; exact codeAmong_snoc _ htr hc
end
end LS


namespace LS
open PySem PySem.Spec PyProof.Rows L2 PySem.W
/-- the context of a lambda's body -/
noncomputable def lCx (P : Program) (w : World) (K : Frag) (mg : Str → Option Value) (base : Heap) (N : List Str) (scope : Scope) (a : Addr) (cd : Value) (cl : List (Str × Addr)) (A : Around) (outer : List Env) (s : Shared) (H : Hp) (E : XK) : Cx where
  prog := P
  w := w
  K := K
  mg := mg
  base := base
  A := A.deeper (envX lamQ scope s.heap.objs.size a cd cl)
  N := N
  s₀ := s
  H₀ := H
  env := envX lamQ scope s.heap.objs.size a cd cl
  outer := outer
  stack := envX lamQ scope s.heap.objs.size a cd cl :: outer
  ex := []
  calm := true
  fn := fun _ => false
  pn := []
  xe := fun e s' => wpAny (model P w) (A.deeper (envX lamQ scope s.heap.objs.size a cd cl)) (leaving (envX lamQ scope s.heap.objs.size a cd cl) e) (fun _ s'' => CXE P w K outer H s E e s'') (fun e' s'' => CXE P w K outer H s E e' s'') s'
theorem lvL {P : Program} {w : World} {K : Frag} {mg : Str → Option Value} {base : Heap} {N : List Str} {scope : Scope} {a : Addr} {cd : Value} {cl : List (Str × Addr)} {A : Around} {outer : List Env} {s : Shared} {H : Hp} {E : XK} :
    Lv (lCx P w K mg base N scope a cd cl A outer s H E) E := ⟨fun _ _ h => h, rfl, rfl, rfl⟩
theorem passL {P : Program} {w : World} {K : Frag} {mg : Str → Option Value} {base : Heap} {N : List Str} {scope : Scope} {a : Addr} {cd : Value} {cl : List (Str × Addr)} {A : Around} {outer : List Env} {s : Shared} {H : Hp} {E : XK} :
    Passes (CXE P w K) (lCx P w K mg base N scope a cd cl A outer s H E) E := passG lvL
/-- a closure's names and cells, as they stand -/
structure CloAt (h : Heap) (H : Hp) (outer : List Env) (N : List Str) (scope : Scope) (cl : List (Str × Addr)) (vs : List V) : Prop where
  len : vs.length = N.length
  inj : ∀ x y c, cl.lookup x = some c → cl.lookup y = some c → x = y
  has : ∀ x, scope.names.lookup x = some .free → ∃ c, cl.lookup x = some c
  cell : ∀ x c, cl.lookup x = some c → (∃ v, h.IsCell c v) ∧ H c = none ∧ c ∉ frs outer
  val : ∀ (i : Nat) (x : Str) (v : V), N[i]? = some x → vs[i]? = some v → scope.names.lookup x = some .free ∧ ∃ c u, cl.lookup x = some c ∧ h.IsCell c (some u) ∧ RelV v u
structure LamSc (scope : Scope) : Prop where
  kind : scope.kind = .function
  co : scope.isCoroutine = false
  gen : scope.isGenerator = false
  only : (scope.names.all fun y => y.2 != .cell) = true
theorem LamSc.nocell {scope : Scope} (S : LamSc scope) : ∀ x ∈ scope.names, x.2 ≠ .cell := fun x hx e => by
  have := List.all_eq_true.mp S.only x hx
  rw [e] at this
  simp at this
section
variable {P : Program} {w : World} {K : Frag} {mg : Str → Option Value} {base : Heap} {N : List Str} {scope : Scope} {a c' : Addr} {pm ctv : Value} {params : Arguments} {body : Expr} {cl : List (Str × Addr)} {A : Around} {outer : List Env} {s : Shared} {H : Hp} {E : XK} {vs : List V}
theorem inv_lam {cd : Value} {h1 : Heap} {t1 : Nat} (S : LamSc scope) (hd : A.handled = none) (e0 : Env0 P w K mg base A outer s H) (C : CloAt s.heap H outer N scope cl vs) (ns : h1.Ns s.heap.objs.size (fun _ => none)) (hk : ∀ b o, s.heap.get? b = some o → h1.get? b = some o) :
    Inv (lCx P w K mg base N scope a cd cl A outer s H E) [] (vs.map some) H { s with heap := h1, toks := t1 } := by
  have noA : ∀ b : Addr, b ∉ (lCx P w K mg base N scope a cd cl A outer s H E).ex := fun b z => absurd (show b ∈ ([] : List Addr) from z) (by simp)
  refine ⟨⟨e0.mod, S.kind, rfl, rfl, Nat.le_refl _, C.inj, fun x hx => ?_, fun x c hf => (by cases hf), fun _ => hd, Around.frames_deeper e0.frames, .inr ⟨rfl, rfl⟩, fun b z => absurd z (noA b), e0.bs, e0.bsz, fun b _ _ => noA b, fun b z => absurd z (noA b), e0.funs, e0.frf⟩,
    rfl, e0.bare, Un.kept hk, ⟨_, ns, fun i x v e1 e2 _ => ?_⟩, fun x c e => ?_, e0.hok.fresh (Nat.le_refl _), fun x c e => (C.cell x c e).2.1, fun p hp => absurd (show p ∈ ([] : List (Addr × Obj)) from hp) (by simp), e0.hok.kept hk, ?_⟩
  · have hx' : scope.names.lookup x = some .cell ∨ scope.names.lookup x = some .free := hx
    rcases hx' with z | z
    · exact absurd rfl (S.nocell _ (mem_of_lookup z))
    · exact C.has x z
  · rw [List.getElem?_map] at e2
    cases ev : vs[i]? with
    | none => rw [ev] at e2; cases e2
    | some v' =>
      rw [ev] at e2
      cases e2
      obtain ⟨hf, c, u, e3, e4, r⟩ := C.val i x v e1 ev
      exact ⟨u, r, .inr ⟨.inr hf, c, e3, e4.keeps hk⟩⟩
  · obtain ⟨⟨v, q⟩, _⟩ := C.cell x c e
    exact ⟨v, q.keeps hk⟩
  · show (vs.map some).length = N.length
    rw [List.length_map]; exact C.len
/-- the closure runs -/
theorem clo_call {k : Nat} {f : ME} {Q : VK} (S : LamSc scope) (hr : Room (k + 1) A) (e0 : Env0 P w K mg base A outer s H) (C : CloAt s.heap H outer N scope cl vs) (ho : s.heap.get? a = some (kla_obj "<lambda>" lamQ params body scope cl pm c' ctv)) (hcd : s.heap.CodeRec (.ref c') lamQ)
    (hbind : bindArgs (kla_fn "<lambda>" lamQ params body scope cl pm (.ref c') ctv) ⟨[], []⟩ = pure [])
    (hb : Room k (A.deeper (envX lamQ scope s.heap.objs.size a (.ref c') cl)) → Ev (lCx P w K mg base N scope a (.ref c') cl A outer s H E) E body f)
    (q : ∃ m ds h, HR K m h H ∧ DVs K m H ds vs ∧ Post K (rD K) m H E Q (f (ds.map some) h)) : codeAny (model P w) A (.call (.ref a) ⟨[], []⟩) (CR (CXE P w K) outer P w H s Q E) s := by
  refine kla_callFunE hr.depth ho rfl S.co S.gen rfl hcd ?_
  rw [hbind]
  have lim : s.heap.NoLimit := e0.mod.nolimit.keeps fun b o e => (e0.bs b o e).1
  refine wpAny_pure (wpAny_newFunctionEnv S.nocell (fun y hy => by cases hy) (fun h₁ hns hsb => ⟨lim.fresh _ hsb, ?_⟩) S.kind)
  have hk₁ : ∀ b o, s.heap.get? b = some o → h₁.get? b = some o := fun b o e => hsb.extBut b o (Nat.ne_of_lt (Heap.lt_size e)) (Heap.get?_push_of_some _ e)
  have I : Inv (lCx P w K mg base N scope a (.ref c') cl A outer s H E) [] (vs.map some) H { s with heap := h₁, toks := s.toks + 0 } := inv_lam S hr.hd e0 C hns hk₁
  obtain ⟨m, ds, h, hr1, r, p⟩ := q
  have er : ER K m H (ds.map some) (vs.map some) := by
    refine ⟨by simp [r.len], fun i d e => ?_⟩
    rw [List.getElem?_map] at e
    cases ed : ds[i]? with
    | none => rw [ed] at e; cases e
    | some d' =>
      rw [ed] at e
      cases e
      obtain ⟨v, e1, r1⟩ := r.get ed
      exact ⟨v, by rw [List.getElem?_map, e1]; rfl, r1⟩
  refine kla_codeExpr (wpAny_mono (hb (hr.deeper _) [] _ _ H Q I ⟨m, ds.map some, h, hr1, er, p⟩) (fun u s' hs => ?_) fun e s' hs => hs)
  obtain ⟨v, H', J, rv, qv⟩ := hs
  exact ⟨v, H', J.os, J.bare, J.base, J.hok, rv, qv⟩
end
end LS


namespace LS
open PySem PySem.Spec PyProof.Rows L2 PySem.W
structure RoomM (k : Nat) (A : Around) : Prop where
  dp : A.depth + 3 * k + 5 < recursionLimit
  un : A.units + 16 * k + 200 < cLine
  gd : A.guards = some []
theorem RoomM.deeper {k : Nat} {A : Around} (r : RoomM (k + 1) A) (env : Env) : RoomM k (A.deeper env) :=
  ⟨by have := r.dp; show A.depth + 1 + 3 * k + 5 < _; (first | lia | omega), by have := r.un; show A.units + 3 + 16 * k + 200 < _; (first | lia | omega), r.gd⟩
theorem RoomM.units {k : Nat} {A : Around} (r : RoomM k A) : A.units + 64 < cLine := by have := r.un; (first | lia | omega)
theorem RoomM.mono {j k : Nat} {A : Around} (r : RoomM k A) (h : j ≤ k) : RoomM j A := ⟨by have := r.dp; (first | lia | omega), by have := r.un; (first | lia | omega), r.gd⟩
theorem RoomM.of {k : Nat} {A : Around} (r : Room k A) (e : Option Value) : RoomM k (A.mark e) := ⟨r.dp, r.un, r.gd⟩
noncomputable def cxM (P : Program) (w : World) (K : Frag) (mg : Str → Option Value) (base : Heap) (N : List Str) (qual : Str) (scope : Scope) (f : Addr) (cd : Value) (A : Around) (outer : List Env) (s : Shared) (H : Hp) : Cx :=
  { cxOf CX0 P w K mg base N qual scope f cd A outer s H E0 with calm := false, xe := fun _ _ => False }
theorem inv_startM {P : Program} {w : World} {K : Frag} {mg : Str → Option Value} {base : Heap} {N ps : List Str} {qual : Str} {scope : Scope} {f : Addr} {cd : Value} {A : Around} {outer : List Env} {s s1 : Shared} {H : Hp} {us : List Value} {vs : List V}
    (S : FnScope N ps scope) (e0 : Env0 P w K mg base A outer s H) (hl : vs.length = ps.length) (r : Vals vs us)
    (x : InCallC s s.heap.objs.size (bindL (envOfC qual scope s.heap.objs.size f cd).kindOf (ps.zip us) fun _ => none) (cellsFrom (s.heap.objs.size + 1) scope.names []) (bindC (envOfC qual scope s.heap.objs.size f cd).kindOf (ps.zip us) fun _ => none) s1) :
    Inv (cxM P w K mg base N qual scope f cd A outer s H) [] (start N vs) H s1 := by
  have hpl : ps.length ≤ N.length := by have := congrArg List.length S.pre; rw [List.length_take] at this; (first | lia | omega)
  obtain ⟨h1, tk, rfl, hk⟩ := x.done
  have noA : ∀ b : Addr, b ∉ (cxM P w K mg base N qual scope f cd A outer s H).ex := fun b z => absurd (show b ∈ ([] : List Addr) from z) (by simp)
  refine ⟨⟨e0.mod, S.kind, rfl, rfl, Nat.le_refl _, fun y z c h1 h2 => ?_, fun y hy => ?_, fun y c _ h => ?_, fun z => (nomatch z), Around.frames_deeper e0.frames, .inr ⟨rfl, rfl⟩, fun b z => absurd z (noA b), e0.bs, e0.bsz, fun b _ _ => noA b, fun b z => absurd z (noA b), e0.funs, e0.frf⟩,
    rfl, e0.bare, Un.kept hk, ⟨_, x.toInCall.ns, fun i y v h1 h2 h3 => ?_⟩, fun y c h => ⟨_, x.cell y c h⟩, e0.hok.fresh (Nat.le_refl _), fun y c h => ?_, fun p hp => absurd (show p ∈ ([] : List (Addr × Obj)) from hp) (by simp), e0.hok.kept hk, ?_⟩
  · exact name_of_addr x.apart (PySem.mem_of_lookup h1) (PySem.mem_of_lookup h2)
  · have hy : scope.names.lookup y = some .cell ∨ scope.names.lookup y = some .free := hy
    rcases hy with hy | hy
    · exact cell_has hy
    · exact absurd rfl (S.nofree _ (PySem.mem_of_lookup hy))
  · exact Nat.le_of_lt (x.above y c (PySem.mem_of_lookup h))
  · have hi : i < vs.length := by
      unfold L2.start at h2
      by_cases hi : i < vs.length
      · exact hi
      · rw [List.getElem?_append_right (by simpa using hi)] at h2
        rw [List.getElem?_replicate] at h2
        split at h2 <;> cases h2
    have ha : vs[i]? = some v := by
      unfold L2.start at h2
      rw [List.getElem?_append_left (by simpa using hi), List.getElem?_map] at h2
      cases e : vs[i]? with
      | none => rw [e] at h2; cases h2
      | some a => rw [e] at h2; cases h2; rfl
    obtain ⟨u, hu, rv⟩ := r.get ha
    have hp : ps[i]? = some y := by
      rw [← S.pre, List.getElem?_take_of_lt (by (first | lia | omega))]; exact h1
    have ndP : ps.Nodup := by rw [← S.pre]; exact S.nd.sublist (List.take_sublist _ _)
    refine ⟨u, rv, ?_⟩
    rcases S.par y (List.mem_of_getElem? hp) with k | k
    · exact .inl ⟨k, bindL_get ndP hp hu k⟩
    · obtain ⟨c, e⟩ := cell_has (n := s.heap.objs.size + 1) k
      refine .inr ⟨.inl k, c, e, ?_⟩
      have q := x.cell y c e
      rw [bindC_get ndP hp hu (by show scope.names.lookup y ≠ _; rw [k]; decide)] at q
      exact q
  · exact e0.hok.fresh (Nat.le_of_lt (x.above y c (PySem.mem_of_lookup h)))
  · unfold L2.start
    show _ = N.length
    rw [List.length_append, List.length_map, List.length_replicate]
    (first | lia | omega)
structure FnOkM (P : Program) (w : World) (K : Frag) (mg : Str → Option Value) (base : Heap) (k : Nat) (f : Addr) (fd : FuncData) (ps : List Str) (F : List D → HD → Out D) : Prop where
  run : ∀ (A : Around) (outer : List Env) (s : Shared) (H : Hp) (args : Args) (us : List Value) (vs : List V) (Q : VK), RoomM k A → Env0 P w K mg base A outer s H → BindsTo s fd args (ps.zip us) → Vals vs us → spM K F vs H Q E0 →
    codeAny (model P w) A (.call (.ref f) args) (CR CX0 outer P w H s Q E0) s
theorem fn_mirrorM {P : Program} {w : World} {K : Frag} {mg : Str → Option Value} {base : Heap} {x qual : Str} {st : Stmt} {f : Addr} {fd : FuncData} {N ps : List Str} {k : Nat} {F : List D → HD → Out D} {g : MS} (Fn : Fun K x qual st f fd) (S : FnScope N ps (defScope st)) (ar : Ar ps.length F)
    (hg : ∀ ds h, ds.length = ps.length → F ds h = mBody N.length g ds h)
    (hbody : ∀ (cdv : Value) (A : Around) (outer : List Env) (s : Shared) (H : Hp), RoomM k (A.deeper (envOfC qual (defScope st) s.heap.objs.size f cdv)) → Exs (cxM P w K mg base N qual (defScope st) f cdv A outer s H) E0 (defBody st) g) : FnOkM P w K mg base (k + 1) f fd ps F := by
  obtain ⟨oc, od, kV, doc, pm, an, cdv, ct, osl, rfl, lk, hcd⟩ := Fn.ex
  refine ⟨fun A outer s H args us vs Q hr e0 hb r hsp => ?_⟩
  have hl : vs.length = ps.length := ar.len hsp
  have KX : K.In s.heap := e0.mod.kin.keeps fun b o e => (e0.bs b o e).1
  have lim : s.heap.NoLimit := e0.mod.nolimit.keeps fun b o e => (e0.bs b o e).1
  have hkind : ∀ y ∈ ps.zip us, (defScope st).names.lookup y.1 = some .local ∨ ((defScope st).names.lookup y.1 = some .cell ∧ ((cellsFrom (s.heap.objs.size + 1) (defScope st).names []).lookup y.1).isSome = true) := fun z1_ hy => by
    obtain ⟨n, v⟩ := z1_
    rcases S.par n (List.of_mem_zip hy).1 with q | q
    · exact .inl q
    · exact .inr ⟨q, PySem.W.cellsFrom_some _ _ _ (.inl q)⟩
  refine codeAny_call_function (by have := hr.dp; (first | lia | omega)) (KX _ _ lk) rfl S.co S.gen rfl (PySem.W.codeRec_of KX hcd) (hb _ _ _ _ ?_)
  refine wpAny_newFunctionEnv_cells S.kind hkind fun env he s1 x => ?_
  subst he
  refine ⟨lim.keeps x.toInCall.keep, codeAny_func ?_⟩
  have I : Inv (cxM P w K mg base N qual (defScope st) f cdv A outer s H) [] (start N vs) H s1 := inv_startM S e0 hl r x
  have fin : ∀ {σ' : L2.St} {H' : Hp} {v : V} {u : Value} {s' : Shared}, Inv (cxM P w K mg base N qual (defScope st) f cdv A outer s H) [] σ' H' s' → RelV v u → Q v H' → CE outer P w H s Q u s' :=
    fun {σ' H' v u s'} J rv q => ⟨v, H', J.os, J.bare, J.base, J.hok, rv, q⟩
  have post : tSt K E0 g { nx := fun _ H' => Q .non H', rt := Q } (start N vs) H := by
    obtain ⟨m, ds, hd, hr1, r, p⟩ := hsp
    have hld : ds.length = ps.length := by rw [r.len]; exact hl
    refine ⟨m, ds.map some ++ List.replicate (N.length - ds.length) none, hd, hr1, ER.start r, ?_⟩
    rw [hg ds hd hld] at p
    unfold mBody at p
    cases o : g (ds.map some ++ List.replicate (N.length - ds.length) none) hd with
    | stuck => rw [o] at p; exact p
    | err C fs h1 => rw [o] at p; exact p
    | ok a h1 =>
      rw [o] at p
      obtain ⟨fl, ρ1⟩ := a
      intro m1 H1 p1 k1 hr1
      cases fl with
      | nx => exact fun σ er => p .non m1 H1 p1 k1 hr1 (by simp [rD, DV])
      | bk => exact False.elim p
      | ct => exact False.elim p
      | rt d => exact fun v rv => p v m1 H1 p1 k1 hr1 rv
  refine wpAny_mono (hbody cdv A outer s H (hr.deeper _) [] s1 (start N vs) H _ I post) (fun fl s' hs => ?_) fun e s' hs => hs.elim
  cases fl with
  | ret u =>
    obtain ⟨v, σ', H', J, rv, q⟩ := hs
    exact fin J rv q
  | next =>
    obtain ⟨σ', H', J, q⟩ := hs
    exact fin (v := V.non) (u := Value.none) J rfl q
  | brk =>
    obtain ⟨_, _, _, q⟩ := hs
    exact False.elim q
  | cont =>
    obtain ⟨_, _, _, q⟩ := hs
    exact False.elim q
/-- a def that may be called so -/
structure CaM (P : Program) (w : World) (K : Frag) (mg : Str → Option Value) (base : Heap) (x : Str) (k : Nat) (F : List D → HD → Out D) : Prop where
  ex : ∃ (f : Addr) (fd : FuncData) (ps : List Str), FnOkM P w K mg base k f fd ps F ∧ Binds K fd ps [] ∧ mg x = some (.ref f) ∧ PySem.W.keepIn K (.ref f) = true ∧ Ar ps.length F
section
variable {X : Cx} {E : XK}
theorem ev_caM {k k' : Nat} {F : List D → HD → Out D} {fa : MA} {x : Str} {p pos : Pos} {e : Expr} {es : List Expr} (C : CaM X.prog X.w X.K X.mg X.base x k F) (hr : RoomM k' X.A) (ha : EvA X E0 (e :: es) fa) (hk : k ≤ k' := by decide) (hg : Gl X x := by rfl)
    (hdb : (x == ("__debug__" : Str)) = false := by decide) (he : starEach (e :: es) X.env = (false, eval e X.env) :: starEach es X.env := by rfl) (hpl : (backTo pos (starEach es X.env)).any (·.1) = false := by rfl) :
    Ev X E0 (.Call (.Name x p) (e :: es) [] pos) (mCall F fa) := by
  obtain ⟨f, fd, ps, G, hb, hm, hkp, ar⟩ := C.ex
  rintro pins s σ H Q I ⟨m, ρ, hd, hr1, er, pp⟩
  refine wpAny_Call_Name_kw (ld_glob I hg hm ?_ hdb)
  have post : tDs X.K E0 fa σ H (fun vs H1 => spM X.K F vs H1 Q E0) := ⟨m, ρ, hd, hr1, er, Post.bind pp fun xs h1 vs m1 H1 e1 p1 k1 hr1 r1 q1 => ⟨m1, xs, h1, hr1, r1, q1⟩⟩
  refine PySem.W.callWith_K (h₀ := X.base) I.ok.mod.kin hkp (thn (ha pos pins s σ H _ I post) ?_) he hpl
  rintro us s1 ⟨vs, H1, I1, r, q⟩
  refine ⟨I1.kIn, ?_⟩
  have hl : us.length = ps.length := by rw [← r.length]; exact ar.len q
  have hb' := hb s1 us I1.kIn (by rw [List.append_nil]; exact hl)
  rw [List.append_nil] at hb'
  refine wpAny_call (codeAny_mono (G.run X.A X.stack s1 H1 ⟨us, []⟩ us vs Q (hr.mono hk) I1.env0 hb' r q) fun r s' hq => ?_)
  cases r with
  | error e => exact False.elim hq
  | ok fl =>
    cases fl with
    | ret u => exact I1.after hq
    | next => exact False.elim hq
    | brk => exact False.elim hq
    | cont => exact False.elim hq
end
end LS


namespace LS
open PySem PySem.Spec PyProof.Rows L2 PySem.W
/-- what is kept while an exception in flight is noted -/
theorem note_ok {P : Program} {w : World} {fs : List Addr} {H H' : Hp} {h0 h h' : Heap} {a T : Addr} {C a0 : Value} (B : Un fs [] H H' h0 h) (hok : HOk P w H' h) (na : h0.get? a = none) (nT : h0.get? T = none) (ha : H' a = none) (hT : H' T = none)
    (frNone : ∀ b ∈ fs, H' b = none) (noFields : ∀ b ∈ fs, ∃ o, h.get? b = some o ∧ ∀ vs, o.data ≠ .fields vs) (stay : (blank (fun b => b = a ∨ b = T ∨ b ∈ fs) h).StaysIn h') (ups : ∀ b o, h.get? b = some o → (∀ vs, o.data ≠ .fields vs) → ∃ sl, h'.get? b = some { o with slots := sl })
    (tr : h'.TracedW (blank (fun b => b = a ∨ b = T ∨ b ∈ fs) h) a C a0) : Un fs [] H H' h0 h' ∧ HOk P w H' h' ∧ Fly h0 h' H' a C := by
  obtain ⟨oe, vs, T2, oT, ts, e1, e2, e3, e4, e5, e6, e7, e8, e9⟩ := tr
  have keepOf : ∀ b o, ¬ (b = a ∨ b = T ∨ b ∈ fs) → h.get? b = some o → h'.get? b = some o := fun b o hb e => stay b o (by rw [blank_keep hb]; exact e)
  have old : ∀ b o, h0.get? b = some o → b ≠ a ∧ b ≠ T := fun b o e => ⟨fun z => (by rw [z, na] at e; cases e), fun z => (by rw [z, nT] at e; cases e)⟩
  have any : ∀ b o, h0.get? b = some o → h.get? b ≠ none → ∃ o', h'.get? b = some o' := fun b o e hn => by
    cases e' : h.get? b with
    | none => exact absurd e' hn
    | some o' =>
      by_cases hb : b ∈ fs
      · obtain ⟨o2, h2, d2⟩ := noFields b hb
        obtain ⟨sl, h3⟩ := ups b o2 h2 d2
        exact ⟨_, h3⟩
      · exact ⟨o', keepOf b o' (fun z => by rcases z with z | z | z; exact (old b o e).1 z; exact (old b o e).2 z; exact hb z) e'⟩
  refine ⟨⟨fun b o e n hb hx => ?_, fun b o e n hb hx => ?_, B.free, fun b o e hx => ?_, B.tups, B.frzs, B.tbls⟩, fun b o e => ?_, na, ha, oe, vs, a0, T2, oT, ts, e1, e2, e3, e4, ?_, ?_, e6, e7, e8, e9⟩
  · exact keepOf b o (fun z => by rcases z with z | z | z; exact (old b o e).1 z; exact (old b o e).2 z; exact hb z) (B.keep b o e n hb hx)
  · obtain ⟨sl, h1⟩ := B.slot b o e n hb hx
    obtain ⟨o2, h2, d2⟩ := noFields b hb
    rw [h1] at h2
    cases h2
    obtain ⟨sl2, h3⟩ := ups b _ h1 d2
    exact ⟨sl2, h3⟩
  · obtain ⟨o', h1⟩ := B.there b o e hx
    exact any b o e (by rw [h1]; simp)
  · refine (hok b o e).stay (fun c u hc q => keepOf c u (fun z => ?_) q) (fun _ q => q) fun _ _ q => q
    have hc' : H' c ≠ none := by
      rcases hc with rfl | hc
      · rw [e]; simp
      · rw [hc]; simp
    rcases z with z | z | z
    · exact hc' (z ▸ ha)
    · exact hc' (z ▸ hT)
    · exact hc' (frNone c z)
  · cases q : h0.get? T2 with
    | none => rfl
    | some o =>
      exfalso
      obtain ⟨o', h1⟩ := B.there T2 o q (by simp)
      by_cases hb : T2 ∈ fs
      · obtain ⟨o2, h2, d2⟩ := noFields T2 hb
        obtain ⟨sl, h3⟩ := ups T2 o2 h2 d2
        rw [h3] at e7
        cases e7
        exact d2 _ e8
      · rw [blank_keep (fun z => by rcases z with z | z | z; exact (old T2 o q).1 z; exact (old T2 o q).2 z; exact hb z), h1] at e5
        cases e5
  · cases q : H' T2 with
    | none => rfl
    | some o =>
      exfalso
      by_cases hb : T2 = a ∨ T2 = T ∨ T2 ∈ fs
      · rcases hb with z | z | z
        · rw [z, ha] at q; cases q
        · rw [z, hT] at q; cases q
        · rw [frNone T2 z] at q; cases q
      · rw [blank_keep hb] at e5
        obtain ⟨ob, eb⟩ := obj_ex (hok T2 o q)
        rw [eb] at e5
        cases e5
section
variable {X : Cx} {pins : List (Addr × Obj)} {σ : L2.St} {H : Hp} {s : Shared}
/-- a new thing that is not tracked is tracked -/
theorem Inv.track {a : Addr} {o : HO} (I : Inv X pins σ H s) (new : X.s₀.heap.get? a = none) (no : H a = none) (hL : a ≠ X.env.locals) (hc : ∀ x c, X.env.cells.lookup x = some c → c ≠ a) (hp : ∀ p ∈ X.pn ++ pins, p.1 ≠ a) (ok : ObjOk X.prog X.w (upd H a o) s.heap a o) :
    Inv X pins σ (upd H a o) s := by
  have ne : ∀ b u, H b = some u → b ≠ a := fun b u e => ne_of_none e no
  refine ⟨I.ok, I.os, I.bare, ⟨I.base.keep, I.base.slot, fun b ob e n hx => ?_, I.base.there, fun b xs e => ?_, fun b ob u e => ?_, fun b ps e => ?_⟩, I.loc, I.cell, ?_, fun x c e => ?_, fun p hp' => ?_, fun b u e => ?_, I.len⟩
  · rw [upd_ne (fun z => by rw [z, new] at e; cases e)]; exact I.base.free b ob e n hx
  · have := I.base.tups b xs e
    rw [upd_ne (ne _ _ this)]; exact this
  · have := I.base.frzs b ob u e
    rw [upd_ne (ne _ _ this)]; exact this
  · obtain ⟨more, this⟩ := I.base.tbls b ps e
    exact ⟨more, by rw [upd_ne (ne _ _ this)]; exact this⟩
  · rw [upd_ne (Ne.symm hL)]; exact I.free
  · rw [upd_ne (hc x c e)]; exact I.freeC x c e
  · obtain ⟨a1, a2, a3⟩ := I.pin p hp'
    exact ⟨a1, by rw [upd_ne (hp p hp')]; exact a2, a3⟩
  · by_cases hb : b = a
    · subst hb
      rw [upd_same] at e
      cases e
      exact ok
    · rw [upd_ne hb] at e
      exact (I.hok b u e).stay (fun _ _ _ q => q) (fun c q => by rw [upd_ne (ne _ _ q)]; exact q) fun c xs q => by rw [upd_ne (ne _ _ q)]; exact q
/-- the frame's own dict has changed -/
theorem Inv.locals {σ' : L2.St} {h' : Heap} {m' : Str → Option Value} {t' : Nat} (I : Inv X pins σ H s) (hn' : h'.Ns X.env.locals m') (hs : Heap.SameBut X.env.locals s.heap h')
    (hl : ∀ (i : Nat) (x : Str) (v : V), X.N[i]? = some x → σ'[i]? = some (some v) → Vis X.env.scope x → ∃ u, RelV v u ∧ Look X.env h' m' x u) (len : σ'.length = σ.length) : Inv X pins σ' H { s with heap := h', toks := t' } := by
  obtain ⟨m, hn, _⟩ := id I.loc
  obtain ⟨oL, _, _, hoL, _⟩ := id hn
  have neL : ∀ b o, X.s₀.heap.get? b = some o → b ≠ X.env.locals := fun b o e => Nat.ne_of_lt (Nat.lt_of_lt_of_le (Heap.lt_size e) I.ok.above)
  refine ⟨I.ok, I.os, I.bare, ⟨fun b o e n hb hx => ?_, fun b o e n hb hx => ?_, I.base.free, fun b o e hx => ?_, I.base.tups, I.base.frzs, I.base.tbls⟩, ⟨_, hn', hl⟩, fun y c e => ?_, I.free, I.freeC, fun p hp => ?_, fun b ob e => ?_, len.trans I.len⟩
  · exact (hs.2 b (neL b o e)).trans (I.base.keep b o e n hb hx)
  · obtain ⟨sl, e1⟩ := I.base.slot b o e n hb hx
    exact ⟨sl, (hs.2 b (neL b o e)).trans e1⟩
  · obtain ⟨o', e1⟩ := I.base.there b o e hx
    exact ⟨o', (hs.2 b (neL b o e)).trans e1⟩
  · obtain ⟨v, z⟩ := I.cell y c e
    exact ⟨v, z.sameBut hs (I.cne y c e)⟩
  · obtain ⟨a1, a2, a3, a4⟩ := I.pin p hp
    exact ⟨(hs.2 _ a3).trans a1, a2, a3, a4⟩
  · refine (I.hok b ob e).stay (fun c w' hc q => (hs.2 c ?_).trans q) (fun _ q => q) fun _ _ q => q
    rintro rfl
    have hfree := I.free
    rcases hc with rfl | hc
    · rw [hfree] at e; cases e
    · rw [hfree] at hc; cases hc
/-- the name of an except clause goes -/
theorem name_goes {M : Model} {A : Around} {E : Value → Shared → Prop} {n : Str} {pos : Pos} {i : Nat} {Q : Unit → Shared → Prop} (I : Inv X pins σ H s) (hN : X.N.Nodup) (hi : X.N[i]? = some n) (hl : X.env.kindOf n = some .local)
    (h : ∀ s', Inv X pins (σ.set i none) H s' → Q () s') : wpAny M A (do bindName X.env n .none; unbindBehindTheSuite X.env n pos) Q E s := by
  have hp : (X.env.scope.kind == .class || (X.env.scope.kind == .module && X.env.locals != X.env.globals)) = false := by rw [I.ok.kind]; rfl
  refine wpAny_bind (wpAny_bindName (store_ok2 (v := .non) I hN hi (.inl hl) rfl (fun s1 I1 _ => ?_) (.inr hl)))
  unfold unbindBehindTheSuite
  refine wpAny_onRaise ?_
  unfold unbindName
  refine wpAny_bind (wpAny_point (wpAny_bind ?_))
  unfold deleteName
  simp only [hl, hp]
  rw [if_neg (by decide)]
  obtain ⟨m1, hn1, hl1⟩ := I1.loc
  have hin : (m1 n).isSome = true := by
    have hiσ : i < σ.length := by rw [I.len]; exact (List.getElem?_eq_some_iff.mp hi).1
    obtain ⟨u, _, lk⟩ := hl1 i n .non hi (by rw [List.getElem?_set_self hiσ]) (.inl hl)
    rcases lk with ⟨_, z⟩ | ⟨z, _⟩
    · rw [z]; rfl
    · rcases z with z | z <;> (rw [hl] at z; cases z)
  refine wpAny_bind (wpAny_nsDel_keeps hn1 fun h2 v hn2 hs2 => ?_)
  simp only [hin, if_true, Bool.not_true, Bool.false_eq_true, if_false]
  refine wpAny_pure (wpAny_point (h _ (Inv.locals (t' := s1.toks) (I1.weak (σ' := σ.set i none) (by simp) fun j v' e => ?_) hn2 hs2 (fun j x v' e1 e2 e3 => ?_) rfl)))
  · by_cases hj : i = j
    · subst hj
      have hiσ : i < σ.length := by rw [I.len]; exact (List.getElem?_eq_some_iff.mp hi).1
      rw [List.getElem?_set_self hiσ] at e; cases e
    · rw [List.getElem?_set_ne hj] at e ⊢; exact e
  · have hj : i ≠ j := by
      rintro rfl
      have hiσ : i < σ.length := by rw [I.len]; exact (List.getElem?_eq_some_iff.mp hi).1
      rw [List.getElem?_set_self hiσ] at e2; cases e2
    rw [List.getElem?_set_ne hj] at e2
    obtain ⟨u, r, lk⟩ := hl1 j x v' e1 (by rw [List.getElem?_set_ne hj]; exact e2) e3
    have hx : x ≠ n := fun z => hj (nodup_ix hN hi (z ▸ e1))
    refine ⟨u, r, ?_⟩
    rcases lk with ⟨k1, k2⟩ | ⟨k1, c, k2, k3⟩
    · exact .inl ⟨k1, (if_neg hx).trans k2⟩
    · exact .inr ⟨k1, c, k2, k3.sameBut hs2 (I1.cne x c k2)⟩
end
end LS


namespace LS
open PySem PySem.Spec PyProof.Rows L2 PySem.W
open Classical in
/-- the mirror of the try statement -/
noncomputable def gTry (a : Addr) (vs : List V) (Fk : List D → HD → Out D) (f : ME) : MS := fun ρ h => match (ρ[0]? : Option (Option D)), (h[0]? : Option Cell) with
  | some (some (.clo a' vs' ds)), some .tab => if a' = a ∧ vs' = vs then (match f (ds.map some) h with
      | .ok _ h1 => .ok (.nx, ρ) h1
      | .err (.str n _) _ h1 => if n ∈ excNames then (match Fk [.exc n []] h1 with
        | .ok d h2 => .ok (.nx, (ρ.set 1 (some d)).set 2 none) h2
        | _ => .stuck) else .stuck
      | _ => .stuck) else .stuck
  | _, _ => .stuck
/-- what is known of the closure when the def that calls it is entered -/
structure SaidX (X : Cx) (P a c' : Addr) (lpos : Pos) (Nc : List Str) (params : Arguments) (body : Expr) (scope : Scope) (cl : List (Str × Addr)) (pm ctv : Value) (vs : List V) : Prop where
  N : X.N = (["_law_call", "_law_word", "_law_e"] : List Str)
  k0 : X.env.kindOf "_law_call" = some .local
  k1 : X.env.kindOf "_law_word" = some .local
  k2 : X.env.kindOf "_law_e" = some .local
  tp : ∃ c, tabP X.K = some (c, P)
  tb : ∃ ps, X.H₀ P = some (.tbl ps) ∧ TriplesOk ps.toList ∧ codeAmong lpos ps.toList = some (.ref c')
  ob : X.s₀.heap.get? a = some (kla_obj "<lambda>" lamQ params body scope cl pm c' ctv)
  no : X.H₀ a = none
  nf : a ∉ X.fs
  clo : CloAt X.s₀.heap X.H₀ X.outer Nc scope cl vs
section
variable {X : Cx} {E : XK} {P a c' : Addr} {lpos : Pos} {Nc : List Str} {params : Arguments} {body : Expr} {scope : Scope} {cl : List (Str × Addr)} {pm ctv : Value} {vs : List V}
theorem fin_call {M : Model} {A : Around} {E : Value → Shared → Prop} {s : Shared} {a : Addr} {o : Obj} {fd : FuncData} {Q : Value → Shared → Prop} {env : Env} {pos : Pos} (h0 : s.heap.get? a = some o) (hd : o.data = .func fd) (h : wpAny M A (call (.ref a) []) Q E s) :
    wpAny M A (callWith pos (.ref a) [] (backTo pos (starEach [] env)) []) Q E s :=
  callWith_of (P := fun h => h.get? a = some o) rfl (fun h e => ⟨.frame, .inl rfl, (Looks.ld (part := none) e).andThen (by rw [hd]; exact .now)⟩) (evalArgs_nil3 ⟨h0, h⟩)
theorem SaidX.cloNow (S : SaidX X P a c' lpos Nc params body scope cl pm ctv vs) (lv : Lv X E) {pins : List (Addr × Obj)} {σ : L2.St} {H : Hp} {s : Shared} (I : Inv X pins σ H s) : CloAt s.heap H X.stack Nc scope cl vs ∧ s.heap.get? a = some (kla_obj "<lambda>" lamQ params body scope cl pm c' ctv) := by
  have B : Un X.fs [] X.H₀ H X.s₀.heap s.heap := by have := I.base; rw [lv.ex] at this; exact this
  have keep : ∀ c v, X.s₀.heap.IsCell c v → X.H₀ c = none → c ∉ X.fs → s.heap.IsCell c v := fun c v z1_ n f => by obtain ⟨o, e, d⟩ := z1_; exact (⟨o, B.keep c o e n f (by simp), d⟩)
  refine ⟨⟨S.clo.len, S.clo.inj, S.clo.has, fun x c e => ?_, fun i x v e1 e2 => ?_⟩, B.keep a _ S.ob S.no S.nf (by simp)⟩
  · obtain ⟨⟨v, q⟩, n, f⟩ := S.clo.cell x c e
    obtain ⟨o, e1, d⟩ := id q
    refine ⟨⟨v, keep c v q n f⟩, B.free c o e1 n (by simp), fun z => ?_⟩
    rw [lv.frs] at z
    rcases List.mem_cons.mp z with z | z
    · exact absurd (Nat.lt_of_lt_of_le (Heap.lt_size e1) I.ok.above) (by rw [z]; exact Nat.lt_irrefl _)
    · exact f z
  · obtain ⟨hf, c, u, e3, e4, r⟩ := S.clo.val i x v e1 e2
    obtain ⟨_, n, f⟩ := S.clo.cell x c e3
    exact ⟨hf, c, u, e3, keep c _ e4 n f, r⟩
/-- the context within the except clause -/
noncomputable def mCx (X : Cx) (e : Addr) : Cx := { X with A := X.A.mark (some (.ref e)), calm := false, xe := fun _ _ => False }
theorem Inv.marked {pins : List (Addr × Obj)} {σ : L2.St} {H : Hp} {s : Shared} {e : Addr} (I : Inv X pins σ H s) : Inv (mCx X e) pins σ H s :=
  ⟨⟨I.ok.mod, I.ok.kind, I.ok.glob, I.ok.blt, I.ok.above, I.ok.inj, I.ok.has, I.ok.cab, fun z => (nomatch z), I.ok.frames, I.ok.stk, I.ok.exf, I.ok.bs, I.ok.bsz, I.ok.noex, I.ok.exfs, I.ok.funs, I.ok.frf⟩, I.os, I.bare, I.base, I.loc, I.cell, I.free, I.freeC, I.pin, I.hok, I.len⟩
theorem Inv.unmarked {pins : List (Addr × Obj)} {σ : L2.St} {H : Hp} {s : Shared} {e : Addr} (ok : X.Ok) (I : Inv (mCx X e) pins σ H s) : Inv X pins σ H s :=
  ⟨ok, I.os, I.bare, I.base, I.loc, I.cell, I.free, I.freeC, I.pin, I.hok, I.len⟩
theorem ex_try {k : Nat} {Fk : List D → HD → Out D} {f : ME} {p4 p5 p6 p7 p8 p9 p10 p11 p12 p13 p14 : Pos} (lv : Lv X E) (S : SaidX X P a c' lpos Nc params body scope cl pm ctv vs) (hr : Room (k + 1) X.A) (et : etOk X.K = true) (hsw : ∃ Sw, nsIn X.K mainGlobals "SwitchError" = some (some (.ref Sw)))
    (hgS : X.env.kindOf "SwitchError" = some .globalImplicit) (hgK : X.env.kindOf "_law_kind" = some .globalImplicit)
    (hkind : CaM X.prog X.w X.K X.mg X.base "_law_kind" k Fk) (hL : LamSc scope) (hbind : bindArgs (kla_fn "<lambda>" lamQ params body scope cl pm (.ref c') ctv) ⟨[], []⟩ = pure [])
    (hb : ∀ (s : Shared) (H : Hp) (E' : XK), Room k (X.A.deeper (envX lamQ scope s.heap.objs.size a (.ref c') cl)) → Ev (lCx X.prog X.w X.K X.mg X.base Nc scope a (.ref c') cl X.A X.stack s H E') E' body f) :
    Ex X E (.Try [.Expr (.Call (.Name "_law_call" p4) [] [] p5) p6] [.ExceptHandler (some (.Name "SwitchError" p7)) (some "_law_e") [.Assign [.Name "_law_word" p8] (.Call (.Name "_law_kind" p9) [.Name "_law_e" p10] [] p11) p12] p13] [] [] p14) (gTry a vs Fk f) := by
  rintro pins s σ H Dn I ⟨m, ρ, h, hr1, er, p⟩
  refine Classical.byContradiction fun nG => ?_
  have hN0 : X.N[0]? = some ("_law_call" : Str) := by rw [S.N]; rfl
  have hN1 : X.N[1]? = some ("_law_word" : Str) := by rw [S.N]; rfl
  have hN2 : X.N[2]? = some ("_law_e" : Str) := by rw [S.N]; rfl
  have nd : X.N.Nodup := by rw [S.N]; decide +kernel
  obtain ⟨Sw, hSw⟩ := hsw
  unfold gTry at p
  split at p
  · rename_i a' vs' ds e0 et0
    split at p
    · rename_i hav
      obtain ⟨rfl, rfl⟩ := hav
      -- the closure, now
      obtain ⟨C, ob⟩ := S.cloNow lv I
      obtain ⟨v0, hv0, rv0⟩ := er.2 0 _ e0
      simp only [DV] at rv0
      obtain ⟨rfl, rds⟩ := rv0
      -- its code
      obtain ⟨aP, haP, tab⟩ := hr1.at et0
      obtain ⟨⟨cc, htp⟩, ps2, hps2, htr2, hcs2⟩ := tab
      obtain ⟨cc', htp'⟩ := S.tp
      rw [htp'] at htp
      cases htp
      obtain ⟨ps, hps, htr, hca⟩ := S.tb
      obtain ⟨more, hmore⟩ := I.base.tbls P ps hps
      have hca2 : codeAmong lpos ps2.toList = some (.ref c') := by
        have e := hmore.symm.trans hps2
        cases e
        rw [Array.toList_append]
        exact among_app htr hca
      obtain ⟨c2, e2, hx2⟩ := hcs2 lpos _ hca2
      cases e2
      have hcd : s.heap.CodeRec (.ref c') lamQ := (I.hok c' _ hx2).1
      have run : ∀ (Q : VK) (E' : XK), Post X.K (rD X.K) m H E' Q (f (ds.map some) h) → codeAny (model X.prog X.w) X.A (.call (.ref a') ⟨[], []⟩) (CR (CXE X.prog X.w X.K) X.stack X.prog X.w H s Q E') s := fun Q E' q =>
        clo_call hL hr I.env0 C ob hcd hbind (hb s H E') ⟨m, ds, h, hr1, rds, q⟩
      -- the call's value
      have start : ∀ {Q : Flow → Shared → Prop} {EE : Value → Shared → Prop}, codeAny (model X.prog X.w) X.A (.call (.ref a') ⟨[], []⟩) (fun r s' => match r with | .ok (.ret u) => Q .next s' | .error e => EE e s' | _ => False) s →
          wpAny (model X.prog X.w) X.A (execs [.Expr (.Call (.Name "_law_call" p4) [] [] p5) p6] X.env) Q EE s := fun {Q EE} hc => by
        refine wpAny_execs_cons (wpAny_Expr_any (wpAny_Call_Name_kw ?_) I.quiet rfl)
        obtain ⟨m0, hn0, hl0⟩ := I.loc
        obtain ⟨u, ru, lk⟩ := hl0 0 "_law_call" (.ref a') hN0 hv0 (.inl S.k0)
        cases (show u = Value.ref a' from ru)
        rcases lk with ⟨hk, hm⟩ | ⟨z, _⟩
        · refine wpAny_Name (wpAny_loadName_local I.ok.kind hk hn0 hm (fin_call ob rfl (wpAny_call (codeAny_mono hc fun r s' hq => ?_)))) (by decide)
          cases r with
          | error e => exact hq
          | ok fl =>
            cases fl with
            | ret u => exact wpAny_execs_nil hq
            | next => exact hq.elim
            | brk => exact hq.elim
            | cont => exact hq.elim
        · rcases z with z | z <;> (rw [S.k0] at z; cases z)
      refine nG (wpAny_Try_except (start ?_))
      clear nG
      refine Classical.byContradiction fun nG => ?_
      cases ho : f (ds.map some) h with
      | stuck => rw [ho] at p; exact p.elim
      | ok d h1 =>
        rw [ho] at p
        refine nG (codeAny_mono (run (fun v H' => ∃ m', m <+: m' ∧ Kp H H' ∧ HR X.K m' h1 H') E0 (by rw [ho]; exact fun v m' H' p1 k1 hr' _ => ⟨m', p1, k1, hr'⟩)) fun r s' hq => ?_)
        cases r with
        | error e =>
          obtain ⟨_, _, _, _, _, _, _, _, _, _, _, q⟩ := hq
          exact q.elim
        | ok fl =>
          cases fl with
          | ret u =>
            obtain ⟨v, H', os, bare, un, hok, _, m', p1, k1, hr'⟩ := hq
            exact wpAny_execs_nil ⟨σ, H', I.call' os un hok bare (fun b hb => absurd hb (by simp)), p m' H' p1 k1 hr' σ (er.keep p1 k1)⟩
          | next => exact hq.elim
          | brk => exact hq.elim
          | cont => exact hq.elim
      | err Cv fs h1 =>
        rw [ho] at p
        cases Cv with
        | str n t =>
          simp only at p
          split at p
          · rename_i hn
            refine nG (codeAny_mono (run (fun _ _ => False) (fun C' _ H' => C' = .str n t ∧ ∃ m', m <+: m' ∧ Kp H H' ∧ HR X.K m' h1 H') (by rw [ho]; exact fun da m' H' p1 k1 hr' _ => ⟨rfl, m', p1, k1, hr'⟩)) fun r s1 hq => ?_)
            clear nG
            cases r with
            | ok fl =>
              cases fl with
              | ret u => obtain ⟨_, _, _, _, _, _, _, z⟩ := hq; exact z.elim
              | next => exact hq.elim
              | brk => exact hq.elim
              | cont => exact hq.elim
            | error e =>
              obtain ⟨ae, Cc, n', H', rfl, os, bare, un, hok, fly, nm, hE, m', p1, k1, hr'⟩ := hq
              refine Classical.byContradiction fun nG => ?_
              have hnn : n' = n := by cases hE; rfl
              subst hnn
              have I1 : Inv X pins σ H' s1 := I.call' os un hok bare (fun b hb => absurd hb (by simp))
              obtain ⟨fnew, fno, oe, ws, a0, T, oT, ts, e1, e2, e3, e4, e5, e6, e7, e8, e9, e10⟩ := fly
              have fro : X.A.frames = some (X.env :: X.outer) := by rw [← lv.stk]; exact I1.ok.frames
              have stk : s1.heap.FunFrames X.base (X.env :: X.outer) := by have := I1.stack; rw [lv.stk] at this; exact this
              have frN : ∀ b ∈ frs X.stack, H' b = none := fun b hb => I1.stkFree b hb
              have frO : ∀ b ∈ frs X.stack, ∃ o, s1.heap.get? b = some o ∧ ∀ vs, o.data ≠ .fields vs := fun b hb => (I1.stack.mem hb).2
              have fly0 : Heap.FlyingW (blank (fun b => b = ae ∨ b = T ∨ b ∈ frs X.stack) s1.heap) (X.env :: X.outer) ae (.ref Cc) a0 s1.heap :=
                ⟨blank_stays, blank_none (.inl rfl), frames_blank stk fun b hb => .inr (.inr (by rw [lv.stk]; exact hb)), oe, ws, T, oT, ts, e1, e2, e3, e4, blank_none (.inr (.inl rfl)), e7, e8, e9, e10⟩
              refine nG (wpAny_looks_onW fro lv.fr fly0 fun h4 held4 sm4 => ?_)
              clear nG
              refine wpAny_landsW held4 fun h5 held5 sm5 => ?_
              refine Classical.byContradiction fun nG => ?_
              obtain ⟨un5, hok5, fly5⟩ := note_ok un hok fnew e5 fno e6 frN frO held5.1 (sm4.trans sm5) held5.2.2.2
              have I5 : Inv X pins σ H' { s1 with heap := h5 } := I.call' (s' := { s1 with heap := h5 }) os un5 hok5 bare (fun b hb => absurd hb (by simp))
              have hmS : X.mg "SwitchError" = some (.ref Sw) := mg_of I.mod.kin I.mod.glob hSw
              have T5 := et_of et hn nm
              obtain ⟨_, _, oe5, ws5, _, _, _, _, f1, f2, f3, _⟩ := id fly5
              refine nG (wpAny_handleBy_cons (codeAny_handlers_test ?_) (by intro q; cases q))
              clear nG
              refine Calls.Name_function_global I5.ok.kind hgS (Calls.loadGlobal_global (by rw [I5.ok.glob]; exact I5.mod.glob.keeps I5.bk) hmS ?_) (by decide)
              refine (exm_one (M := model X.prog X.w) I5.kIn (TyAt.type ⟨oe5, f1, f2.1⟩) (T5.sw Sw hSw)).here ?_
              simp only [if_true]
              refine codeAny_handlers_suite_as (lands_againW held5 fun h6 held6 sm6 => ?_)
              obtain ⟨un6, hok6, fly6⟩ := note_ok un hok fnew e5 fno e6 frN frO held6.1 ((sm4.trans sm5).trans sm6) held6.2.2.2
              have I6 : Inv X pins σ H' { s1 with heap := h6 } := I.call' (s' := { s1 with heap := h6 }) os un6 hok6 bare (fun b hb => absurd hb (by simp))
              obtain ⟨_, _, oe6, ws6, _, _, _, _, g1, g2, g3, _⟩ := id fly6
              have older : ∀ b, s.heap.get? b = none → X.s₀.heap.get? b = none := lv.older I
              -- the exception is tracked
              have xok : ObjOk X.prog X.w (upd H' ae (.ext (ExcIs Cc none ae))) h6 ae (.ext (ExcIs Cc none ae)) :=
                ⟨⟨oe6, ws6, g1, g2.1, fun d z => (nomatch z), g3⟩, ⟨oe6, g1⟩, fun ha hb' z2_ k' => by obtain ⟨o, w', z1, z2, z3, z4⟩ := z2_; exact (⟨o, w', k' o z1, z2, z3, z4⟩)⟩
              have neL : ae ≠ X.env.locals := fun z => by
                obtain ⟨mL, ⟨oL, _, _, hoL, _⟩, _⟩ := I.loc
                rw [← z, fnew] at hoL; cases hoL
              have neC : ∀ x c, X.env.cells.lookup x = some c → c ≠ ae := fun x c ex z => by
                obtain ⟨v, o, hoc, _⟩ := I.cell x c ex
                rw [z, fnew] at hoc; cases hoc
              have neP : ∀ q ∈ X.pn ++ pins, q.1 ≠ ae := fun q hq z => by
                have := (I.pin q hq).1
                rw [z, fnew] at this; cases this
              have I6' := LS.Inv.track I6 (older ae fnew) fno neL neC neP xok
              have kx : Kp H' (upd H' ae (.ext (ExcIs Cc none ae))) := .new fno
              refine store_ok2 (v := .ref ae) I6' nd hN2 (.inl S.k2) rfl (fun s7 I7 _ => ?_) (.inr S.k2)
              -- the suite
              split at p
              · rename_i d h2 hk2
                have hr7 : HR X.K m' h1 (upd H' ae (.ext (ExcIs Cc none ae))) := hr'.new fno
                have er7 : ER X.K m' (upd H' ae (.ext (ExcIs Cc none ae))) (ρ.set 2 (some (.exc n' []))) (σ.set 2 (some (.ref ae))) :=
                  ((er.keep p1 k1).keep (List.prefix_refl _) kx).set (by simp only [DV]; exact ⟨ae, Cc, none, rfl, nm, upd_same, fun f i z => (nomatch z)⟩)
                have hρ : 2 < ρ.length := by rw [er.1, I.len, S.N]; decide
                have sx : Exs (mCx X ae) E0 [.Assign [.Name "_law_word" p8] (.Call (.Name "_law_kind" p9) [.Name "_law_e" p10] [] p11) p12] (mSet 1 (mCall Fk (mCons (mVar 2) mNil))) :=
                  exs_one (ex_set (X := mCx X ae) (i := 1) nd hN1 (Or.inl S.k1) (ev_caM (X := mCx X ae) hkind (RoomM.of hr _) (evA_cons (ev_var (X := mCx X ae) (pe_var (X := mCx X ae) hN2 (.inl S.k2))) evA_nil) (Nat.le_succ _) hgK) (hf := .inr S.k1))
                have post : tSt (mCx X ae).K E0 (mSet 1 (mCall Fk (mCons (mVar 2) mNil))) { nx := fun σ' H'' => Dn.nx (σ'.set 2 none) H'', rt := fun _ _ => False } (σ.set 2 (some (.ref ae))) (upd H' ae (.ext (ExcIs Cc none ae))) := by
                  refine ⟨m', ρ.set 2 (some (.exc n' [])), h1, hr7, er7, ?_⟩
                  have ev : mSet 1 (mCall Fk (mCons (mVar 2) mNil)) (ρ.set 2 (some (.exc n' []))) h1 = .ok (.nx, (ρ.set 2 (some (.exc n' []))).set 1 (some d)) h2 := by
                    unfold mSet mCall mCons mNil mVar
                    rw [List.getElem?_set_self hρ]
                    simp only [Out.bind_ok]
                    rw [hk2]
                    rfl
                  rw [ev]
                  intro m2 H2 p2 k2 hr2 σ' er2
                  refine p m2 H2 (p1.trans p2) ((k1.trans kx).trans k2) hr2 _ ⟨by simp [er2.1.symm], fun i di e => ?_⟩
                  by_cases hi : 2 = i
                  · subst hi
                    rw [List.getElem?_set_self (by simpa using hρ)] at e
                    cases e
                  · rw [List.getElem?_set_ne hi] at e
                    obtain ⟨v, z1, z2⟩ := er2.2 i di (by
                      by_cases h1i : 1 = i
                      · subst h1i
                        rw [List.getElem?_set_self (by (first | lia | omega))] at e
                        rw [List.getElem?_set_self (by simp; (first | lia | omega))]; exact e
                      · rw [List.getElem?_set_ne h1i] at e
                        rw [List.getElem?_set_ne h1i, List.getElem?_set_ne hi]; exact e)
                    exact ⟨v, by rw [List.getElem?_set_ne hi]; exact z1, z2⟩
                refine wpAny_mono (sx pins s7 _ _ _ (Inv.marked I7) post) (fun fl s8 h8 => ?_) fun _ _ z => False.elim z
                cases fl with
                | next =>
                  obtain ⟨σ', H'', I8, q8⟩ := h8
                  exact name_goes (Inv.unmarked I.ok I8) nd hN2 S.k2 fun s9 I9 => ⟨_, H'', I9, q8⟩
                | ret u => obtain ⟨_, _, _, _, _, z⟩ := h8; exact False.elim z
                | brk => obtain ⟨_, _, _, z⟩ := h8; exact False.elim z
                | cont => obtain ⟨_, _, _, z⟩ := h8; exact False.elim z
              · exact p.elim
          · exact p.elim
        | _ => exact p.elim
    · exact p.elim
  · exact p.elim
end
end LS


namespace LS
open PySem PySem.Spec PyProof.Rows L2 PySem.W
/-- the outcome of said(lambda: ..): f is the lambda's body over the names that it has from outside -/
noncomputable def saidO (Fk : List D → HD → Out D) : Out D → Out D
  | .ok _ h1 => .ok (.str "told") h1
  | .err (.str n _) _ h1 => if n ∈ excNames then (match Fk [.exc n []] h1 with
    | .ok d h2 => .ok d h2
    | _ => .stuck) else .stuck
  | _ => .stuck
noncomputable def mSaid (cs : List Nat) (Fk : List D → HD → Out D) (f : ME) : ME := fun ρ h => match (h[0]? : Option Cell), allSome (cs.map fun j => (ρ[j]?).join) with
  | some .tab, some ds => saidO Fk (f (ds.map some) h)
  | _, _ => .stuck
/-- the scope of a lambda without parameters -/
structure LSc (X : Cx) (scope : Scope) (Nc : List Str) (cs : List Nat) : Prop where
  lam : LamSc scope
  nd : (scope.names.map (·.1)).Nodup
  free : (scope.names.all fun y => y.2 != .free || (X.env.kindOf y.1 == some .cell || X.env.kindOf y.1 == some .free)) = true
  len : cs.length = Nc.length
  out : ((Nc.zip cs).all fun p => X.N[p.2]? == some p.1 && scope.names.lookup p.1 == some .free) = true
theorem LSc.at_ {X : Cx} {scope : Scope} {Nc : List Str} {cs : List Nat} (S : LSc X scope Nc cs) {i j : Nat} {x : Str} (h1 : Nc[i]? = some x) (h2 : cs[i]? = some j) : X.N[j]? = some x ∧ scope.names.lookup x = some .free := by
  have hz : (Nc.zip cs)[i]? = some (x, j) := by
    rw [List.getElem?_zip_eq_some]
    exact ⟨h1, h2⟩
  have := List.all_eq_true.mp S.out (x, j) (List.mem_of_getElem? hz)
  simpa using this
theorem LSc.fr {X : Cx} {scope : Scope} {Nc : List Str} {cs : List Nat} (S : LSc X scope Nc cs) : ∀ y ∈ scope.names, y.2 = .free → X.env.kindOf y.1 = some .cell ∨ X.env.kindOf y.1 = some .free := fun y hy e => by
  have := List.all_eq_true.mp S.free y hy
  rw [e] at this
  simpa using this
theorem capture {K : Frag} {m : List Addr} {H : Hp} {ρ : Rho} {σ : L2.St} (er : ER K m H ρ σ) : ∀ {cs : List Nat} {ds : List D}, allSome (cs.map fun j => (ρ[j]?).join) = some ds → ∃ vs, DVs K m H ds vs ∧ vs.length = cs.length ∧ ∀ (i : Nat) (v : V), vs[i]? = some v → ∃ j, cs[i]? = some j ∧ σ[j]? = some (some v)
  | [], ds, e => by
    simp [allSome] at e
    subst e
    exact ⟨[], .nil, rfl, fun i v z => by simp at z⟩
  | j :: cs, ds, e => by
    rw [List.map_cons] at e
    cases ed : (ρ[j]?).join with
    | none => rw [ed] at e; simp [allSome] at e
    | some d =>
      rw [ed] at e
      simp only [allSome, Option.map_eq_some_iff] at e
      obtain ⟨ds', e1, rfl⟩ := e
      obtain ⟨vs, h1, h2, h3⟩ := capture er e1
      obtain ⟨v, e2, r⟩ := er.2 j d (join_some.mp ed)
      refine ⟨v :: vs, .cons r h1, by simp [h2], fun i v' z => ?_⟩
      cases i with
      | zero => simp at z; subst z; exact ⟨j, rfl, e2⟩
      | succ i => simpa using h3 i v' (by simpa using z)
section
variable {X : Cx} {E : XK} {c P : Addr} {Nc : List Str} {cs : List Nat} {params : Arguments} {body : Expr} {scope : Scope}
theorem lookup_some_of_mem {α : Type} {l : List (Str × α)} {x : Str} {v : α} (h : (x, v) ∈ l) : ∃ w, l.lookup x = some w := by
  cases e : l.lookup x with
  | some w => exact ⟨w, rfl⟩
  | none =>
    have := List.lookup_eq_none_iff.mp e _ h
    simp at this
theorem ev_said {k : Nat} {Fk : List D → HD → Out D} {f : ME} {fs : Addr} {fd : FuncData} {st : Stmt} {lpos p pos p1 p2 p3 p4 p5 p6 p7 p8 p9 p10 p11 p12 p13 p14 p15 p16 : Pos} {j1 : Nat} (L : LamX X c P) (fna : ∀ x, X.fn x = true) (hr : Room (k + 2) X.A) (lv : Lv X E) (et : etOk X.K = true)
    (hsw : ∃ Sw, nsIn X.K mainGlobals "SwitchError" = some (some (.ref Sw)))
    (Fn : Fun X.K "_law_said" "_law_said" st fs fd) (hbd : Binds X.K fd ["_law_call"] []) (hm : X.mg "_law_said" = some (.ref fs)) (hkp : keepIn X.K (.ref fs) = true)
    (Sf : FnScope ["_law_call", "_law_word", "_law_e"] ["_law_call"] (defScope st)) (hk0 : (defScope st).names.lookup ("_law_call" : Str) = some .local) (hk1 : (defScope st).names.lookup ("_law_word" : Str) = some .local) (hk2 : (defScope st).names.lookup ("_law_e" : Str) = some .local)
    (hgS : ∀ L' cd, (envOfC "_law_said" (defScope st) L' fs cd).kindOf "SwitchError" = some .globalImplicit) (hgK : ∀ L' cd, (envOfC "_law_said" (defScope st) L' fs cd).kindOf "_law_kind" = some .globalImplicit)
    (hst : defBody st = [.Assign [.Name "_law_word" p1] (.Constant (.str "told") j1 p2) p3, .Try [.Expr (.Call (.Name "_law_call" p4) [] [] p5) p6] [.ExceptHandler (some (.Name "SwitchError" p7)) (some "_law_e") [.Assign [.Name "_law_word" p8] (.Call (.Name "_law_kind" p9) [.Name "_law_e" p10] [] p11) p12] p13] [] [] p14, .Return (some (.Name "_law_word" p15)) p16])
    (hkind : CaM X.prog X.w X.K X.mg X.base "_law_kind" k Fk) (hg : Gl X "_law_said") (S : LSc X scope Nc cs) (hdef : defaultsOf params X.env = ([], []))
    (hbind : ∀ (cl : List (Str × Addr)) (pm cv ctv : Value), bindArgs (kla_fn "<lambda>" lamQ params body scope cl pm cv ctv) ⟨[], []⟩ = pure [])
    (hb : ∀ (a : Addr) (cd : Value) (cl : List (Str × Addr)) (A : Around) (outer : List Env) (s : Shared) (H : Hp) (E' : XK), Room k (A.deeper (envX lamQ scope s.heap.objs.size a cd cl)) → Ev (lCx X.prog X.w X.K X.mg X.base Nc scope a cd cl A outer s H E') E' body f)
    (he : starEach [.Lambda params body scope lpos] X.env = (false, eval (.Lambda params body scope lpos) X.env) :: starEach [] X.env := by rfl) (hpl : (backTo pos (starEach [] X.env)).any (·.1) = false := by rfl) :
    Ev X E (.Call (.Name "_law_said" p) [.Lambda params body scope lpos] [] pos) (mSaid cs Fk f) := by
  rintro pins s σ H Q I ⟨m, ρ, h, hr1, er, pp⟩
  unfold mSaid at pp
  split at pp
  · rename_i ds et0 eds
    obtain ⟨aP, haP, tab⟩ := hr1.at et0
    obtain ⟨⟨cc, htp⟩, tabr⟩ := id tab
    rw [L.tp] at htp
    cases htp
    obtain ⟨vs, dvs, vlen, vat⟩ := capture er eds
    obtain ⟨cl, hclos, hcl, hcl2⟩ := closureFor_some (scope := scope) (env := X.env) fun y hy hf => I.ok.has y.1 (S.fr y hy hf)
    refine wpAny_Call_Name_kw (ld_glob I hg hm ?_ (by decide))
    refine PySem.W.callWith_K (h₀ := X.base) I.ok.mod.kin hkp ?_ he hpl
    rw [he]
    show wpAny _ _ (spliced ((false, eval (.Lambda params body scope lpos) X.env) :: [])) _ _ s
    refine Calls.spliced_cons (lam_make L I tab hdef hclos fun a c' ctv pm h' tk H' I' kp tab' same keep hsz no ob code => ?_)
    refine wpAny_pure ⟨I'.kIn, wpAny_call ?_⟩
    generalize hs1 : ({ s with heap := h', toks := tk } : Shared) = s1 at I'
    have hh1 : s1.heap = h' := by rw [← hs1]
    have hrN : HR X.K m h H' := hr1.tab kp same tab' tab
    have frLt : ∀ b ∈ frs X.stack, b < s.heap.objs.size := fun b hb => by
      obtain ⟨_, o, ho, _⟩ := I.stack.mem hb
      exact Heap.lt_size ho
    have cof : ∀ x c, cl.lookup x = some c → X.env.cells.lookup x = some c := fun x c e => (hcl x c (mem_of_lookup e)).1
    have hasC : ∀ x, scope.names.lookup x = some .free → ∃ c, cl.lookup x = some c := fun x e => by
      obtain ⟨c, hc⟩ := hcl2 _ (mem_of_lookup e) rfl
      exact lookup_some_of_mem hc
    have C1 : CloAt s1.heap H' X.stack Nc scope cl vs := by
      refine ⟨by rw [vlen, S.len], fun x y c e1 e2 => I.ok.inj x y c (cof x c e1) (cof y c e2), hasC, fun x c e => ?_, fun i x v e1 e2 => ?_⟩
      · refine ⟨I'.cell x c (cof x c e), I'.freeC x c (cof x c e), fun z => ?_⟩
        rcases List.mem_cons.mp (I.stkSub c z) with z | z
        · exact I.cne x c (cof x c e) z
        · obtain ⟨_, o, ho, _⟩ := I.ok.funs.mem z
          exact absurd (Nat.lt_of_lt_of_le (Heap.lt_size ho) (I.ok.cab x c (fna x) (cof x c e))) (Nat.lt_irrefl _)
      · obtain ⟨j, ej, sj⟩ := vat i v e2
        obtain ⟨hN, hf⟩ := S.at_ e1 ej
        have hk := S.fr _ (mem_of_lookup hf) rfl
        obtain ⟨m0, hn0, hl0⟩ := I'.loc
        obtain ⟨u, r, lk⟩ := hl0 j x v hN sj (by rcases hk with z | z; exact .inr (.inl z); exact .inr (.inr z))
        refine ⟨hf, ?_⟩
        rcases lk with ⟨z, _⟩ | ⟨_, c, e3, e4⟩
        · rcases hk with y | y <;> (rw [z] at y; cases y)
        · obtain ⟨c2, e5⟩ := hasC x hf
          have := cof x c2 e5
          rw [e3] at this
          cases this
          exact ⟨c, u, e5, e4, r⟩
    obtain ⟨oc, od, kV, doc, pm2, an, cdv, ct, osl, rfl, lk, hcd⟩ := Fn.ex
    have e0 := I'.env0
    have KX : X.K.In s1.heap := I'.kIn
    have lim : s1.heap.NoLimit := I'.nolimit
    have hkind2 : ∀ y ∈ (["_law_call"] : List Str).zip [Value.ref a], (defScope st).names.lookup y.1 = some .local ∨ ((defScope st).names.lookup y.1 = some .cell ∧ ((cellsFrom (s1.heap.objs.size + 1) (defScope st).names []).lookup y.1).isSome = true) := fun y hy => by
      have : y = (("_law_call" : Str), Value.ref a) := by simpa using hy
      subst this
      exact .inl hk0
    have bt := hbd s1 [.ref a] I'.kIn rfl
    rw [List.append_nil] at bt
    refine codeAny_mono (R := CR (CXE X.prog X.w X.K) X.stack X.prog X.w H' s1 Q E) ?_ fun r s' hq => ?_
    · refine codeAny_call_function hr.depth (KX _ _ lk) rfl Sf.co Sf.gen rfl (PySem.W.codeRec_of KX hcd) (bt _ _ _ _ ?_)
      refine wpAny_newFunctionEnv_cells Sf.kind hkind2 fun env he2 s2 x => ?_
      subst he2
      refine ⟨lim.keeps x.toInCall.keep, codeAny_func ?_⟩
      have I2 : Inv (cxOf (CXE X.prog X.w X.K) X.prog X.w X.K X.mg X.base ["_law_call", "_law_word", "_law_e"] "_law_said" (defScope st) fs cdv X.A X.stack s1 H' E) [] (L2.start ["_law_call", "_law_word", "_law_e"] [.ref a]) H' s2 :=
        inv_start Sf hr.hd e0 rfl (.cons rfl .nil) x
      obtain ⟨ps, hps, hca⟩ := code
      have tri : TriplesOk ps.toList := by
        obtain ⟨_, ps', z1, z2, _⟩ := tab'
        rw [hps] at z1; cases z1; exact z2
      have SX : SaidX (cxOf (CXE X.prog X.w X.K) X.prog X.w X.K X.mg X.base ["_law_call", "_law_word", "_law_e"] "_law_said" (defScope st) fs cdv X.A X.stack s1 H' E) P a c' lpos Nc params body scope cl pm ctv vs :=
        ⟨rfl, hk0, hk1, hk2, ⟨c, L.tp⟩, ⟨ps, hps, tri, hca⟩, by show s1.heap.get? a = _; rw [hh1]; exact ob, no, fun z => absurd (Nat.lt_of_lt_of_le (frLt a z) hsz) (Nat.lt_irrefl _), C1⟩
      have hrS : Room (k + 1) (cxOf (CXE X.prog X.w X.K) X.prog X.w X.K X.mg X.base ["_law_call", "_law_word", "_law_e"] "_law_said" (defScope st) fs cdv X.A X.stack s1 H' E).A := hr.deeper _
      have bx := exs_cons (ex_set (X := cxOf (CXE X.prog X.w X.K) X.prog X.w X.K X.mg X.base ["_law_call", "_law_word", "_law_e"] "_law_said" (defScope st) fs cdv X.A X.stack s1 H' E) (E := E) (i := 1) (pos := p3) (pos' := p1) Sf.nd rfl (Or.inl hk1) (ev_str (x := "told") (j := j1) (pos := p2)))
        (exs_cons (ex_try (p4 := p4) (p5 := p5) (p6 := p6) (p7 := p7) (p8 := p8) (p9 := p9) (p10 := p10) (p11 := p11) (p12 := p12) (p13 := p13) (p14 := p14) lvE SX hrS et hsw (hgS _ _) (hgK _ _) hkind S.lam (hbind cl pm (.ref c') ctv) (fun s H E' => hb a (.ref c') cl _ _ s H E'))
          (exs_one (ex_ret (pos := p16) (ev_var (pe_var (i := 1) (x := "_law_word") (pos := p15) rfl (.inl hk1))))))
      rw [← hst] at bx
      have post : tSt X.K E (mSeq (mSet 1 (mC (.str "told"))) (mSeq (gTry a vs Fk f) (mRet (mVar 1)))) { nx := fun _ H'' => Q .non H'', rt := Q } (L2.start ["_law_call", "_law_word", "_law_e"] [.ref a]) H' := by
        refine ⟨m, [some (.clo a vs ds), none, none], h, hrN, ?_, ?_⟩
        · refine ⟨rfl, fun i d e => ?_⟩
          match i, e with
          | 0, e => cases e; exact ⟨.ref a, rfl, by unfold DV; exact ⟨rfl, DVs.keep (List.prefix_refl _) kp dvs⟩⟩
          | 1, e => cases e
          | 2, e => cases e
          | i + 3, e => cases e
        · have p2 := Post.ahead (List.prefix_refl m) kp pp
          unfold mSeq mSet mC
          simp only [Out.bind_ok]
          unfold gTry
          simp only [List.set_cons_succ, List.set_cons_zero, List.getElem?_cons_zero, et0, and_self, if_true]
          unfold saidO at p2
          cases ho : f (ds.map some) h with
          | stuck => rw [ho] at p2; exact p2.elim
          | ok d h1 =>
            rw [ho] at p2
            exact fun m' H'' p1 k1 hr' v rv => p2 v m' H'' p1 k1 hr' rv
          | err Cv fs h1 =>
            rw [ho] at p2
            cases Cv with
            | str n t =>
              simp only at p2 ⊢
              split at p2
              · rename_i hn
                simp only [hn, if_true]
                cases hk : Fk [.exc n []] h1 with
                | stuck => rw [hk] at p2; exact p2.elim
                | err _ _ _ => rw [hk] at p2; exact p2.elim
                | ok d h2 =>
                  rw [hk] at p2
                  exact fun m' H'' p1 k1 hr' v rv => p2 v m' H'' p1 k1 hr' rv
              · exact p2.elim
            | _ => exact p2.elim
      refine wpAny_mono (bx [] s2 _ H' _ I2 post) (fun fl s' hs => ?_) fun e s' hs => hs
      cases fl with
      | ret u =>
        obtain ⟨v, σ', H'', J, rv, q⟩ := hs
        exact ⟨v, H'', J.os, J.bare, J.base, J.hok, rv, q⟩
      | next =>
        obtain ⟨σ', H'', J, q⟩ := hs
        exact ⟨V.non, H'', J.os, J.bare, J.base, J.hok, rfl, q⟩
      | brk =>
        obtain ⟨_, _, _, q⟩ := hs
        exact False.elim q
      | cont =>
        obtain ⟨_, _, _, q⟩ := hs
        exact False.elim q
    · cases r with
      | error e => exact passG lv pins σ H' s1 e s' I' hq
      | ok fl =>
        cases fl with
        | ret u => exact I'.after hq
        | next => exact False.elim hq
        | brk => exact False.elim hq
        | cont => exact False.elim hq
  · exact pp.elim
end
end LS


namespace LS
open PySem PySem.Spec PyProof.Rows L2 PySem.W
noncomputable def BMb (mg : Str → Option Value) (base : Heap) : Prop := ∃ bm o, mg "__builtins__" = some (.ref bm) ∧ bm ≠ builtinsNs ∧ base.get? bm = some o ∧ o.cls = .type "module" ∧ o.dict = some builtinsNs ∧ o.data = .plain
theorem law_callT {P : Program} {w : World} {K : Frag} {mg mb : Str → Option Value} {k : Nat} {fa a c T : Addr} {fd : FuncData} {x : Str} {F : List D → HD → Out D} {s₁ : Shared} {vs : List Value} {ns : List Int}
    (KX : K.In s₁.heap) (hns : s₁.heap.Ns mainGlobals mg) (hb : s₁.heap.Ns builtinsNs mb) (hbb : ∀ x : Str, x ≠ "__name__" → mb x = bootBuiltins x) (hlim : s₁.heap.NoLimit) (hg : s₁.gens = #[]) (hbm : BMb mg s₁.heap)
    (ha : s₁.heap.get? a = some { cls := .type "list", data := .seq vs.toArray }) (hi : IntsAre vs ns) (hl : ns.length ≤ sizeLine) (hr : Room k callerA)
    (htp : tabP K = some (c, T)) (hcd : codeHdIn K c T = true) (hT : s₁.heap.get? T = some (tabObj #[])) (hKT : K.lookup T = none)
    (FF : ∀ base : Heap, K.In base → base.Ns mainGlobals mg → BMb mg base → FnOk P w K mg base (CXE P w K) k fa fd [x] (spE K F)) (hbind : ∀ (s : Shared) (u : Value), BindsTo s fd ⟨[u], []⟩ [(x, u)])
    (hF : ∃ h', F [.scr ns] [.tab] = .ok (.bl true) h') :
    codeAny (model P w) callerA (.call (.ref fa) ⟨[.ref a], []⟩) (fun r s' => r = .ok (.ret (.bool true)) ∧ OldK s₁.heap s'.heap ∧ s'.os = s₁.os ∧ AllBare s'.gens) s₁ := by
  have rv := L2.vals_ints hi
  have lenV := hi.length
  have aT : a ≠ T := fun z => by rw [z, hT] at ha; cases ha
  have core : ∀ H : Hp, (∀ b, b = T ∨ H b = none ∨ ∃ o xs, H b = some (.frz o (.lst xs))) → H T = some (.tbl #[]) → FzL K H a (ns.map V.int) → HOk P w H s₁.heap → (∀ b, H b ≠ none → b = a ∨ b = T) → (H a ≠ none → K.lookup a = none) →
      codeAny (model P w) callerA (.call (.ref fa) ⟨[.ref a], []⟩) (fun r s' => r = .ok (.ret (.bool true)) ∧ OldK s₁.heap s'.heap ∧ s'.os = s₁.os ∧ AllBare s'.gens) s₁ := by
    intro H hO hHT hS hok hA hK
    have base_of : ∀ {b : Addr} {o : Obj}, s₁.heap.get? b = some o → H b = none → (hidT s₁.heap H).get? b = some o := fun e n => hidT_get e n
    have noA : ∀ {b : Addr} {o : Obj}, s₁.heap.get? b = some o → (∀ its n, o.data ≠ .seq its n) → (∀ ws, o.data ≠ .fields ws) → H b = none := fun {b o} e d1 d2 => by
      cases q : H b with
      | none => rfl
      | some u =>
        rcases hA b (by rw [q]; simp) with e' | e'
        · subst e'
          rw [ha] at e; cases e
          exact absurd rfl (d1 _ _)
        · subst e'
          rw [hT] at e; cases e
          exact absurd rfl (d2 _)
    have nsK : ∀ {b : Addr} {m : Str → Option Value}, s₁.heap.Ns b m → (hidT s₁.heap H).Ns b m := fun {b m} ⟨o, es, ep, e, d, r⟩ => ⟨o, es, ep, base_of e (noA e (fun _ _ z => by rw [d] at z; cases z) (fun _ z => by rw [d] at z; cases z)), d, r⟩
    have hKb : K.In (hidT s₁.heap H) := fun b o e => base_of (KX b o e) (by
      cases q : H b with
      | none => rfl
      | some u =>
        rcases hA b (by rw [q]; simp) with e' | e'
        · subst e'
          rw [hK (by rw [q]; simp)] at e; cases e
        · subst e'
          rw [hKT] at e; cases e)
    have hM : Mod K mg (hidT s₁.heap H) := ⟨hKb, nsK hns, ⟨mb, nsK hb, hbb⟩, let ⟨mc, h1, h2⟩ := hlim; ⟨mc, nsK h1, h2⟩⟩
    have e0 : Env0 P w K mg (hidT s₁.heap H) callerA [] s₁ H := ⟨rfl, hM, fun b o e => of_hidT e, Nat.le_of_eq (hidT_size _ _), trivial, fun b hb => absurd (show b ∈ ([] : List Addr) from hb) (by simp), hok, .of_eq hg⟩
    have hBM : BMb mg (hidT s₁.heap H) := by
      obtain ⟨bm, o, h1, h2, h3, h4, h5, h6⟩ := hbm
      exact ⟨bm, o, h1, h2, base_of h3 (noA h3 (fun _ _ z => by rw [h6] at z; cases z) (fun _ z => by rw [h6] at z; cases z)), h4, h5, h6⟩
    have hsp : spE K F [.ref a] H (fun v _ => v = .bl true) fun _ _ _ => False := by
      obtain ⟨h', e⟩ := hF
      refine ⟨[T], [.scr ns], [.tab], ⟨rfl, by simp, fun l cc b e1 e2 => ?_⟩, .cons (by simp only [DV]; exact ⟨a, rfl, hS⟩) .nil, ?_⟩
      · cases l with
        | zero =>
          simp at e1 e2
          subst e1 e2
          exact ⟨⟨c, htp⟩, #[], hHT, trivial, fun pos cv z => by simp [codeAmong] at z⟩
        | succ l => simp at e1
      · rw [e]
        intro v m' H' _ _ _ r
        simpa [rD, DV] using r
    refine codeAny_mono ((FF _ hKb (nsK hns) hBM).run callerA [] s₁ H ⟨[.ref a], []⟩ [.ref a] [.ref a] _ _ hr e0 (hbind s₁ (.ref a)) (.cons rfl .nil) hsp) fun r s' h => ?_
    cases r with
    | error e =>
      obtain ⟨_, _, _, _, _, _, _, _, _, _, _, q⟩ := h
      exact q.elim
    | ok fl =>
      cases fl with
      | next => exact False.elim h
      | brk => exact False.elim h
      | cont => exact False.elim h
      | ret u =>
        obtain ⟨v, H', os, bare, un, hok', r', q⟩ := h
        have q' : v = .bl true := q
        subst q'
        obtain rfl : u = Value.bool true := r'
        obtain ⟨more, hT'⟩ := un.tbls T _ hHT
        have hT2 : s'.heap.get? T = some (tabObj (#[] ++ more)) := hok' T _ hT'
        have keepO : ∀ b o, b ≠ T → s₁.heap.get? b = some o → s'.heap.get? b = some o := fun b o hbT e => by
          cases q : H b with
          | none => exact un.keep b o e q (by intro z; exact absurd (show b ∈ ([] : List Addr) from z) (by simp)) (by simp)
          | some u =>
            rcases hO b with z | z | ⟨ob, xs, z⟩
            · exact absurd z hbT
            · rw [q] at z; cases z
            · have z2 := un.frzs b ob _ z
              obtain ⟨e1, _⟩ := hok b _ z
              obtain ⟨e2, _⟩ := hok' b _ z2
              rw [e] at e1; cases e1
              exact e2
        have hC := codeHd_of_K KX hcd
        refine ⟨rfl, ⟨fun b o e => ?_, fun b o e => ?_⟩, os, bare⟩
        · by_cases hbT : b = T
          · subst hbT
            rw [hT] at e
            cases e
            exact .inr (.inl ⟨(hC.tab hT).isCodeTable, rfl, #[], more, rfl, hT2⟩)
          · exact .inl (keepO b o hbT e)
        · by_cases hbT : b = T
          · subst hbT; exact ⟨_, hT2⟩
          · exact ⟨o, keepO b o hbT e⟩
  cases hk : K.lookup a with
  | some o =>
    have e := KX a o hk
    rw [ha] at e
    cases e
    refine core (fun b => if b = T then some (.tbl #[]) else none) (fun b => ?_) (if_pos rfl) (.inr (.inr ⟨_, vs.toArray, _, hk, rfl, rfl, rfl, by rw [List.size_toArray, lenV]; exact hl, by simpa using rv⟩)) (fun b u z => ?_) (fun b z => ?_) fun z => absurd (if_neg aT) z
    · by_cases hb : b = T
      · exact .inl hb
      · exact .inr (.inl (if_neg hb))
    · by_cases hb : b = T
      · have z' := (if_pos hb).symm.trans z
        cases z'
        subst hb
        exact hT
      · have z' := (if_neg hb).symm.trans z
        cases z'
    · by_cases hb : b = T
      · exact .inr hb
      · exact absurd (if_neg hb) z
  | none =>
    refine core (fun b => if b = T then some (.tbl #[]) else if b = a then some (.frz { cls := .type "list", data := .seq vs.toArray } (.lst (ns.map V.int))) else none) (fun b => ?_) (if_pos rfl) (.inl ⟨{ cls := .type "list", data := .seq vs.toArray }, (if_neg aT).trans (if_pos rfl)⟩) (fun b u z => ?_) (fun b z => ?_) fun _ => hk
    · by_cases hb : b = T
      · exact .inl hb
      · by_cases hba : b = a
        · exact .inr (.inr ⟨_, _, (if_neg hb).trans (if_pos hba)⟩)
        · exact .inr (.inl ((if_neg hb).trans (if_neg hba)))
    · by_cases hb : b = T
      · have z' := (if_pos hb).symm.trans z
        cases z'
        subst hb
        exact hT
      · have z1 := (if_neg hb).symm.trans z
        by_cases hba : b = a
        · have z' := (if_pos hba).symm.trans z1
          cases z'
          subst hba
          exact ⟨ha, by rw [List.length_map]; exact hl, vs, _, rv, ha⟩
        · have z' := (if_neg hba).symm.trans z1
          cases z'
    · by_cases hb : b = T
      · exact .inr hb
      · by_cases hba : b = a
        · exact .inl hba
        · exact absurd ((if_neg hb).trans (if_neg hba)) z
end LS


namespace LS
open PySem PySem.Spec PyProof.Rows L2 PySem.W
open AutoSeq1 (wpAny_loadPart')
theorem noFill_tuple_mul : fillsNumberSlot (.type "tuple") "mul" = pure false := by
  first | exact noFill_tuple_mul' | (unfold fillsNumberSlot; kernel_rfl)
theorem repeat_tuple : seqRepeat? (.type "tuple") = pure (some (.builtin "tuple.__mul__")) := by
  unfold seqRepeat?
  rw [PySem.seqSlot_of (T := "tuple") (name := "__mul__") (id := "tuple.__mul__") F.slot_tuple_mul.lookup (by decide +kernel), PySem.seqSlot_of (T := "tuple") (name := "__rmul__") (id := "tuple.__rmul__") (by rw [typeLookup_type, builtinLookup_eq_fast]; kernel_rfl) (by decide +kernel)]
  rfl
theorem int_rmul_tuple (a : Int) (t : Tok) (l : Addr) (items : Array Value) (n : Nat) (dd : Option Addr) (sl : Array (Option Value)) :
    Meets (Builtin.«int.__rmul__» ⟨[.int a t, .ref l], []⟩) (fun _ R s => s.heap.get? l = some { cls := .type "tuple", dict := dd, data := .seq items n, slots := sl } ∧ R (.ok (.ret Value.notImplemented)) s) :=
  .of_wp fun prog w A R s h => by
    obtain ⟨hp, g, d, tk, os⟩ := s; obtain ⟨hl, h⟩ := h
    wp_walk; exact ⟨_, rfl, h⟩
theorem tuple_mul_new (l : Addr) (items : Array Value) (n : Nat) (dd : Option Addr) (sl : Array (Option Value)) (x : Int) (u : Tok) (h1 : 1 < x) (h2 : x < 2 ^ 63) (hne : items.isEmpty = false) (hz : items.size * x.toNat ≤ sizeLine) :
    Meets (Builtin.«tuple.__mul__» ⟨[.ref l, .int x u], []⟩) (fun _ R s => s.heap.get? l = some { cls := .type "tuple", dict := dd, data := .seq items n, slots := sl } ∧ R (.ok (.ret (Value.ref s.heap.objs.size))) { s with heap := s.heap.push { cls := Value.type "tuple", data := Data.seq (List.foldl (fun x1 x2 => x1 ++ x2) #[] (List.replicate x.toNat items)) } }) :=
  .of_wp fun prog w A R s h => by
    obtain ⟨hp, g, d, tk, os⟩ := s; obtain ⟨hl, h⟩ := h
    have c1 : (decide (x < -2 ^ 63) || decide (x ≥ 2 ^ 63)) = false := by simp; (first | lia | omega)
    have c2 : (items.isEmpty || x == 1) = false := by
      rw [hne, Bool.false_or]
      exact beq_eq_false_iff_ne.mpr (by (first | lia | omega))
    have c3 : (decide (x ≤ 0) || items.isEmpty) = false := by
      rw [hne, Bool.or_false]
      exact decide_eq_false (by (first | lia | omega))
    have hx : (x.toNat : Int) = x := Int.toNat_of_nonneg (by (first | lia | omega))
    have hz' : (items.size : Int) * x ≤ sizeLine := by rw [← hx]; exact_mod_cast hz
    have c4 : ¬ ((items.size : Int) * x > (2 ^ 63 - 1) / 8) := by
      have : (sizeLine : Int) ≤ (2 ^ 63 - 1) / 8 := by decide
      (first | lia | omega)
    have c5 : Builtin.Tuple.tupleTooMany ((items.size : Int) * x) = false := by
      unfold Builtin.Tuple.tupleTooMany
      exact decide_eq_false (by (first | lia | omega))
    have c6 : (List.foldl (fun x1 x2 => x1 ++ x2) #[] (List.replicate x.toNat items)).size ≤ sizeLine := by
      have f0 := foldl_rep items.toList x.toNat []
      rw [List.nil_append] at f0
      have : List.foldl (fun x1 x2 => x1 ++ x2) #[] (List.replicate x.toNat items) = (List.replicate x.toNat items.toList).flatten.toArray := by simpa using f0
      rw [this, List.size_toArray, len_rep, Nat.mul_comm]
      simpa using hz
    wp_walk using wpAny_loadPart' hl
    rw [c1]
    simp only [Bool.false_eq_true, if_false]
    refine wpAny_bind ?_
    unfold Builtin.Tuple.tupleItemsOf
    wp_walk using wpAny_loadPart' hl
    rw [c2]
    simp only [Bool.false_eq_true, if_false]
    rw [c3]
    simp only [Bool.false_eq_true, if_false]
    rw [if_neg c4, c5]
    simp only [Bool.false_eq_true, if_false]
    refine wpAny_bind (wpAny_newObj_type (wpAny_pure ⟨_, rfl, h⟩) c6)
section
variable {X : Cx} {E : XK}
/-- a tuple times an int -/
inductive rRepT (K : Frag) (x y : V) (H : Hp) (Q : VK) : Prop where
  | mk (l : Addr) (k : Int) (xs : List V) (ex : x = .ref l) (ey : y = .int k) (hH : H l = some (.tup xs)) (hne : xs ≠ []) (h1 : 1 < k) (h2 : k < 2 ^ 63) (hz : xs.length * k.toNat ≤ sizeLine) (q : ∀ p, H p = none → Q (.ref p) (upd H p (.tup (List.replicate k.toNat xs).flatten))) : rRepT K x y H Q
theorem Inv.tnew {pins : List (Addr × Obj)} {σ : L2.St} {H : Hp} {s : Shared} {ys : List V} {its : List Value} {t' : Nat} (I : Inv X pins σ H s) (hv : Vals ys its) (hz : ys.length ≤ sizeLine) :
    Inv X pins σ (upd H s.heap.objs.size (.tup ys)) { s with heap := s.heap.push { cls := .type "tuple", data := .seq its.toArray }, toks := t' } :=
  I.laid (fun _ _ q => Heap.get?_push_of_some _ q) (Nat.le_refl _) ⟨hz, its, hv, ⟨_, Heap.get?_push_size _ rfl, rfl, 0, rfl⟩, NoDict.new⟩
theorem op_repT : OpR X (binaryOp .Mult) (rRepT X.K) := by
  intro pins s σ H x y v u Q I rx ry h
  obtain ⟨l, k, xs, rfl, rfl, hH, hne, h1, h2, hz, q⟩ := h
  cases rx
  obtain ⟨t, rfl⟩ := ry
  obtain ⟨z, its, r, ⟨o, ho, hc, n, hd⟩, _⟩ := (show ObjOk X.prog X.w H s.heap l (.tup xs) from I.hok l _ hH)
  obtain ⟨oc, dd, dat, sl⟩ := o
  simp only at hc hd
  subst hc hd
  have hl := r.length
  have hine : its.toArray.isEmpty = false := by
    cases its with
    | nil => exfalso; cases xs with
      | nil => exact hne rfl
      | cons _ _ => simp at hl
    | cons a b => simp
  have mul : ∀ {Q' : Value → Shared → Prop}, wpAny (model X.prog X.w) X.A (call (.builtin "tuple.__mul__") [.ref l, .int k t]) Q' X.xe s → wpAny (model X.prog X.w) X.A (binaryOp .Mult (.ref l) (.int k t)) Q' X.xe s := fun {Q'} hq =>
    wpAny_binaryOp_repeat_ref (T := "tuple") (U := "int") (by decide) ⟨_, ho, rfl⟩ (fun s' => typeIs_int s' k t) noFill_tuple_mul F.fills_int_mul F.slot_int_rmul repeat_tuple F.slot_int_index.lookup
      (call_meets F.slot_int_rmul (typeIs_int s k t) F.entry_int_rmul (F.args_int_rmul_2 _ _) (int_rmul_tuple k t l its.toArray n dd sl) ⟨ho, rfl, ⟨_, ho, rfl⟩, hq⟩)
  refine mul ?_
  refine call_meets F.slot_tuple_mul ⟨_, ho, rfl⟩ F.entry_tuple_mul (F.args_tuple_mul_2 _ _) (tuple_mul_new l its.toArray n dd sl k t h1 h2 hine (by rw [List.size_toArray, ← hl]; exact hz)) ⟨ho, ?_⟩
  have f0 := foldl_rep its k.toNat []
  rw [List.nil_append] at f0
  have f1 : List.foldl (fun x1 x2 => x1 ++ x2) #[] (List.replicate k.toNat its.toArray) = (List.replicate k.toNat its).flatten.toArray := f0
  rw [f1]
  exact ⟨.ref _, _, LS.Inv.tnew (t' := s.toks) I (r.rep k.toNat) (by rw [len_rep, Nat.mul_comm]; exact hz), rfl, q _ I.fresh⟩
/-- products: numbers, lists, tuples -/
noncomputable def mulX : D → D → HD → Out D := fun x y h => match x, y with
  | .tup xs, .int k => if xs ≠ [] ∧ 1 < k ∧ k < 2 ^ 63 ∧ xs.length * k.toNat ≤ sizeLine then .ok (.tup (List.replicate k.toNat xs).flatten) h else .stuck
  | _, _ => mulD' x y h
theorem mulXM : OpM X (binaryOp .Mult) mulX := by
  obtain ⟨r0, hr0, i0⟩ := mulM' (X := X)
  refine ⟨_, op_repT.or hr0, fun m H h E x y v u Q hr rx ry q => ?_⟩
  unfold mulX at q
  split at q
  · rename_i xs k
    split at q
    · rename_i hc
      obtain ⟨hne, h1, h2, hz⟩ := hc
      simp only [DV] at rx ry
      obtain ⟨a, vs, rfl, ha, dv⟩ := rx
      subst ry
      refine .inl ⟨a, k, vs, rfl, rfl, ha, ?_, h1, h2, by rw [← dv.len]; exact hz, ?_⟩
      · intro e; have := dv.len; rw [e] at this; exact hne (List.length_eq_zero_iff.mp this)
      · exact post_newT hr (DVs.rep dv k.toNat) q
    · exact q.elim
  · exact .inr (i0 m H h E x y v u Q hr rx ry q)
end
end LS


namespace LS
open PySem PySem.Spec PyProof.Rows L2 PySem.W
section
variable {X : Cx} {E : XK}

noncomputable abbrev MJ := Str → Rho → HD → Out Str
noncomputable def mJoin (fj : MJ) : ME := fun ρ h => (fj Str.empty ρ h).bind fun x h1 => .ok (.str x) h1
noncomputable def reprD : D → HD → Out D := fun x h => match dPy h 8 x with
  | some p => if p.showable = true ∧ p.hasDict = false ∧ p.depth ≤ 40 ∧ p.shown.length ≤ sizeLine then .ok (.str p.shown) h else .stuck
  | none => .stuck
noncomputable def eqX : D → D → HD → Out D := fun x y h => match x, y with
  | .str a, .str b => .ok (.bl (a == b)) h
  | _, _ => eqD x y h
noncomputable def neX : D → D → HD → Out D := fun x y h => match x, y with
  | .str a, .str b => .ok (.bl (!(a == b))) h
  | _, _ => neD x y h
theorem eqXM (hu : X.A.units + 64 < cLine) : OpM X (compareOp .Eq) eqX := by
  obtain ⟨r0, hr0, i0⟩ := eqM (X := X) hu
  refine ⟨_, op_eq.or hr0, fun m H h E x y v u Q hr rx ry q => ?_⟩
  unfold eqX at q
  split at q
  · simp only [DV] at rx ry
    subst rx ry
    exact .inl ⟨rfl, by rw [dec_str]; exact okq hr q (by simp [DV])⟩
  · exact .inr (i0 m H h E x y v u Q hr rx ry q)
theorem neXM (hu : X.A.units + 64 < cLine) : OpM X (compareOp .NotEq) neX := by
  obtain ⟨r0, hr0, i0⟩ := neM (X := X) hu
  refine ⟨_, op_ne.or hr0, fun m H h E x y v u Q hr rx ry q => ?_⟩
  unfold neX at q
  split at q
  · simp only [DV] at rx ry
    subst rx ry
    exact .inl ⟨rfl, by rw [dec_str]; exact okq hr q (by simp [DV])⟩
  · exact .inr (i0 m H h E x y v u Q hr rx ry q)

noncomputable def setAll : List Nat → List D → Rho → Option Rho
  | [], [], ρ => some ρ
  | i :: is, d :: ds, ρ => setAll is ds (ρ.set i (some d))
  | _, _, _ => none
noncomputable def sNames (is : List Nat) : MG := fun d ρ => match d with
  | .tup ds => setAll is ds ρ
  | _ => none
noncomputable def gNames : List Nat → TGs
  | [] => gNil
  | i :: is => gCons (gName i) (gNames is)
theorem setAll_len : ∀ {is : List Nat} {ds : List D} {ρ ρ' : Rho}, setAll is ds ρ = some ρ' → ds.length = is.length
  | [], [], _, _, _ => rfl
  | [], _ :: _, _, _, e => by cases e
  | _ :: _, [], _, _, e => by cases e
  | _ :: is, _ :: ds, _, _, e => by simpa using setAll_len (is := is) (ds := ds) e
theorem gNames_ok {K : Frag} {m : List Addr} {H : Hp} : ∀ {is : List Nat} {ds : List D} {vs : List V} {ρ ρ' : Rho} {σ : L2.St} {Q : L2.St → Hp → Prop}, DVs K m H ds vs → ER K m H ρ σ → setAll is ds ρ = some ρ' → (∀ σ', ER K m H ρ' σ' → Q σ' H) → gNames is vs σ H Q
  | [], [], vs, ρ, ρ', σ, Q, r, er, e, q => by
    simp only [DVs] at r
    subst r
    cases e
    exact ⟨rfl, q σ er⟩
  | [], _ :: _, _, _, _, _, _, _, _, e, _ => by cases e
  | _ :: _, [], _, _, _, _, _, _, _, e, _ => by cases e
  | i :: is, d :: ds, vs, ρ, ρ', σ, Q, r, er, e, q => by
    simp only [DVs] at r
    obtain ⟨v, w, rfl, rv, rw'⟩ := r
    exact ⟨v, w, rfl, gNames_ok rw' (er.set rv) e q⟩
theorem evG_names {es : List Expr} {is : List Nat} {kt : Nat} {pos : Pos} (h : PG X (.Tuple es kt pos) (gTup X.K is.length (gNames is))) : EvG X (.Tuple es kt pos) (sNames is) := ⟨_, h, fun m H d v ρ σ ρ' Q r er e q => by
  unfold sNames at e
  split at e
  · rename_i ds
    simp only [DV] at r
    obtain ⟨p, vs, rfl, hp, dv⟩ := r
    exact ⟨p, vs, rfl, SqT.of hp, by rw [← dv.len]; exact setAll_len e, gNames_ok dv er e q⟩
  · cases e⟩
end
end LS


namespace LS
open PySem PySem.Spec PyProof.Rows L2 PySem.W
theorem et_cls {K : Frag} (h : etOk K = true) {n : Str} (hn : n ∈ excNames) : ∃ C, nsIn K mainGlobals n = some (some (.ref C)) := by
  unfold etOk at h
  split at h
  · rename_i S hS
    have h1 := List.all_eq_true.mp h n hn
    cases e : excOf K n with
    | none => rw [e] at h1; cases h1
    | some C => exact ⟨C, excOf_some e⟩
  · cases h
section
variable {X : Cx} {E : XK}
theorem ev_gloE {x : Str} {pos : Pos} (et : etOk X.K = true) (hn : x ∈ excNames) (hg : Gl X x := by rfl) (hd : (x == ("__debug__" : Str)) = false := by decide) : Ev X E (.Name x pos) (mC (.glo x)) := by
  obtain ⟨a, h⟩ := et_cls et hn
  exact ev_glo hg h hd
theorem ex_raiseE {x : Str} {e : Expr} {es : List Expr} {fa : MA} {np cpos pos : Pos} (et : etOk X.K = true) (hn : x ∈ excNames) (hne : x ≠ "TooMany") (hg : Gl X x) (hc : X.calm = true) (th : Throws X E) (ha : EvA X E (e :: es) fa)
    (hdb : (x == ("__debug__" : Str)) = false := by decide) (he : starEach (e :: es) X.env = (false, eval e X.env) :: starEach es X.env := by rfl) (hpl : (backTo cpos (starEach (e :: es) X.env)).any (·.1) = false := by rfl) :
    Ex X E (.Raise (some (.Call (.Name x np) (e :: es) [] cpos)) none pos) (mRaise x fa) := by
  obtain ⟨C, h⟩ := et_cls et hn
  exact ex_raise ((et_of et hn h).at_ hne) h hg hc th ha hdb he hpl
end
theorem CaM.mono {P : Program} {w : World} {K : Frag} {mg : Str → Option Value} {base : Heap} {x : Str} {j k : Nat} {F : List D → HD → Out D} (C : CaM P w K mg base x j F) (h : j ≤ k) : CaM P w K mg base x k F := by
  obtain ⟨f, fd, ps, G, r⟩ := C.ex
  exact ⟨f, fd, ps, ⟨fun A outer s H args us vs Q hr => G.run A outer s H args us vs Q (hr.mono h)⟩, r⟩
/-- the def said, as it stands behind the top -/
structure SaidD (K : Frag) (mg : Str → Option Value) (st : Stmt) (fs : Addr) (fd : FuncData) : Prop where
  fn : Fun K "_law_said" "_law_said" st fs fd
  bd : Binds K fd ["_law_call"] []
  mg : mg "_law_said" = some (.ref fs)
/-- the shape of its text -/
structure SaidT (st : Stmt) : Prop where
  sc : FnScope ["_law_call", "_law_word", "_law_e"] ["_law_call"] (defScope st)
  k0 : (defScope st).names.lookup ("_law_call" : Str) = some .local
  k1 : (defScope st).names.lookup ("_law_word" : Str) = some .local
  k2 : (defScope st).names.lookup ("_law_e" : Str) = some .local
  gS : (defScope st).names.lookup ("SwitchError" : Str) = some .globalImplicit
  gK : (defScope st).names.lookup ("_law_kind" : Str) = some .globalImplicit
  tx : ∃ p1 j1 p2 p3 p4 p5 p6 p7 p8 p9 p10 p11 p12 p13 p14 p15 p16, defBody st = [.Assign [.Name "_law_word" p1] (.Constant (.str "told") j1 p2) p3, .Try [.Expr (.Call (.Name "_law_call" p4) [] [] p5) p6] [.ExceptHandler (some (.Name "SwitchError" p7)) (some "_law_e") [.Assign [.Name "_law_word" p8] (.Call (.Name "_law_kind" p9) [.Name "_law_e" p10] [] p11) p12] p13] [] [] p14, .Return (some (.Name "_law_word" p15)) p16]
theorem ev_saidD {X : Cx} {E : XK} {c P : Addr} {Nc : List Str} {cs : List Nat} {params : Arguments} {body : Expr} {scope : Scope} {k kk : Nat} {Fk : List D → HD → Out D} {f : ME} {fs : Addr} {fd : FuncData} {st : Stmt} {lpos p pos : Pos}
    (L : LamX X c P) (fna : ∀ x, X.fn x = true) (hr : Room kk X.A) (lv : Lv X E) (et : etOk X.K = true) (Sd : SaidD X.K X.mg st fs fd) (St : SaidT st) (hkind : CaM X.prog X.w X.K X.mg X.base "_law_kind" k Fk) (S : LSc X scope Nc cs)
    (hb : ∀ (a : Addr) (cd : Value) (cl : List (Str × Addr)) (A : Around) (outer : List Env) (s : Shared) (H : Hp) (E' : XK), Room k (A.deeper (envX lamQ scope s.heap.objs.size a cd cl)) → Ev (lCx X.prog X.w X.K X.mg X.base Nc scope a cd cl A outer s H E') E' body f)
    (hg : Gl X "_law_said") (hkk : k + 2 ≤ kk := by decide) (hdef : defaultsOf params X.env = ([], []) := by rfl)
    (hbind : ∀ (cl : List (Str × Addr)) (pm cv ctv : Value), bindArgs (kla_fn "<lambda>" lamQ params body scope cl pm cv ctv) ⟨[], []⟩ = pure [] := by exact fun _ _ _ _ => rfl)
    (he : starEach [.Lambda params body scope lpos] X.env = (false, eval (.Lambda params body scope lpos) X.env) :: starEach [] X.env := by rfl) (hpl : (backTo pos (starEach [] X.env)).any (·.1) = false := by rfl) :
    Ev X E (.Call (.Name "_law_said" p) [.Lambda params body scope lpos] [] pos) (mSaid cs Fk f) := by
  obtain ⟨p1, j1, p2, p3, p4, p5, p6, p7, p8, p9, p10, p11, p12, p13, p14, p15, p16, hst⟩ := St.tx
  exact ev_said L fna (hr.mono hkk) lv et (et_cls et (by decide +kernel)) Sd.fn Sd.bd Sd.mg Sd.fn.kp St.sc St.k0 St.k1 St.k2 (fun _ _ => St.gS) (fun _ _ => St.gK) hst hkind hg S hdef hbind hb he hpl
/-- the law's def: its code object is known -/
theorem fn_mirrorL {P : Program} {w : World} {K : Frag} {mg : Str → Option Value} {base : Heap} {x qual : Str} {st : Stmt} {f : Addr} {kV doc pm cdv ct oc : Value} {an od : Option Addr} {osl : Array (Option Value)} {N ps : List Str} {k : Nat} {F : List D → HD → Out D} {g : MS}
    (lk : K.lookup f = some ⟨oc, od, .func (PySem.W.fnOf x qual (defArgs st) (defBody st) (defScope st) .none kV doc pm an cdv ct), osl⟩) (hcd : PySem.W.codeIn K cdv qual = true) (S : FnScope N ps (defScope st)) (ar : Ar ps.length F)
    (hg : ∀ ds h, ds.length = ps.length → F ds h = mBody N.length g ds h)
    (hbody : ∀ (A : Around) (outer : List Env) (s : Shared) (H : Hp) (E : XK), Room k (A.deeper (envOfC qual (defScope st) s.heap.objs.size f cdv)) → Exs (cxOf (CXE P w K) P w K mg base N qual (defScope st) f cdv A outer s H E) E (defBody st) g) :
    FnOk P w K mg base (CXE P w K) (k + 1) f (PySem.W.fnOf x qual (defArgs st) (defBody st) (defScope st) .none kV doc pm an cdv ct) ps (spE K F) := by
  refine fn_of lk hcd S (fun vs H Q E h => ar_lenE ar h) fun A outer s H vs Q E hr h => ?_
  refine ⟨_, hbody A outer s H E hr, ?_⟩
  have hl := ar_lenE ar h
  obtain ⟨m, ds, hd, hr1, r, p⟩ := h
  have hld : ds.length = ps.length := by rw [r.len]; exact hl
  refine ⟨m, ds.map some ++ List.replicate (N.length - ds.length) none, hd, hr1, ER.start r, ?_⟩
  rw [hg ds hd hld] at p
  unfold mBody at p
  cases o : g (ds.map some ++ List.replicate (N.length - ds.length) none) hd with
  | stuck => rw [o] at p; exact p
  | err C fs h1 => rw [o] at p; exact p
  | ok a h1 =>
    rw [o] at p
    obtain ⟨fl, ρ1⟩ := a
    intro m1 H1 p1 k1 hr1
    cases fl with
    | nx => exact fun σ er => p .non m1 H1 p1 k1 hr1 (by simp [rD, DV])
    | bk => exact False.elim p
    | ct => exact False.elim p
    | rt d => exact fun v rv => p v m1 H1 p1 k1 hr1 rv
noncomputable def tabOk (K : Frag) (T : Addr) : Bool := match tabP K with
  | some (c, T') => T' == T && codeHdIn K c T
  | none => false
theorem tab_of {K : Frag} {T : Addr} (h : tabOk K T = true) : ∃ c, tabP K = some (c, T) ∧ codeHdIn K c T = true := by
  unfold tabOk at h
  split at h
  · rename_i c T' e
    rw [Bool.and_eq_true] at h
    obtain ⟨h1, h2⟩ := h
    have : T' = T := beq_iff_eq.mp h1
    subst this
    exact ⟨c, e, h2⟩
  · cases h
theorem walk_lam' {l : OpenLaw} {n k : Nat} {q : Program} {loose : List Str} {XP : (Str → Option Value) → Heap → Prop} {YP : World → Heap → Prop} {d : DefRec} {K : Params → Frag} {x : Str} {F : List D → HD → Out D} {T : Addr}
    (hn : l.most = some n) (hn2 : n ≤ sizeLine) (hdf : d.params.defaults = []) (hr : Room k callerA)
    (hY : ∀ (w : World) (h : Heap), YP w h → (K w.params).In h) (hYT : ∀ (w : World) (h : Heap), YP w h → h.get? T = some (tabObj #[]))
    (htp : ∀ w : World, tabOk (K w.params) T = true) (hKT : ∀ w : World, (K w.params).lookup T = none)
    (Fn : ∀ (w : World) (mg : Str → Option Value) (fa : Addr) (h : Heap), (K w.params).In h → h.Ns mainGlobals mg → mg d.name = some (.ref fa) →
      ∃ fd : FuncData, (∀ (s : Shared) (u : Value), BindsTo s fd ⟨[u], []⟩ [(x, u)]) ∧
        ∀ base : Heap, (K w.params).In base → base.Ns mainGlobals mg → BMb mg base → FnOk l.prog w (K w.params) mg base (CXE l.prog w (K w.params)) k fa fd [x] (spE (K w.params) F))
    (hF : ∀ ns : List Int, ns.length ≤ n → (∀ i ∈ ns, Builtin.Int.intBits i ≤ 2 ^ 20) → ∃ h', F [.scr ns] [.tab] = .ok (.bl true) h') :
    WalkO q loose XP YP l.row.toRowW d [] (fun f vs => PySem.call f vs) := by
  refine Att.attach_bits hn hdf fun w s₀ s₁ mg mb fa o pm cd doc a vs ns hbits G Y ho hd hcd' hmg hobj hints hlen hg => ?_
  have KX := hY w _ Y
  obtain ⟨fd, hb, hF'⟩ := Fn w mg fa _ KX G.T.g hmg
  obtain ⟨bm, ob, b1, b2, b3, b4, b5, b6⟩ := G.T.bmain
  obtain ⟨c, h1, h2⟩ := tab_of (htp w)
  exact law_callT KX G.T.g G.T.b G.T.builtins G.T.nolimit hg ⟨bm, ob, b1, b2, b3, b4, b5, b6⟩ hobj hints (Nat.le_trans hlen hn2) hr h1 h2 (hYT w _ Y) (hKT w) hF' hb (hF ns hlen hbits)
end LS


namespace LS
open PySem PySem.Spec PyProof.Rows L2
/-- what a mirror gives back, or what it refuses -/
noncomputable def We {α : Type} (o : Out α) (Q : α → HD → Prop) (R : Str → HD → Prop) : Prop := match o with
  | .ok a h => Q a h
  | .err (.str n _) _ h => R n h
  | _ => False
section
variable {α β : Type} {o : Out α} {Q Q' : α → HD → Prop} {R R' : Str → HD → Prop}
@[simp] theorem we_ok (a : α) (h : HD) : We (.ok a h) Q R = Q a h := rfl
@[simp] theorem we_err (n : Str) (t : Tok) (fs : List (Str × D)) (h : HD) : We (.err (.str n t) fs h : Out α) Q R = R n h := rfl
@[simp] theorem we_stuck : We .stuck Q R = False := rfl
theorem we_bind {k : α → HD → Out β} {Q : β → HD → Prop} : We (o.bind k) Q R = We o (fun a h => We (k a h) Q R) R := by
  cases o with
  | ok a h => rfl
  | err C fs h => cases C <;> rfl
  | stuck => rfl
theorem Wp.we (h : Wp o Q) : We o Q R := by
  cases o with
  | ok a h' => exact h
  | _ => exact h.elim
theorem We.mono (h : We o Q R) (f : ∀ a h, Q a h → Q' a h) (g : ∀ n h, R n h → R' n h) : We o Q' R' := by
  cases o with
  | ok a h' => exact f _ _ h
  | err C fs h' => cases C <;> first | exact g _ _ h | exact h.elim
  | stuck => exact h
theorem Pu.we {h : HD} {a : α} (p : Pu o h a) (k : ∀ h', Sm h h' → Q a h') : We o Q R := Wp.we (p.wp k)
end
/-- refused with this class, and nothing is changed -/
noncomputable def Er {α : Type} (o : Out α) (h : HD) (n : Str) : Prop := We o (fun _ _ => False) fun n' h' => n' = n ∧ Sm h h'
theorem Er.we {α : Type} {o : Out α} {h : HD} {n : Str} {Q : α → HD → Prop} {R : Str → HD → Prop} (e : Er o h n) (k : ∀ h', Sm h h' → R n h') : We o Q R := We.mono e (fun _ _ z => z.elim) fun n' h' z1_ => by obtain ⟨e, s⟩ := z1_; exact (e ▸ k h' s)
theorem we_body {N : Nat} {g : MS} {ds : List D} {h : HD} {Q : D → HD → Prop} {R : Str → HD → Prop} : We (mBody N g ds h) Q R = We (g (ds.map some ++ List.replicate (N - ds.length) none) h) (kBody Q) R := by
  unfold mBody
  cases o : g (ds.map some ++ List.replicate (N - ds.length) none) h with
  | ok a h1 =>
    obtain ⟨fl, ρ⟩ := a
    cases fl <;> rfl
  | err C fs h1 => cases C <;> rfl
  | stuck => rfl
section
variable {ρ : Rho} {h : HD} {Q : Fl × Rho → HD → Prop} {QD : D → HD → Prop} {QB : Bool → HD → Prop} {R : Str → HD → Prop} {g g1 g2 : MS} {f : ME} {t : MT} {fa : MA} {F : List D → HD → Out D}
noncomputable def kSeqE (g2 : MS) (Q : Fl × Rho → HD → Prop) (R : Str → HD → Prop) : Fl × Rho → HD → Prop
  | (.nx, ρ), h => We (g2 ρ h) Q R
  | y, h => Q y h
@[simp] theorem kSeqE_nx : kSeqE g2 Q R (.nx, ρ) h = We (g2 ρ h) Q R := rfl
@[simp] theorem kSeqE_rt {d : D} : kSeqE g2 Q R (.rt d, ρ) h = Q (.rt d, ρ) h := rfl
@[simp] theorem we_seq : We (mSeq g1 g2 ρ h) Q R = We (g1 ρ h) (kSeqE g2 Q R) R := by
  unfold mSeq
  rw [we_bind]
  congr 1
  funext x h1
  obtain ⟨fl, ρ1⟩ := x
  cases fl <;> rfl
@[simp] theorem we_skip : We (mSkip ρ h) Q R = Q (.nx, ρ) h := rfl
@[simp] theorem we_expr : We (mExpr f ρ h) Q R = We (f ρ h) (fun _ h1 => Q (.nx, ρ) h1) R := by unfold mExpr; rw [we_bind]; rfl
@[simp] theorem we_ret : We (mRet f ρ h) Q R = We (f ρ h) (fun d h1 => Q (.rt d, ρ) h1) R := by unfold mRet; rw [we_bind]; rfl
@[simp] theorem we_set {i : Nat} : We (mSet i f ρ h) Q R = We (f ρ h) (fun d h1 => Q (.nx, ρ.set i (some d)) h1) R := by unfold mSet; rw [we_bind]; rfl
@[simp] theorem we_ifS : We (mIfS t g1 g2 ρ h) Q R = We (t ρ h) (fun b h1 => We (if b = true then g1 ρ h1 else g2 ρ h1) Q R) R := by unfold mIfS; rw [we_bind]
@[simp] theorem we_call : We (mCall F fa ρ h) QD R = We (fa ρ h) (fun ds h1 => We (F ds h1) QD R) R := by unfold mCall; rw [we_bind]
@[simp] theorem we_raise {n : Str} : We (mRaise n fa ρ h) Q R = We (fa ρ h) (fun xs h1 => We (if xs.length ≤ sizeLine then (.err (clsV n) [] h1 : Out (Fl × Rho)) else .stuck) Q R) R := by unfold mRaise; rw [we_bind]
@[simp] theorem we_not : We (mNot t ρ h) QB R = We (t ρ h) (fun b h1 => QB (!b) h1) R := by unfold mNot; rw [we_bind]; rfl
@[simp] theorem we_and {u : MT} : We (mAnd t u ρ h) QB R = We (t ρ h) (fun b h1 => We (if b = true then u ρ h1 else .ok false h1) QB R) R := by unfold mAnd; rw [we_bind]
@[simp] theorem we_or {u : MT} : We (mOr t u ρ h) QB R = We (t ρ h) (fun b h1 => We (if b = true then .ok true h1 else u ρ h1) QB R) R := by unfold mOr; rw [we_bind]
@[simp] theorem we_tru : We (mTru f ρ h) QB R = We (f ρ h) (fun x h1 => We (truD x h1) QB R) R := by unfold mTru; rw [we_bind]
@[simp] theorem we_tb : We (mTb f ρ h) QB R = We (f ρ h) (fun x h1 => We (asB x h1) QB R) R := by unfold mTb; rw [we_bind]
@[simp] theorem we_nil {QA : List D → HD → Prop} : We (mNil ρ h) QA R = QA [] h := rfl
@[simp] theorem we_cons {QA : List D → HD → Prop} : We (mCons f fa ρ h) QA R = We (f ρ h) (fun x h1 => We (fa ρ h1) (fun xs h2 => QA (x :: xs) h2) R) R := by
  unfold mCons; simp only [we_bind]; rfl
@[simp] theorem we_var0 {d : D} {r : Rho} : We (mVar 0 (some d :: r) h) QD R = QD d h := rfl
@[simp] theorem we_varS {i : Nat} {x : Option D} {r : Rho} : We (mVar (i + 1) (x :: r) h) QD R = We (mVar i r h) QD R := rfl
@[simp] theorem we_c {d : D} : We (mC d ρ h) QD R = QD d h := rfl
@[simp] theorem we_op {op : D → D → HD → Out D} {f' : ME} : We (mOp op f f' ρ h) QD R = We (f ρ h) (fun x h1 => We (f' ρ h1) (fun y h2 => We (op x y h2) QD R) R) R := by unfold mOp; simp only [we_bind]
@[simp] theorem we_join {fj : MJ} : We (mJoin fj ρ h) QD R = We (fj Str.empty ρ h) (fun x h1 => QD (.str x) h1) R := by unfold mJoin; rw [we_bind]; rfl
end

theorem wp_said {cs : List Nat} {Fk : List D → HD → Out D} {f : ME} {ρ : Rho} {h : HD} {ds : List D} {Q : D → HD → Prop} (ht : h[0]? = some .tab) (hd : allSome (cs.map fun j => (ρ[j]?).join) = some ds)
    (q : We (f (ds.map some) h) (fun _ h1 => Q (.str "told") h1) fun n h1 => n ∈ excNames ∧ Wp (Fk [.exc n []] h1) Q) : Wp (mSaid cs Fk f ρ h) Q := by
  unfold mSaid
  rw [ht, hd]
  simp only
  unfold saidO
  cases o : f (ds.map some) h with
  | ok a h1 => rw [o] at q; exact q
  | stuck => rw [o] at q; exact q.elim
  | err C fs h1 =>
    rw [o] at q
    cases C with
    | str n t =>
      obtain ⟨hn, hk⟩ := (show n ∈ excNames ∧ Wp (Fk [.exc n []] h1) Q from q)
      simp only [hn, if_true]
      cases e : Fk [.exc n []] h1 with
      | ok d h2 => rw [e] at hk; exact hk
      | _ => rw [e] at hk; exact hk.elim
    | _ => exact q.elim

noncomputable def Rp (n L : Nat) (d : D) : Prop := ∃ p : PyData, (∀ (h : HD) (m : Nat), dPy h (n + m) d = some p) ∧ p.showable = true ∧ p.hasDict = false ∧ p.depth ≤ n ∧ p.shown.length ≤ L
theorem piled_le {L : Nat} : ∀ {ts : List Str}, (∀ t ∈ ts, t.length ≤ L) → piled ts ≤ ts.length * (L + 2)
  | [], _ => by simp [piled]
  | t :: ts, h => by
    have h1 := h t List.mem_cons_self
    have h2 := piled_le (fun x hx => h x (List.mem_cons_of_mem _ hx)) (ts := ts) (L := L)
    simp only [piled] at *
    simp [Nat.succ_mul]
    (first | lia | omega)
theorem shownAll_len : ∀ {ps : List PyData}, (PyData.shownAll ps).length = ps.length
  | [] => rfl
  | p :: ps => by simp [PyData.shownAll, shownAll_len (ps := ps)]
section
variable {h : HD} {i j : Int} {ds : List D} {a b : D} {l : Nat} {x y : Str}
@[simp] theorem ne_ss : neX (.str x) (.str y) h = .ok (.bl (!(x == y))) h := rfl
@[simp] theorem eq_ss : eqX (.str x) (.str y) h = .ok (.bl (x == y)) h := rfl
@[simp] theorem neX_ii : neX (.int i) (.int j) h = .ok (.bl (!(i == j))) h := rfl
@[simp] theorem eqX_ii : eqX (.int i) (.int j) h = .ok (.bl (i == j)) h := rfl
@[simp] theorem neX_bb {c d : Bool} : neX (.bl c) (.bl d) h = .ok (.bl (!(c == d))) h := rfl
@[simp] theorem eqX_bb {c d : Bool} : eqX (.bl c) (.bl d) h = .ok (.bl (c == d)) h := rfl
@[simp] theorem neX_tt {es : List D} : neX (.tup ds) (.tup es) h = neD (.tup ds) (.tup es) h := rfl
@[simp] theorem eqX_tt {es : List D} : eqX (.tup ds) (.tup es) h = eqD (.tup ds) (.tup es) h := rfl
@[simp] theorem mulX_ii : mulX (.int i) (.int j) h = mulD' (.int i) (.int j) h := rfl
@[simp] theorem mulX_l : mulX (.loc l) b h = mulD' (.loc l) b h := rfl
@[simp] theorem instX_i : instX (.int i) b h = instD (.int i) b h := rfl
@[simp] theorem instX_b {c : Bool} : instX (.bl c) b h = instD (.bl c) b h := rfl
@[simp] theorem instX_n : instX .non b h = instD .non b h := rfl
@[simp] theorem instX_s : instX (.str x) b h = instD (.str x) b h := rfl
@[simp] theorem instX_t : instX (.tup ds) b h = instD (.tup ds) b h := rfl
@[simp] theorem instX_l : instX (.loc l) b h = instD (.loc l) b h := rfl
@[simp] theorem inst_bi {c : Bool} : instD (.bl c) (.ty "int") h = .ok (.bl true) h := rfl
@[simp] theorem inst_bb {c : Bool} : instD (.bl c) (.ty "bool") h = .ok (.bl true) h := rfl
@[simp] theorem inst_bt {c : Bool} : instD (.bl c) (.ty "tuple") h = .ok (.bl false) h := rfl
@[simp] theorem inst_ni : instD .non (.ty "int") h = .ok (.bl false) h := rfl
@[simp] theorem inst_nt : instD .non (.ty "tuple") h = .ok (.bl false) h := rfl
@[simp] theorem inst_si : instD (.str x) (.ty "int") h = .ok (.bl false) h := rfl
@[simp] theorem inst_st : instD (.str x) (.ty "tuple") h = .ok (.bl false) h := rfl
theorem inst_li (e : h[l]? = some (.lst ds)) : instD (.loc l) (.ty "int") h = .ok (.bl false) h := by
  simp only [instD, tyD, e]; rfl
theorem inst_lt (e : h[l]? = some (.lst ds)) : instD (.loc l) (.ty "tuple") h = .ok (.bl false) h := by
  simp only [instD, tyD, e]; rfl
@[simp] theorem instX_di : instX .edic (.ty "int") h = .ok (.bl false) h := rfl
@[simp] theorem instX_dt : instX .edic (.ty "tuple") h = .ok (.bl false) h := rfl
theorem instX_exc {n n' : Str} {fs : List (Str × Int)} (h1 : n ∈ excNames) (h2 : n' ∈ excNames) : instX (.exc n fs) (.glo n') h = .ok (.bl (excSub n n')) h := if_pos ⟨h1, h2⟩
theorem instX_ve {n : Str} {fs : List (Str × Int)} (h1 : n ∈ excNames) : instX (.exc n fs) (.ty "ValueError") h = .ok (.bl true) h := if_pos ⟨h1, rfl⟩
@[simp] theorem setAll4 {ρ : Rho} {c d : D} {i j k l : Nat} : sNames [i, j, k, l] (.tup [a, b, c, d]) ρ = some ((((ρ.set i (some a)).set j (some b)).set k (some c)).set l (some d)) := rfl
theorem add_ss (hz : x.length + y.length ≤ 1000) : addD (.str x) (.str y) h = .ok (.str (x ++ y)) h := by
  simp only [addD]
  rw [if_pos (by unfold sizeLine; (first | lia | omega))]
theorem add_ll {xs ys : List D} {k : Nat} (e1 : h[l]? = some (.lst xs)) (e2 : h[k]? = some (.lst ys)) : addD (.loc l) (.loc k) h = newL (xs ++ ys) h := by simp only [addD, e1, e2]
theorem count_loc {vs : List V} {w : V} (e : h[l]? = some (.lst ds)) (e1 : allSome (ds.map flatD) = some vs) (e2 : flatD a = some w) : countLD (.loc l) a h = .ok (.int (countV w vs)) h := by
  simp only [countLD, isLst, e, Out.bind_ok, countD, itemsD, e1, e2]
theorem index_loc {vs : List V} {w : V} {j : Nat} (e : h[l]? = some (.lst ds)) (e1 : allSome (ds.map flatD) = some vs) (e2 : flatD a = some w) (e3 : idxV w vs = some j) : indexD (.loc l) a h = .ok (.int j) h := by
  simp only [indexD, e, e1, e2, e3]
@[simp] theorem wp_met1 {chk : D → HD → Out D} {op : D → D → HD → Out D} {f g : ME} {ρ : Rho} {Q : D → HD → Prop} : Wp (mMet1 chk op f g ρ h) Q = Wp (f ρ h) fun x h1 => Wp (chk x h1) fun x h2 => Wp (g ρ h2) fun y h3 => Wp (op x y h3) Q := by unfold mMet1; simp only [wp_bind]
@[simp] theorem sz6 : (6 ≤ sizeLine) = True := eq_true (by unfold sizeLine; (first | lia | omega))
@[simp] theorem sz7 : (7 ≤ sizeLine) = True := eq_true (by unfold sizeLine; (first | lia | omega))
@[simp] theorem sz8 : (8 ≤ sizeLine) = True := eq_true (by unfold sizeLine; (first | lia | omega))
@[simp] theorem sz9 : (9 ≤ sizeLine) = True := eq_true (by unfold sizeLine; (first | lia | omega))
@[simp] theorem sz10 : (10 ≤ sizeLine) = True := eq_true (by unfold sizeLine; (first | lia | omega))
end

section
variable {ρ : Rho} {h : HD} {Q : Str → HD → Prop} {R : Str → HD → Prop} {acc y : Str} {r : MJ} {f : ME} {n : Nat} {i : Int}
end
end LS


namespace LS
open PySem PySem.Spec PyProof.Rows L2 PySem.W
section
variable {X : Cx} {E : XK}
noncomputable def listOfD : D → HD → Out D := fun x h => match itemsD x h with
  | some ds => newL ds h
  | none => .stuck
theorem listOfM : CallM X (.type "list") (ar1 listOfD) := by
  refine ⟨_, call_list_of, fun m H h E ds vs Q hr r q => one_of r q fun d v ev rv q => ?_⟩
  unfold listOfD at q
  split at q
  · rename_i ds' e
    obtain ⟨p, ws, rfl, hs, dv⟩ := items_of hr rv e
    exact ⟨p, ws, ev, hs, (post_newL hr dv q).2⟩
  · exact q.elim
theorem ev_edic {pos : Pos} : Ev X E (.Dict [] [] pos) (mC .edic) := fun pins s σ H Q I z1_ => by
  obtain ⟨m, ρ, h, hr, er, p⟩ := z1_
  have hf : H s.heap.objs.size = none := I.hok.fresh (Nat.le_refl _)
  refine wpAny_Dict_empty ⟨.ref s.heap.objs.size, upd H s.heap.objs.size (.ext (DicIs s.heap.objs.size)), I.laid (t' := s.toks) (fun _ _ q => Heap.get?_push_of_some _ q) (Nat.le_refl _) ?_, rfl, ?_⟩
  · have ne : s.heap.objs.size ≠ sysModules := by
      obtain ⟨og, _, _, eg, _⟩ := I.ok.mod.glob
      obtain ⟨ml, ⟨ol, _, _, el, _⟩, _⟩ := I.loc
      have h1 : (3 : Nat) < X.base.objs.size := Heap.lt_size eg
      have h2 : (X.env.locals : Nat) < s.heap.objs.size := Heap.lt_size el
      have h3 : X.base.objs.size ≤ X.s₀.heap.objs.size := I.ok.bsz
      have h4 : X.s₀.heap.objs.size ≤ (X.env.locals : Nat) := I.ok.above
      have h5 : (1 : Nat) < s.heap.objs.size := Nat.lt_of_lt_of_le (Nat.lt_of_lt_of_le (show 1 < 4 by decide) h1) (Nat.le_trans h3 (Nat.le_trans h4 (Nat.le_of_lt h2)))
      exact fun z => Nat.ne_of_gt h5 z
    exact ⟨⟨ne, _, _, Heap.get?_push_size _ rfl, ⟨rfl, rfl, rfl⟩, rfl⟩, ⟨_, Heap.get?_push_size _ rfl⟩, fun h1 h2 z2_ k => by obtain ⟨ne, o, ep, z1, z2⟩ := z2_; exact (⟨ne, o, ep, k o z1, z2⟩)⟩
  · exact p (.ref s.heap.objs.size) m _ (List.prefix_refl _) (.new hf) (hr.new hf) (by simp only [rD, DV]; exact ⟨_, rfl, upd_same⟩)

noncomputable def mCallG (T : List (Str × (List D → HD → Out D))) (fv : ME) (fa : MA) : ME := fun ρ h => (fv ρ h).bind fun d h1 => match d with
  | .glo n => (match T.lookup n with
    | some F => (fa ρ h1).bind F
    | none => .stuck)
  | _ => .stuck
/-- each of these may be called -/
noncomputable def AllCa (P : Program) (w : World) (K : Frag) (mg : Str → Option Value) (base : Heap) (k : Nat) (T : List (Str × (List D → HD → Out D))) : Prop := ∀ n F, T.lookup n = some F → CaE P w K mg base n k F
theorem CaE.mono {P : Program} {w : World} {K : Frag} {mg : Str → Option Value} {base : Heap} {x : Str} {j k : Nat} {F : List D → HD → Out D} (C : CaE P w K mg base x j F) (h : j ≤ k) : CaE P w K mg base x k F := by
  obtain ⟨f, fd, ps, G, r⟩ := C.ex
  exact ⟨f, fd, ps, G.mono h, r⟩
end
noncomputable def tabOkC (K : Frag) (c : Addr) : Bool := match tabP K with
  | some (c', T) => c' == c && codeHdIn K c T
  | none => false
theorem tab_ofC {K : Frag} {c : Addr} (h : tabOkC K c = true) : ∃ T, tabP K = some (c, T) ∧ codeHdIn K c T = true := by
  unfold tabOkC at h
  split at h
  · rename_i c' T e
    rw [Bool.and_eq_true] at h
    obtain ⟨h1, h2⟩ := h
    have : c' = c := beq_iff_eq.mp h1
    subst this
    exact ⟨T, e, h2⟩
  · cases h
end LS


namespace LS
open PySem PySem.Spec PyProof.Rows L2 PySem.W
section
variable {prog : Program} {w : World} {A : Around} {E : Str → Value → Shared → Prop}
end
section
variable {X : Cx} {E : XK}
noncomputable def rSlWh (K : PySem.W.Frag) : V → Option Int → Option Int → Hp → VK → Prop := fun x lo hi H Q => ∃ a xs, x = .ref a ∧ SqT K H a xs ∧ HT.sIx xs.length 0 lo = 0 ∧ HT.sIx xs.length xs.length hi = xs.length ∧ Q (.ref a) H
theorem sl_whole : SlR X (rSlWh X.K) := by
  rintro pins s σ H x v vl vu lo hi sl Q I rx hs pl pu ⟨a, xs, rfl, hx, w0, w1, q⟩
  cases rx
  obtain ⟨its, r, ht, hz⟩ := I.tuple hx
  have hl : its.toArray.size = xs.length := by rw [List.size_toArray]; exact r.length.symm
  rw [← hl] at w0 w1
  obtain ⟨os, hos, hcs, hds⟩ := id hs
  refine ⟨"tuple", _, slot_tuple_getitem.lookup, ht.typeIs, ?_⟩
  unfold getItem
  try with_reducible refine wpAny_holding ?_
  first | refine wpAny_bind (wpAny_pure ?_) | skip
  refine wpAny_bind (wpAny_sequenceKey ht.typeIs (by decide) (wpAny_bind (wpAny_callSpecial?_slot (name := Str.ofString "__getitem__") ht.typeIs slot_tuple_getitem
    (wpAny_call_entry slot_tuple_getitem ht.typeIs entry_tuple_getitem ?_ (args_tuple_getitem _ _)))))
  show wpAny _ _ (Builtin.Tuple.tupleItemsOf (.ref a) >>= _) _ _ s
  refine wpAny_bind (tupleItemsOf_ ht (wpAny_bind (wpAny_typeOf (show s.TypeIs (.ref sl) "slice" from ⟨os, hos, hcs⟩) ?_)))
  rw [if_pos (by decide)]
  refine wpAny_bind (HT.sliceApplied_gen hs pl pu ?_)
  have hy : (((HT.sIx its.toArray.size 0 lo : Nat) : Int) == 0 && (1 : Int) == 1 && (HT.sIx its.toArray.size its.toArray.size hi - HT.sIx its.toArray.size 0 lo) == its.toArray.size) = true := by
    rw [w0, w1]
    simp
  show wpAny _ _ (if (((HT.sIx its.toArray.size 0 lo : Nat) : Int) == 0 && (1 : Int) == 1 && (HT.sIx its.toArray.size its.toArray.size hi - HT.sIx its.toArray.size 0 lo) == its.toArray.size) = true then _ else _) _ _ s
  rw [if_pos hy]
  unfold Builtin.Tuple.tupleIsExact
  refine wpAny_bind (wpAny_bind (wpAny_typeOf ht.typeIs (wpAny_pure ?_)))
  rw [if_pos (by decide)]
  refine wpAny_bind (wpAny_rule ?_)
  have fin : EP X pins σ Q (.ref a) s := ⟨.ref a, H, I, rfl, q⟩
  first
    | exact wpAny_pure ⟨_, rfl, wpAny_pure fin⟩
    | exact wpAny_pure fin
noncomputable def slX (x : D) (lo hi : Option Int) (h : HD) : Out D := match x with
  | .tup xs => .ok (.tup (cutD xs lo hi)) h
  | _ => .stuck
noncomputable def mSliceX (f : ME) (lo hi : MO) : ME := fun ρ h => (f ρ h).bind fun x h1 => (lo ρ h1).bind fun l h2 => (hi ρ h2).bind fun u h3 => slX x l u h3
theorem cut_whole {α : Type} {xs : List α} {lo hi : Option Int} (h0 : HT.sIx xs.length 0 lo = 0) (h1 : HT.sIx xs.length xs.length hi = xs.length) : (xs.drop (HT.sIx xs.length 0 lo)).take (HT.sIx xs.length xs.length hi - HT.sIx xs.length 0 lo) = xs := by
  rw [h0, h1]; simp
theorem ev_sliceX {e : Expr} {lo hi : Option Expr} {f : ME} {fl fh : MO} {p2 pos : Pos} (he : Ev X E e f) (hl : EvO X E lo fl) (hu : EvO X E hi fh) : Ev X E (.Subscript e (.Slice lo hi none p2) pos) (mSliceX f fl fh) :=
  pe_imp (pe_slice (sl_whole.or sl_tup) he hl hu) fun σ H Q ⟨m, ρ, h, hr, er, p⟩ => ⟨m, ρ, h, hr, er, Post.bind p fun x h1 v m1 H1 eo1 p1 k1 hr1 r1 q1 =>
    ⟨m1, ρ, h1, hr1, er.keep p1 k1, Post.bind q1 fun l h2 l' m2 H2 eo2 p2 k2 hr2 r2 q2 =>
      ⟨m2, ρ, h2, hr2, (er.keep p1 k1).keep p2 k2, Post.bind q2 fun u h3 u' m3 H3 eo3 p3 k3 hr3 r3 q3 => by
        clear eo1 eo2 eo3
        subst r2 r3
        have rx := DV.keep p3 k3 (DV.keep p2 k2 r1)
        unfold slX at q3
        split at q3
        · rename_i xs
          have rx0 := rx
          simp only [DV] at rx
          obtain ⟨a, vs, rfl, ha, dv⟩ := rx
          by_cases hz : HT.sIx xs.length 0 l = 0 ∧ HT.sIx xs.length xs.length u = xs.length
          · refine .inl ⟨a, vs, rfl, SqT.of ha, by rw [← dv.len]; exact hz.1, by rw [← dv.len]; exact hz.2, ?_⟩
            have e : cutD xs l u = xs := cut_whole hz.1 hz.2
            rw [e] at q3
            exact q3 (.ref a) m3 H3 (List.prefix_refl _) (.refl _) hr3 rx0
          · rw [dv.len] at hz
            exact .inr ⟨a, vs, rfl, SqT.of ha, hz, post_newT hr3 (dv.cut l u) q3⟩
        · exact q3.elim⟩⟩⟩
end
section
variable {f : ME} {lo hi : MO} {ρ : Rho} {h : HD} {Q : D → HD → Prop}
@[simp] theorem wp_sliceX : Wp (mSliceX f lo hi ρ h) Q = Wp (f ρ h) fun x h1 => Wp (lo ρ h1) fun l h2 => Wp (hi ρ h2) fun u h3 => Wp (slX x l u h3) Q := by unfold mSliceX; simp only [wp_bind]
end

section
variable {K : Frag} {mg : Str → Option Value} {h : Heap}
theorem len0 {us : List Value} (h : us.length = 0) : us = [] := List.length_eq_zero_iff.mp h
theorem len1 {us : List Value} (h : us.length = 1) : ∃ v0, us = [v0] := by
  cases us with
  | nil => cases h
  | cons v t =>
    obtain rfl := len0 (Nat.succ.inj h)
    exact ⟨v, rfl⟩
theorem len2 {us : List Value} (h : us.length = 2) : ∃ v0 v1, us = [v0, v1] := by
  cases us with
  | nil => cases h
  | cons v t =>
    obtain ⟨w0, rfl⟩ := len1 (Nat.succ.inj h)
    exact ⟨v, w0, rfl⟩
theorem len3 {us : List Value} (h : us.length = 3) : ∃ v0 v1 v2, us = [v0, v1, v2] := by
  cases us with
  | nil => cases h
  | cons v t =>
    obtain ⟨w0, w1, rfl⟩ := len2 (Nat.succ.inj h)
    exact ⟨v, w0, w1, rfl⟩
theorem dn1 {x p0 : Str} {st : Stmt} {f : Addr} {oc : Value} {od an : Option Addr} {osl : Array (Option Value)} {kV doc pm cdv ct : Value} (X : K.In h) (G : h.Ns mainGlobals mg) (l : K.lookup f = some ⟨oc, od, .func (fnOf x x (defArgs st) (defBody st) (defScope st) .none kV doc pm an cdv ct), osl⟩) (c : codeIn K cdv x = true) (k : keepIn K (.ref f) = true) (a : nsIn K mainGlobals x = some (some (.ref f)))
    (b : ∀ (kV doc pm : Value) (an : Option Addr) (cdv ct v0 : Value), bindArgs (fnOf x x (defArgs st) (defBody st) (defScope st) .none kV doc pm an cdv ct) ⟨[v0], []⟩ = pure (([p0] : List Str).zip [v0])) : Dn K mg x [p0] st f (fnOf x x (defArgs st) (defBody st) (defScope st) .none kV doc pm an cdv ct) :=
  ⟨fun_mk l c k, (fun_mk l c k).binds (fun kV doc pm an cdv ct us hl => by obtain ⟨v0, rfl⟩ := len1 hl; exact b kV doc pm an cdv ct v0), mg_of X G a⟩
theorem dn2 {x p0 p1 : Str} {st : Stmt} {f : Addr} {oc : Value} {od an : Option Addr} {osl : Array (Option Value)} {kV doc pm cdv ct : Value} (X : K.In h) (G : h.Ns mainGlobals mg) (l : K.lookup f = some ⟨oc, od, .func (fnOf x x (defArgs st) (defBody st) (defScope st) .none kV doc pm an cdv ct), osl⟩) (c : codeIn K cdv x = true) (k : keepIn K (.ref f) = true) (a : nsIn K mainGlobals x = some (some (.ref f)))
    (b : ∀ (kV doc pm : Value) (an : Option Addr) (cdv ct v0 v1 : Value), bindArgs (fnOf x x (defArgs st) (defBody st) (defScope st) .none kV doc pm an cdv ct) ⟨[v0, v1], []⟩ = pure (([p0, p1] : List Str).zip [v0, v1])) : Dn K mg x [p0, p1] st f (fnOf x x (defArgs st) (defBody st) (defScope st) .none kV doc pm an cdv ct) :=
  ⟨fun_mk l c k, (fun_mk l c k).binds (fun kV doc pm an cdv ct us hl => by obtain ⟨v0, v1, rfl⟩ := len2 hl; exact b kV doc pm an cdv ct v0 v1), mg_of X G a⟩
theorem dn3 {x p0 p1 p2 : Str} {st : Stmt} {f : Addr} {oc : Value} {od an : Option Addr} {osl : Array (Option Value)} {kV doc pm cdv ct : Value} (X : K.In h) (G : h.Ns mainGlobals mg) (l : K.lookup f = some ⟨oc, od, .func (fnOf x x (defArgs st) (defBody st) (defScope st) .none kV doc pm an cdv ct), osl⟩) (c : codeIn K cdv x = true) (k : keepIn K (.ref f) = true) (a : nsIn K mainGlobals x = some (some (.ref f)))
    (b : ∀ (kV doc pm : Value) (an : Option Addr) (cdv ct v0 v1 v2 : Value), bindArgs (fnOf x x (defArgs st) (defBody st) (defScope st) .none kV doc pm an cdv ct) ⟨[v0, v1, v2], []⟩ = pure (([p0, p1, p2] : List Str).zip [v0, v1, v2])) : Dn K mg x [p0, p1, p2] st f (fnOf x x (defArgs st) (defBody st) (defScope st) .none kV doc pm an cdv ct) :=
  ⟨fun_mk l c k, (fun_mk l c k).binds (fun kV doc pm an cdv ct us hl => by obtain ⟨v0, v1, v2, rfl⟩ := len3 hl; exact b kV doc pm an cdv ct v0 v1 v2), mg_of X G a⟩
theorem SaidD.of {st : Stmt} {f : Addr} {fd : FuncData} (d : Dn K mg "_law_said" ["_law_call"] st f fd) : SaidD K mg st f fd := ⟨d.fn, d.bd, d.mg⟩
end
end LS


namespace LS
open PySem PySem.Spec PyProof.Rows L2 PySem.W
open AutoSeq1 (wpAny_loadPart')
section
variable {prog : Program} {w : World} {A : Around} {E : Value → Shared → Prop} {s : Shared}
theorem collect_range {Q : List Value → Shared → Prop} {r : Addr} {a b c : Int} {t u v : Tok} {n : Nat} (hh : A.handled = none) (hr : IsRange s.heap r a b c t u v) (hsmall : Builtin.Range.small a b c = true)
    (hn : Builtin.Range.rangeSize a b c = n) (hlen : n ≤ 2 ^ 24)
    (hQ : ∀ h' tk acc, (∀ b o, s.heap.get? b = some o → h'.get? b = some o) → ItemsOf (fun i v => ∃ t, v = .int (a + i * c) t) acc n → Q acc.toList { s with heap := h', toks := tk }) :
    wpAny (model prog w) A (collect (.ref r)) Q E s := by
  unfold collect
  refine wpAny_bind (wpAny_runValue (codeAny_builtin F.entry_proto_collect ?_))
  rw [Around.under_plainId F.plain_proto_collect _]
  show wpAny _ A.in1 (newList [] >>= fun l => again (.builtin "list.__iadd__" ⟨[l, .ref r], []⟩)) _ _ s
  refine wpAny_bind (wpAny_newObj_type ?_)
  refine wpAny_pure ⟨plainId_quiet F.plain_list_iadd _, codeAny_builtin F.entry_list_iadd ?_⟩
  rw [Around.under_plainId F.plain_list_iadd _]
  have hS : (s.heap.push { cls := .type "list", data := .seq ([] : List Value).toArray }).get? s.heap.objs.size = some { cls := .type "list", data := .seq #[] } := Heap.get?_push_size _ rfl
  show wpAny _ A.in1 (Builtin.List.listExtendWith (.ref s.heap.objs.size) (.ref r) (.ref s.heap.objs.size)) _ _ _
  refine wpAny_mono (wpAny_extend_range (A := A) (s := { s with heap := s.heap.push { cls := .type "list", data := .seq ([] : List Value).toArray } })
    (R := fun res s' => ∃ h' tk acc c', (∀ b o, b ≠ s.heap.objs.size → (s.heap.push { cls := .type "list", data := .seq ([] : List Value).toArray }).get? b = some o → h'.get? b = some o) ∧
      h'.get? s.heap.objs.size = some { cls := .type "list", dict := none, data := .seq acc c', slots := #[] } ∧ ItemsOf (fun i v => ∃ t, v = .int (a + i * c) t) acc n ∧ res = .ok (.ret (.ref s.heap.objs.size)) ∧ s' = { s with heap := h', toks := tk })
    hh (Heap.get?_push_of_some _ hr) hsmall hn hlen _ (.ref s.heap.objs.size) 0 hS fun h' tk acc c' hk hS' hacc => ⟨h', tk, acc, c', hk, hS', hacc, rfl, rfl⟩) (fun fin s' hx => ?_) (fun e s' hx => ?_)
  · have fin_ok : ∀ {res : Result} {s' : Shared}, (∃ h' tk acc c', (∀ b o, b ≠ s.heap.objs.size → (s.heap.push { cls := .type "list", data := .seq ([] : List Value).toArray }).get? b = some o → h'.get? b = some o) ∧
        h'.get? s.heap.objs.size = some { cls := .type "list", dict := none, data := .seq acc c', slots := #[] } ∧ ItemsOf (fun i v => ∃ t, v = .int (a + i * c) t) acc n ∧ res = .ok (.ret (.ref s.heap.objs.size)) ∧ s' = { s with heap := h', toks := tk }) →
        res = .ok (.ret (.ref s.heap.objs.size)) ∧ wpAny (model prog w) A (load s.heap.objs.size >>= fun o => match o.data with | .seq xs _ => pure xs.toList | _ => unsupported "internal:collect") Q E s' := fun {res s'} hx => by
      obtain ⟨h', tk, acc, c', hk, hS', hacc, rfl, rfl⟩ := hx
      refine ⟨rfl, wpAny_bind (wpAny_load hS' ?_)⟩
      exact wpAny_pure (hQ h' tk acc (fun b o e => hk b o (Nat.ne_of_lt (Heap.lt_size e)) (Heap.get?_push_of_some _ e)) hacc)
    cases fin with
    | done f =>
      obtain ⟨e, q⟩ := fin_ok hx
      cases e
      exact q
    | again c' =>
      refine ⟨hx.1, codeAny_mono hx.2 fun res s'' hy => ?_⟩
      obtain ⟨e, q⟩ := fin_ok hy
      subst e
      exact q
  · obtain ⟨_, _, _, _, _, _, _, z, _⟩ := hx
    cases z
end
theorem meets_tuple_range (r : Addr) (a b c : Int) (t u v : Tok) (n : Nat) (hsmall : Builtin.Range.small a b c = true) (hn : Builtin.Range.rangeSize a b c = n) (hlen : n ≤ 2 ^ 24) :
    Meets (Builtin.«tuple.__new__» ⟨[.type "tuple", .ref r], []⟩)
      (fun A R s => A.handled = none ∧ IsRange s.heap r a b c t u v ∧ ∀ (h' : Heap) (tk : Tok) (acc : Array Value), (∀ b o, s.heap.get? b = some o → h'.get? b = some o) → ItemsOf (fun i v => ∃ t, v = .int (a + i * c) t) acc n →
        R (.ok (.ret (.ref h'.objs.size))) { s with heap := h'.push { cls := .type "tuple", data := .seq acc }, toks := tk }) :=
  .of_wp fun prog w A R s h => by
    obtain ⟨hh, hr, h⟩ := h
    have hsub := sub_tuple_self
    have hinit := init_tuple_lookup
    have hmh := madeHere_tuple
    have hT : s.TypeIs (.ref r) "range" := ⟨_, hr, rfl⟩
    have hh1 : A.in1.handled = none := hh
    wp_walk using wpAny_typeOf hT, collect_range hh1 hr hsmall hn hlen
    intro h' tk acc hk hacc
    show wpAny _ _ (Builtin.Tuple.tupleExact acc.toList.toArray >>= fun v => ret v) _ _ _
    unfold Builtin.Tuple.tupleExact
    refine wpAny_bind (wpAny_newObj_type ?_ (show acc.toList.toArray.size ≤ sizeLine by simp only [Array.toArray_toList]; rw [hacc.1, sizeLine_eq]; (first | lia | omega)))
    refine wpAny_pure ⟨_, rfl, ?_⟩
    have e : acc.toList.toArray = acc := by simp
    rw [e]
    exact h h' tk acc hk hacc
theorem call_tuple_range {prog : Program} {w : World} {A : Around} {E : Value → Shared → Prop} {s : Shared} {Q : Value → Shared → Prop} {r : Addr} {a b c : Int} {t u v : Tok} {n : Nat} (hh : A.handled = none) (hr : IsRange s.heap r a b c t u v) (hsmall : Builtin.Range.small a b c = true)
    (hn : Builtin.Range.rangeSize a b c = n) (hlen : n ≤ 2 ^ 24)
    (h : ∀ (h' : Heap) (tk : Nat) (acc : Array Value), (∀ b o, s.heap.get? b = some o → h'.get? b = some o) → ItemsOf (fun i v => ∃ t, v = .int (a + i * c) t) acc n → Q (.ref h'.objs.size) { s with heap := h'.push { cls := .type "tuple", data := .seq acc }, toks := tk }) :
    wpAny (model prog w) A (call (.type "tuple") [.ref r]) Q E s := by
  refine callType_new F.called_tuple (by decide) (F.typeCall_tuple_1 _) (F.newCall_tuple_1 _) (fun obj => F.args_object_init_2 obj _) F.entry_tuple_new
    (meets_tuple_range r a b c t u v n hsmall hn hlen) ⟨hh, hr, fun h' tk acc hk hacc => ⟨⟨_, Heap.get?_push_size _ rfl, rfl⟩, h h' tk acc hk hacc⟩⟩
/-- a range object, by its one object -/
noncomputable def RngIs (r : Addr) (n : Nat) (h : Heap) : Prop := ∃ t u v, IsRange h r 0 (n : Int) 1 t u v
theorem vals_items : ∀ (n k : Nat) (us : List Value), us.length = n → (∀ (j : Nat) (v : Value), us[j]? = some v → ∃ t, v = Value.int ((k : Int) + (j : Int)) t) → Vals ((List.range' k n).map fun i => V.int ((i : Nat) : Int)) us
  | 0, k, us, hl, h => by
    rw [List.length_eq_zero_iff.mp hl]
    exact .nil
  | n + 1, k, us, hl, h => by
    cases us with
    | nil => cases hl
    | cons u us =>
      rw [List.range'_succ, List.map_cons]
      refine .cons ?_ (vals_items n (k + 1) us (Nat.succ.inj hl) fun j v e => ?_)
      · obtain ⟨t, e⟩ := h 0 u rfl
        exact ⟨t, by rw [e]; simp⟩
      · obtain ⟨t, e⟩ := h (j + 1) v (by simpa using e)
        exact ⟨t, by rw [e]; congr 1; push_cast; (first | lia | omega)⟩
section
variable {X : Cx} {E : XK}
inductive rRng (vs : List V) (H : Hp) (Q : VK) : Prop where
  | mk (n : Nat) (e : vs = [.int (n : Int)]) (hn : n ≤ 1000) (q : ∀ p, H p = none → Q (.ref p) (upd H p (.ext (RngIs p n)))) : rRng vs H Q
inductive rTupR (vs : List V) (H : Hp) (Q : VK) : Prop where
  | mk (r : Addr) (n : Nat) (e : vs = [.ref r]) (hr : H r = some (.ext (RngIs r n))) (hn : n ≤ 1000) (q : ∀ p, H p = none → Q (.ref p) (upd H p (.tup ((List.range n).map fun i => V.int ((i : Nat) : Int))))) : rTupR vs H Q
theorem call_rng : CallR X (.type "range") rRng := by
  intro pins s σ H vs us Q I r h
  obtain ⟨n, rfl, hn, q⟩ := h
  obtain ⟨u, rfl, t, rfl⟩ := Vals.one r
  refine call_range_1 ?_
  have hf : H s.heap.objs.size = none := I.hok.fresh (Nat.le_refl _)
  refine ⟨.ref s.heap.objs.size, upd H s.heap.objs.size (.ext (RngIs s.heap.objs.size n)), I.laid (fun b o e => Heap.get?_push_of_some _ e) (Nat.le_refl _) ?_, rfl, q _ hf⟩
  exact ⟨⟨_, _, _, Heap.get?_push_size _ rfl⟩, ⟨_, Heap.get?_push_size _ rfl⟩, fun h1 h2 z k => by obtain ⟨t, u, v, e⟩ := z; exact ⟨t, u, v, k _ e⟩⟩
theorem call_tupr (hc : X.calm = true) : CallR X (.type "tuple") rTupR := by
  intro pins s σ H vs us Q I r h
  obtain ⟨a, n, rfl, hr, hn, q⟩ := h
  obtain ⟨u, rfl, ru⟩ := Vals.one r
  cases (show u = Value.ref a from ru)
  obtain ⟨⟨t, u, v, ho⟩, _⟩ := (show ObjOk X.prog X.w H s.heap a (.ext (RngIs a n)) from I.hok a _ hr)
  refine call_tuple_range (n := n) (I.ok.hd hc) ho (small_one (by (first | lia | omega)) (by (first | lia | omega)) (by (first | lia | omega)) (by (first | lia | omega))) ?_ (by (first | lia | omega)) fun h' tk acc hk hacc => ?_
  · unfold Builtin.Range.rangeSize
    rw [if_pos (by decide)]
    by_cases h0 : (0 : Int) < (n : Int)
    · rw [if_pos h0, Int.ediv_one]; (first | lia | omega)
    · rw [if_neg h0]; (first | lia | omega)
  have I1 : Inv X pins σ H { s with heap := h', toks := tk } := I.kept hk
  have hf : H h'.objs.size = none := I1.hok.fresh (Nat.le_refl _)
  refine ⟨.ref h'.objs.size, upd H h'.objs.size (.tup ((List.range n).map fun i => V.int ((i : Nat) : Int))), I1.laid (t' := tk) (fun b o e => Heap.get?_push_of_some _ e) (Nat.le_refl _) ?_, rfl, q _ hf⟩
  have hv : Vals ((List.range n).map fun i => V.int ((i : Nat) : Int)) acc.toList := by
    rw [List.range_eq_range']
    refine vals_items n 0 acc.toList (by rw [Array.length_toList]; exact hacc.1) fun j v e => ?_
    obtain ⟨t, e'⟩ := hacc.2 j v (by simpa using e)
    exact ⟨t, by rw [e']; congr 1; simp⟩
  exact ⟨by simp; rw [sizeLine_eq]; (first | lia | omega), acc.toList, hv, ⟨_, Heap.get?_push_size _ rfl, rfl, 0, by simp⟩, NoDict.new⟩
theorem dvs_ints {K : Frag} {m : List Addr} {H : Hp} : ∀ l : List Nat, DVs K m H (l.map fun k => D.int ((k : Nat) : Int)) (l.map fun k => V.int ((k : Nat) : Int))
  | [] => .nil
  | a :: l => .cons (by simp only [DV]) (dvs_ints l)
noncomputable def tupR : D → HD → Out D := fun d h => match d with
  | .int i => @ite _ (0 ≤ i ∧ i ≤ 1000) (Classical.propDecidable _) (.ok (.tup ((List.range i.toNat).map fun k => D.int ((k : Nat) : Int))) h) .stuck
  | _ => .stuck
noncomputable def mTupR (f : ME) : ME := fun ρ h => (f ρ h).bind tupR
theorem ev_tupR {e : Expr} {f : ME} {p q pos pos' : Pos} (hc : X.calm = true) (hg1 : Gl X "tuple") (hm1 : X.mg "tuple" = none) (hg2 : Gl X "range") (hm2 : X.mg "range" = none) (hv1 : bootBuiltins "tuple" = some (.type "tuple")) (he : Ev X E e f)
    (h1 : starEach [e] X.env = (false, eval e X.env) :: starEach [] X.env := by rfl) (h2 : (backTo pos' (starEach [] X.env)).any (·.1) = false := by rfl)
    (h3 : starEach [.Call (.Name "range" q) [e] [] pos'] X.env = (false, eval (.Call (.Name "range" q) [e] [] pos') X.env) :: starEach [] X.env := by rfl) (h4 : (backTo pos (starEach [] X.env)).any (·.1) = false := by rfl) :
    Ev X E (.Call (.Name "tuple" p) [.Call (.Name "range" q) [e] [] pos'] [] pos) (mTupR f) := by
  refine pe_imp (pe_callTy (call_tupr hc) hg1 hm1 hv1 (pa_cons (pe_callTy call_rng hg2 hm2 boot_range (pa_cons he pa_nil h1) (by decide) (by decide) h1 h2) pa_nil h3) (by decide) (by decide) h3 h4) fun σ H Q z => ?_
  obtain ⟨m, ρ, h, hr, er, pp⟩ := z
  refine ⟨m, ρ, h, hr, er, Post.bind pp fun d h1 v m1 H1 eo p1 k1 hr1 r1 q1 => ?_⟩
  unfold tupR at q1
  split at q1
  · rename_i i
    split at q1
    · rename_i hi
      simp only [rD, DV] at r1
      obtain ⟨n, rfl⟩ : ∃ n : Nat, i = (n : Int) := ⟨i.toNat, by (first | lia | omega)⟩
      subst r1
      refine ⟨n, rfl, by (first | lia | omega), fun a ha => ⟨a, n, rfl, upd_same, by (first | lia | omega), ?_⟩⟩
      exact post_newT (X := X) (E := E) (H := upd H1 a (.ext (RngIs a n))) (hr1.new ha) (dvs_ints (List.range n)) (Post.ahead (List.prefix_refl _) (.new ha) (by simpa using q1))
    · exact q1.elim
  · exact q1.elim
theorem wp_tupR {f : ME} {ρ : Rho} {h : HD} {Q : D → HD → Prop} : Wp (mTupR f ρ h) Q = Wp (f ρ h) fun d h1 => Wp (tupR d h1) Q := by unfold mTupR; rw [wp_bind]
theorem tupR_ok {n : Nat} {h : HD} (hn : n ≤ 1000) : tupR (.int (n : Int)) h = .ok (.tup ((List.range n).map fun k => D.int ((k : Nat) : Int))) h := by
  show @ite _ (0 ≤ (n : Int) ∧ (n : Int) ≤ 1000) (Classical.propDecidable _) (Out.ok (D.tup ((List.range (n : Int).toNat).map fun k => D.int ((k : Nat) : Int))) h) Out.stuck = _
  rw [if_pos ⟨by (first | lia | omega), by (first | lia | omega)⟩]
  simp
end
end LS


namespace LS
open PySem PySem.Spec PyProof.Rows L2 PySem.W
section
variable {X : Cx} {E : XK}
noncomputable def isTupX : D → HD → Out D := fun x h => match x with
  | .tup _ => .ok x h
  | _ => .stuck
noncomputable def countTD : D → D → HD → Out D := fun x y h => (isTupX x h).bind fun _ _ => countD x y h
mutual
noncomputable def noLst : PyData → Bool
  | .list _ => false
  | .tuple xs => noLsts xs
  | _ => true
noncomputable def noLsts : List PyData → Bool
  | [] => true
  | x :: xs => noLst x && noLsts xs
end
noncomputable def dPyX (h : HD) : Nat → D → Option PyData
  | _, .non => some .none
  | _, .bl b => some (.bool b)
  | _, .int i => some (.int i)
  | _, .str x => some (.str x)
  | _, .edic => some (.dict [])
  | n + 1, .tup ds => (allSome (ds.map (dPyX h n))).map .tuple
  | n + 1, .loc l => match h[l]? with
    | some (.lst ds) => (allSome (ds.map (dPyX h n))).map .list
    | _ => none
  | _, _ => none
inductive RdX (h : Heap) (u : Value) (p : PyData) : Prop where
  | mk (as : List Addr) (f1 : Reads h u p as) (f2 : noLst p = true → sysModules ∉ as) : RdX h u p
inductive RdXs (h : Heap) (us : List Value) (ps : List PyData) : Prop where
  | mk (as : List Addr) (f1 : ReadsAll h us ps as) (f2 : noLsts ps = true → sysModules ∉ as) : RdXs h us ps
variable {pins : List (Addr × Obj)} {σ : L2.St} {H : Hp} {s : Shared} {m : List Addr} {h : HD}
theorem readsX_all {n : Nat} (ih : ∀ (d : D) (v : V) (u : Value) (p : PyData), DV X.K m H d v → RelV v u → dPyX h n d = some p → RdX s.heap u p) :
    ∀ (ds : List D) (vs : List V) (us : List Value) (ps : List PyData), DVs X.K m H ds vs → Vals vs us → allSome (ds.map (dPyX h n)) = some ps → RdXs s.heap us ps
  | [], vs, us, ps, r, q, e => by
    simp only [DVs] at r
    subst r
    cases q
    simp [allSome] at e
    subst e
    exact ⟨[], .nil, fun _ => List.not_mem_nil⟩
  | d :: ds, vs, us, ps, r, q, e => by
    simp only [DVs] at r
    obtain ⟨v, w, rfl, rv, rw'⟩ := r
    cases q with
    | cons q1 q2 =>
      rw [List.map_cons] at e
      cases ed : dPyX h n d with
      | none => rw [ed] at e; simp [allSome] at e
      | some p =>
        rw [ed] at e
        simp only [allSome, Option.map_eq_some_iff] at e
        obtain ⟨ps', e1, rfl⟩ := e
        obtain ⟨as, h1, g1⟩ := ih d v _ p rv q1 ed
        obtain ⟨bs, h2, g2⟩ := readsX_all ih ds w _ ps' rw' q2 e1
        refine ⟨as ++ bs, .cons h1 h2, fun z hm => ?_⟩
        rw [noLsts, Bool.and_eq_true] at z
        rcases List.mem_append.mp hm with y | y
        · exact g1 z.1 y
        · exact g2 z.2 y
theorem readsX_of (hok : HOk X.prog X.w H s.heap) (hr : HR X.K m h H) : ∀ (n : Nat) (d : D) (v : V) (u : Value) (p : PyData), DV X.K m H d v → RelV v u → dPyX h n d = some p → RdX s.heap u p := by
  have flat : ∀ (n : Nat) (d : D) (v : V) (u : Value) (p : PyData), (∀ ds, d ≠ .tup ds) → (∀ l, d ≠ .loc l) → DV X.K m H d v → RelV v u → dPyX h n d = some p → RdX s.heap u p := by
    intro n d v u p ht hl r q e
    have n0 : sysModules ∉ ([] : List Addr) := List.not_mem_nil
    cases d with
    | non => simp only [DV] at r; subst r; cases q; cases (show PyData.none = p by cases n <;> exact Option.some.inj e); exact ⟨[], .none, fun _ => n0⟩
    | bl b => simp only [DV] at r; subst r; cases q; cases (show PyData.bool b = p by cases n <;> exact Option.some.inj e); exact ⟨[], .bool _, fun _ => n0⟩
    | int i => simp only [DV] at r; subst r; obtain ⟨t, rfl⟩ := q; cases (show PyData.int i = p by cases n <;> exact Option.some.inj e); exact ⟨[], .int _ _, fun _ => n0⟩
    | str x => simp only [DV] at r; subst r; obtain ⟨t, rfl⟩ := q; cases (show PyData.str x = p by cases n <;> exact Option.some.inj e); exact ⟨[], .str _ _, fun _ => n0⟩
    | edic =>
      simp only [DV] at r
      obtain ⟨a, rfl, ha⟩ := r
      cases (show u = Value.ref a from q)
      cases (show PyData.dict [] = p by cases n <;> exact Option.some.inj e)
      obtain ⟨⟨ne, o, ep, ho, hx, hd⟩, _⟩ := (show ObjOk X.prog X.w H s.heap a (.ext (DicIs a)) from hok a _ ha)
      refine ⟨_, .dict ho hx.1 hd .nil .nil, fun _ z => ?_⟩
      exact ne (List.mem_singleton.mp z).symm
    | tup ds => exact absurd rfl (ht ds)
    | loc l => exact absurd rfl (hl l)
    | _ => cases n <;> exact nomatch (show (none : Option PyData) = some p from e)
  intro n
  induction n with
  | zero =>
    intro d v u p r q e
    cases d with
    | tup ds => exact nomatch (show (none : Option PyData) = some p from e)
    | loc l => exact nomatch (show (none : Option PyData) = some p from e)
    | _ => exact flat 0 _ v u p (by intro _ z; cases z) (by intro _ z; cases z) r q e
  | succ n ih =>
    intro d v u p r q e
    cases d with
    | tup ds =>
      change (allSome (ds.map (dPyX h n))).map PyData.tuple = some p at e
      simp only [DV, Option.map_eq_some_iff] at e r
      obtain ⟨a, vs, rfl, ha, dv⟩ := r
      obtain ⟨ps, e1, rfl⟩ := e
      cases (show u = Value.ref a from q)
      obtain ⟨_, its, rv, ⟨o, ho, hc, k, hd⟩, _⟩ := hok a _ ha
      obtain ⟨as, h1, g1⟩ := readsX_all ih ds vs its ps dv rv e1
      exact ⟨as, .tuple ho hc hd (by simpa using h1), fun z => g1 z⟩
    | loc l =>
      simp only [DV] at r
      obtain ⟨a, rfl, ha⟩ := r
      cases (show u = Value.ref a from q)
      change (match h[l]? with
        | some (.lst ds) => (allSome (ds.map (dPyX h n))).map PyData.list
        | _ => none) = some p at e
      split at e
      · rename_i ds el
        simp only [Option.map_eq_some_iff] at e
        obtain ⟨ps, e1, rfl⟩ := e
        obtain ⟨vs, hv, dv⟩ := hr.cells l _ a el ha
        obtain ⟨_, its, k, rv, ho⟩ := hok a _ hv
        obtain ⟨as, h1, _⟩ := readsX_all ih ds vs its ps dv rv e1
        exact ⟨_, .list ho rfl rfl (by simpa using h1), fun z => nomatch (show false = true from z)⟩
      · cases e
    | _ => exact flat (n + 1) _ v u p (by intro _ z; cases z) (by intro _ z; cases z) r q e
noncomputable def reprX : D → HD → Out D := fun x h => match dPyX h 8 x with
  | some p => if p.showable = true ∧ (p.hasDict = false ∨ noLst p = true) ∧ p.depth ≤ 40 ∧ p.shown.length ≤ sizeLine then .ok (.str p.shown) h else .stuck
  | none => .stuck
theorem reprXM (hu : X.A.units + 64 < cLine) (hg : X.A.guards = some []) : CallM X (.builtin "repr") (ar1 reprX) := by
  refine callM_of (fun ds h => ?_) fun pins s σ H m h ds vs us Q I hr rd r q => one_of rd q fun x v ev rx q => ?_
  · unfold ar1 reprX
    repeat' split
    all_goals trivial
  · subst ev
    obtain ⟨u, rfl, ru⟩ := vals1 r
    unfold reprX at q
    split at q
    · rename_i p e
      split at q
      · rename_i hc
        obtain ⟨h1, h2, h3, h4⟩ := hc
        obtain ⟨as, hd, g⟩ := readsX_of I.hok hr 8 x v u p rx ru e
        have hs : p.hasDict = true → sysModules ∉ as := fun z => by
          rcases h2 with h2 | h2
          · rw [h2] at z; cases z
          · exact g h2
        have fin : ∀ (h' : Heap) (t tk : Tok), (∀ b o, s.heap.get? b = some o → h'.get? b = some o) → EP X pins σ Q (.str p.shown t) { s with heap := h', toks := tk } := fun h' t tk hk => ⟨.str p.shown, H, I.kept hk, ⟨t, rfl⟩, okq hr q (by simp [DV])⟩
        cases hd with
        | list a1 a2 a3 a4 => exact repr_of_reads' (.list a1 a2 a3 a4) h1 hs hg (by (first | lia | omega)) (fun _ _ e => e) fin h4
        | tuple a1 a2 a3 a4 => exact repr_of_reads' (.tuple a1 a2 a3 a4) h1 hs hg (by (first | lia | omega)) (fun _ _ e => e) fin h4
        | dict a1 a2 a3 a4 a5 => exact repr_of_reads' (.dict a1 a2 a3 a4 a5) h1 hs hg (by (first | lia | omega)) (fun _ _ e => e) fin h4
        | int i t =>
          have h1' : i.natAbs.log2 < 1920 := by simpa [PyData.showable] using h1
          exact PySem.P.repr_of_int h1' (fin s.heap _ _ fun _ _ e => e)
        | none => exact PySem.P.repr_of_none (fin s.heap _ _ fun _ _ e => e)
        | bool b => exact PySem.P.repr_of_bool (fin s.heap _ _ fun _ _ e => e)
        | str x t => exact PySem.P.repr_of_str (fin s.heap _ _ fun _ _ e => e) (by simpa [PyData.shown] using h4)
      · exact q.elim
    · exact q.elim
end
end LS

namespace HT
open PySem PyProof.Rows
noncomputable def lexLe : List Int → List Int → Bool
  | [], [] => true
  | [], _ :: _ => true
  | _ :: _, [] => false
  | x :: xs, y :: ys => if x = y then lexLe xs ys else decide (x ≤ y)
theorem lexLe_cons (x y : Int) (xs ys : List Int) : lexLe (x :: xs) (y :: ys) = if x = y then lexLe xs ys else decide (x ≤ y) := rfl
theorem lexLe_nil_nil : lexLe [] [] = true := rfl
theorem lexLe_nil_cons (y : Int) (ys : List Int) : lexLe [] (y :: ys) = true := rfl
theorem lexLe_cons_nil (x : Int) (xs : List Int) : lexLe (x :: xs) [] = false := rfl

theorem rcLe_int (A : Around) (s : Shared) (a : Int) (t : Tok) (c : Int) (u : Tok) (prog : Program) (w : World) (E : Value → Shared → Prop) (Q : Value → Shared → Prop) (h : Q (.bool (decide (a ≤ c))) s) :
    wpAny (model prog w) A (richCompare .LtE (.int a t) (.int c u)) Q E s :=
  (PyProof.Rows.le_int h : wpAny (model prog w) A (compareOp .LtE (.int a t) (.int c u)) Q E s)

section
open PySem.SeqAt
open PySem.AutoSeq1 (wpAny_loadPart')
open PySem.MeetsSeq PySem.MeetsSeq2 PySem.MeetsSeq3

theorem tuple_le_ints (l b : Addr) (items items2 : Array Value) (n n2 : Nat) (dd dd2 : Option Addr) (sl sl2 : Array (Option Value)) (ns ms : List Int) (hi : IntsAre items.toList ns) (hj : IntsAre items2.toList ms) :
    Meets (Builtin.«tuple.__le__» ⟨[.ref l, .ref b], []⟩)
      (fun _ R s => s.heap.get? l = some { cls := .type "tuple", dict := dd, data := .seq items n, slots := sl } ∧ s.heap.get? b = some { cls := .type "tuple", dict := dd2, data := .seq items2 n2, slots := sl2 } ∧
        R (.ok (.ret (.bool (lexLe ns ms)))) s) :=
  .of_wp fun prog w A R s h => by
    obtain ⟨hp, g, d, tk, os⟩ := s; obtain ⟨hl, hb, h⟩ := h
    have f2 := AutoSeq1.sub_tuple_tuple
    have z1 : items.size = ns.length := by rw [← hi.length]; simp
    have z2 : items2.size = ms.length := by rw [← hj.length]; simp
    wp_walk using wpAny_loadPart' hl, wpAny_loadPart' hb, wpAny_forIn_list _ (fun rest b s' => b.1 = none ∧ s' = ⟨hp, g, d, tk, os⟩ ∧ ∃ (vs ws : List Value) (ns' ms' : List Int), rest = vs.zip ws ∧
      IntsAre vs ns' ∧ IntsAre ws ms' ∧ ns'.length + items2.size = ms'.length + items.size ∧ R (.ok (.ret (.bool (lexLe ns' ms')))) ⟨hp, g, d, tk, os⟩) _
    case turn =>
      rintro ⟨y, x⟩ rest b s' ⟨hb', rfl, vs, ws, ns', ms', hz, hvi, hwi, hlen, hR⟩
      cases hvi with
      | nil => rw [List.zip_nil_left] at hz; cases hz
      | cons a t hvi' =>
        cases hwi with
        | nil => rw [List.zip_nil_right] at hz; cases hz
        | cons c u hwi' =>
          rw [List.zip_cons_cons] at hz
          injection hz with hyx hrest
          injection hyx with hy hx
          subst hy hx
          rw [lexLe_cons] at hR
          simp only [List.length_cons] at hlen
          obtain ⟨e, he, hiff⟩ := eqAt_int A.in1 ⟨hp, g, d, tk, os⟩ a t c u
          refine wpAny_bind (he prog w _ _ ?_)
          cases e with
          | true =>
            rw [if_pos (hiff.mp rfl)] at hR
            wp_walk
            exact ⟨rfl, rfl, _, _, _, _, hrest, hvi', hwi', by (first | lia | omega), hR⟩
          | false =>
            rw [if_neg (fun q => absurd (hiff.mpr q) Bool.false_ne_true)] at hR
            have hri := rcLe_int A.in1 ⟨hp, g, d, tk, os⟩ a t c u prog w
            wp_walk using hri
            exact ⟨_, rfl, by simpa using hR⟩
    case fin =>
      rintro ⟨b1, b2⟩ s' ⟨hb', rfl, vs, ws, ns', ms', hz, hvi, hwi, hlen, hR⟩
      simp only at hb'
      subst hb'
      have hv : lexLe ns' ms' = decide (items.size ≤ items2.size) := by
        cases hvi with
        | nil =>
          cases hwi with
          | nil =>
            simp only [List.length_nil] at hlen
            rw [lexLe_nil_nil]
            exact (decide_eq_true (by (first | lia | omega))).symm
          | cons c u hw =>
            simp only [List.length_nil, List.length_cons] at hlen
            rw [lexLe_nil_cons]
            exact (decide_eq_true (by (first | lia | omega))).symm
        | cons a t hv =>
          cases hwi with
          | nil =>
            simp only [List.length_nil, List.length_cons] at hlen
            rw [lexLe_cons_nil]
            exact (decide_eq_false (by (first | lia | omega))).symm
          | cons c u hw =>
            rw [List.zip_cons_cons] at hz
            cases hz
      rw [hv] at hR
      wp_walk
      exact ⟨_, rfl, by simpa [Builtin.Tuple.tupleCompareSizes] using hR⟩
    case h =>
      exact ⟨rfl, rfl, items.toList, items2.toList, ns, ms, rfl, hi, hj, by (first | lia | omega), h⟩
end

section
variable {prog : Program} {w : World} {A : Around} {E : Value → Shared → Prop} {s : Shared}

theorem le_tupInts {l b : Addr} {items items2 : Array Value} {ns ms : List Int} {Q : Value → Shared → Prop} (hl : IsTup s.heap l items) (hb : IsTup s.heap b items2) (hi : IntsAre items.toList ns) (hj : IntsAre items2.toList ms)
    (hu : A.units < cLine) (h : Q (.bool (lexLe ns ms)) s) : wpAny (model prog w) A (compareOp .LtE (.ref l) (.ref b)) Q E s := by
  obtain ⟨⟨cls, dd, data, sl⟩, ho, hc, n, hd⟩ := id hl
  obtain ⟨⟨cls2, dd2, data2, sl2⟩, ho2, hc2, n2, hd2⟩ := id hb
  simp only at hc hd hc2 hd2
  subst hc hd hc2 hd2
  exact richCompare_meets_room (op := .LtE) ⟨_, ho, rfl⟩ ⟨_, ho2, rfl⟩ PySem.F.slot_tuple_le PySem.F.entry_tuple_le (PySem.F.args_tuple_le_2 _ _) (tuple_le_ints l b items items2 n n2 dd dd2 sl sl2 ns ms hi hj)
    ⟨ho, ho2, show Value.bool (lexLe ns ms) ≠ Value.notImplemented ∧ Q (.bool (lexLe ns ms)) s from ⟨(fun x => nomatch x), h⟩⟩ hu

end
end HT
namespace L2
open PySem PySem.Spec PyProof.Rows
section
variable {X : Cx}
noncomputable def rLeT (K : PySem.W.Frag) : R2 := fun x y H Q => ∃ a b ns ms, x = .ref a ∧ y = .ref b ∧ SqT K H a (ns.map V.int) ∧ SqT K H b (ms.map V.int) ∧ Q (.bl (HT.lexLe ns ms)) H
theorem op_leT (hu : X.A.units < cLine) : OpR X (compareOp .LtE) (rLeT X.K) := by
  intro pins s σ H x y v u Q I rx ry h
  obtain ⟨a, b, ns, ms, rfl, rfl, ha, hb, q⟩ := h
  cases rx
  cases ry
  obtain ⟨its, r1, p1, _⟩ := I.tuple ha
  obtain ⟨its2, r2, p2, _⟩ := I.tuple hb
  have i1 : IntsAre its.toArray.toList ns := intsAre_of r1
  have i2 : IntsAre its2.toArray.toList ms := intsAre_of r2
  exact HT.le_tupInts p1 p2 i1 i2 hu ⟨.bl (HT.lexLe ns ms), H, I, rfl, q⟩
end
end L2


namespace LS
open PySem PySem.Spec PyProof.Rows L2
theorem gokc_three {K : PySem.W.Frag} {cs : List (Option Nat)} {i j k : Nat} (h : cs[i]? = some none) (h' : cs[j]? = some none) (h2 : cs[k]? = some none) : GOkC K cs (gTup K [i, j, k].length (gNames [i, j, k])) (sNames [i, j, k]) := fun m H d v ρ σ0 ρ' Q r er e q => by
  unfold sNames at e
  split at e
  · rename_i ds
    match ds, e with
    | [a, b, c], e =>
      cases e
      simp only [DV, DVs] at r
      obtain ⟨p, vs, rfl, hp, v1, w1, rfl, r1, v2, w2, rfl, r2, v3, w3, rfl, r3, rfl⟩ := r
      exact ⟨p, _, rfl, SqT.of hp, rfl, v1, _, rfl, v2, _, rfl, v3, _, rfl, rfl, q _ ((((Sub.refl _).set h).set h').set h2) (((er.set r1).set r2).set r3)⟩
  · cases e
section
variable {X : Cx} {E : XK}
noncomputable def intsT : D → Option (List Int)
  | .tup ds => allSome (ds.map asInt)
  | _ => none
theorem intsT_of {m : List Addr} {H : Hp} {d : D} {v : V} {ns : List Int} (r : DV X.K m H d v) (e : intsT d = some ns) : ∃ a, v = .ref a ∧ SqT X.K H a (ns.map V.int) := by
  cases d with
  | tup ds =>
    simp only [DV] at r
    obtain ⟨a, vs, rfl, ha, dv⟩ := r
    have := ints_back dv e
    subst this
    exact ⟨a, rfl, SqT.of ha⟩
  | _ => exact nomatch (show (none : Option (List Int)) = some ns from e)
noncomputable def cmpT (f : List Int → List Int → Bool) : D → D → HD → Out D := fun x y h => match intsT x, intsT y with
  | some ns, some ms => .ok (.bl (f ns ms)) h
  | _, _ => .stuck
theorem ltTM (hu : X.A.units + 64 < cLine) : OpM X (compareOp .Lt) (cmpT HT.lexLt) := ⟨_, op_ltT (by (first | lia | omega)), fun m H h E x y v u Q hr rx ry q => by
  unfold cmpT at q
  split at q
  · rename_i ns ms e1 e2
    obtain ⟨a, rfl, ha⟩ := intsT_of rx e1
    obtain ⟨b, rfl, hb⟩ := intsT_of ry e2
    exact ⟨a, b, ns, ms, rfl, rfl, ha, hb, okq hr q (by simp [DV])⟩
  · exact q.elim⟩
theorem leTM (hu : X.A.units + 64 < cLine) : OpM X (compareOp .LtE) (cmpT HT.lexLe) := ⟨_, op_leT (by (first | lia | omega)), fun m H h E x y v u Q hr rx ry q => by
  unfold cmpT at q
  split at q
  · rename_i ns ms e1 e2
    obtain ⟨a, rfl, ha⟩ := intsT_of rx e1
    obtain ⟨b, rfl, hb⟩ := intsT_of ry e2
    exact ⟨a, b, ns, ms, rfl, rfl, ha, hb, okq hr q (by simp [DV])⟩
  · exact q.elim⟩
end

section
variable {prog : Program} {w : World} {A : Around} {E : Value → Shared → Prop} {s : Shared}
theorem applied_rev {n : Nat} {sl : Addr} {tk : Tok} {Q : Int × Int × Nat → Shared → Prop} (hs : s.heap.IsSliceOf sl .none .none (.int (-1) tk)) (h : Q ((n : Int) - 1, -1, n) s) : wpAny (model prog w) A (Builtin.Slice.sliceApplied (.ref sl) (pure ((n : Nat) : Int))) Q E s := by
  obtain ⟨os, hos, hcs, hds⟩ := id hs
  unfold Builtin.Slice.sliceApplied Builtin.Slice.sliceFields
  refine wpAny_bind (wpAny_bind (wpAny_field hos hds (x := .none) rfl (wpAny_bind (wpAny_field hos hds (x := .none) rfl (wpAny_bind (wpAny_field hos hds (x := .int (-1) tk) rfl (wpAny_pure ?_)))))))
  refine wpAny_bind (slicePart_int ?_)
  show wpAny _ _ (if ((-1 : Int) == 0) = true then _ else _) _ _ s
  rw [if_neg (by decide)]
  refine wpAny_bind (slicePart_none (wpAny_bind (slicePart_none (wpAny_bind (wpAny_pure ?_)))))
  refine wpAny_pure ?_
  have e1 : Builtin.Slice.slicePlaces ((n : Int) - 1) (-1) (-1) = n := by
    unfold Builtin.Slice.slicePlaces
    simp
    (first | lia | omega)
  have e2 : Builtin.Slice.sliceAdjust none none (-1) (n : Int) = ((n : Int) - 1, -1) := by
    rfl
  show Q ((Builtin.Slice.sliceAdjust none none (-1) (n : Int)).1, -1, Builtin.Slice.slicePlaces (Builtin.Slice.sliceAdjust none none (-1) (n : Int)).1 (Builtin.Slice.sliceAdjust none none (-1) (n : Int)).2 (-1)) s
  rw [e2]
  show Q ((n : Int) - 1, -1, Builtin.Slice.slicePlaces ((n : Int) - 1) (-1) (-1)) s
  rw [e1]
  exact h
theorem fm_congr {α β : Type} {f g : α → Option β} : ∀ {l : List α}, (∀ x ∈ l, f x = g x) → l.filterMap f = l.filterMap g
  | [], _ => rfl
  | x :: xs, h => by rw [List.filterMap_cons, List.filterMap_cons, h x List.mem_cons_self, fm_congr fun y hy => h y (List.mem_cons_of_mem _ hy)]
theorem rev_items {vs : List Value} : ((List.range vs.toArray.size).filterMap fun (m : Nat) => vs.toArray[(((vs.toArray.size : Nat) : Int) - 1 + (m : Int) * (-1)).toNat]?).toArray = vs.reverse.toArray := by
  have e : (List.range vs.toArray.size).filterMap (fun (m : Nat) => vs.toArray[(((vs.toArray.size : Nat) : Int) - 1 + (m : Int) * (-1)).toNat]?) = ((List.range vs.toArray.size).map fun k => vs.toArray.size - 1 - k).filterMap (vs.toArray[·]?) := by
    rw [List.filterMap_map]
    refine fm_congr fun m hm => ?_
    have := List.mem_range.mp hm
    show vs.toArray[_]? = vs.toArray[vs.toArray.size - 1 - m]?
    congr 1
    (first | lia | omega)
  rw [e, PySem.W.krv_range, List.filterMap_reverse, PySem.W.krv_all]
theorem getItem_rev {t sl : Addr} {vs : List Value} {tk : Tok} {Q : Value → Shared → Prop} (ht : IsTup s.heap t vs.toArray) (hs : s.heap.IsSliceOf sl .none .none (.int (-1) tk)) (hn : vs.length ≤ sizeLine)
    (h : Q (.ref s.heap.objs.size) { s with heap := s.heap.push { cls := .type "tuple", data := .seq vs.reverse.toArray } }) : wpAny (model prog w) A (getItem (.ref t) (.ref sl)) Q E s := by
  obtain ⟨os, hos, hcs, hds⟩ := id hs
  have hTs : s.TypeIs (.ref sl) "slice" := ⟨os, hos, hcs⟩
  unfold getItem
  try with_reducible refine wpAny_holding ?_
  first | refine wpAny_bind (wpAny_pure ?_) | skip
  refine wpAny_bind (wpAny_sequenceKey ht.typeIs (by decide) ?_)
  refine wpAny_bind (wpAny_callSpecial?_slot (name := Str.ofString "__getitem__") ht.typeIs PyProof.Rows.slot_tuple_getitem
    (wpAny_call_entry PyProof.Rows.slot_tuple_getitem ht.typeIs entry_tuple_getitem ?_ (args_tuple_getitem _ _)))
  show wpAny _ _ (Builtin.Tuple.tupleItemsOf (.ref t) >>= _) _ _ s
  refine wpAny_bind (tupleItemsOf_ ht ?_)
  refine wpAny_bind (wpAny_typeOf hTs ?_)
  rw [if_pos (by decide)]
  refine wpAny_bind (applied_rev (n := vs.toArray.size) hs ?_)
  show wpAny _ _ (if ((((vs.toArray.size : Nat) : Int) - 1) == 0 && (-1 : Int) == 1 && vs.toArray.size == vs.toArray.size) = true then _ else _) _ _ s
  rw [if_neg (by rw [show ((-1 : Int) == 1) = false from rfl, Bool.and_false, Bool.false_and]; exact Bool.false_ne_true)]
  have hz : sizeOk (.seq vs.reverse.toArray) := by show vs.reverse.toArray.size ≤ sizeLine; simpa using hn
  first
    | (rw [rev_items]; exact wpAny_bind (m := Builtin.Tuple.tupleExact _) (wpAny_newObj_type (wpAny_pure ⟨_, rfl, wpAny_pure h⟩) hz))
    | (rw [rev_items]; exact wpAny_bind (m := Builtin.Tuple.tupleExact _) (wpAny_newObj_type (wpAny_bind (wpAny_pure (wpAny_pure ⟨_, rfl, wpAny_pure h⟩))) hz))
    | (rw [rev_items]; exact wpAny_bind (wpAny_bind (m := Builtin.Tuple.tupleExact _) (wpAny_newObj_type (wpAny_pure (wpAny_pure ⟨_, rfl, wpAny_pure h⟩)) hz)))
    | (rw [rev_items]; exact wpAny_bind (wpAny_bind (m := Builtin.Tuple.tupleExact _) (wpAny_newObj_type (wpAny_pure ⟨_, rfl, wpAny_pure h⟩) hz)))
end
section
variable {X : Cx} {E : XK} {e : Expr} {f : ME}
noncomputable def revT : D → HD → Out D := fun x h => match x with
  | .tup ds => .ok (.tup ds.reverse) h
  | _ => .stuck
noncomputable def mRev (f : ME) : ME := fun ρ h => (f ρ h).bind revT
theorem DVs.rev {K : PySem.W.Frag} {m : List Addr} {H : Hp} : ∀ {ds : List D} {vs : List V}, DVs K m H ds vs → DVs K m H ds.reverse vs.reverse
  | [], vs, r => by
    simp only [DVs] at r
    subst r
    exact .nil
  | d :: ds, vs, r => by
    simp only [DVs] at r
    obtain ⟨v, w, rfl, rv, rw'⟩ := r
    rw [List.reverse_cons, List.reverse_cons]
    exact (DVs.rev rw').app (.cons rv .nil)
theorem vals_rev {vs : List V} {us : List Value} (r : Vals vs us) : Vals vs.reverse us.reverse := r.reverse
theorem ev_rev {j : Nat} {p1 p2 p3 pos : Pos} (he : Ev X E e f) : Ev X E (.Subscript e (.Slice none none (some (.UnaryOp .USub (.Constant (.int 1) j p1) p2)) p3) pos) (mRev f) := by
  rintro pins s σ H Q I ⟨m, ρ, h, hr, er, p⟩
  have p' : tD X.K E f σ H fun v H1 => ∃ t xs, v = .ref t ∧ SqT X.K H1 t xs ∧ ∀ q, H1 q = none → Q (.ref q) (upd H1 q (.tup xs.reverse)) := ⟨m, ρ, h, hr, er, Post.bind p fun x h1 v m1 H1 eo p1 k1 hr1 r1 q1 => by
    clear eo
    unfold revT at q1
    split at q1
    · simp only [rD, DV] at r1
      obtain ⟨t, vs, rfl, ht, dv⟩ := r1
      exact ⟨t, vs, rfl, SqT.of ht, post_newT hr1 (DVs.rev dv) q1⟩
    · exact q1.elim⟩
  refine Subscript_ (thn (he pins s σ H _ I p') fun v s1 z1_ => ?_)
  obtain ⟨x, H1, I1, r1, t, xs, ex, hq, q1⟩ := z1_
  subst ex
  cases r1
  refine wpAny_Slice ?_
  rw [evalPart_none, evalPart_some]
  refine wpAny_pure (wpAny_pure ?_)
  have st : PE X (.UnaryOp .USub (.Constant (.int 1) j p1) p2) (tUn (rU fun i => .int (-i)) (tC (.int 1))) := pe_un un_neg pe_int
  refine thn (st pins s1 σ H1 (fun v H3 => v = .int (-1) ∧ H3 = H1) I1 ⟨1, rfl, rfl, rfl⟩) fun sv s3 z2_ => ?_
  obtain ⟨x, H3, I3, r3, ex, eH⟩ := z2_
  subst ex eH
  obtain ⟨tk, rfl⟩ := r3
  obtain ⟨its, rv, pl, hz⟩ := I3.tuple hq
  have I4 : Inv X pins σ H3 { s3 with heap := s3.heap.push { cls := .type "slice", data := .fields #[.none, .none, .int (-1) tk] } } := I3.kept (t' := s3.toks) fun b ob q => Heap.get?_push_of_some _ q
  have pl4 : IsTup (s3.heap.push { cls := .type "slice", data := .fields #[.none, .none, .int (-1) tk] }) t its.toArray := by
    obtain ⟨o, ho, r⟩ := pl
    exact ⟨o, Heap.get?_push_of_some _ ho, r⟩
  have hsl : (s3.heap.push { cls := .type "slice", data := .fields #[.none, .none, .int (-1) tk] }).IsSliceOf s3.heap.objs.size .none .none (.int (-1) tk) := Heap.IsSliceOf.new ..
  show wpAny (model X.prog X.w) X.A (subscriptTail e (.Slice none none (some (.UnaryOp .USub (.Constant (.int 1) j p1) p2)) p3) (.ref t) (.ref s3.heap.objs.size)) (EP X pins σ Q) X.xe { s3 with heap := s3.heap.push { cls := .type "slice", data := .fields #[.none, .none, .int (-1) tk] } }
  refine tail_any (ops := [.ref t, .ref s3.heap.objs.size]) (T := "tuple") pl4.typeIs PyProof.Rows.slot_tuple_getitem.lookup (getItem_rev (s := { s3 with heap := s3.heap.push { cls := .type "slice", data := .fields #[.none, .none, .int (-1) tk] } }) pl4 hsl (by rw [← rv.length]; exact hz) ?_) (by with_unfolding_all rfl)
  refine ⟨.ref _, _, I4.laid (t' := s3.toks) (o := .tup xs.reverse) (fun b ob q => Heap.get?_push_of_some _ q) (Nat.le_refl _) ?_, rfl, q1 _ (I4.hok.fresh (Nat.le_refl _))⟩
  exact ⟨by rw [List.length_reverse]; exact hz, its.reverse, vals_rev rv, IsTup.new _ _, NoDict.new⟩
end
end LS

set_option maxHeartbeats 0

namespace LK
open PySem PySem.Spec PyProof.Rows L2 LS
noncomputable def top (i : Nat) : Stmt := PySem.Challenge.pw_lineswitch_k71_nets_looked_at.main.body.getD i (.Pass ⟨0, 0, 0, 0⟩)
structure Bl (mg : Str → Option Value) : Prop where
  n_ValueError : mg "ValueError" = none
  n_all : mg "all" = none
  n_bool : mg "bool" = none
  n_divmod : mg "divmod" = none
  n_int : mg "int" = none
  n_isinstance : mg "isinstance" = none
  n_len : mg "len" = none
  n_list : mg "list" = none
  n_max : mg "max" = none
  n_min : mg "min" = none
  n_range : mg "range" = none
  n_repr : mg "repr" = none
  n_tuple : mg "tuple" = none
  n_zip : mg "zip" = none
theorem boot_ValueError' : bootBuiltins "ValueError" = some (.type "ValueError") := by decide +kernel
theorem boot_all' : bootBuiltins "all" = some (.builtin "all") := by decide +kernel
theorem boot_bool' : bootBuiltins "bool" = some (.type "bool") := by decide +kernel
theorem boot_divmod' : bootBuiltins "divmod" = some (.builtin "divmod") := by decide +kernel
theorem boot_int' : bootBuiltins "int" = some (.type "int") := by decide +kernel
theorem boot_isinstance' : bootBuiltins "isinstance" = some (.builtin "isinstance") := by decide +kernel
theorem boot_len' : bootBuiltins "len" = some (.builtin "len") := by decide +kernel
theorem boot_list' : bootBuiltins "list" = some (.type "list") := by decide +kernel
theorem boot_max' : bootBuiltins "max" = some (.builtin "max") := by decide +kernel
theorem boot_min' : bootBuiltins "min" = some (.builtin "min") := by decide +kernel
theorem boot_repr' : bootBuiltins "repr" = some (.builtin "repr") := by decide +kernel
theorem boot_tuple' : bootBuiltins "tuple" = some (.type "tuple") := by decide +kernel
noncomputable abbrev s__law_said : Stmt := top 30
theorem saidT : SaidT s__law_said := ⟨⟨rfl, rfl, rfl, by decide +kernel, rfl, by decide +kernel, by decide +kernel⟩, rfl, rfl, rfl, rfl, rfl, ⟨_, _, _, _, _, _, _, _, _, _, _, _, _, _, _, _, _, rfl⟩⟩


noncomputable abbrev s_is_whole : Stmt := top 13
theorem sc_is_whole : FnScope ["thing"] ["thing"] (defScope s_is_whole) := ⟨rfl, rfl, rfl, by decide +kernel, rfl, by decide +kernel, by decide +kernel⟩
noncomputable abbrev g_is_whole : MS := mRet (mAndV (mCall (ar2 instX) (mCons (mVar 0) (mCons (mC (.ty "int")) (mNil)))) (mNotV (mCall (ar2 instX) (mCons (mVar 0) (mCons (mC (.ty "bool")) (mNil))))))

theorem b_is_whole {P : Program} {w : World} {K : PySem.W.Frag} {mg : Str → Option Value} {base : Heap} (B : Bl mg) (et : etOk K = true) (f : Addr) (cdv : Value) (A : Around) (outer : List Env) (s : Shared) (H : Hp) (E : XK) (hr : Room 0 (A.deeper (envOfC "is_whole" (defScope s_is_whole) s.heap.objs.size f cdv))) :
    Exs (cxOf (CXE P w K) P w K mg base ["thing"] "is_whole" (defScope s_is_whole) f cdv A outer s H E) E (defBody s_is_whole) (g_is_whole) :=
  exs_one (ex_ret (ev_and (ev_callB (instXM et) rfl B.n_isinstance boot_isinstance' (evA_cons (ev_var (pv 0)) (evA_cons (ev_ty rfl B.n_int boot_int') (evA_nil)))) (ev_one (ev_not (ev_callB (instXM et) rfl B.n_isinstance boot_isinstance' (evA_cons (ev_var (pv 0)) (evA_cons (ev_ty rfl B.n_bool boot_bool') (evA_nil))))))))


noncomputable abbrev s__law_cell : Stmt := top 24
theorem sc__law_cell : FnScope ["_law_script", "_law_k"] ["_law_script", "_law_k"] (defScope s__law_cell) := ⟨rfl, rfl, rfl, by decide +kernel, rfl, by decide +kernel, by decide +kernel⟩
noncomputable abbrev g__law_cell : MS := mSeq (mIfS (mTb (mOp ltD (mVar 1) (mCall (ar1 lenD) (mCons (mVar 0) (mNil))))) (mRet (mOp ixD (mVar 0) (mVar 1))) (mSkip)) (mRet (mOp addD (mOp mulX (mC (.int 6151)) (mVar 1)) (mC (.int 29))))

theorem b__law_cell {P : Program} {w : World} {K : PySem.W.Frag} {mg : Str → Option Value} {base : Heap} (B : Bl mg) (et : etOk K = true) (f : Addr) (cdv : Value) (A : Around) (outer : List Env) (s : Shared) (H : Hp) (E : XK) (hr : Room 0 (A.deeper (envOfC "_law_cell" (defScope s__law_cell) s.heap.objs.size f cdv))) :
    Exs (cxOf (CXE P w K) P w K mg base ["_law_script", "_law_k"] "_law_cell" (defScope s__law_cell) f cdv A outer s H E) E (defBody s__law_cell) (g__law_cell) :=
  exs_cons (ex_if (evT_cmp ltM (ev_var (pv 1)) (ev_callB lenM rfl B.n_len boot_len' (evA_cons (ev_var (pv 0)) (evA_nil))) (nomark _)) (exs_one (ex_ret (ev_ix (ev_var (pv 0)) (ev_var (pv 1)) (fun _ _ => rfl)))) (exs_nil)) (exs_one (ex_ret (ev_op addM (ev_op mulXM (ev_int) (ev_var (pv 1))) (ev_int))))


noncomputable abbrev s__law_mix : Stmt := top 25
theorem sc__law_mix : FnScope ["_law_cell_here", "_law_k", "_law_number"] ["_law_cell_here", "_law_k"] (defScope s__law_mix) := ⟨rfl, rfl, rfl, by decide +kernel, rfl, by decide +kernel, by decide +kernel⟩
noncomputable abbrev g__law_mix : MS := mSeq (mSet 2 (mOp addD (mOp mulX (mOp addD (mVar 0) (mC (.int 1))) (mC (.int 40692))) (mOp mulX (mC (.int 104729)) (mVar 1)))) (mSeq (mSet 2 (mOp addD (mOp modD (mOp mulX (mVar 2) (mVar 2)) (mC (.int 2147483399))) (mVar 1))) (mRet (mOp modD (mOp mulX (mVar 2) (mOp addD (mVar 2) (mC (.int 31)))) (mC (.int 2147483563)))))

theorem b__law_mix {P : Program} {w : World} {K : PySem.W.Frag} {mg : Str → Option Value} {base : Heap} (B : Bl mg) (et : etOk K = true) (f : Addr) (cdv : Value) (A : Around) (outer : List Env) (s : Shared) (H : Hp) (E : XK) (hr : Room 0 (A.deeper (envOfC "_law_mix" (defScope s__law_mix) s.heap.objs.size f cdv))) :
    Exs (cxOf (CXE P w K) P w K mg base ["_law_cell_here", "_law_k", "_law_number"] "_law_mix" (defScope s__law_mix) f cdv A outer s H E) E (defBody s__law_mix) (g__law_mix) :=
  exs_cons (ex_set (i := 2) sc__law_mix.nd rfl (by first | exact Or.inl rfl | exact Or.inr rfl) (ev_op addM (ev_op mulXM (ev_op addM (ev_var (pv 0)) (ev_int)) (ev_int)) (ev_op mulXM (ev_int) (ev_var (pv 1))))) (exs_cons (ex_set (i := 2) sc__law_mix.nd rfl (by first | exact Or.inl rfl | exact Or.inr rfl) (ev_op addM (ev_op modM (ev_op mulXM (ev_var (pv 2)) (ev_var (pv 2))) (ev_int)) (ev_var (pv 1)))) (exs_one (ex_ret (ev_op modM (ev_op mulXM (ev_var (pv 2)) (ev_op addM (ev_var (pv 2)) (ev_int))) (ev_int)))))


noncomputable abbrev s__law_take : Stmt := top 27
theorem sc__law_take : FnScope ["_law_box_here", "_law_many", "_law_left", "_law_digit"] ["_law_box_here", "_law_many"] (defScope s__law_take) := ⟨rfl, rfl, rfl, by decide +kernel, rfl, by decide +kernel, by decide +kernel⟩
noncomputable abbrev g__law_take : MS := mSeq (mUnp (sPair 2 3) (mCall (ar2 divmodD) (mCons (mOp ixD (mVar 0) (mC (.int 0))) (mCons (mVar 1) (mNil))))) (mSeq (mSetIx (mVar 0) (mC (.int 0)) (mVar 2)) (mRet (mVar 3)))

theorem b__law_take {P : Program} {w : World} {K : PySem.W.Frag} {mg : Str → Option Value} {base : Heap} (B : Bl mg) (et : etOk K = true) (f : Addr) (cdv : Value) (A : Around) (outer : List Env) (s : Shared) (H : Hp) (E : XK) (hr : Room 0 (A.deeper (envOfC "_law_take" (defScope s__law_take) s.heap.objs.size f cdv))) :
    Exs (cxOf (CXE P w K) P w K mg base ["_law_box_here", "_law_many", "_law_left", "_law_digit"] "_law_take" (defScope s__law_take) f cdv A outer s H E) E (defBody s__law_take) (g__law_take) :=
  exs_cons (ex_unp (ev_callB divmodM rfl B.n_divmod boot_divmod' (evA_cons (ev_ix (ev_var (pv 0)) (ev_int) (fun _ _ => rfl)) (evA_cons (ev_var (pv 1)) (evA_nil)))) (evG_pair (pair_pg rfl (pg_name (i := 2) (sc__law_take.nd) rfl (by first | exact Or.inl rfl | exact Or.inr rfl) (by first | exact .inl rfl | exact .inr rfl)) (pg_name (i := 3) (sc__law_take.nd) rfl (by first | exact Or.inl rfl | exact Or.inr rfl) (by first | exact .inl rfl | exact .inr rfl))))) (exs_cons (ex_setIx (ev_var (pv 0)) (ev_int) (ev_var (pv 2))) (exs_one (ex_ret (ev_var (pv 3)))))


noncomputable abbrev s__law_kind : Stmt := top 29
theorem sc__law_kind : FnScope ["_law_e", "_law_kinds", "_law_words"] ["_law_e"] (defScope s__law_kind) := ⟨rfl, rfl, rfl, by decide +kernel, rfl, by decide +kernel, by decide +kernel⟩
noncomputable abbrev g__law_kind : MS := mSeq (mSet 1 (mLst (mCons (mCall (ar2 instX) (mCons (mVar 0) (mCons (mC (.glo "NoBoard")) (mNil)))) (mCons (mCall (ar2 instX) (mCons (mVar 0) (mCons (mC (.glo "NoLine")) (mNil)))) (mCons (mCall (ar2 instX) (mCons (mVar 0) (mCons (mC (.glo "NoSwitching")) (mNil)))) (mCons (mCall (ar2 instX) (mCons (mVar 0) (mCons (mC (.glo "NoNumber")) (mNil)))) (mNil))))))) (mSeq (mSet 1 (mOp addD (mVar 1) (mLst (mCons (mCall (ar2 instX) (mCons (mVar 0) (mCons (mC (.glo "Unlike")) (mNil)))) (mCons (mCall (ar2 instX) (mCons (mVar 0) (mCons (mC (.glo "NoNet")) (mNil)))) (mCons (mCall (ar2 instX) (mCons (mVar 0) (mCons (mC (.glo "NoPlace")) (mNil)))) (mCons (mCall (ar2 instX) (mCons (mVar 0) (mCons (mC (.glo "NoText")) (mNil)))) (mNil)))))))) (mSeq (mSet 1 (mOp addD (mVar 1) (mLst (mCons (mCall (ar2 instX) (mCons (mVar 0) (mCons (mC (.glo "NoRow")) (mNil)))) (mCons (mCall (ar2 instX) (mCons (mVar 0) (mCons (mC (.glo "TooMany")) (mNil)))) (mNil)))))) (mSeq (mIfS (mOr (mNot (mTru (mCall (ar2 instX) (mCons (mVar 0) (mCons (mC (.ty "ValueError")) (mNil)))))) (mTb (mOp neX (mMet1 isLst countLD (mVar 1) (mC (.bl true))) (mC (.int 1))))) (mRet (mC (.str "! other"))) (mSkip)) (mSeq (mIfS (mTru (mOp ixD (mVar 1) (mC (.int 9)))) mNever mSkip) (mSeq (mSet 2 (mLst (mCons (mC (.str "board")) (mCons (mC (.str "line")) (mCons (mC (.str "switching")) (mCons (mC (.str "number")) (mCons (mC (.str "unlike")) (mCons (mC (.str "net")) (mCons (mC (.str "place")) (mCons (mC (.str "text")) (mCons (mC (.str "row")) (mNil)))))))))))) (mRet (mOp addD (mC (.str "! ")) (mOp ixD (mVar 2) (mMet1 isLst indexD (mVar 1) (mC (.bl true)))))))))))

theorem b__law_kind {P : Program} {w : World} {K : PySem.W.Frag} {mg : Str → Option Value} {base : Heap} (B : Bl mg) (et : etOk K = true) (f : Addr) (cdv : Value) (A : Around) (outer : List Env) (s : Shared) (H : Hp) (hr : RoomM 0 (A.deeper (envOfC "_law_kind" (defScope s__law_kind) s.heap.objs.size f cdv))) :
    Exs (cxM P w K mg base ["_law_e", "_law_kinds", "_law_words"] "_law_kind" (defScope s__law_kind) f cdv A outer s H) E0 (defBody s__law_kind) (g__law_kind) :=
  exs_cons (ex_set (i := 1) sc__law_kind.nd rfl (by first | exact Or.inl rfl | exact Or.inr rfl) (ev_lst (evA_cons (ev_callB (instXM et) rfl B.n_isinstance boot_isinstance' (evA_cons (ev_var (pv 0)) (evA_cons (ev_gloE et (by decide +kernel)) (evA_nil)))) (evA_cons (ev_callB (instXM et) rfl B.n_isinstance boot_isinstance' (evA_cons (ev_var (pv 0)) (evA_cons (ev_gloE et (by decide +kernel)) (evA_nil)))) (evA_cons (ev_callB (instXM et) rfl B.n_isinstance boot_isinstance' (evA_cons (ev_var (pv 0)) (evA_cons (ev_gloE et (by decide +kernel)) (evA_nil)))) (evA_cons (ev_callB (instXM et) rfl B.n_isinstance boot_isinstance' (evA_cons (ev_var (pv 0)) (evA_cons (ev_gloE et (by decide +kernel)) (evA_nil)))) (evA_nil))))))) (exs_cons (ex_set (i := 1) sc__law_kind.nd rfl (by first | exact Or.inl rfl | exact Or.inr rfl) (ev_op addM (ev_var (pv 1)) (ev_lst (evA_cons (ev_callB (instXM et) rfl B.n_isinstance boot_isinstance' (evA_cons (ev_var (pv 0)) (evA_cons (ev_gloE et (by decide +kernel)) (evA_nil)))) (evA_cons (ev_callB (instXM et) rfl B.n_isinstance boot_isinstance' (evA_cons (ev_var (pv 0)) (evA_cons (ev_gloE et (by decide +kernel)) (evA_nil)))) (evA_cons (ev_callB (instXM et) rfl B.n_isinstance boot_isinstance' (evA_cons (ev_var (pv 0)) (evA_cons (ev_gloE et (by decide +kernel)) (evA_nil)))) (evA_cons (ev_callB (instXM et) rfl B.n_isinstance boot_isinstance' (evA_cons (ev_var (pv 0)) (evA_cons (ev_gloE et (by decide +kernel)) (evA_nil)))) (evA_nil)))))))) (exs_cons (ex_set (i := 1) sc__law_kind.nd rfl (by first | exact Or.inl rfl | exact Or.inr rfl) (ev_op addM (ev_var (pv 1)) (ev_lst (evA_cons (ev_callB (instXM et) rfl B.n_isinstance boot_isinstance' (evA_cons (ev_var (pv 0)) (evA_cons (ev_gloE et (by decide +kernel)) (evA_nil)))) (evA_cons (ev_callB (instXM et) rfl B.n_isinstance boot_isinstance' (evA_cons (ev_var (pv 0)) (evA_cons (ev_gloE et (by decide +kernel)) (evA_nil)))) (evA_nil)))))) (exs_cons (ex_if (evT_w (evW_or (evT_not (evT_val (ev_callB (instXM et) rfl B.n_isinstance boot_isinstance' (evA_cons (ev_var (pv 0)) (evA_cons (ev_ty rfl B.n_ValueError boot_ValueError') (evA_nil)))))) (evW_or1 (evT_cmp (neXM hr.units) (ev_met1 PySem.F.plainAttrs_list PySem.F.slot_list_count PySem.F.type_list_count chk_lst countLD_noE countLM (ev_var (pv 1)) (ev_bl)) (ev_int) (nomark _))))) (exs_one (ex_ret (ev_str))) (exs_nil)) (exs_cons (ex_if (evT_val (ev_ix (ev_var (pv 1)) (ev_int) (fun _ _ => rfl))) exs_never exs_nil) (exs_cons (ex_set (i := 2) sc__law_kind.nd rfl (by first | exact Or.inl rfl | exact Or.inr rfl) (ev_lst (evA_cons (ev_str) (evA_cons (ev_str) (evA_cons (ev_str) (evA_cons (ev_str) (evA_cons (ev_str) (evA_cons (ev_str) (evA_cons (ev_str) (evA_cons (ev_str) (evA_cons (ev_str) (evA_nil)))))))))))) (exs_one (ex_ret (ev_op addM (ev_str) (ev_ix (ev_var (pv 2)) (ev_met1 PySem.F.plainAttrs_list PySem.F.slot_list_index PySem.F.type_list_index chk_lst indexD_noE indexM (ev_var (pv 1)) (ev_bl)) (fun _ _ => rfl))))))))))


noncomputable abbrev s__law_net_switched : Stmt := top 35
theorem sc__law_net_switched : FnScope ["_law_net_here", "_law_lot_here", "_law_ties", "_law_a", "_law_b", "_law_light"] ["_law_net_here", "_law_lot_here"] (defScope s__law_net_switched) := ⟨rfl, rfl, rfl, by decide +kernel, rfl, by decide +kernel, by decide +kernel⟩
noncomputable abbrev g__law_net_switched : MS := mSeq (mSet 2 (mLst (mNil))) (mSeq (mFor (mISeq (mOp ixD (mVar 0) (mC (.int 1)))) (sNames [3, 4, 5]) (mExpr (mApp (mVar 2) (mTup (mCons (mVar 3) (mCons (mVar 4) (mCons (mOp modD (mOp addD (mOp addD (mVar 5) (mCall (ar1 intOfD) (mCons (mOp (inD false) (mVar 3) (mVar 1)) (mNil)))) (mCall (ar1 intOfD) (mCons (mOp (inD false) (mVar 4) (mVar 1)) (mNil)))) (mC (.int 2))) (mNil)))))))) (mRet (mTup (mCons (mOp ixD (mVar 0) (mC (.int 0))) (mCons (mCall (ar1 tupOfD) (mCons (mVar 2) (mNil))) (mNil))))))

theorem b__law_net_switched {P : Program} {w : World} {K : PySem.W.Frag} {mg : Str → Option Value} {base : Heap} (B : Bl mg) (et : etOk K = true) (f : Addr) (cdv : Value) (A : Around) (outer : List Env) (s : Shared) (H : Hp) (E : XK) (hr : Room 0 (A.deeper (envOfC "_law_net_switched" (defScope s__law_net_switched) s.heap.objs.size f cdv))) :
    Exs (cxOf (CXE P w K) P w K mg base ["_law_net_here", "_law_lot_here", "_law_ties", "_law_a", "_law_b", "_law_light"] "_law_net_switched" (defScope s__law_net_switched) f cdv A outer s H E) E (defBody s__law_net_switched) (g__law_net_switched) :=
  exs_cons (ex_set (i := 2) sc__law_net_switched.nd rfl (by first | exact Or.inl rfl | exact Or.inr rfl) (ev_lst (evA_nil))) (exs_cons (ex_for ownE rfl (evI_seq (ev_ix (ev_var (pv 0)) (ev_int) (fun _ _ => rfl))) (evG_names (is := [3, 4, 5]) (pg_tup rfl (pgs_cons (pg_name (i := 3) (sc__law_net_switched.nd) rfl (by first | exact Or.inl rfl | exact Or.inr rfl) (by first | exact .inl rfl | exact .inr rfl)) (pgs_cons (pg_name (i := 4) (sc__law_net_switched.nd) rfl (by first | exact Or.inl rfl | exact Or.inr rfl) (by first | exact .inl rfl | exact .inr rfl)) (pgs_cons (pg_name (i := 5) (sc__law_net_switched.nd) rfl (by first | exact Or.inl rfl | exact Or.inr rfl) (by first | exact .inl rfl | exact .inr rfl)) (pgs_nil)))))) (exs_one (ex_expr (ev_append (ev_var (pv 2)) (ev_tup (evA_cons (ev_var (pv 3)) (evA_cons (ev_var (pv 4)) (evA_cons (ev_op modM (ev_op addM (ev_op addM (ev_var (pv 5)) (ev_callT intOfM rfl B.n_int boot_int' (evA_cons (ev_cmp inM (ev_var (pv 3)) (ev_var (pv 1)) (by with_unfolding_all rfl)) (evA_nil)))) (ev_callT intOfM rfl B.n_int boot_int' (evA_cons (ev_cmp inM (ev_var (pv 4)) (ev_var (pv 1)) (by with_unfolding_all rfl)) (evA_nil)))) (ev_int)) (evA_nil))))))))) (exs_one (ex_ret (ev_tup (evA_cons (ev_ix (ev_var (pv 0)) (ev_int) (fun _ _ => rfl)) (evA_cons (ev_callT tupOfM rfl B.n_tuple boot_tuple' (evA_cons (ev_var (pv 2)) (evA_nil))) (evA_nil)))))))


noncomputable abbrev s__law_is_whole : Stmt := top 36
theorem sc__law_is_whole : FnScope ["_law_thing", "_law_least", "_law_most"] ["_law_thing", "_law_least", "_law_most"] (defScope s__law_is_whole) := ⟨rfl, rfl, rfl, by decide +kernel, rfl, by decide +kernel, by decide +kernel⟩
noncomputable abbrev g__law_is_whole : MS := mRet (mAndV (mCall (ar2 instX) (mCons (mVar 0) (mCons (mC (.ty "int")) (mNil)))) (mAndV (mNotV (mCall (ar2 instX) (mCons (mVar 0) (mCons (mC (.ty "bool")) (mNil))))) (mChain leD leD (mVar 1) (mVar 0) (mVar 2))))

theorem b__law_is_whole {P : Program} {w : World} {K : PySem.W.Frag} {mg : Str → Option Value} {base : Heap} (B : Bl mg) (et : etOk K = true) (f : Addr) (cdv : Value) (A : Around) (outer : List Env) (s : Shared) (H : Hp) (E : XK) (hr : Room 0 (A.deeper (envOfC "_law_is_whole" (defScope s__law_is_whole) s.heap.objs.size f cdv))) :
    Exs (cxOf (CXE P w K) P w K mg base ["_law_thing", "_law_least", "_law_most"] "_law_is_whole" (defScope s__law_is_whole) f cdv A outer s H E) E (defBody s__law_is_whole) (g__law_is_whole) :=
  exs_one (ex_ret (ev_and (ev_callB (instXM et) rfl B.n_isinstance boot_isinstance' (evA_cons (ev_var (pv 0)) (evA_cons (ev_ty rfl B.n_int boot_int') (evA_nil)))) (ev_and (ev_not (ev_callB (instXM et) rfl B.n_isinstance boot_isinstance' (evA_cons (ev_var (pv 0)) (evA_cons (ev_ty rfl B.n_bool boot_bool') (evA_nil))))) (ev_one (ev_chain leM leM (ev_var (pv 1)) (ev_var (pv 0)) (ev_var (pv 2)))))))


noncomputable abbrev s_is_between : Stmt := top 14
theorem sc_is_between : FnScope ["thing", "least", "most"] ["thing", "least", "most"] (defScope s_is_between) := ⟨rfl, rfl, rfl, by decide +kernel, rfl, by decide +kernel, by decide +kernel⟩
noncomputable abbrev g_is_between (F_is_whole : List D → HD → Out D) : MS := mRet (mAndV (mCall F_is_whole (mCons (mVar 0) (mNil))) (mChain leD leD (mVar 1) (mVar 0) (mVar 2)))

theorem b_is_between {P : Program} {w : World} {K : PySem.W.Frag} {mg : Str → Option Value} {base : Heap} (B : Bl mg) (et : etOk K = true) {F_is_whole : List D → HD → Out D} (c_is_whole : CaE P w K mg base "is_whole" 1 F_is_whole) (f : Addr) (cdv : Value) (A : Around) (outer : List Env) (s : Shared) (H : Hp) (E : XK) (hr : Room 1 (A.deeper (envOfC "is_between" (defScope s_is_between) s.heap.objs.size f cdv))) :
    Exs (cxOf (CXE P w K) P w K mg base ["thing", "least", "most"] "is_between" (defScope s_is_between) f cdv A outer s H E) E (defBody s_is_between) (g_is_between F_is_whole) :=
  exs_one (ex_ret (ev_and (ev_caE c_is_whole hr passE (evA_cons (ev_var (pv 0)) (evA_nil))) (ev_one (ev_chain leM leM (ev_var (pv 1)) (ev_var (pv 0)) (ev_var (pv 2))))))


noncomputable abbrev s_is_lot : Stmt := top 16
theorem sc_is_lot : FnScope ["thing", "size", "last", "number"] ["thing", "size"] (defScope s_is_lot) := ⟨rfl, rfl, rfl, by decide +kernel, rfl, by decide +kernel, by decide +kernel⟩
noncomputable abbrev g_is_lot (F_is_whole : List D → HD → Out D) : MS := mSeq (mIfS (mNot (mTru (mCall (ar2 instX) (mCons (mVar 0) (mCons (mC (.ty "tuple")) (mNil)))))) (mRet (mC (.bl false))) (mSkip)) (mSeq (mSet 2 (mNeg (mC (.int 1)))) (mSeq (mFor (mISeq (mVar 0)) (sName 3) (mSeq (mIfS (mOr (mNot (mTru (mCall F_is_whole (mCons (mVar 3) (mNil))))) (mNot (mTb (mChain ltD ltD (mVar 2) (mVar 3) (mVar 1))))) (mRet (mC (.bl false))) (mSkip)) (mSet 2 (mVar 3)))) (mRet (mC (.bl true)))))

theorem b_is_lot {P : Program} {w : World} {K : PySem.W.Frag} {mg : Str → Option Value} {base : Heap} (B : Bl mg) (et : etOk K = true) {F_is_whole : List D → HD → Out D} (c_is_whole : CaE P w K mg base "is_whole" 1 F_is_whole) (f : Addr) (cdv : Value) (A : Around) (outer : List Env) (s : Shared) (H : Hp) (E : XK) (hr : Room 1 (A.deeper (envOfC "is_lot" (defScope s_is_lot) s.heap.objs.size f cdv))) :
    Exs (cxOf (CXE P w K) P w K mg base ["thing", "size", "last", "number"] "is_lot" (defScope s_is_lot) f cdv A outer s H E) E (defBody s_is_lot) (g_is_lot F_is_whole) :=
  exs_cons (ex_if (evT_not (evT_val (ev_callB (instXM et) rfl B.n_isinstance boot_isinstance' (evA_cons (ev_var (pv 0)) (evA_cons (ev_ty rfl B.n_tuple boot_tuple') (evA_nil)))))) (exs_one (ex_ret (ev_bl))) (exs_nil)) (exs_cons (ex_set (i := 2) sc_is_lot.nd rfl (by first | exact Or.inl rfl | exact Or.inr rfl) (ev_neg (ev_int))) (exs_cons (ex_for ownE rfl (evI_seq (ev_var (pv 0))) (evG_name (pg_name (i := 3) (sc_is_lot.nd) rfl (by first | exact Or.inl rfl | exact Or.inr rfl) (by first | exact .inl rfl | exact .inr rfl))) (exs_cons (ex_if (evT_w (evW_or (evT_not (evT_val (ev_caE c_is_whole hr passE (evA_cons (ev_var (pv 3)) (evA_nil))))) (evW_or1 (evT_not (evT_chain ltM ltM (ev_var (pv 2)) (ev_var (pv 3)) (ev_var (pv 1))))))) (exs_one (ex_ret (ev_bl))) (exs_nil)) (exs_one (ex_set (i := 2) sc_is_lot.nd rfl (by first | exact Or.inl rfl | exact Or.inr rfl) (ev_var (pv 3)))))) (exs_one (ex_ret (ev_bl)))))


noncomputable abbrev s__law_box : Stmt := top 26
theorem sc__law_box : FnScope ["_law_script", "_law_k", "_law_here", "_law_number", "_law_j"] ["_law_script", "_law_k"] (defScope s__law_box) := ⟨rfl, rfl, rfl, by decide +kernel, rfl, by decide +kernel, by decide +kernel⟩
noncomputable abbrev g__law_box (F__law_cell : List D → HD → Out D) (F__law_mix : List D → HD → Out D) : MS := mSeq (mSet 2 (mCall F__law_cell (mCons (mVar 0) (mCons (mVar 1) (mNil))))) (mSeq (mIfS (mTb (mOp eqX (mOp modD (mVar 2) (mC (.int 2))) (mC (.int 0)))) (mRet (mLst (mCons (mOp fdivD' (mVar 2) (mC (.int 2))) (mNil)))) (mSkip)) (mSeq (mSet 3 (mC (.int 0))) (mSeq (mFor (mIRng1 (mCons (mC (.int 24)) (mNil))) (sName 4) (mSet 3 (mOp addD (mOp mulX (mVar 3) (mC (.int 2147483647))) (mCall F__law_mix (mCons (mVar 2) (mCons (mVar 4) (mNil))))))) (mRet (mLst (mCons (mVar 3) (mNil)))))))

theorem b__law_box {P : Program} {w : World} {K : PySem.W.Frag} {mg : Str → Option Value} {base : Heap} (B : Bl mg) (et : etOk K = true) {F__law_cell : List D → HD → Out D} {F__law_mix : List D → HD → Out D} (c__law_cell : CaE P w K mg base "_law_cell" 1 F__law_cell) (c__law_mix : CaE P w K mg base "_law_mix" 1 F__law_mix) (f : Addr) (cdv : Value) (A : Around) (outer : List Env) (s : Shared) (H : Hp) (E : XK) (hr : Room 1 (A.deeper (envOfC "_law_box" (defScope s__law_box) s.heap.objs.size f cdv))) :
    Exs (cxOf (CXE P w K) P w K mg base ["_law_script", "_law_k", "_law_here", "_law_number", "_law_j"] "_law_box" (defScope s__law_box) f cdv A outer s H E) E (defBody s__law_box) (g__law_box F__law_cell F__law_mix) :=
  exs_cons (ex_set (i := 2) sc__law_box.nd rfl (by first | exact Or.inl rfl | exact Or.inr rfl) (ev_caE c__law_cell hr passE (evA_cons (ev_var (pv 0)) (evA_cons (ev_var (pv 1)) (evA_nil))))) (exs_cons (ex_if (evT_cmp (eqXM hr.units) (ev_op modM (ev_var (pv 2)) (ev_int)) (ev_int) (nomark _)) (exs_one (ex_ret (ev_lst (evA_cons (ev_op fdivM' (ev_var (pv 2)) (ev_int)) (evA_nil))))) (exs_nil)) (exs_cons (ex_set (i := 3) sc__law_box.nd rfl (by first | exact Or.inl rfl | exact Or.inr rfl) (ev_int)) (exs_cons (ex_for ownE rfl (evI_range1 rfl B.n_range (evA_cons (ev_int) (evA_nil))) (evG_name (pg_name (i := 4) (sc__law_box.nd) rfl (by first | exact Or.inl rfl | exact Or.inr rfl) (by first | exact .inl rfl | exact .inr rfl))) (exs_one (ex_set (i := 3) sc__law_box.nd rfl (by first | exact Or.inl rfl | exact Or.inr rfl) (ev_op addM (ev_op mulXM (ev_var (pv 3)) (ev_int)) (ev_caE c__law_mix hr passE (evA_cons (ev_var (pv 2)) (evA_cons (ev_var (pv 4)) (evA_nil)))))))) (exs_one (ex_ret (ev_lst (evA_cons (ev_var (pv 3)) (evA_nil))))))))


noncomputable abbrev s__law_wide_box : Stmt := top 28
theorem sc__law_wide_box : FnScope ["_law_box_here", "_law_number", "_law_many", "_law_j"] ["_law_box_here"] (defScope s__law_wide_box) := ⟨rfl, rfl, rfl, by decide +kernel, rfl, by decide +kernel, by decide +kernel⟩
noncomputable abbrev g__law_wide_box (F__law_take : List D → HD → Out D) : MS := mSeq (mPar 1 2 (mCons (mCall F__law_take (mCons (mVar 0) (mCons (mC (.int 2147483647)) (mNil)))) (mCons (mC (.int 0)) (mNil)))) (mSeq (mFor (mIRng1 (mCons (mC (.int 24)) (mNil))) (sName 3) (mSeq (mSet 1 (mOp modD (mOp addD (mOp addD (mOp mulX (mVar 1) (mC (.int 48271))) (mC (.int 11))) (mVar 3)) (mC (.int 2147483647)))) (mSet 2 (mOp addD (mOp mulX (mVar 2) (mC (.int 2147483647))) (mVar 1))))) (mRet (mLst (mCons (mVar 2) (mNil)))))

theorem b__law_wide_box {P : Program} {w : World} {K : PySem.W.Frag} {mg : Str → Option Value} {base : Heap} (B : Bl mg) (et : etOk K = true) {F__law_take : List D → HD → Out D} (c__law_take : CaE P w K mg base "_law_take" 1 F__law_take) (f : Addr) (cdv : Value) (A : Around) (outer : List Env) (s : Shared) (H : Hp) (E : XK) (hr : Room 1 (A.deeper (envOfC "_law_wide_box" (defScope s__law_wide_box) s.heap.objs.size f cdv))) :
    Exs (cxOf (CXE P w K) P w K mg base ["_law_box_here", "_law_number", "_law_many", "_law_j"] "_law_wide_box" (defScope s__law_wide_box) f cdv A outer s H E) E (defBody s__law_wide_box) (g__law_wide_box F__law_take) :=
  exs_cons (ex_par (i := 1) (j := 2) rfl sc__law_wide_box.nd rfl rfl (by decide) rfl rfl (evA_cons (ev_caE c__law_take hr passE (evA_cons (ev_var (pv 0)) (evA_cons (ev_int) (evA_nil)))) (evA_cons (ev_int) (evA_nil))) (by first | rfl | with_unfolding_all rfl)) (exs_cons (ex_for ownE rfl (evI_range1 rfl B.n_range (evA_cons (ev_int) (evA_nil))) (evG_name (pg_name (i := 3) (sc__law_wide_box.nd) rfl (by first | exact Or.inl rfl | exact Or.inr rfl) (by first | exact .inl rfl | exact .inr rfl))) (exs_cons (ex_set (i := 1) sc__law_wide_box.nd rfl (by first | exact Or.inl rfl | exact Or.inr rfl) (ev_op modM (ev_op addM (ev_op addM (ev_op mulXM (ev_var (pv 1)) (ev_int)) (ev_int)) (ev_var (pv 3))) (ev_int))) (exs_one (ex_set (i := 2) sc__law_wide_box.nd rfl (by first | exact Or.inl rfl | exact Or.inr rfl) (ev_op addM (ev_op mulXM (ev_var (pv 2)) (ev_int)) (ev_var (pv 1))))))) (exs_one (ex_ret (ev_lst (evA_cons (ev_var (pv 2)) (evA_nil))))))


noncomputable abbrev s__law_lot : Stmt := top 31
theorem sc__law_lot : FnScope ["_law_box_here", "_law_size"] ["_law_box_here", "_law_size"] (defScope s__law_lot) := ⟨rfl, rfl, rfl, by decide +kernel, rfl, by decide +kernel, by decide +kernel⟩
noncomputable abbrev g__law_lot (F__law_take : List D → HD → Out D) : MS := mRet (mCall (ar1 tupOfD) (mCons (mComp [none, some 0] (mIRng1 (mCons (mVar 1) (mNil))) (sName 0) (mTb (mOp eqX (mCall F__law_take (mCons (mVar 1) (mCons (mC (.int 2)) (mNil)))) (mC (.int 1)))) (mVar 0)) (mNil)))

theorem b__law_lot {P : Program} {w : World} {K : PySem.W.Frag} {mg : Str → Option Value} {base : Heap} (B : Bl mg) (et : etOk K = true) {F__law_take : List D → HD → Out D} (c__law_take : CaE P w K mg base "_law_take" 1 F__law_take) (f : Addr) (cdv : Value) (A : Around) (outer : List Env) (s : Shared) (H : Hp) (E : XK) (hr : Room 1 (A.deeper (envOfC "_law_lot" (defScope s__law_lot) s.heap.objs.size f cdv))) :
    Exs (cxOf (CXE P w K) P w K mg base ["_law_box_here", "_law_size"] "_law_lot" (defScope s__law_lot) f cdv A outer s H E) E (defBody s__law_lot) (g__law_lot F__law_take) :=
  exs_one (ex_ret (ev_callT tupOfM rfl B.n_tuple boot_tuple' (evA_cons (ev_comp (Nc := ["_law_number", "_law_box_here"]) (cs := [none, some 0]) rfl (CSc.ok ⟨rfl, by decide +kernel, by kernel_rfl, by decide +kernel, rfl, by kernel_rfl⟩) (evI_range1 rfl B.n_range (evA_cons (ev_var (pv 1)) (evA_nil))) (gokc_name rfl) (fun C D cells fp s₀ H₀ pins => ⟨pg_name (i := 0) (show (["_law_number", "_law_box_here"] : List Str).Nodup from by decide +kernel) rfl (by first | exact Or.inl rfl | exact Or.inr rfl) (by first | exact .inl rfl | exact .inr rfl), evTs_one (evT_cmp (eqXM hr.units) (ev_caE c__law_take hr passE0 (evA_cons (ev_var (pv 1)) (evA_cons (ev_int) (evA_nil)))) (ev_int) (nomark _)), ev_var (pv 0)⟩)) (evA_nil))))


noncomputable abbrev s__law_no_lot : Stmt := top 32
theorem sc__law_no_lot : FnScope ["_law_box_here", "_law_size", "_law_low", "_law_odd", "_law_some"] ["_law_box_here", "_law_size"] (defScope s__law_no_lot) := ⟨rfl, rfl, rfl, by decide +kernel, rfl, by decide +kernel, by decide +kernel⟩
noncomputable abbrev g__law_no_lot (F__law_take : List D → HD → Out D) : MS := mSeq (mSet 2 (mCall F__law_take (mCons (mVar 0) (mCons (mVar 1) (mNil))))) (mSeq (mSet 3 (mOp ixD (mLst (mCons (mVar 1) (mCons (mNeg (mC (.int 1))) (mCons (mC (.bl true)) (mCons (mC .non) (mCons (mC (.str "0")) (mCons (mTup (mCons (mC (.int 0)) (mNil))) (mCons (mOp powD (mC (.int 10)) (mC (.int 29))) (mCons (mC (.bl false)) (mCons (mLst (mCons (mC (.int 0)) (mNil))) (mCons (mC .edic) (mNil)))))))))))) (mCall F__law_take (mCons (mVar 0) (mCons (mC (.int 10)) (mNil)))))) (mSeq (mSet 4 (mLst (mCons (mTup (mCons (mVar 3) (mNil))) (mCons (mTup (mCons (mVar 2) (mCons (mVar 2) (mNil)))) (mCons (mTup (mCons (mVar 2) (mCons (mVar 3) (mNil)))) (mCons (mLst (mCons (mVar 2) (mNil))) (mCons (mC .non) (mCons (mVar 2) (mCons (mC (.str "")) (mCons (mIf (mTb (mOp gtD (mVar 1) (mC (.int 1)))) (mTup (mCons (mOp subD (mVar 1) (mC (.int 1))) (mCons (mC (.int 0)) (mNil)))) (mTup (mCons (mC (.int 0)) (mCons (mC (.int 0)) (mNil))))) (mCons (mC .edic) (mCons (mTup (mCons (mVar 3) (mCons (mVar 2) (mNil)))) (mNil))))))))))))) (mSeq (mSet 4 (mOp addD (mVar 4) (mLst (mCons (mOp addD (mTupR (mVar 1)) (mTup (mCons (mVar 3) (mNil)))) (mCons (mOp addD (mTupR (mVar 1)) (mTup (mCons (mOp subD (mVar 1) (mC (.int 1))) (mNil)))) (mNil)))))) (mRet (mOp ixD (mVar 4) (mCall F__law_take (mCons (mVar 0) (mCons (mC (.int 12)) (mNil)))))))))

theorem b__law_no_lot {P : Program} {w : World} {K : PySem.W.Frag} {mg : Str → Option Value} {base : Heap} (B : Bl mg) (et : etOk K = true) {F__law_take : List D → HD → Out D} (c__law_take : CaE P w K mg base "_law_take" 1 F__law_take) (f : Addr) (cdv : Value) (A : Around) (outer : List Env) (s : Shared) (H : Hp) (E : XK) (hr : Room 1 (A.deeper (envOfC "_law_no_lot" (defScope s__law_no_lot) s.heap.objs.size f cdv))) :
    Exs (cxOf (CXE P w K) P w K mg base ["_law_box_here", "_law_size", "_law_low", "_law_odd", "_law_some"] "_law_no_lot" (defScope s__law_no_lot) f cdv A outer s H E) E (defBody s__law_no_lot) (g__law_no_lot F__law_take) :=
  exs_cons (ex_set (i := 2) sc__law_no_lot.nd rfl (by first | exact Or.inl rfl | exact Or.inr rfl) (ev_caE c__law_take hr passE (evA_cons (ev_var (pv 0)) (evA_cons (ev_var (pv 1)) (evA_nil))))) (exs_cons (ex_set (i := 3) sc__law_no_lot.nd rfl (by first | exact Or.inl rfl | exact Or.inr rfl) (ev_ix (ev_lst (evA_cons (ev_var (pv 1)) (evA_cons (ev_neg (ev_int)) (evA_cons (ev_bl) (evA_cons (ev_non) (evA_cons (ev_str) (evA_cons (ev_tup (evA_cons (ev_int) (evA_nil))) (evA_cons (ev_op powM (ev_int) (ev_int)) (evA_cons (ev_bl) (evA_cons (ev_lst (evA_cons (ev_int) (evA_nil))) (evA_cons (ev_edic) (evA_nil)))))))))))) (ev_caE c__law_take hr passE (evA_cons (ev_var (pv 0)) (evA_cons (ev_int) (evA_nil)))) (fun _ _ => rfl))) (exs_cons (ex_set (i := 4) sc__law_no_lot.nd rfl (by first | exact Or.inl rfl | exact Or.inr rfl) (ev_lst (evA_cons (ev_tup (evA_cons (ev_var (pv 3)) (evA_nil))) (evA_cons (ev_tup (evA_cons (ev_var (pv 2)) (evA_cons (ev_var (pv 2)) (evA_nil)))) (evA_cons (ev_tup (evA_cons (ev_var (pv 2)) (evA_cons (ev_var (pv 3)) (evA_nil)))) (evA_cons (ev_lst (evA_cons (ev_var (pv 2)) (evA_nil))) (evA_cons (ev_non) (evA_cons (ev_var (pv 2)) (evA_cons (ev_str) (evA_cons (ev_ifExp (evT_cmp gtM (ev_var (pv 1)) (ev_int) (nomark _)) (ev_tup (evA_cons (ev_op subM (ev_var (pv 1)) (ev_int)) (evA_cons (ev_int) (evA_nil)))) (ev_tup (evA_cons (ev_int) (evA_cons (ev_int) (evA_nil))))) (evA_cons (ev_edic) (evA_cons (ev_tup (evA_cons (ev_var (pv 3)) (evA_cons (ev_var (pv 2)) (evA_nil)))) (evA_nil))))))))))))) (exs_cons (ex_set (i := 4) sc__law_no_lot.nd rfl (by first | exact Or.inl rfl | exact Or.inr rfl) (ev_op addM (ev_var (pv 4)) (ev_lst (evA_cons (ev_op addM (ev_tupR rfl rfl B.n_tuple rfl B.n_range boot_tuple' (ev_var (pv 1))) (ev_tup (evA_cons (ev_var (pv 3)) (evA_nil)))) (evA_cons (ev_op addM (ev_tupR rfl rfl B.n_tuple rfl B.n_range boot_tuple' (ev_var (pv 1))) (ev_tup (evA_cons (ev_op subM (ev_var (pv 1)) (ev_int)) (evA_nil)))) (evA_nil)))))) (exs_one (ex_ret (ev_ix (ev_var (pv 4)) (ev_caE c__law_take hr passE (evA_cons (ev_var (pv 0)) (evA_cons (ev_int) (evA_nil)))) (fun _ _ => rfl)))))))


noncomputable abbrev s__law_no_net : Stmt := top 34
theorem sc__law_no_net : FnScope ["_law_box_here", "_law_net_here", "_law_many", "_law_ties", "_law_at", "_law_spot", "_law_odd", "_law_tie", "_law_bent", "_law_some"] ["_law_box_here", "_law_net_here"] (defScope s__law_no_net) := ⟨rfl, rfl, rfl, by decide +kernel, rfl, by decide +kernel, by decide +kernel⟩
noncomputable abbrev g__law_no_net (F__law_take : List D → HD → Out D) : MS := mSeq (mUnp (sPair 2 3) (mVar 1)) (mSeq (mUnp (sNames [4, 5]) (mTup (mCons (mCall F__law_take (mCons (mVar 0) (mCons (mOp addD (mCall (ar1 lenD) (mCons (mVar 3) (mNil))) (mC (.int 1))) (mNil)))) (mCons (mCall F__law_take (mCons (mVar 0) (mCons (mC (.int 3)) (mNil)))) (mNil))))) (mSeq (mSet 6 (mOp ixD (mLst (mCons (mVar 2) (mCons (mNeg (mC (.int 1))) (mCons (mC (.bl true)) (mCons (mC (.bl false)) (mCons (mC .non) (mCons (mC (.str "0")) (mCons (mTup (mCons (mC (.int 0)) (mNil))) (mCons (mOp powD (mC (.int 10)) (mC (.int 29))) (mCons (mC (.int 2)) (mCons (mLst (mCons (mC (.int 0)) (mNil))) (mCons (mC .edic) (mNil))))))))))))) (mCall F__law_take (mCons (mVar 0) (mCons (mC (.int 11)) (mNil)))))) (mSeq (mSet 7 (mOp ixD (mOp addD (mVar 3) (mTup (mCons (mTup (mCons (mC (.int 0)) (mCons (mC (.int 1)) (mCons (mC (.int 1)) (mNil))))) (mNil)))) (mVar 4))) (mSeq (mSet 8 (mOp addD (mOp addD (mSliceX (mVar 7) (mNoPart) (mPart (mVar 5))) (mTup (mCons (mVar 6) (mNil)))) (mSliceX (mVar 7) (mPart (mOp addD (mVar 5) (mC (.int 1)))) (mNoPart)))) (mSeq (mSet 9 (mLst (mCons (mVar 8) (mCons (mVar 8) (mCons (mVar 8) (mCons (mSliceX (mVar 7) (mNoPart) (mPart (mC (.int 2)))) (mCons (mOp addD (mVar 7) (mTup (mCons (mC (.int 0)) (mNil)))) (mCons (mCall (ar1 listOfD) (mCons (mVar 7) (mNil))) (mCons (mC .non) (mCons (mTup (mCons (mOp ixD (mVar 7) (mC (.int 1))) (mCons (mOp ixD (mVar 7) (mC (.int 0))) (mCons (mOp ixD (mVar 7) (mC (.int 2))) (mNil))))) (mCons (mTup (mCons (mOp ixD (mVar 7) (mC (.int 0))) (mCons (mOp ixD (mVar 7) (mC (.int 0))) (mCons (mC (.int 0)) (mNil))))) (mCons (mTup (mNil)) (mNil))))))))))))) (mSeq (mSet 9 (mComp [none, some 2, some 3, some 4] (mISeq (mVar 9)) (sName 0) (mTrue) (mTup (mCons (mVar 1) (mCons (mOp addD (mOp addD (mSliceX (mVar 2) (mNoPart) (mPart (mVar 3))) (mTup (mCons (mVar 0) (mNil)))) (mSliceX (mVar 2) (mPart (mOp addD (mVar 3) (mC (.int 1)))) (mNoPart))) (mNil)))))) (mSeq (mSet 9 (mOp addD (mVar 9) (mLst (mCons (mTup (mCons (mVar 2) (mCons (mCall (ar1 listOfD) (mCons (mVar 3) (mNil))) (mNil)))) (mCons (mLst (mCons (mVar 2) (mCons (mVar 3) (mNil)))) (mCons (mTup (mCons (mC (.int 9)) (mCons (mVar 3) (mNil)))) (mCons (mTup (mCons (mC (.int 0)) (mCons (mTup (mNil)) (mNil)))) (mCons (mTup (mCons (mC (.bl true)) (mCons (mTup (mNil)) (mNil)))) (mCons (mTup (mCons (mVar 2) (mNil))) (mCons (mTup (mCons (mVar 2) (mCons (mVar 3) (mCons (mTup (mNil)) (mNil))))) (mNil))))))))))) (mSeq (mSet 9 (mOp addD (mVar 9) (mLst (mCons (mC .non) (mCons (mC (.int 1)) (mCons (mC .edic) (mCons (mVar 3) (mCons (mTup (mCons (mVar 2) (mCons (mRev (mVar 3)) (mNil)))) (mCons (mTup (mCons (mVar 2) (mCons (mOp addD (mOp addD (mSliceX (mVar 3) (mNoPart) (mPart (mVar 4))) (mSliceX (mVar 3) (mNoPart) (mPart (mC (.int 1))))) (mSliceX (mVar 3) (mPart (mVar 4)) (mNoPart))) (mNil)))) (mNil)))))))))) (mRet (mOp ixD (mVar 9) (mCall F__law_take (mCons (mVar 0) (mCons (mCall (ar1 lenD) (mCons (mVar 9) (mNil))) (mNil))))))))))))))

theorem b__law_no_net {P : Program} {w : World} {K : PySem.W.Frag} {mg : Str → Option Value} {base : Heap} (B : Bl mg) (et : etOk K = true) {F__law_take : List D → HD → Out D} (c__law_take : CaE P w K mg base "_law_take" 1 F__law_take) (f : Addr) (cdv : Value) (A : Around) (outer : List Env) (s : Shared) (H : Hp) (E : XK) (hr : Room 1 (A.deeper (envOfC "_law_no_net" (defScope s__law_no_net) s.heap.objs.size f cdv))) :
    Exs (cxOf (CXE P w K) P w K mg base ["_law_box_here", "_law_net_here", "_law_many", "_law_ties", "_law_at", "_law_spot", "_law_odd", "_law_tie", "_law_bent", "_law_some"] "_law_no_net" (defScope s__law_no_net) f cdv A outer s H E) E (defBody s__law_no_net) (g__law_no_net F__law_take) :=
  exs_cons (ex_unp (ev_var (pv 1)) (evG_pair (pair_pg rfl (pg_name (i := 2) (sc__law_no_net.nd) rfl (by first | exact Or.inl rfl | exact Or.inr rfl) (by first | exact .inl rfl | exact .inr rfl)) (pg_name (i := 3) (sc__law_no_net.nd) rfl (by first | exact Or.inl rfl | exact Or.inr rfl) (by first | exact .inl rfl | exact .inr rfl))))) (exs_cons (ex_unp (ev_tup (evA_cons (ev_caE c__law_take hr passE (evA_cons (ev_var (pv 0)) (evA_cons (ev_op addM (ev_callB lenM rfl B.n_len boot_len' (evA_cons (ev_var (pv 3)) (evA_nil))) (ev_int)) (evA_nil)))) (evA_cons (ev_caE c__law_take hr passE (evA_cons (ev_var (pv 0)) (evA_cons (ev_int) (evA_nil)))) (evA_nil)))) (evG_names (is := [4, 5]) (pg_tup rfl (pgs_cons (pg_name (i := 4) (sc__law_no_net.nd) rfl (by first | exact Or.inl rfl | exact Or.inr rfl) (by first | exact .inl rfl | exact .inr rfl)) (pgs_cons (pg_name (i := 5) (sc__law_no_net.nd) rfl (by first | exact Or.inl rfl | exact Or.inr rfl) (by first | exact .inl rfl | exact .inr rfl)) (pgs_nil)))))) (exs_cons (ex_set (i := 6) sc__law_no_net.nd rfl (by first | exact Or.inl rfl | exact Or.inr rfl) (ev_ix (ev_lst (evA_cons (ev_var (pv 2)) (evA_cons (ev_neg (ev_int)) (evA_cons (ev_bl) (evA_cons (ev_bl) (evA_cons (ev_non) (evA_cons (ev_str) (evA_cons (ev_tup (evA_cons (ev_int) (evA_nil))) (evA_cons (ev_op powM (ev_int) (ev_int)) (evA_cons (ev_int) (evA_cons (ev_lst (evA_cons (ev_int) (evA_nil))) (evA_cons (ev_edic) (evA_nil))))))))))))) (ev_caE c__law_take hr passE (evA_cons (ev_var (pv 0)) (evA_cons (ev_int) (evA_nil)))) (fun _ _ => rfl))) (exs_cons (ex_set (i := 7) sc__law_no_net.nd rfl (by first | exact Or.inl rfl | exact Or.inr rfl) (ev_ix (ev_op addM (ev_var (pv 3)) (ev_tup (evA_cons (ev_tup (evA_cons (ev_int) (evA_cons (ev_int) (evA_cons (ev_int) (evA_nil))))) (evA_nil)))) (ev_var (pv 4)) (fun _ _ => rfl))) (exs_cons (ex_set (i := 8) sc__law_no_net.nd rfl (by first | exact Or.inl rfl | exact Or.inr rfl) (ev_op addM (ev_op addM (ev_sliceX (ev_var (pv 7)) (evO_none) (evO_some (ev_var (pv 5)))) (ev_tup (evA_cons (ev_var (pv 6)) (evA_nil)))) (ev_sliceX (ev_var (pv 7)) (evO_some (ev_op addM (ev_var (pv 5)) (ev_int))) (evO_none)))) (exs_cons (ex_set (i := 9) sc__law_no_net.nd rfl (by first | exact Or.inl rfl | exact Or.inr rfl) (ev_lst (evA_cons (ev_var (pv 8)) (evA_cons (ev_var (pv 8)) (evA_cons (ev_var (pv 8)) (evA_cons (ev_sliceX (ev_var (pv 7)) (evO_none) (evO_some (ev_int))) (evA_cons (ev_op addM (ev_var (pv 7)) (ev_tup (evA_cons (ev_int) (evA_nil)))) (evA_cons (ev_callT listOfM rfl B.n_list boot_list' (evA_cons (ev_var (pv 7)) (evA_nil))) (evA_cons (ev_non) (evA_cons (ev_tup (evA_cons (ev_ix (ev_var (pv 7)) (ev_int) (fun _ _ => rfl)) (evA_cons (ev_ix (ev_var (pv 7)) (ev_int) (fun _ _ => rfl)) (evA_cons (ev_ix (ev_var (pv 7)) (ev_int) (fun _ _ => rfl)) (evA_nil))))) (evA_cons (ev_tup (evA_cons (ev_ix (ev_var (pv 7)) (ev_int) (fun _ _ => rfl)) (evA_cons (ev_ix (ev_var (pv 7)) (ev_int) (fun _ _ => rfl)) (evA_cons (ev_int) (evA_nil))))) (evA_cons (ev_tup (evA_nil)) (evA_nil))))))))))))) (exs_cons (ex_setC (i := 9) (Nc := ["_law_other", "_law_many", "_law_ties", "_law_at"]) (cs := [none, some 2, some 3, some 4]) rfl sc__law_no_net.nd rfl (by first | exact Or.inl rfl | exact Or.inr rfl) (CSc.ok ⟨rfl, by decide +kernel, by kernel_rfl, by decide +kernel, rfl, by kernel_rfl⟩) (evI_seq (ev_var (pv 9))) (gokc_name rfl) (fun C D cells fp s₀ H₀ pins => ⟨pg_name (i := 0) (show (["_law_other", "_law_many", "_law_ties", "_law_at"] : List Str).Nodup from by decide +kernel) rfl (by first | exact Or.inl rfl | exact Or.inr rfl) (by first | exact .inl rfl | exact .inr rfl), evTs_nil, ev_tup (evA_cons (ev_var (pv 1)) (evA_cons (ev_op addM (ev_op addM (ev_sliceX (ev_var (pv 2)) (evO_none) (evO_some (ev_var (pv 3)))) (ev_tup (evA_cons (ev_var (pv 0)) (evA_nil)))) (ev_sliceX (ev_var (pv 2)) (evO_some (ev_op addM (ev_var (pv 3)) (ev_int))) (evO_none))) (evA_nil)))⟩)) (exs_cons (ex_set (i := 9) sc__law_no_net.nd rfl (by first | exact Or.inl rfl | exact Or.inr rfl) (ev_op addM (ev_var (pv 9)) (ev_lst (evA_cons (ev_tup (evA_cons (ev_var (pv 2)) (evA_cons (ev_callT listOfM rfl B.n_list boot_list' (evA_cons (ev_var (pv 3)) (evA_nil))) (evA_nil)))) (evA_cons (ev_lst (evA_cons (ev_var (pv 2)) (evA_cons (ev_var (pv 3)) (evA_nil)))) (evA_cons (ev_tup (evA_cons (ev_int) (evA_cons (ev_var (pv 3)) (evA_nil)))) (evA_cons (ev_tup (evA_cons (ev_int) (evA_cons (ev_tup (evA_nil)) (evA_nil)))) (evA_cons (ev_tup (evA_cons (ev_bl) (evA_cons (ev_tup (evA_nil)) (evA_nil)))) (evA_cons (ev_tup (evA_cons (ev_var (pv 2)) (evA_nil))) (evA_cons (ev_tup (evA_cons (ev_var (pv 2)) (evA_cons (ev_var (pv 3)) (evA_cons (ev_tup (evA_nil)) (evA_nil))))) (evA_nil))))))))))) (exs_cons (ex_set (i := 9) sc__law_no_net.nd rfl (by first | exact Or.inl rfl | exact Or.inr rfl) (ev_op addM (ev_var (pv 9)) (ev_lst (evA_cons (ev_non) (evA_cons (ev_int) (evA_cons (ev_edic) (evA_cons (ev_var (pv 3)) (evA_cons (ev_tup (evA_cons (ev_var (pv 2)) (evA_cons (ev_rev (ev_var (pv 3))) (evA_nil)))) (evA_cons (ev_tup (evA_cons (ev_var (pv 2)) (evA_cons (ev_op addM (ev_op addM (ev_sliceX (ev_var (pv 3)) (evO_none) (evO_some (ev_var (pv 4)))) (ev_sliceX (ev_var (pv 3)) (evO_none) (evO_some (ev_int)))) (ev_sliceX (ev_var (pv 3)) (evO_some (ev_var (pv 4))) (evO_none))) (evA_nil)))) (evA_nil)))))))))) (exs_one (ex_ret (ev_ix (ev_var (pv 9)) (ev_caE c__law_take hr passE (evA_cons (ev_var (pv 0)) (evA_cons (ev_callB lenM rfl B.n_len boot_len' (evA_cons (ev_var (pv 9)) (evA_nil))) (evA_nil)))) (fun _ _ => rfl))))))))))))


noncomputable abbrev s__law_is_net : Stmt := top 37
theorem sc__law_is_net : FnScope ["_law_thing", "_law_last", "_law_tie"] ["_law_thing"] (defScope s__law_is_net) := ⟨rfl, rfl, rfl, by decide +kernel, rfl, by decide +kernel, by decide +kernel⟩
noncomputable abbrev g__law_is_net (F__law_is_whole : List D → HD → Out D) : MS := mSeq (mIfS (mOr (mNot (mTru (mCall (ar2 instX) (mCons (mVar 0) (mCons (mC (.ty "tuple")) (mNil)))))) (mOr (mTb (mOp neX (mCall (ar1 lenD) (mCons (mVar 0) (mNil))) (mC (.int 2)))) (mNot (mTru (mCall F__law_is_whole (mCons (mOp ixD (mVar 0) (mC (.int 0))) (mCons (mC (.int 1)) (mCons (mC (.int 8)) (mNil))))))))) (mRet (mC (.bl false))) (mSkip)) (mSeq (mIfS (mNot (mTru (mCall (ar2 instX) (mCons (mOp ixD (mVar 0) (mC (.int 1))) (mCons (mC (.ty "tuple")) (mNil)))))) (mRet (mC (.bl false))) (mSkip)) (mSeq (mSet 1 (mTup (mCons (mNeg (mC (.int 1))) (mCons (mNeg (mC (.int 1))) (mNil))))) (mSeq (mFor (mISeq (mOp ixD (mVar 0) (mC (.int 1)))) (sName 2) (mSeq (mIfS (mOr (mNot (mTru (mCall (ar2 instX) (mCons (mVar 2) (mCons (mC (.ty "tuple")) (mNil)))))) (mOr (mTb (mOp neX (mCall (ar1 lenD) (mCons (mVar 2) (mNil))) (mC (.int 3)))) (mNot (mTru (mCall F__law_is_whole (mCons (mOp ixD (mVar 2) (mC (.int 2))) (mCons (mC (.int 0)) (mCons (mC (.int 1)) (mNil))))))))) (mRet (mC (.bl false))) (mSkip)) (mSeq (mIfS (mOr (mNot (mTru (mCall F__law_is_whole (mCons (mOp ixD (mVar 2) (mC (.int 0))) (mCons (mC (.int 0)) (mCons (mOp subD (mOp ixD (mVar 0) (mC (.int 0))) (mC (.int 1))) (mNil))))))) (mNot (mTru (mCall F__law_is_whole (mCons (mOp ixD (mVar 2) (mC (.int 1))) (mCons (mC (.int 0)) (mCons (mOp subD (mOp ixD (mVar 0) (mC (.int 0))) (mC (.int 1))) (mNil)))))))) (mRet (mC (.bl false))) (mSkip)) (mSeq (mIfS (mOr (mTb (mOp geD (mOp ixD (mVar 2) (mC (.int 0))) (mOp ixD (mVar 2) (mC (.int 1))))) (mTb (mOp (cmpT HT.lexLe) (mSliceX (mVar 2) (mNoPart) (mPart (mC (.int 2)))) (mVar 1)))) (mRet (mC (.bl false))) (mSkip)) (mSet 1 (mSliceX (mVar 2) (mNoPart) (mPart (mC (.int 2))))))))) (mRet (mC (.bl true))))))

theorem b__law_is_net {P : Program} {w : World} {K : PySem.W.Frag} {mg : Str → Option Value} {base : Heap} (B : Bl mg) (et : etOk K = true) {F__law_is_whole : List D → HD → Out D} (c__law_is_whole : CaE P w K mg base "_law_is_whole" 1 F__law_is_whole) (f : Addr) (cdv : Value) (A : Around) (outer : List Env) (s : Shared) (H : Hp) (E : XK) (hr : Room 1 (A.deeper (envOfC "_law_is_net" (defScope s__law_is_net) s.heap.objs.size f cdv))) :
    Exs (cxOf (CXE P w K) P w K mg base ["_law_thing", "_law_last", "_law_tie"] "_law_is_net" (defScope s__law_is_net) f cdv A outer s H E) E (defBody s__law_is_net) (g__law_is_net F__law_is_whole) :=
  exs_cons (ex_if (evT_w (evW_or (evT_not (evT_val (ev_callB (instXM et) rfl B.n_isinstance boot_isinstance' (evA_cons (ev_var (pv 0)) (evA_cons (ev_ty rfl B.n_tuple boot_tuple') (evA_nil)))))) (evW_or (evT_cmp (neXM hr.units) (ev_callB lenM rfl B.n_len boot_len' (evA_cons (ev_var (pv 0)) (evA_nil))) (ev_int) (nomark _)) (evW_or1 (evT_not (evT_val (ev_caE c__law_is_whole hr passE (evA_cons (ev_ix (ev_var (pv 0)) (ev_int) (fun _ _ => rfl)) (evA_cons (ev_int) (evA_cons (ev_int) (evA_nil))))))))))) (exs_one (ex_ret (ev_bl))) (exs_nil)) (exs_cons (ex_if (evT_not (evT_val (ev_callB (instXM et) rfl B.n_isinstance boot_isinstance' (evA_cons (ev_ix (ev_var (pv 0)) (ev_int) (fun _ _ => rfl)) (evA_cons (ev_ty rfl B.n_tuple boot_tuple') (evA_nil)))))) (exs_one (ex_ret (ev_bl))) (exs_nil)) (exs_cons (ex_set (i := 1) sc__law_is_net.nd rfl (by first | exact Or.inl rfl | exact Or.inr rfl) (ev_tup (evA_cons (ev_neg (ev_int)) (evA_cons (ev_neg (ev_int)) (evA_nil))))) (exs_cons (ex_for ownE rfl (evI_seq (ev_ix (ev_var (pv 0)) (ev_int) (fun _ _ => rfl))) (evG_name (pg_name (i := 2) (sc__law_is_net.nd) rfl (by first | exact Or.inl rfl | exact Or.inr rfl) (by first | exact .inl rfl | exact .inr rfl))) (exs_cons (ex_if (evT_w (evW_or (evT_not (evT_val (ev_callB (instXM et) rfl B.n_isinstance boot_isinstance' (evA_cons (ev_var (pv 2)) (evA_cons (ev_ty rfl B.n_tuple boot_tuple') (evA_nil)))))) (evW_or (evT_cmp (neXM hr.units) (ev_callB lenM rfl B.n_len boot_len' (evA_cons (ev_var (pv 2)) (evA_nil))) (ev_int) (nomark _)) (evW_or1 (evT_not (evT_val (ev_caE c__law_is_whole hr passE (evA_cons (ev_ix (ev_var (pv 2)) (ev_int) (fun _ _ => rfl)) (evA_cons (ev_int) (evA_cons (ev_int) (evA_nil))))))))))) (exs_one (ex_ret (ev_bl))) (exs_nil)) (exs_cons (ex_if (evT_w (evW_or (evT_not (evT_val (ev_caE c__law_is_whole hr passE (evA_cons (ev_ix (ev_var (pv 2)) (ev_int) (fun _ _ => rfl)) (evA_cons (ev_int) (evA_cons (ev_op subM (ev_ix (ev_var (pv 0)) (ev_int) (fun _ _ => rfl)) (ev_int)) (evA_nil))))))) (evW_or1 (evT_not (evT_val (ev_caE c__law_is_whole hr passE (evA_cons (ev_ix (ev_var (pv 2)) (ev_int) (fun _ _ => rfl)) (evA_cons (ev_int) (evA_cons (ev_op subM (ev_ix (ev_var (pv 0)) (ev_int) (fun _ _ => rfl)) (ev_int)) (evA_nil)))))))))) (exs_one (ex_ret (ev_bl))) (exs_nil)) (exs_cons (ex_if (evT_w (evW_or (evT_cmp geM (ev_ix (ev_var (pv 2)) (ev_int) (fun _ _ => rfl)) (ev_ix (ev_var (pv 2)) (ev_int) (fun _ _ => rfl)) (nomark _)) (evW_or1 (evT_cmp (leTM hr.units) (ev_sliceX (ev_var (pv 2)) (evO_none) (evO_some (ev_int))) (ev_var (pv 1)) (nomark _))))) (exs_one (ex_ret (ev_bl))) (exs_nil)) (exs_one (ex_set (i := 1) sc__law_is_net.nd rfl (by first | exact Or.inl rfl | exact Or.inr rfl) (ev_sliceX (ev_var (pv 2)) (evO_none) (evO_some (ev_int))))))))) (exs_one (ex_ret (ev_bl))))))


noncomputable abbrev s_is_light : Stmt := top 15
theorem sc_is_light : FnScope ["thing"] ["thing"] (defScope s_is_light) := ⟨rfl, rfl, rfl, by decide +kernel, rfl, by decide +kernel, by decide +kernel⟩
noncomputable abbrev g_is_light (F_is_between : List D → HD → Out D) : MS := mRet (mCall F_is_between (mCons (mVar 0) (mCons (mC (.int 0)) (mCons (mC (.int 1)) (mNil)))))

theorem b_is_light {P : Program} {w : World} {K : PySem.W.Frag} {mg : Str → Option Value} {base : Heap} (B : Bl mg) (et : etOk K = true) {F_is_between : List D → HD → Out D} (c_is_between : CaE P w K mg base "is_between" 2 F_is_between) (f : Addr) (cdv : Value) (A : Around) (outer : List Env) (s : Shared) (H : Hp) (E : XK) (hr : Room 2 (A.deeper (envOfC "is_light" (defScope s_is_light) s.heap.objs.size f cdv))) :
    Exs (cxOf (CXE P w K) P w K mg base ["thing"] "is_light" (defScope s_is_light) f cdv A outer s H E) E (defBody s_is_light) (g_is_light F_is_between) :=
  exs_one (ex_ret (ev_caE c_is_between hr passE (evA_cons (ev_var (pv 0)) (evA_cons (ev_int) (evA_cons (ev_int) (evA_nil))))))


noncomputable abbrev s__law_net : Stmt := top 33
theorem sc__law_net : FnScope ["_law_box_here", "_law_many", "_law_way", "_law_digits", "_law_some", "_law_ties", "_law_a", "_law_b", "_law_light"] ["_law_box_here"] (defScope s__law_net) := ⟨rfl, rfl, rfl, by decide +kernel, rfl, by decide +kernel, by decide +kernel⟩
noncomputable abbrev g__law_net (F__law_take : List D → HD → Out D) (F__law_wide_box : List D → HD → Out D) : MS := mSeq (mPar 1 2 (mCons (mOp addD (mC (.int 1)) (mCall F__law_take (mCons (mVar 0) (mCons (mC (.int 8)) (mNil))))) (mCons (mCall F__law_take (mCons (mVar 0) (mCons (mC (.int 4)) (mNil)))) (mNil)))) (mSeq (mSet 3 (mCall F__law_wide_box (mCons (mVar 0) (mNil)))) (mSeq (mSet 4 (mComp [none, some 3] (mIRng1 (mCons (mVar 1) (mNil))) (sName 0) (mTrue) (mCall F__law_take (mCons (mVar 1) (mCons (mC (.int 2)) (mNil)))))) (mSeq (mSet 5 (mLst (mNil))) (mSeq (mFor (mIRng1 (mCons (mVar 1) (mNil))) (sName 6) (mFor (mIRng2 (mCons (mOp addD (mVar 6) (mC (.int 1))) (mCons (mVar 1) (mNil)))) (sName 7) (mSeq (mSet 8 (mCall F__law_take (mCons (mVar 3) (mCons (mC (.int 2)) (mNil))))) (mSeq (mIfS (mTb (mOp eqX (mVar 2) (mC (.int 0)))) (mSet 8 (mOp modD (mOp addD (mOp ixD (mVar 4) (mVar 6)) (mOp ixD (mVar 4) (mVar 7))) (mC (.int 2)))) (mSkip)) (mIfS (mAnd (mTb (mOp gtD (mCall F__law_take (mCons (mVar 3) (mCons (mC (.int 3)) (mNil)))) (mC (.int 0)))) (mOr (mTb (mOp neX (mVar 2) (mC (.int 1)))) (mTb (mChain ltD leD (mVar 6) (mC (.int 3)) (mVar 7))))) (mExpr (mApp (mVar 5) (mTup (mCons (mVar 6) (mCons (mVar 7) (mCons (mVar 8) (mNil))))))) (mSkip)))))) (mRet (mTup (mCons (mVar 1) (mCons (mCall (ar1 tupOfD) (mCons (mVar 5) (mNil))) (mNil)))))))))

theorem b__law_net {P : Program} {w : World} {K : PySem.W.Frag} {mg : Str → Option Value} {base : Heap} (B : Bl mg) (et : etOk K = true) {F__law_take : List D → HD → Out D} {F__law_wide_box : List D → HD → Out D} (c__law_take : CaE P w K mg base "_law_take" 1 F__law_take) (c__law_wide_box : CaE P w K mg base "_law_wide_box" 2 F__law_wide_box) (f : Addr) (cdv : Value) (A : Around) (outer : List Env) (s : Shared) (H : Hp) (E : XK) (hr : Room 2 (A.deeper (envOfC "_law_net" (defScope s__law_net) s.heap.objs.size f cdv))) :
    Exs (cxOf (CXE P w K) P w K mg base ["_law_box_here", "_law_many", "_law_way", "_law_digits", "_law_some", "_law_ties", "_law_a", "_law_b", "_law_light"] "_law_net" (defScope s__law_net) f cdv A outer s H E) E (defBody s__law_net) (g__law_net F__law_take F__law_wide_box) :=
  exs_cons (ex_par (i := 1) (j := 2) rfl sc__law_net.nd rfl rfl (by decide) rfl rfl (evA_cons (ev_op addM (ev_int) (ev_caE c__law_take hr passE (evA_cons (ev_var (pv 0)) (evA_cons (ev_int) (evA_nil))))) (evA_cons (ev_caE c__law_take hr passE (evA_cons (ev_var (pv 0)) (evA_cons (ev_int) (evA_nil)))) (evA_nil))) (by first | rfl | with_unfolding_all rfl)) (exs_cons (ex_set (i := 3) sc__law_net.nd rfl (by first | exact Or.inl rfl | exact Or.inr rfl) (ev_caE c__law_wide_box hr passE (evA_cons (ev_var (pv 0)) (evA_nil)))) (exs_cons (ex_setC (i := 4) (Nc := ["_law_place", "_law_digits"]) (cs := [none, some 3]) rfl sc__law_net.nd rfl (by first | exact Or.inl rfl | exact Or.inr rfl) (CSc.ok ⟨rfl, by decide +kernel, by kernel_rfl, by decide +kernel, rfl, by kernel_rfl⟩) (evI_range1 rfl B.n_range (evA_cons (ev_var (pv 1)) (evA_nil))) (gokc_name rfl) (fun C D cells fp s₀ H₀ pins => ⟨pg_name (i := 0) (show (["_law_place", "_law_digits"] : List Str).Nodup from by decide +kernel) rfl (by first | exact Or.inl rfl | exact Or.inr rfl) (by first | exact .inl rfl | exact .inr rfl), evTs_nil, ev_caE c__law_take hr passE0 (evA_cons (ev_var (pv 1)) (evA_cons (ev_int) (evA_nil)))⟩)) (exs_cons (ex_set (i := 5) sc__law_net.nd rfl (by first | exact Or.inl rfl | exact Or.inr rfl) (ev_lst (evA_nil))) (exs_cons (ex_for ownE rfl (evI_range1 rfl B.n_range (evA_cons (ev_var (pv 1)) (evA_nil))) (evG_name (pg_name (i := 6) (sc__law_net.nd) rfl (by first | exact Or.inl rfl | exact Or.inr rfl) (by first | exact .inl rfl | exact .inr rfl))) (exs_one (ex_for ownE rfl (evI_range2 rfl B.n_range (evA_cons (ev_op addM (ev_var (pv 6)) (ev_int)) (evA_cons (ev_var (pv 1)) (evA_nil)))) (evG_name (pg_name (i := 7) (sc__law_net.nd) rfl (by first | exact Or.inl rfl | exact Or.inr rfl) (by first | exact .inl rfl | exact .inr rfl))) (exs_cons (ex_set (i := 8) sc__law_net.nd rfl (by first | exact Or.inl rfl | exact Or.inr rfl) (ev_caE c__law_take hr passE (evA_cons (ev_var (pv 3)) (evA_cons (ev_int) (evA_nil))))) (exs_cons (ex_if (evT_cmp (eqXM hr.units) (ev_var (pv 2)) (ev_int) (nomark _)) (exs_one (ex_set (i := 8) sc__law_net.nd rfl (by first | exact Or.inl rfl | exact Or.inr rfl) (ev_op modM (ev_op addM (ev_ix (ev_var (pv 4)) (ev_var (pv 6)) (fun _ _ => rfl)) (ev_ix (ev_var (pv 4)) (ev_var (pv 7)) (fun _ _ => rfl))) (ev_int)))) (exs_nil)) (exs_one (ex_if (evT_w (evW_and (evT_cmp gtM (ev_caE c__law_take hr passE (evA_cons (ev_var (pv 3)) (evA_cons (ev_int) (evA_nil)))) (ev_int) (nomark _)) (evW_and1 (evT_w (evW_or (evT_cmp (neXM hr.units) (ev_var (pv 2)) (ev_int) (nomark _)) (evW_or1 (evT_chain ltM leM (ev_var (pv 6)) (ev_int) (ev_var (pv 7))))))))) (exs_one (ex_expr (ev_append (ev_var (pv 5)) (ev_tup (evA_cons (ev_var (pv 6)) (evA_cons (ev_var (pv 7)) (evA_cons (ev_var (pv 8)) (evA_nil)))))))) (exs_nil)))))))) (exs_one (ex_ret (ev_tup (evA_cons (ev_var (pv 1)) (evA_cons (ev_callT tupOfM rfl B.n_tuple boot_tuple' (evA_cons (ev_var (pv 5)) (evA_nil))) (evA_nil))))))))))


noncomputable abbrev s_is_tie : Stmt := top 19
theorem sc_is_tie : FnScope ["thing", "many"] ["thing", "many"] (defScope s_is_tie) := ⟨rfl, rfl, rfl, by decide +kernel, rfl, by decide +kernel, by decide +kernel⟩
noncomputable abbrev g_is_tie (F_is_lot : List D → HD → Out D) (F_is_light : List D → HD → Out D) : MS := mSeq (mIfS (mOr (mNot (mTru (mCall (ar2 instX) (mCons (mVar 0) (mCons (mC (.ty "tuple")) (mNil)))))) (mTb (mOp neX (mCall (ar1 lenD) (mCons (mVar 0) (mNil))) (mC (.int 3))))) (mRet (mC (.bl false))) (mSkip)) (mRet (mAndV (mCall F_is_lot (mCons (mSliceX (mVar 0) (mNoPart) (mPart (mC (.int 2)))) (mCons (mVar 1) (mNil)))) (mCall F_is_light (mCons (mOp ixD (mVar 0) (mC (.int 2))) (mNil)))))

theorem b_is_tie {P : Program} {w : World} {K : PySem.W.Frag} {mg : Str → Option Value} {base : Heap} (B : Bl mg) (et : etOk K = true) {F_is_lot : List D → HD → Out D} {F_is_light : List D → HD → Out D} (c_is_lot : CaE P w K mg base "is_lot" 2 F_is_lot) (c_is_light : CaE P w K mg base "is_light" 3 F_is_light) (f : Addr) (cdv : Value) (A : Around) (outer : List Env) (s : Shared) (H : Hp) (E : XK) (hr : Room 3 (A.deeper (envOfC "is_tie" (defScope s_is_tie) s.heap.objs.size f cdv))) :
    Exs (cxOf (CXE P w K) P w K mg base ["thing", "many"] "is_tie" (defScope s_is_tie) f cdv A outer s H E) E (defBody s_is_tie) (g_is_tie F_is_lot F_is_light) :=
  exs_cons (ex_if (evT_w (evW_or (evT_not (evT_val (ev_callB (instXM et) rfl B.n_isinstance boot_isinstance' (evA_cons (ev_var (pv 0)) (evA_cons (ev_ty rfl B.n_tuple boot_tuple') (evA_nil)))))) (evW_or1 (evT_cmp (neXM hr.units) (ev_callB lenM rfl B.n_len boot_len' (evA_cons (ev_var (pv 0)) (evA_nil))) (ev_int) (nomark _))))) (exs_one (ex_ret (ev_bl))) (exs_nil)) (exs_one (ex_ret (ev_and (ev_caE c_is_lot hr passE (evA_cons (ev_sliceX (ev_var (pv 0)) (evO_none) (evO_some (ev_int))) (evA_cons (ev_var (pv 1)) (evA_nil)))) (ev_one (ev_caE c_is_light hr passE (evA_cons (ev_ix (ev_var (pv 0)) (ev_int) (fun _ _ => rfl)) (evA_nil)))))))


noncomputable abbrev s_is_net : Stmt := top 20
theorem sc_is_net : FnScope ["thing", "many", "ties"] ["thing"] (defScope s_is_net) := ⟨rfl, rfl, rfl, by decide +kernel, rfl, by decide +kernel, by decide +kernel⟩
noncomputable abbrev g_is_net (F_is_between : List D → HD → Out D) (F_is_tie : List D → HD → Out D) : MS := mSeq (mIfS (mOr (mNot (mTru (mCall (ar2 instX) (mCons (mVar 0) (mCons (mC (.ty "tuple")) (mNil)))))) (mTb (mOp neX (mCall (ar1 lenD) (mCons (mVar 0) (mNil))) (mC (.int 2))))) (mRet (mC (.bl false))) (mSkip)) (mSeq (mUnp (sPair 1 2) (mVar 0)) (mSeq (mIfS (mOr (mNot (mTru (mCall F_is_between (mCons (mVar 1) (mCons (mC (.int 1)) (mCons (mC (.int 8)) (mNil))))))) (mNot (mTru (mCall (ar2 instX) (mCons (mVar 2) (mCons (mC (.ty "tuple")) (mNil))))))) (mRet (mC (.bl false))) (mSkip)) (mSeq (mIfS (mNot (mTru (mCall (ar1 allD) (mCons (mComp [none, some 1] (mISeq (mVar 2)) (sName 0) (mTrue) (mCall F_is_tie (mCons (mVar 0) (mCons (mVar 1) (mNil))))) (mNil))))) (mRet (mC (.bl false))) (mSkip)) (mRet (mCall (ar1 allD) (mCons (mComp [none, none] (mIZip (mCons (mVar 2) (mCons (mSliceX (mVar 2) (mPart (mC (.int 1))) (mNoPart)) (mNil)))) (sPair 0 1) (mTrue) (mOp (cmpT HT.lexLt) (mSliceX (mVar 0) (mNoPart) (mPart (mC (.int 2)))) (mSliceX (mVar 1) (mNoPart) (mPart (mC (.int 2)))))) (mNil)))))))

theorem b_is_net {P : Program} {w : World} {K : PySem.W.Frag} {mg : Str → Option Value} {base : Heap} (B : Bl mg) (et : etOk K = true) {F_is_between : List D → HD → Out D} {F_is_tie : List D → HD → Out D} (c_is_between : CaE P w K mg base "is_between" 2 F_is_between) (c_is_tie : CaE P w K mg base "is_tie" 4 F_is_tie) {t_MOST_PLACES : Tok} (m_MOST_PLACES : mg "MOST_PLACES" = some (.int 8 t_MOST_PLACES)) (f : Addr) (cdv : Value) (A : Around) (outer : List Env) (s : Shared) (H : Hp) (E : XK) (hr : Room 4 (A.deeper (envOfC "is_net" (defScope s_is_net) s.heap.objs.size f cdv))) :
    Exs (cxOf (CXE P w K) P w K mg base ["thing", "many", "ties"] "is_net" (defScope s_is_net) f cdv A outer s H E) E (defBody s_is_net) (g_is_net F_is_between F_is_tie) :=
  exs_cons (ex_if (evT_w (evW_or (evT_not (evT_val (ev_callB (instXM et) rfl B.n_isinstance boot_isinstance' (evA_cons (ev_var (pv 0)) (evA_cons (ev_ty rfl B.n_tuple boot_tuple') (evA_nil)))))) (evW_or1 (evT_cmp (neXM hr.units) (ev_callB lenM rfl B.n_len boot_len' (evA_cons (ev_var (pv 0)) (evA_nil))) (ev_int) (nomark _))))) (exs_one (ex_ret (ev_bl))) (exs_nil)) (exs_cons (ex_unp (ev_var (pv 0)) (evG_pair (pair_pg rfl (pg_name (i := 1) (sc_is_net.nd) rfl (by first | exact Or.inl rfl | exact Or.inr rfl) (by first | exact .inl rfl | exact .inr rfl)) (pg_name (i := 2) (sc_is_net.nd) rfl (by first | exact Or.inl rfl | exact Or.inr rfl) (by first | exact .inl rfl | exact .inr rfl))))) (exs_cons (ex_if (evT_w (evW_or (evT_not (evT_val (ev_caE c_is_between hr passE (evA_cons (ev_var (pv 1)) (evA_cons (ev_int) (evA_cons (ev_globI rfl m_MOST_PLACES) (evA_nil))))))) (evW_or1 (evT_not (evT_val (ev_callB (instXM et) rfl B.n_isinstance boot_isinstance' (evA_cons (ev_var (pv 2)) (evA_cons (ev_ty rfl B.n_tuple boot_tuple') (evA_nil))))))))) (exs_one (ex_ret (ev_bl))) (exs_nil)) (exs_cons (ex_if (evT_not (evT_val (ev_callB (allM rfl) rfl B.n_all boot_all' (evA_cons (ev_comp (Nc := ["tie", "many"]) (cs := [none, some 1]) rfl (CSc.ok ⟨rfl, by decide +kernel, by kernel_rfl, by decide +kernel, rfl, by kernel_rfl⟩) (evI_seq (ev_var (pv 2))) (gokc_name rfl) (fun C D cells fp s₀ H₀ pins => ⟨pg_name (i := 0) (show (["tie", "many"] : List Str).Nodup from by decide +kernel) rfl (by first | exact Or.inl rfl | exact Or.inr rfl) (by first | exact .inl rfl | exact .inr rfl), evTs_nil, ev_caE c_is_tie hr passE0 (evA_cons (ev_var (pv 0)) (evA_cons (ev_var (pv 1)) (evA_nil)))⟩)) (evA_nil))))) (exs_one (ex_ret (ev_bl))) (exs_nil)) (exs_one (ex_ret (ev_callB (allM rfl) rfl B.n_all boot_all' (evA_cons (ev_comp (Nc := ["ahead", "tie"]) (cs := [none, none]) rfl (CSc.ok ⟨rfl, by decide +kernel, by kernel_rfl, by decide +kernel, rfl, by kernel_rfl⟩) (evI_zip rfl B.n_zip (evA_cons (ev_var (pv 2)) (evA_cons (ev_sliceX (ev_var (pv 2)) (evO_some (ev_int)) (evO_none)) (evA_nil)))) (gokc_pair rfl rfl) (fun C D cells fp s₀ H₀ pins => ⟨pair_pg rfl (pg_name (i := 0) (show (["ahead", "tie"] : List Str).Nodup from by decide +kernel) rfl (by first | exact Or.inl rfl | exact Or.inr rfl) (by first | exact .inl rfl | exact .inr rfl)) (pg_name (i := 1) (show (["ahead", "tie"] : List Str).Nodup from by decide +kernel) rfl (by first | exact Or.inl rfl | exact Or.inr rfl) (by first | exact .inl rfl | exact .inr rfl)), evTs_nil, ev_cmp (ltTM hr.units) (ev_sliceX (ev_var (pv 0)) (evO_none) (evO_some (ev_int))) (ev_sliceX (ev_var (pv 1)) (evO_none) (evO_some (ev_int))) (nomark _)⟩)) (evA_nil))))))))


noncomputable abbrev s_need_net : Stmt := top 21
theorem sc_need_net : FnScope ["thing"] ["thing"] (defScope s_need_net) := ⟨rfl, rfl, rfl, by decide +kernel, rfl, by decide +kernel, by decide +kernel⟩
noncomputable abbrev g_need_net (F_is_net : List D → HD → Out D) : MS := mIfS (mNot (mTru (mCall F_is_net (mCons (mVar 0) (mNil))))) (mRaise "NoNet" (mCons (mC (.str "this is no net")) (mNil))) (mSkip)

theorem b_need_net {P : Program} {w : World} {K : PySem.W.Frag} {mg : Str → Option Value} {base : Heap} (B : Bl mg) (et : etOk K = true) {F_is_net : List D → HD → Out D} (c_is_net : CaE P w K mg base "is_net" 5 F_is_net) (f : Addr) (cdv : Value) (A : Around) (outer : List Env) (s : Shared) (H : Hp) (E : XK) (hr : Room 5 (A.deeper (envOfC "need_net" (defScope s_need_net) s.heap.objs.size f cdv))) :
    Exs (cxOf (CXE P w K) P w K mg base ["thing"] "need_net" (defScope s_need_net) f cdv A outer s H E) E (defBody s_need_net) (g_need_net F_is_net) :=
  exs_one (ex_if (evT_not (evT_val (ev_caE c_is_net hr passE (evA_cons (ev_var (pv 0)) (evA_nil))))) (exs_one (ex_raiseE et (by decide +kernel) (by decide +kernel) rfl rfl throwsE (evA_cons (ev_str) (evA_nil)))) (exs_nil))


noncomputable abbrev s_net_switched : Stmt := top 22
theorem sc_net_switched : FnScope ["net", "lot", "many", "ties"] ["net", "lot"] (defScope s_net_switched) := ⟨rfl, rfl, rfl, by decide +kernel, rfl, by decide +kernel, by decide +kernel⟩
noncomputable abbrev g_net_switched (F_need_net : List D → HD → Out D) (F_is_lot : List D → HD → Out D) : MS := mSeq (mExpr (mCall F_need_net (mCons (mVar 0) (mNil)))) (mSeq (mUnp (sPair 2 3) (mVar 0)) (mSeq (mIfS (mNot (mTru (mCall F_is_lot (mCons (mVar 1) (mCons (mVar 2) (mNil)))))) (mRaise "NoPlace" (mCons (mC (.str "this is no lot of the net's places")) (mNil))) (mSkip)) (mRet (mTup (mCons (mVar 2) (mCons (mCall (ar1 tupOfD) (mCons (mComp [none, none, none, some 1] (mISeq (mVar 3)) (sNames [0, 1, 2]) (mTrue) (mTup (mCons (mVar 0) (mCons (mVar 1) (mCons (mIf (mTb (mOp eqX (mOp (inD false) (mVar 0) (mVar 3)) (mOp (inD false) (mVar 1) (mVar 3)))) (mVar 2) (mOp subD (mC (.int 1)) (mVar 2))) (mNil)))))) (mNil))) (mNil)))))))

theorem b_net_switched {P : Program} {w : World} {K : PySem.W.Frag} {mg : Str → Option Value} {base : Heap} (B : Bl mg) (et : etOk K = true) {F_need_net : List D → HD → Out D} {F_is_lot : List D → HD → Out D} (c_need_net : CaE P w K mg base "need_net" 6 F_need_net) (c_is_lot : CaE P w K mg base "is_lot" 2 F_is_lot) (f : Addr) (cdv : Value) (A : Around) (outer : List Env) (s : Shared) (H : Hp) (E : XK) (hr : Room 6 (A.deeper (envOfC "net_switched" (defScope s_net_switched) s.heap.objs.size f cdv))) :
    Exs (cxOf (CXE P w K) P w K mg base ["net", "lot", "many", "ties"] "net_switched" (defScope s_net_switched) f cdv A outer s H E) E (defBody s_net_switched) (g_net_switched F_need_net F_is_lot) :=
  exs_cons (ex_expr (ev_caE c_need_net hr passE (evA_cons (ev_var (pv 0)) (evA_nil)))) (exs_cons (ex_unp (ev_var (pv 0)) (evG_pair (pair_pg rfl (pg_name (i := 2) (sc_net_switched.nd) rfl (by first | exact Or.inl rfl | exact Or.inr rfl) (by first | exact .inl rfl | exact .inr rfl)) (pg_name (i := 3) (sc_net_switched.nd) rfl (by first | exact Or.inl rfl | exact Or.inr rfl) (by first | exact .inl rfl | exact .inr rfl))))) (exs_cons (ex_if (evT_not (evT_val (ev_caE c_is_lot hr passE (evA_cons (ev_var (pv 1)) (evA_cons (ev_var (pv 2)) (evA_nil)))))) (exs_one (ex_raiseE et (by decide +kernel) (by decide +kernel) rfl rfl throwsE (evA_cons (ev_str) (evA_nil)))) (exs_nil)) (exs_one (ex_ret (ev_tup (evA_cons (ev_var (pv 2)) (evA_cons (ev_callT tupOfM rfl B.n_tuple boot_tuple' (evA_cons (ev_comp (Nc := ["a", "b", "light", "lot"]) (cs := [none, none, none, some 1]) rfl (CSc.ok ⟨rfl, by decide +kernel, by kernel_rfl, by decide +kernel, rfl, by kernel_rfl⟩) (evI_seq (ev_var (pv 3))) (gokc_three rfl rfl rfl) (fun C D cells fp s₀ H₀ pins => ⟨pg_tup rfl (pgs_cons (pg_name (i := 0) (show (["a", "b", "light", "lot"] : List Str).Nodup from by decide +kernel) rfl (by first | exact Or.inl rfl | exact Or.inr rfl) (by first | exact .inl rfl | exact .inr rfl)) (pgs_cons (pg_name (i := 1) (show (["a", "b", "light", "lot"] : List Str).Nodup from by decide +kernel) rfl (by first | exact Or.inl rfl | exact Or.inr rfl) (by first | exact .inl rfl | exact .inr rfl)) (pgs_cons (pg_name (i := 2) (show (["a", "b", "light", "lot"] : List Str).Nodup from by decide +kernel) rfl (by first | exact Or.inl rfl | exact Or.inr rfl) (by first | exact .inl rfl | exact .inr rfl)) (pgs_nil)))), evTs_nil, ev_tup (evA_cons (ev_var (pv 0)) (evA_cons (ev_var (pv 1)) (evA_cons (ev_ifExp (evT_cmp (eqXM hr.units) (ev_cmp inM (ev_var (pv 0)) (ev_var (pv 3)) (by with_unfolding_all rfl)) (ev_cmp inM (ev_var (pv 1)) (ev_var (pv 3)) (by with_unfolding_all rfl)) (nomark _)) (ev_var (pv 2)) (ev_op subM (ev_int) (ev_var (pv 2)))) (evA_nil))))⟩)) (evA_nil))) (evA_nil))))))))


noncomputable abbrev s_law : Stmt := top 38
theorem sc_law : FnScope ["_law_script", "_law_k", "_law_box_here", "_law_net_here", "_law_lot_here", "_law_turn", "_law_thing", "_law_bad", "_law_due", "_law_held"] ["_law_script"] (defScope s_law) := ⟨rfl, rfl, rfl, by decide +kernel, rfl, by decide +kernel, by decide +kernel⟩
noncomputable abbrev g_law (F__law_box : List D → HD → Out D) (F__law_net : List D → HD → Out D) (F_is_net : List D → HD → Out D) (F__law_lot : List D → HD → Out D) (F_net_switched : List D → HD → Out D) (F__law_net_switched : List D → HD → Out D) (F__law_no_lot : List D → HD → Out D) (F__law_no_net : List D → HD → Out D) (F__law_is_net : List D → HD → Out D) (F__law_kind : List D → HD → Out D) : MS := mSeq (mFor (mIRng1 (mCons (mCall (ar2 maxD) (mCons (mC (.int 1)) (mCons (mCall (ar2 minD) (mCons (mCall (ar1 lenD) (mCons (mVar 0) (mNil))) (mCons (mC (.int 6)) (mNil)))) (mNil)))) (mNil))) (sName 1) (mSeq (mSet 2 (mCall F__law_box (mCons (mVar 0) (mCons (mVar 1) (mNil))))) (mSeq (mSet 3 (mCall F__law_net (mCons (mVar 2) (mNil)))) (mSeq (mIfS (mTb (mOp isnotD (mCall F_is_net (mCons (mVar 3) (mNil))) (mC (.bl true)))) (mRet (mC (.bl false))) (mSkip)) (mSeq (mFor (mISeq (mLst (mCons (mCall F__law_lot (mCons (mVar 2) (mCons (mOp ixD (mVar 3) (mC (.int 0))) (mNil)))) (mCons (mTup (mNil)) (mCons (mTupR (mOp ixD (mVar 3) (mC (.int 0)))) (mNil)))))) (sName 4) (mIfS (mTb (mOp neX (mCall (ar1 reprX) (mCons (mCall F_net_switched (mCons (mVar 3) (mCons (mVar 4) (mNil)))) (mNil))) (mCall (ar1 reprX) (mCons (mCall F__law_net_switched (mCons (mVar 3) (mCons (mVar 4) (mNil)))) (mNil))))) (mRet (mC (.bl false))) (mSkip))) (mFor (mIRng1 (mCons (mC (.int 5)) (mNil))) (sName 5) (mSeq (mUnp (sNames [6, 7]) (mTup (mCons (mCall F__law_no_net (mCons (mVar 2) (mCons (mVar 3) (mNil)))) (mCons (mCall F__law_no_lot (mCons (mVar 2) (mCons (mOp ixD (mVar 3) (mC (.int 0))) (mNil)))) (mNil))))) (mSeq (mPar 8 9 (mCons (mCall F__law_is_net (mCons (mVar 6) (mNil))) (mCons (mCall (ar1 reprX) (mCons (mVar 6) (mNil))) (mNil)))) (mSeq (mIfS (mOr (mTb (mOp neX (mCall (ar1 reprX) (mCons (mCall F_is_net (mCons (mVar 6) (mNil))) (mNil))) (mCall (ar1 reprX) (mCons (mVar 8) (mNil))))) (mTb (mOp neX (mCall (ar1 reprX) (mCons (mVar 6) (mNil))) (mVar 9)))) (mRet (mC (.bl false))) (mSkip)) (mSeq (mIfS (mAnd (mNot (mTru (mVar 8))) (mTb (mOp neX (mSaid [6, 7] F__law_kind (mCall F_net_switched (mCons (mVar 0) (mCons (mVar 1) (mNil))))) (mC (.str "! net"))))) (mRet (mC (.bl false))) (mSkip)) (mIfS (mTb (mOp neX (mSaid [3, 7] F__law_kind (mCall F_net_switched (mCons (mVar 0) (mCons (mVar 1) (mNil))))) (mC (.str "! place")))) (mRet (mC (.bl false))) (mSkip)))))))))))) (mRet (mC (.bl true)))

theorem b_law {P : Program} {w : World} {K : PySem.W.Frag} {mg : Str → Option Value} {base : Heap} (B : Bl mg) (et : etOk K = true) {F__law_box : List D → HD → Out D} {F__law_net : List D → HD → Out D} {F_is_net : List D → HD → Out D} {F__law_lot : List D → HD → Out D} {F_net_switched : List D → HD → Out D} {F__law_net_switched : List D → HD → Out D} {F__law_no_lot : List D → HD → Out D} {F__law_no_net : List D → HD → Out D} {F__law_is_net : List D → HD → Out D} {F__law_kind : List D → HD → Out D} (c__law_box : CaE P w K mg base "_law_box" 2 F__law_box) (c__law_net : CaE P w K mg base "_law_net" 3 F__law_net) (c_is_net : CaE P w K mg base "is_net" 5 F_is_net) (c__law_lot : CaE P w K mg base "_law_lot" 2 F__law_lot) (c_net_switched : CaE P w K mg base "net_switched" 7 F_net_switched) (c__law_net_switched : CaE P w K mg base "_law_net_switched" 1 F__law_net_switched) (c__law_no_lot : CaE P w K mg base "_law_no_lot" 2 F__law_no_lot) (c__law_no_net : CaE P w K mg base "_law_no_net" 2 F__law_no_net) (c__law_is_net : CaE P w K mg base "_law_is_net" 2 F__law_is_net) (c__law_kind : CaM P w K mg base "_law_kind" 1 F__law_kind) {cT T fsd : Addr} {fdd : FuncData} (htp : tabP K = some (cT, T)) (hcd : PySem.W.codeHdIn K cT T = true) (hbm : BMb mg base) (Sd : SaidD K mg s__law_said fsd fdd) (f : Addr) (A : Around) (outer : List Env) (s : Shared) (H : Hp) (E : XK) (hr : Room 9 (A.deeper (envOfC "law" (defScope s_law) s.heap.objs.size f (.ref cT)))) :
    Exs (cxOf (CXE P w K) P w K mg base ["_law_script", "_law_k", "_law_box_here", "_law_net_here", "_law_lot_here", "_law_turn", "_law_thing", "_law_bad", "_law_due", "_law_held"] "law" (defScope s_law) f (.ref cT) A outer s H E) E (defBody s_law) (g_law F__law_box F__law_net F_is_net F__law_lot F_net_switched F__law_net_switched F__law_no_lot F__law_no_net F__law_is_net F__law_kind) :=
  have LX : LamX (cxOf (CXE P w K) P w K mg base ["_law_script", "_law_k", "_law_box_here", "_law_net_here", "_law_lot_here", "_law_turn", "_law_thing", "_law_bad", "_law_due", "_law_held"] "law" (defScope s_law) f (.ref cT) A outer s H E) cT T := ⟨rfl, htp, hcd, (show ("law" : Str) ++ ".<locals>." = ("law.<locals>." : Str) by decide +kernel), hbm⟩
  exs_cons (ex_for ownE rfl (evI_range1 rfl B.n_range (evA_cons (ev_callB (maxM rfl) rfl B.n_max boot_max' (evA_cons (ev_int) (evA_cons (ev_callB (minM rfl) rfl B.n_min boot_min' (evA_cons (ev_callB lenM rfl B.n_len boot_len' (evA_cons (ev_var (pv 0)) (evA_nil))) (evA_cons (ev_int) (evA_nil)))) (evA_nil)))) (evA_nil))) (evG_name (pg_name (i := 1) (sc_law.nd) rfl (by first | exact Or.inl rfl | exact Or.inr rfl) (by first | exact .inl rfl | exact .inr rfl))) (exs_cons (ex_set (i := 2) sc_law.nd rfl (by first | exact Or.inl rfl | exact Or.inr rfl) (ev_caE c__law_box hr passE (evA_cons (ev_var (pv 0)) (evA_cons (ev_var (pv 1)) (evA_nil))))) (exs_cons (ex_set (i := 3) sc_law.nd rfl (by first | exact Or.inl rfl | exact Or.inr rfl) (ev_caE c__law_net hr passE (evA_cons (ev_var (pv 2)) (evA_nil)))) (exs_cons (ex_if (evT_cmp isnotM (ev_caE c_is_net hr passE (evA_cons (ev_var (pv 3)) (evA_nil))) (ev_bl) (nomark _)) (exs_one (ex_ret (ev_bl))) (exs_nil)) (exs_cons (ex_for ownE rfl (evI_seq (ev_lst (evA_cons (ev_caE c__law_lot hr passE (evA_cons (ev_var (pv 2)) (evA_cons (ev_ix (ev_var (pv 3)) (ev_int) (fun _ _ => rfl)) (evA_nil)))) (evA_cons (ev_tup (evA_nil)) (evA_cons (ev_tupR rfl rfl B.n_tuple rfl B.n_range boot_tuple' (ev_ix (ev_var (pv 3)) (ev_int) (fun _ _ => rfl))) (evA_nil)))))) (evG_name (pg_name (i := 4) (sc_law.nd) rfl (by first | exact Or.inl rfl | exact Or.inr rfl) (by first | exact .inl rfl | exact .inr rfl))) (exs_one (ex_if (evT_cmp (neXM hr.units) (ev_callB (reprXM hr.units hr.gd) rfl B.n_repr boot_repr' (evA_cons (ev_caE c_net_switched hr passE (evA_cons (ev_var (pv 3)) (evA_cons (ev_var (pv 4)) (evA_nil)))) (evA_nil))) (ev_callB (reprXM hr.units hr.gd) rfl B.n_repr boot_repr' (evA_cons (ev_caE c__law_net_switched hr passE (evA_cons (ev_var (pv 3)) (evA_cons (ev_var (pv 4)) (evA_nil)))) (evA_nil))) (nomark _)) (exs_one (ex_ret (ev_bl))) (exs_nil)))) (exs_one (ex_for ownE rfl (evI_range1 rfl B.n_range (evA_cons (ev_int) (evA_nil))) (evG_name (pg_name (i := 5) (sc_law.nd) rfl (by first | exact Or.inl rfl | exact Or.inr rfl) (by first | exact .inl rfl | exact .inr rfl))) (exs_cons (ex_unp (ev_tup (evA_cons (ev_caE c__law_no_net hr passE (evA_cons (ev_var (pv 2)) (evA_cons (ev_var (pv 3)) (evA_nil)))) (evA_cons (ev_caE c__law_no_lot hr passE (evA_cons (ev_var (pv 2)) (evA_cons (ev_ix (ev_var (pv 3)) (ev_int) (fun _ _ => rfl)) (evA_nil)))) (evA_nil)))) (evG_names (is := [6, 7]) (pg_tup rfl (pgs_cons (pg_name (i := 6) (sc_law.nd) rfl (by first | exact Or.inl rfl | exact Or.inr rfl) (by first | exact .inl rfl | exact .inr rfl)) (pgs_cons (pg_name (i := 7) (sc_law.nd) rfl (by first | exact Or.inl rfl | exact Or.inr rfl) (by first | exact .inl rfl | exact .inr rfl)) (pgs_nil)))))) (exs_cons (ex_par (i := 8) (j := 9) rfl sc_law.nd rfl rfl (by decide) rfl rfl (evA_cons (ev_caE c__law_is_net hr passE (evA_cons (ev_var (pv 6)) (evA_nil))) (evA_cons (ev_callB (reprXM hr.units hr.gd) rfl B.n_repr boot_repr' (evA_cons (ev_var (pv 6)) (evA_nil))) (evA_nil))) (by first | rfl | with_unfolding_all rfl)) (exs_cons (ex_if (evT_w (evW_or (evT_cmp (neXM hr.units) (ev_callB (reprXM hr.units hr.gd) rfl B.n_repr boot_repr' (evA_cons (ev_caE c_is_net hr passE (evA_cons (ev_var (pv 6)) (evA_nil))) (evA_nil))) (ev_callB (reprXM hr.units hr.gd) rfl B.n_repr boot_repr' (evA_cons (ev_var (pv 8)) (evA_nil))) (nomark _)) (evW_or1 (evT_cmp (neXM hr.units) (ev_callB (reprXM hr.units hr.gd) rfl B.n_repr boot_repr' (evA_cons (ev_var (pv 6)) (evA_nil))) (ev_var (pv 9)) (nomark _))))) (exs_one (ex_ret (ev_bl))) (exs_nil)) (exs_cons (ex_if (evT_w (evW_and (evT_not (evT_val (ev_var (pv 8)))) (evW_and1 (evT_cmp (neXM hr.units) (ev_saidD (Nc := ["_law_thing", "_law_bad"]) (cs := [6, 7]) LX (fun _ => rfl) hr lvE et Sd saidT (CaM.mono (k := 7) c__law_kind (by decide)) ⟨⟨rfl, rfl, rfl, by kernel_rfl⟩, by decide +kernel, by kernel_rfl, rfl, by kernel_rfl⟩ (fun a cd cl A outer s H E' hr => ev_caE c_net_switched hr passL (evA_cons (ev_var (pv 0)) (evA_cons (ev_var (pv 1)) (evA_nil)))) rfl) (ev_str) (nomark _))))) (exs_one (ex_ret (ev_bl))) (exs_nil)) (exs_one (ex_if (evT_cmp (neXM hr.units) (ev_saidD (Nc := ["_law_net_here", "_law_bad"]) (cs := [3, 7]) LX (fun _ => rfl) hr lvE et Sd saidT (CaM.mono (k := 7) c__law_kind (by decide)) ⟨⟨rfl, rfl, rfl, by kernel_rfl⟩, by decide +kernel, by kernel_rfl, rfl, by kernel_rfl⟩ (fun a cd cl A outer s H E' hr => ev_caE c_net_switched hr passL (evA_cons (ev_var (pv 0)) (evA_cons (ev_var (pv 1)) (evA_nil)))) rfl) (ev_str) (nomark _)) (exs_one (ex_ret (ev_bl))) (exs_nil)))))))))))))) (exs_one (ex_ret (ev_bl)))

noncomputable def F_is_whole : List D → HD → Out D := fun ds h => if ds.length = 1 then mBody 1 (g_is_whole) ds h else .stuck

theorem ca_is_whole {P : Program} {w : World} {K : PySem.W.Frag} {mg : Str → Option Value} {base : Heap} (B : Bl mg) (et : etOk K = true) {f : Addr} {fd : FuncData} (D : Dn K mg "is_whole" ["thing"] s_is_whole f fd) : CaE P w K mg base "is_whole" 1 F_is_whole :=
  ⟨f, fd, _, fn_mirrorE D.fn sc_is_whole (fun ds h e => if_neg e) (fun ds h e => if_pos e) (fun cdv A outer s H E hr => b_is_whole B et f cdv A outer s H E hr), D.bd, D.mg, D.fn.kp⟩

noncomputable def F__law_cell : List D → HD → Out D := fun ds h => if ds.length = 2 then mBody 2 (g__law_cell) ds h else .stuck

theorem ca__law_cell {P : Program} {w : World} {K : PySem.W.Frag} {mg : Str → Option Value} {base : Heap} (B : Bl mg) (et : etOk K = true) {f : Addr} {fd : FuncData} (D : Dn K mg "_law_cell" ["_law_script", "_law_k"] s__law_cell f fd) : CaE P w K mg base "_law_cell" 1 F__law_cell :=
  ⟨f, fd, _, fn_mirrorE D.fn sc__law_cell (fun ds h e => if_neg e) (fun ds h e => if_pos e) (fun cdv A outer s H E hr => b__law_cell B et f cdv A outer s H E hr), D.bd, D.mg, D.fn.kp⟩

noncomputable def F__law_mix : List D → HD → Out D := fun ds h => if ds.length = 2 then mBody 3 (g__law_mix) ds h else .stuck

theorem ca__law_mix {P : Program} {w : World} {K : PySem.W.Frag} {mg : Str → Option Value} {base : Heap} (B : Bl mg) (et : etOk K = true) {f : Addr} {fd : FuncData} (D : Dn K mg "_law_mix" ["_law_cell_here", "_law_k"] s__law_mix f fd) : CaE P w K mg base "_law_mix" 1 F__law_mix :=
  ⟨f, fd, _, fn_mirrorE D.fn sc__law_mix (fun ds h e => if_neg e) (fun ds h e => if_pos e) (fun cdv A outer s H E hr => b__law_mix B et f cdv A outer s H E hr), D.bd, D.mg, D.fn.kp⟩

noncomputable def F__law_take : List D → HD → Out D := fun ds h => if ds.length = 2 then mBody 4 (g__law_take) ds h else .stuck

theorem ca__law_take {P : Program} {w : World} {K : PySem.W.Frag} {mg : Str → Option Value} {base : Heap} (B : Bl mg) (et : etOk K = true) {f : Addr} {fd : FuncData} (D : Dn K mg "_law_take" ["_law_box_here", "_law_many"] s__law_take f fd) : CaE P w K mg base "_law_take" 1 F__law_take :=
  ⟨f, fd, _, fn_mirrorE D.fn sc__law_take (fun ds h e => if_neg e) (fun ds h e => if_pos e) (fun cdv A outer s H E hr => b__law_take B et f cdv A outer s H E hr), D.bd, D.mg, D.fn.kp⟩

noncomputable def F__law_kind : List D → HD → Out D := fun ds h => if ds.length = 1 then mBody 3 (g__law_kind) ds h else .stuck

theorem ca__law_kind {P : Program} {w : World} {K : PySem.W.Frag} {mg : Str → Option Value} {base : Heap} (B : Bl mg) (et : etOk K = true) {f : Addr} {fd : FuncData} (D : Dn K mg "_law_kind" ["_law_e"] s__law_kind f fd) : CaM P w K mg base "_law_kind" 1 F__law_kind :=
  ⟨f, fd, _, fn_mirrorM D.fn sc__law_kind (fun ds h e => if_neg e) (fun ds h e => if_pos e) (fun cdv A outer s H hr => b__law_kind B et f cdv A outer s H hr), D.bd, D.mg, D.fn.kp, fun ds h e => if_neg e⟩

noncomputable def F__law_net_switched : List D → HD → Out D := fun ds h => if ds.length = 2 then mBody 6 (g__law_net_switched) ds h else .stuck

theorem ca__law_net_switched {P : Program} {w : World} {K : PySem.W.Frag} {mg : Str → Option Value} {base : Heap} (B : Bl mg) (et : etOk K = true) {f : Addr} {fd : FuncData} (D : Dn K mg "_law_net_switched" ["_law_net_here", "_law_lot_here"] s__law_net_switched f fd) : CaE P w K mg base "_law_net_switched" 1 F__law_net_switched :=
  ⟨f, fd, _, fn_mirrorE D.fn sc__law_net_switched (fun ds h e => if_neg e) (fun ds h e => if_pos e) (fun cdv A outer s H E hr => b__law_net_switched B et f cdv A outer s H E hr), D.bd, D.mg, D.fn.kp⟩

noncomputable def F__law_is_whole : List D → HD → Out D := fun ds h => if ds.length = 3 then mBody 3 (g__law_is_whole) ds h else .stuck

theorem ca__law_is_whole {P : Program} {w : World} {K : PySem.W.Frag} {mg : Str → Option Value} {base : Heap} (B : Bl mg) (et : etOk K = true) {f : Addr} {fd : FuncData} (D : Dn K mg "_law_is_whole" ["_law_thing", "_law_least", "_law_most"] s__law_is_whole f fd) : CaE P w K mg base "_law_is_whole" 1 F__law_is_whole :=
  ⟨f, fd, _, fn_mirrorE D.fn sc__law_is_whole (fun ds h e => if_neg e) (fun ds h e => if_pos e) (fun cdv A outer s H E hr => b__law_is_whole B et f cdv A outer s H E hr), D.bd, D.mg, D.fn.kp⟩

noncomputable def F_is_between : List D → HD → Out D := fun ds h => if ds.length = 3 then mBody 3 (g_is_between F_is_whole) ds h else .stuck

theorem ca_is_between {P : Program} {w : World} {K : PySem.W.Frag} {mg : Str → Option Value} {base : Heap} (B : Bl mg) (et : etOk K = true) (c_is_whole : CaE P w K mg base "is_whole" 1 F_is_whole) {f : Addr} {fd : FuncData} (D : Dn K mg "is_between" ["thing", "least", "most"] s_is_between f fd) : CaE P w K mg base "is_between" 2 F_is_between :=
  ⟨f, fd, _, fn_mirrorE D.fn sc_is_between (fun ds h e => if_neg e) (fun ds h e => if_pos e) (fun cdv A outer s H E hr => b_is_between B et c_is_whole f cdv A outer s H E hr), D.bd, D.mg, D.fn.kp⟩

noncomputable def F_is_lot : List D → HD → Out D := fun ds h => if ds.length = 2 then mBody 4 (g_is_lot F_is_whole) ds h else .stuck

theorem ca_is_lot {P : Program} {w : World} {K : PySem.W.Frag} {mg : Str → Option Value} {base : Heap} (B : Bl mg) (et : etOk K = true) (c_is_whole : CaE P w K mg base "is_whole" 1 F_is_whole) {f : Addr} {fd : FuncData} (D : Dn K mg "is_lot" ["thing", "size"] s_is_lot f fd) : CaE P w K mg base "is_lot" 2 F_is_lot :=
  ⟨f, fd, _, fn_mirrorE D.fn sc_is_lot (fun ds h e => if_neg e) (fun ds h e => if_pos e) (fun cdv A outer s H E hr => b_is_lot B et c_is_whole f cdv A outer s H E hr), D.bd, D.mg, D.fn.kp⟩

noncomputable def F__law_box : List D → HD → Out D := fun ds h => if ds.length = 2 then mBody 5 (g__law_box F__law_cell F__law_mix) ds h else .stuck

theorem ca__law_box {P : Program} {w : World} {K : PySem.W.Frag} {mg : Str → Option Value} {base : Heap} (B : Bl mg) (et : etOk K = true) (c__law_cell : CaE P w K mg base "_law_cell" 1 F__law_cell) (c__law_mix : CaE P w K mg base "_law_mix" 1 F__law_mix) {f : Addr} {fd : FuncData} (D : Dn K mg "_law_box" ["_law_script", "_law_k"] s__law_box f fd) : CaE P w K mg base "_law_box" 2 F__law_box :=
  ⟨f, fd, _, fn_mirrorE D.fn sc__law_box (fun ds h e => if_neg e) (fun ds h e => if_pos e) (fun cdv A outer s H E hr => b__law_box B et c__law_cell c__law_mix f cdv A outer s H E hr), D.bd, D.mg, D.fn.kp⟩

noncomputable def F__law_wide_box : List D → HD → Out D := fun ds h => if ds.length = 1 then mBody 4 (g__law_wide_box F__law_take) ds h else .stuck

theorem ca__law_wide_box {P : Program} {w : World} {K : PySem.W.Frag} {mg : Str → Option Value} {base : Heap} (B : Bl mg) (et : etOk K = true) (c__law_take : CaE P w K mg base "_law_take" 1 F__law_take) {f : Addr} {fd : FuncData} (D : Dn K mg "_law_wide_box" ["_law_box_here"] s__law_wide_box f fd) : CaE P w K mg base "_law_wide_box" 2 F__law_wide_box :=
  ⟨f, fd, _, fn_mirrorE D.fn sc__law_wide_box (fun ds h e => if_neg e) (fun ds h e => if_pos e) (fun cdv A outer s H E hr => b__law_wide_box B et c__law_take f cdv A outer s H E hr), D.bd, D.mg, D.fn.kp⟩

noncomputable def F__law_lot : List D → HD → Out D := fun ds h => if ds.length = 2 then mBody 2 (g__law_lot F__law_take) ds h else .stuck

theorem ca__law_lot {P : Program} {w : World} {K : PySem.W.Frag} {mg : Str → Option Value} {base : Heap} (B : Bl mg) (et : etOk K = true) (c__law_take : CaE P w K mg base "_law_take" 1 F__law_take) {f : Addr} {fd : FuncData} (D : Dn K mg "_law_lot" ["_law_box_here", "_law_size"] s__law_lot f fd) : CaE P w K mg base "_law_lot" 2 F__law_lot :=
  ⟨f, fd, _, fn_mirrorE D.fn sc__law_lot (fun ds h e => if_neg e) (fun ds h e => if_pos e) (fun cdv A outer s H E hr => b__law_lot B et c__law_take f cdv A outer s H E hr), D.bd, D.mg, D.fn.kp⟩

noncomputable def F__law_no_lot : List D → HD → Out D := fun ds h => if ds.length = 2 then mBody 5 (g__law_no_lot F__law_take) ds h else .stuck

theorem ca__law_no_lot {P : Program} {w : World} {K : PySem.W.Frag} {mg : Str → Option Value} {base : Heap} (B : Bl mg) (et : etOk K = true) (c__law_take : CaE P w K mg base "_law_take" 1 F__law_take) {f : Addr} {fd : FuncData} (D : Dn K mg "_law_no_lot" ["_law_box_here", "_law_size"] s__law_no_lot f fd) : CaE P w K mg base "_law_no_lot" 2 F__law_no_lot :=
  ⟨f, fd, _, fn_mirrorE D.fn sc__law_no_lot (fun ds h e => if_neg e) (fun ds h e => if_pos e) (fun cdv A outer s H E hr => b__law_no_lot B et c__law_take f cdv A outer s H E hr), D.bd, D.mg, D.fn.kp⟩

noncomputable def F__law_no_net : List D → HD → Out D := fun ds h => if ds.length = 2 then mBody 10 (g__law_no_net F__law_take) ds h else .stuck

theorem ca__law_no_net {P : Program} {w : World} {K : PySem.W.Frag} {mg : Str → Option Value} {base : Heap} (B : Bl mg) (et : etOk K = true) (c__law_take : CaE P w K mg base "_law_take" 1 F__law_take) {f : Addr} {fd : FuncData} (D : Dn K mg "_law_no_net" ["_law_box_here", "_law_net_here"] s__law_no_net f fd) : CaE P w K mg base "_law_no_net" 2 F__law_no_net :=
  ⟨f, fd, _, fn_mirrorE D.fn sc__law_no_net (fun ds h e => if_neg e) (fun ds h e => if_pos e) (fun cdv A outer s H E hr => b__law_no_net B et c__law_take f cdv A outer s H E hr), D.bd, D.mg, D.fn.kp⟩

noncomputable def F__law_is_net : List D → HD → Out D := fun ds h => if ds.length = 1 then mBody 3 (g__law_is_net F__law_is_whole) ds h else .stuck

theorem ca__law_is_net {P : Program} {w : World} {K : PySem.W.Frag} {mg : Str → Option Value} {base : Heap} (B : Bl mg) (et : etOk K = true) (c__law_is_whole : CaE P w K mg base "_law_is_whole" 1 F__law_is_whole) {f : Addr} {fd : FuncData} (D : Dn K mg "_law_is_net" ["_law_thing"] s__law_is_net f fd) : CaE P w K mg base "_law_is_net" 2 F__law_is_net :=
  ⟨f, fd, _, fn_mirrorE D.fn sc__law_is_net (fun ds h e => if_neg e) (fun ds h e => if_pos e) (fun cdv A outer s H E hr => b__law_is_net B et c__law_is_whole f cdv A outer s H E hr), D.bd, D.mg, D.fn.kp⟩

noncomputable def F_is_light : List D → HD → Out D := fun ds h => if ds.length = 1 then mBody 1 (g_is_light F_is_between) ds h else .stuck

theorem ca_is_light {P : Program} {w : World} {K : PySem.W.Frag} {mg : Str → Option Value} {base : Heap} (B : Bl mg) (et : etOk K = true) (c_is_between : CaE P w K mg base "is_between" 2 F_is_between) {f : Addr} {fd : FuncData} (D : Dn K mg "is_light" ["thing"] s_is_light f fd) : CaE P w K mg base "is_light" 3 F_is_light :=
  ⟨f, fd, _, fn_mirrorE D.fn sc_is_light (fun ds h e => if_neg e) (fun ds h e => if_pos e) (fun cdv A outer s H E hr => b_is_light B et c_is_between f cdv A outer s H E hr), D.bd, D.mg, D.fn.kp⟩

noncomputable def F__law_net : List D → HD → Out D := fun ds h => if ds.length = 1 then mBody 9 (g__law_net F__law_take F__law_wide_box) ds h else .stuck

theorem ca__law_net {P : Program} {w : World} {K : PySem.W.Frag} {mg : Str → Option Value} {base : Heap} (B : Bl mg) (et : etOk K = true) (c__law_take : CaE P w K mg base "_law_take" 1 F__law_take) (c__law_wide_box : CaE P w K mg base "_law_wide_box" 2 F__law_wide_box) {f : Addr} {fd : FuncData} (D : Dn K mg "_law_net" ["_law_box_here"] s__law_net f fd) : CaE P w K mg base "_law_net" 3 F__law_net :=
  ⟨f, fd, _, fn_mirrorE D.fn sc__law_net (fun ds h e => if_neg e) (fun ds h e => if_pos e) (fun cdv A outer s H E hr => b__law_net B et c__law_take c__law_wide_box f cdv A outer s H E hr), D.bd, D.mg, D.fn.kp⟩

noncomputable def F_is_tie : List D → HD → Out D := fun ds h => if ds.length = 2 then mBody 2 (g_is_tie F_is_lot F_is_light) ds h else .stuck

theorem ca_is_tie {P : Program} {w : World} {K : PySem.W.Frag} {mg : Str → Option Value} {base : Heap} (B : Bl mg) (et : etOk K = true) (c_is_lot : CaE P w K mg base "is_lot" 2 F_is_lot) (c_is_light : CaE P w K mg base "is_light" 3 F_is_light) {f : Addr} {fd : FuncData} (D : Dn K mg "is_tie" ["thing", "many"] s_is_tie f fd) : CaE P w K mg base "is_tie" 4 F_is_tie :=
  ⟨f, fd, _, fn_mirrorE D.fn sc_is_tie (fun ds h e => if_neg e) (fun ds h e => if_pos e) (fun cdv A outer s H E hr => b_is_tie B et c_is_lot c_is_light f cdv A outer s H E hr), D.bd, D.mg, D.fn.kp⟩

noncomputable def F_is_net : List D → HD → Out D := fun ds h => if ds.length = 1 then mBody 3 (g_is_net F_is_between F_is_tie) ds h else .stuck

theorem ca_is_net {P : Program} {w : World} {K : PySem.W.Frag} {mg : Str → Option Value} {base : Heap} (B : Bl mg) (et : etOk K = true) (c_is_between : CaE P w K mg base "is_between" 2 F_is_between) (c_is_tie : CaE P w K mg base "is_tie" 4 F_is_tie) {t_MOST_PLACES : Tok} (m_MOST_PLACES : mg "MOST_PLACES" = some (.int 8 t_MOST_PLACES)) {f : Addr} {fd : FuncData} (D : Dn K mg "is_net" ["thing"] s_is_net f fd) : CaE P w K mg base "is_net" 5 F_is_net :=
  ⟨f, fd, _, fn_mirrorE D.fn sc_is_net (fun ds h e => if_neg e) (fun ds h e => if_pos e) (fun cdv A outer s H E hr => b_is_net B et c_is_between c_is_tie m_MOST_PLACES f cdv A outer s H E hr), D.bd, D.mg, D.fn.kp⟩

noncomputable def F_need_net : List D → HD → Out D := fun ds h => if ds.length = 1 then mBody 1 (g_need_net F_is_net) ds h else .stuck

theorem ca_need_net {P : Program} {w : World} {K : PySem.W.Frag} {mg : Str → Option Value} {base : Heap} (B : Bl mg) (et : etOk K = true) (c_is_net : CaE P w K mg base "is_net" 5 F_is_net) {f : Addr} {fd : FuncData} (D : Dn K mg "need_net" ["thing"] s_need_net f fd) : CaE P w K mg base "need_net" 6 F_need_net :=
  ⟨f, fd, _, fn_mirrorE D.fn sc_need_net (fun ds h e => if_neg e) (fun ds h e => if_pos e) (fun cdv A outer s H E hr => b_need_net B et c_is_net f cdv A outer s H E hr), D.bd, D.mg, D.fn.kp⟩

noncomputable def F_net_switched : List D → HD → Out D := fun ds h => if ds.length = 2 then mBody 4 (g_net_switched F_need_net F_is_lot) ds h else .stuck

theorem ca_net_switched {P : Program} {w : World} {K : PySem.W.Frag} {mg : Str → Option Value} {base : Heap} (B : Bl mg) (et : etOk K = true) (c_need_net : CaE P w K mg base "need_net" 6 F_need_net) (c_is_lot : CaE P w K mg base "is_lot" 2 F_is_lot) {f : Addr} {fd : FuncData} (D : Dn K mg "net_switched" ["net", "lot"] s_net_switched f fd) : CaE P w K mg base "net_switched" 7 F_net_switched :=
  ⟨f, fd, _, fn_mirrorE D.fn sc_net_switched (fun ds h e => if_neg e) (fun ds h e => if_pos e) (fun cdv A outer s H E hr => b_net_switched B et c_need_net c_is_lot f cdv A outer s H E hr), D.bd, D.mg, D.fn.kp⟩

noncomputable def F_law : List D → HD → Out D := fun ds h => if ds.length = 1 then mBody 10 (g_law F__law_box F__law_net F_is_net F__law_lot F_net_switched F__law_net_switched F__law_no_lot F__law_no_net F__law_is_net F__law_kind) ds h else .stuck

theorem all_mk {l : PySem.W.OpenLaw} {w : World} {K : PySem.W.Frag} {h : Heap} {mg : Str → Option Value} {fa cT : Addr} (X : K.In h) (G : h.Ns mainGlobals mg) (hfa : mg "law" = some (.ref fa)) (htc : tabOkC K cT = true)
    {f_is_whole : Addr} {od_is_whole an_is_whole : Option Addr} {sl_is_whole : Array (Option Value)} {oc_is_whole kV_is_whole dc_is_whole pm_is_whole cd_is_whole ct_is_whole : Value}
    {f__law_cell : Addr} {od__law_cell an__law_cell : Option Addr} {sl__law_cell : Array (Option Value)} {oc__law_cell kV__law_cell dc__law_cell pm__law_cell cd__law_cell ct__law_cell : Value}
    {f__law_mix : Addr} {od__law_mix an__law_mix : Option Addr} {sl__law_mix : Array (Option Value)} {oc__law_mix kV__law_mix dc__law_mix pm__law_mix cd__law_mix ct__law_mix : Value}
    {f__law_take : Addr} {od__law_take an__law_take : Option Addr} {sl__law_take : Array (Option Value)} {oc__law_take kV__law_take dc__law_take pm__law_take cd__law_take ct__law_take : Value}
    {f__law_kind : Addr} {od__law_kind an__law_kind : Option Addr} {sl__law_kind : Array (Option Value)} {oc__law_kind kV__law_kind dc__law_kind pm__law_kind cd__law_kind ct__law_kind : Value}
    {f__law_net_switched : Addr} {od__law_net_switched an__law_net_switched : Option Addr} {sl__law_net_switched : Array (Option Value)} {oc__law_net_switched kV__law_net_switched dc__law_net_switched pm__law_net_switched cd__law_net_switched ct__law_net_switched : Value}
    {f__law_is_whole : Addr} {od__law_is_whole an__law_is_whole : Option Addr} {sl__law_is_whole : Array (Option Value)} {oc__law_is_whole kV__law_is_whole dc__law_is_whole pm__law_is_whole cd__law_is_whole ct__law_is_whole : Value}
    {f_is_between : Addr} {od_is_between an_is_between : Option Addr} {sl_is_between : Array (Option Value)} {oc_is_between kV_is_between dc_is_between pm_is_between cd_is_between ct_is_between : Value}
    {f_is_lot : Addr} {od_is_lot an_is_lot : Option Addr} {sl_is_lot : Array (Option Value)} {oc_is_lot kV_is_lot dc_is_lot pm_is_lot cd_is_lot ct_is_lot : Value}
    {f__law_box : Addr} {od__law_box an__law_box : Option Addr} {sl__law_box : Array (Option Value)} {oc__law_box kV__law_box dc__law_box pm__law_box cd__law_box ct__law_box : Value}
    {f__law_wide_box : Addr} {od__law_wide_box an__law_wide_box : Option Addr} {sl__law_wide_box : Array (Option Value)} {oc__law_wide_box kV__law_wide_box dc__law_wide_box pm__law_wide_box cd__law_wide_box ct__law_wide_box : Value}
    {f__law_lot : Addr} {od__law_lot an__law_lot : Option Addr} {sl__law_lot : Array (Option Value)} {oc__law_lot kV__law_lot dc__law_lot pm__law_lot cd__law_lot ct__law_lot : Value}
    {f__law_no_lot : Addr} {od__law_no_lot an__law_no_lot : Option Addr} {sl__law_no_lot : Array (Option Value)} {oc__law_no_lot kV__law_no_lot dc__law_no_lot pm__law_no_lot cd__law_no_lot ct__law_no_lot : Value}
    {f__law_no_net : Addr} {od__law_no_net an__law_no_net : Option Addr} {sl__law_no_net : Array (Option Value)} {oc__law_no_net kV__law_no_net dc__law_no_net pm__law_no_net cd__law_no_net ct__law_no_net : Value}
    {f__law_is_net : Addr} {od__law_is_net an__law_is_net : Option Addr} {sl__law_is_net : Array (Option Value)} {oc__law_is_net kV__law_is_net dc__law_is_net pm__law_is_net cd__law_is_net ct__law_is_net : Value}
    {f_is_light : Addr} {od_is_light an_is_light : Option Addr} {sl_is_light : Array (Option Value)} {oc_is_light kV_is_light dc_is_light pm_is_light cd_is_light ct_is_light : Value}
    {f__law_net : Addr} {od__law_net an__law_net : Option Addr} {sl__law_net : Array (Option Value)} {oc__law_net kV__law_net dc__law_net pm__law_net cd__law_net ct__law_net : Value}
    {f_is_tie : Addr} {od_is_tie an_is_tie : Option Addr} {sl_is_tie : Array (Option Value)} {oc_is_tie kV_is_tie dc_is_tie pm_is_tie cd_is_tie ct_is_tie : Value}
    {f_is_net : Addr} {od_is_net an_is_net : Option Addr} {sl_is_net : Array (Option Value)} {oc_is_net kV_is_net dc_is_net pm_is_net cd_is_net ct_is_net : Value}
    {f_need_net : Addr} {od_need_net an_need_net : Option Addr} {sl_need_net : Array (Option Value)} {oc_need_net kV_need_net dc_need_net pm_need_net cd_need_net ct_need_net : Value}
    {f_net_switched : Addr} {od_net_switched an_net_switched : Option Addr} {sl_net_switched : Array (Option Value)} {oc_net_switched kV_net_switched dc_net_switched pm_net_switched cd_net_switched ct_net_switched : Value}
    {f_law : Addr} {od_law an_law : Option Addr} {sl_law : Array (Option Value)} {oc_law kV_law dc_law pm_law ct_law : Value}
    {f__law_said : Addr} {od__law_said an__law_said : Option Addr} {sl__law_said : Array (Option Value)} {oc__law_said kV__law_said dc__law_said pm__law_said cd__law_said ct__law_said : Value} {t_MOST_PLACES : Tok}
    (a_is_whole : PySem.W.nsIn K mainGlobals "is_whole" = some (some (.ref f_is_whole))) (l_is_whole : K.lookup f_is_whole = some ⟨oc_is_whole, od_is_whole, .func (PySem.W.fnOf "is_whole" "is_whole" (defArgs s_is_whole) (defBody s_is_whole) (defScope s_is_whole) .none kV_is_whole dc_is_whole pm_is_whole an_is_whole cd_is_whole ct_is_whole), sl_is_whole⟩) (c_is_whole : PySem.W.codeIn K cd_is_whole "is_whole" = true) (k_is_whole : PySem.W.keepIn K (.ref f_is_whole) = true)
    (a__law_cell : PySem.W.nsIn K mainGlobals "_law_cell" = some (some (.ref f__law_cell))) (l__law_cell : K.lookup f__law_cell = some ⟨oc__law_cell, od__law_cell, .func (PySem.W.fnOf "_law_cell" "_law_cell" (defArgs s__law_cell) (defBody s__law_cell) (defScope s__law_cell) .none kV__law_cell dc__law_cell pm__law_cell an__law_cell cd__law_cell ct__law_cell), sl__law_cell⟩) (c__law_cell : PySem.W.codeIn K cd__law_cell "_law_cell" = true) (k__law_cell : PySem.W.keepIn K (.ref f__law_cell) = true)
    (a__law_mix : PySem.W.nsIn K mainGlobals "_law_mix" = some (some (.ref f__law_mix))) (l__law_mix : K.lookup f__law_mix = some ⟨oc__law_mix, od__law_mix, .func (PySem.W.fnOf "_law_mix" "_law_mix" (defArgs s__law_mix) (defBody s__law_mix) (defScope s__law_mix) .none kV__law_mix dc__law_mix pm__law_mix an__law_mix cd__law_mix ct__law_mix), sl__law_mix⟩) (c__law_mix : PySem.W.codeIn K cd__law_mix "_law_mix" = true) (k__law_mix : PySem.W.keepIn K (.ref f__law_mix) = true)
    (a__law_take : PySem.W.nsIn K mainGlobals "_law_take" = some (some (.ref f__law_take))) (l__law_take : K.lookup f__law_take = some ⟨oc__law_take, od__law_take, .func (PySem.W.fnOf "_law_take" "_law_take" (defArgs s__law_take) (defBody s__law_take) (defScope s__law_take) .none kV__law_take dc__law_take pm__law_take an__law_take cd__law_take ct__law_take), sl__law_take⟩) (c__law_take : PySem.W.codeIn K cd__law_take "_law_take" = true) (k__law_take : PySem.W.keepIn K (.ref f__law_take) = true)
    (a__law_kind : PySem.W.nsIn K mainGlobals "_law_kind" = some (some (.ref f__law_kind))) (l__law_kind : K.lookup f__law_kind = some ⟨oc__law_kind, od__law_kind, .func (PySem.W.fnOf "_law_kind" "_law_kind" (defArgs s__law_kind) (defBody s__law_kind) (defScope s__law_kind) .none kV__law_kind dc__law_kind pm__law_kind an__law_kind cd__law_kind ct__law_kind), sl__law_kind⟩) (c__law_kind : PySem.W.codeIn K cd__law_kind "_law_kind" = true) (k__law_kind : PySem.W.keepIn K (.ref f__law_kind) = true)
    (a__law_net_switched : PySem.W.nsIn K mainGlobals "_law_net_switched" = some (some (.ref f__law_net_switched))) (l__law_net_switched : K.lookup f__law_net_switched = some ⟨oc__law_net_switched, od__law_net_switched, .func (PySem.W.fnOf "_law_net_switched" "_law_net_switched" (defArgs s__law_net_switched) (defBody s__law_net_switched) (defScope s__law_net_switched) .none kV__law_net_switched dc__law_net_switched pm__law_net_switched an__law_net_switched cd__law_net_switched ct__law_net_switched), sl__law_net_switched⟩) (c__law_net_switched : PySem.W.codeIn K cd__law_net_switched "_law_net_switched" = true) (k__law_net_switched : PySem.W.keepIn K (.ref f__law_net_switched) = true)
    (a__law_is_whole : PySem.W.nsIn K mainGlobals "_law_is_whole" = some (some (.ref f__law_is_whole))) (l__law_is_whole : K.lookup f__law_is_whole = some ⟨oc__law_is_whole, od__law_is_whole, .func (PySem.W.fnOf "_law_is_whole" "_law_is_whole" (defArgs s__law_is_whole) (defBody s__law_is_whole) (defScope s__law_is_whole) .none kV__law_is_whole dc__law_is_whole pm__law_is_whole an__law_is_whole cd__law_is_whole ct__law_is_whole), sl__law_is_whole⟩) (c__law_is_whole : PySem.W.codeIn K cd__law_is_whole "_law_is_whole" = true) (k__law_is_whole : PySem.W.keepIn K (.ref f__law_is_whole) = true)
    (a_is_between : PySem.W.nsIn K mainGlobals "is_between" = some (some (.ref f_is_between))) (l_is_between : K.lookup f_is_between = some ⟨oc_is_between, od_is_between, .func (PySem.W.fnOf "is_between" "is_between" (defArgs s_is_between) (defBody s_is_between) (defScope s_is_between) .none kV_is_between dc_is_between pm_is_between an_is_between cd_is_between ct_is_between), sl_is_between⟩) (c_is_between : PySem.W.codeIn K cd_is_between "is_between" = true) (k_is_between : PySem.W.keepIn K (.ref f_is_between) = true)
    (a_is_lot : PySem.W.nsIn K mainGlobals "is_lot" = some (some (.ref f_is_lot))) (l_is_lot : K.lookup f_is_lot = some ⟨oc_is_lot, od_is_lot, .func (PySem.W.fnOf "is_lot" "is_lot" (defArgs s_is_lot) (defBody s_is_lot) (defScope s_is_lot) .none kV_is_lot dc_is_lot pm_is_lot an_is_lot cd_is_lot ct_is_lot), sl_is_lot⟩) (c_is_lot : PySem.W.codeIn K cd_is_lot "is_lot" = true) (k_is_lot : PySem.W.keepIn K (.ref f_is_lot) = true)
    (a__law_box : PySem.W.nsIn K mainGlobals "_law_box" = some (some (.ref f__law_box))) (l__law_box : K.lookup f__law_box = some ⟨oc__law_box, od__law_box, .func (PySem.W.fnOf "_law_box" "_law_box" (defArgs s__law_box) (defBody s__law_box) (defScope s__law_box) .none kV__law_box dc__law_box pm__law_box an__law_box cd__law_box ct__law_box), sl__law_box⟩) (c__law_box : PySem.W.codeIn K cd__law_box "_law_box" = true) (k__law_box : PySem.W.keepIn K (.ref f__law_box) = true)
    (a__law_wide_box : PySem.W.nsIn K mainGlobals "_law_wide_box" = some (some (.ref f__law_wide_box))) (l__law_wide_box : K.lookup f__law_wide_box = some ⟨oc__law_wide_box, od__law_wide_box, .func (PySem.W.fnOf "_law_wide_box" "_law_wide_box" (defArgs s__law_wide_box) (defBody s__law_wide_box) (defScope s__law_wide_box) .none kV__law_wide_box dc__law_wide_box pm__law_wide_box an__law_wide_box cd__law_wide_box ct__law_wide_box), sl__law_wide_box⟩) (c__law_wide_box : PySem.W.codeIn K cd__law_wide_box "_law_wide_box" = true) (k__law_wide_box : PySem.W.keepIn K (.ref f__law_wide_box) = true)
    (a__law_lot : PySem.W.nsIn K mainGlobals "_law_lot" = some (some (.ref f__law_lot))) (l__law_lot : K.lookup f__law_lot = some ⟨oc__law_lot, od__law_lot, .func (PySem.W.fnOf "_law_lot" "_law_lot" (defArgs s__law_lot) (defBody s__law_lot) (defScope s__law_lot) .none kV__law_lot dc__law_lot pm__law_lot an__law_lot cd__law_lot ct__law_lot), sl__law_lot⟩) (c__law_lot : PySem.W.codeIn K cd__law_lot "_law_lot" = true) (k__law_lot : PySem.W.keepIn K (.ref f__law_lot) = true)
    (a__law_no_lot : PySem.W.nsIn K mainGlobals "_law_no_lot" = some (some (.ref f__law_no_lot))) (l__law_no_lot : K.lookup f__law_no_lot = some ⟨oc__law_no_lot, od__law_no_lot, .func (PySem.W.fnOf "_law_no_lot" "_law_no_lot" (defArgs s__law_no_lot) (defBody s__law_no_lot) (defScope s__law_no_lot) .none kV__law_no_lot dc__law_no_lot pm__law_no_lot an__law_no_lot cd__law_no_lot ct__law_no_lot), sl__law_no_lot⟩) (c__law_no_lot : PySem.W.codeIn K cd__law_no_lot "_law_no_lot" = true) (k__law_no_lot : PySem.W.keepIn K (.ref f__law_no_lot) = true)
    (a__law_no_net : PySem.W.nsIn K mainGlobals "_law_no_net" = some (some (.ref f__law_no_net))) (l__law_no_net : K.lookup f__law_no_net = some ⟨oc__law_no_net, od__law_no_net, .func (PySem.W.fnOf "_law_no_net" "_law_no_net" (defArgs s__law_no_net) (defBody s__law_no_net) (defScope s__law_no_net) .none kV__law_no_net dc__law_no_net pm__law_no_net an__law_no_net cd__law_no_net ct__law_no_net), sl__law_no_net⟩) (c__law_no_net : PySem.W.codeIn K cd__law_no_net "_law_no_net" = true) (k__law_no_net : PySem.W.keepIn K (.ref f__law_no_net) = true)
    (a__law_is_net : PySem.W.nsIn K mainGlobals "_law_is_net" = some (some (.ref f__law_is_net))) (l__law_is_net : K.lookup f__law_is_net = some ⟨oc__law_is_net, od__law_is_net, .func (PySem.W.fnOf "_law_is_net" "_law_is_net" (defArgs s__law_is_net) (defBody s__law_is_net) (defScope s__law_is_net) .none kV__law_is_net dc__law_is_net pm__law_is_net an__law_is_net cd__law_is_net ct__law_is_net), sl__law_is_net⟩) (c__law_is_net : PySem.W.codeIn K cd__law_is_net "_law_is_net" = true) (k__law_is_net : PySem.W.keepIn K (.ref f__law_is_net) = true)
    (a_is_light : PySem.W.nsIn K mainGlobals "is_light" = some (some (.ref f_is_light))) (l_is_light : K.lookup f_is_light = some ⟨oc_is_light, od_is_light, .func (PySem.W.fnOf "is_light" "is_light" (defArgs s_is_light) (defBody s_is_light) (defScope s_is_light) .none kV_is_light dc_is_light pm_is_light an_is_light cd_is_light ct_is_light), sl_is_light⟩) (c_is_light : PySem.W.codeIn K cd_is_light "is_light" = true) (k_is_light : PySem.W.keepIn K (.ref f_is_light) = true)
    (a__law_net : PySem.W.nsIn K mainGlobals "_law_net" = some (some (.ref f__law_net))) (l__law_net : K.lookup f__law_net = some ⟨oc__law_net, od__law_net, .func (PySem.W.fnOf "_law_net" "_law_net" (defArgs s__law_net) (defBody s__law_net) (defScope s__law_net) .none kV__law_net dc__law_net pm__law_net an__law_net cd__law_net ct__law_net), sl__law_net⟩) (c__law_net : PySem.W.codeIn K cd__law_net "_law_net" = true) (k__law_net : PySem.W.keepIn K (.ref f__law_net) = true)
    (a_is_tie : PySem.W.nsIn K mainGlobals "is_tie" = some (some (.ref f_is_tie))) (l_is_tie : K.lookup f_is_tie = some ⟨oc_is_tie, od_is_tie, .func (PySem.W.fnOf "is_tie" "is_tie" (defArgs s_is_tie) (defBody s_is_tie) (defScope s_is_tie) .none kV_is_tie dc_is_tie pm_is_tie an_is_tie cd_is_tie ct_is_tie), sl_is_tie⟩) (c_is_tie : PySem.W.codeIn K cd_is_tie "is_tie" = true) (k_is_tie : PySem.W.keepIn K (.ref f_is_tie) = true)
    (a_is_net : PySem.W.nsIn K mainGlobals "is_net" = some (some (.ref f_is_net))) (l_is_net : K.lookup f_is_net = some ⟨oc_is_net, od_is_net, .func (PySem.W.fnOf "is_net" "is_net" (defArgs s_is_net) (defBody s_is_net) (defScope s_is_net) .none kV_is_net dc_is_net pm_is_net an_is_net cd_is_net ct_is_net), sl_is_net⟩) (c_is_net : PySem.W.codeIn K cd_is_net "is_net" = true) (k_is_net : PySem.W.keepIn K (.ref f_is_net) = true)
    (a_need_net : PySem.W.nsIn K mainGlobals "need_net" = some (some (.ref f_need_net))) (l_need_net : K.lookup f_need_net = some ⟨oc_need_net, od_need_net, .func (PySem.W.fnOf "need_net" "need_net" (defArgs s_need_net) (defBody s_need_net) (defScope s_need_net) .none kV_need_net dc_need_net pm_need_net an_need_net cd_need_net ct_need_net), sl_need_net⟩) (c_need_net : PySem.W.codeIn K cd_need_net "need_net" = true) (k_need_net : PySem.W.keepIn K (.ref f_need_net) = true)
    (a_net_switched : PySem.W.nsIn K mainGlobals "net_switched" = some (some (.ref f_net_switched))) (l_net_switched : K.lookup f_net_switched = some ⟨oc_net_switched, od_net_switched, .func (PySem.W.fnOf "net_switched" "net_switched" (defArgs s_net_switched) (defBody s_net_switched) (defScope s_net_switched) .none kV_net_switched dc_net_switched pm_net_switched an_net_switched cd_net_switched ct_net_switched), sl_net_switched⟩) (c_net_switched : PySem.W.codeIn K cd_net_switched "net_switched" = true) (k_net_switched : PySem.W.keepIn K (.ref f_net_switched) = true)
    (a_law : PySem.W.nsIn K mainGlobals "law" = some (some (.ref f_law))) (l_law : K.lookup f_law = some ⟨oc_law, od_law, .func (PySem.W.fnOf "law" "law" (defArgs s_law) (defBody s_law) (defScope s_law) .none kV_law dc_law pm_law an_law (.ref cT) ct_law), sl_law⟩) (c_law : PySem.W.codeIn K (.ref cT) "law" = true) (k_law : PySem.W.keepIn K (.ref f_law) = true)
    (a__law_said : PySem.W.nsIn K mainGlobals "_law_said" = some (some (.ref f__law_said))) (l__law_said : K.lookup f__law_said = some ⟨oc__law_said, od__law_said, .func (PySem.W.fnOf "_law_said" "_law_said" (defArgs s__law_said) (defBody s__law_said) (defScope s__law_said) .none kV__law_said dc__law_said pm__law_said an__law_said cd__law_said ct__law_said), sl__law_said⟩) (c__law_said : PySem.W.codeIn K cd__law_said "_law_said" = true) (k__law_said : PySem.W.keepIn K (.ref f__law_said) = true)
    (et : etOk K = true) (z_ValueError : PySem.W.nsIn K mainGlobals "ValueError" = some none) (z_all : PySem.W.nsIn K mainGlobals "all" = some none) (z_bool : PySem.W.nsIn K mainGlobals "bool" = some none) (z_divmod : PySem.W.nsIn K mainGlobals "divmod" = some none) (z_int : PySem.W.nsIn K mainGlobals "int" = some none) (z_isinstance : PySem.W.nsIn K mainGlobals "isinstance" = some none) (z_len : PySem.W.nsIn K mainGlobals "len" = some none) (z_list : PySem.W.nsIn K mainGlobals "list" = some none) (z_max : PySem.W.nsIn K mainGlobals "max" = some none) (z_min : PySem.W.nsIn K mainGlobals "min" = some none) (z_range : PySem.W.nsIn K mainGlobals "range" = some none) (z_repr : PySem.W.nsIn K mainGlobals "repr" = some none) (z_tuple : PySem.W.nsIn K mainGlobals "tuple" = some none) (z_zip : PySem.W.nsIn K mainGlobals "zip" = some none) (v_MOST_PLACES : PySem.W.nsIn K mainGlobals "MOST_PLACES" = some (some (.int 8 t_MOST_PLACES))) :
    ∃ fd : FuncData, (∀ (s : Shared) (v : Value), BindsTo s fd ⟨[v], []⟩ [("_law_script", v)]) ∧ ∀ base : Heap, K.In base → base.Ns mainGlobals mg → BMb mg base → FnOk l.prog w K mg base (CXE l.prog w K) 10 fa fd ["_law_script"] (spE K F_law) := by
  have e := hfa.symm.trans (PySem.W.mg_of X G a_law)
  cases e
  obtain ⟨T, htp, hcd⟩ := tab_ofC htc
  have B : Bl mg := ⟨PySem.W.mg_none_of X G z_ValueError, PySem.W.mg_none_of X G z_all, PySem.W.mg_none_of X G z_bool, PySem.W.mg_none_of X G z_divmod, PySem.W.mg_none_of X G z_int, PySem.W.mg_none_of X G z_isinstance, PySem.W.mg_none_of X G z_len, PySem.W.mg_none_of X G z_list, PySem.W.mg_none_of X G z_max, PySem.W.mg_none_of X G z_min, PySem.W.mg_none_of X G z_range, PySem.W.mg_none_of X G z_repr, PySem.W.mg_none_of X G z_tuple, PySem.W.mg_none_of X G z_zip⟩
  have M_MOST_PLACES := PySem.W.mg_of X G v_MOST_PLACES
  have D_is_whole : Dn K mg "is_whole" ["thing"] s_is_whole f_is_whole _ := dn1 X G l_is_whole c_is_whole k_is_whole a_is_whole (fun _ _ _ _ _ _ _ => rfl)
  have D__law_cell : Dn K mg "_law_cell" ["_law_script", "_law_k"] s__law_cell f__law_cell _ := dn2 X G l__law_cell c__law_cell k__law_cell a__law_cell (fun _ _ _ _ _ _ _ _ => rfl)
  have D__law_mix : Dn K mg "_law_mix" ["_law_cell_here", "_law_k"] s__law_mix f__law_mix _ := dn2 X G l__law_mix c__law_mix k__law_mix a__law_mix (fun _ _ _ _ _ _ _ _ => rfl)
  have D__law_take : Dn K mg "_law_take" ["_law_box_here", "_law_many"] s__law_take f__law_take _ := dn2 X G l__law_take c__law_take k__law_take a__law_take (fun _ _ _ _ _ _ _ _ => rfl)
  have D__law_kind : Dn K mg "_law_kind" ["_law_e"] s__law_kind f__law_kind _ := dn1 X G l__law_kind c__law_kind k__law_kind a__law_kind (fun _ _ _ _ _ _ _ => rfl)
  have D__law_net_switched : Dn K mg "_law_net_switched" ["_law_net_here", "_law_lot_here"] s__law_net_switched f__law_net_switched _ := dn2 X G l__law_net_switched c__law_net_switched k__law_net_switched a__law_net_switched (fun _ _ _ _ _ _ _ _ => rfl)
  have D__law_is_whole : Dn K mg "_law_is_whole" ["_law_thing", "_law_least", "_law_most"] s__law_is_whole f__law_is_whole _ := dn3 X G l__law_is_whole c__law_is_whole k__law_is_whole a__law_is_whole (fun _ _ _ _ _ _ _ _ _ => rfl)
  have D_is_between : Dn K mg "is_between" ["thing", "least", "most"] s_is_between f_is_between _ := dn3 X G l_is_between c_is_between k_is_between a_is_between (fun _ _ _ _ _ _ _ _ _ => rfl)
  have D_is_lot : Dn K mg "is_lot" ["thing", "size"] s_is_lot f_is_lot _ := dn2 X G l_is_lot c_is_lot k_is_lot a_is_lot (fun _ _ _ _ _ _ _ _ => rfl)
  have D__law_box : Dn K mg "_law_box" ["_law_script", "_law_k"] s__law_box f__law_box _ := dn2 X G l__law_box c__law_box k__law_box a__law_box (fun _ _ _ _ _ _ _ _ => rfl)
  have D__law_wide_box : Dn K mg "_law_wide_box" ["_law_box_here"] s__law_wide_box f__law_wide_box _ := dn1 X G l__law_wide_box c__law_wide_box k__law_wide_box a__law_wide_box (fun _ _ _ _ _ _ _ => rfl)
  have D__law_lot : Dn K mg "_law_lot" ["_law_box_here", "_law_size"] s__law_lot f__law_lot _ := dn2 X G l__law_lot c__law_lot k__law_lot a__law_lot (fun _ _ _ _ _ _ _ _ => rfl)
  have D__law_no_lot : Dn K mg "_law_no_lot" ["_law_box_here", "_law_size"] s__law_no_lot f__law_no_lot _ := dn2 X G l__law_no_lot c__law_no_lot k__law_no_lot a__law_no_lot (fun _ _ _ _ _ _ _ _ => rfl)
  have D__law_no_net : Dn K mg "_law_no_net" ["_law_box_here", "_law_net_here"] s__law_no_net f__law_no_net _ := dn2 X G l__law_no_net c__law_no_net k__law_no_net a__law_no_net (fun _ _ _ _ _ _ _ _ => rfl)
  have D__law_is_net : Dn K mg "_law_is_net" ["_law_thing"] s__law_is_net f__law_is_net _ := dn1 X G l__law_is_net c__law_is_net k__law_is_net a__law_is_net (fun _ _ _ _ _ _ _ => rfl)
  have D_is_light : Dn K mg "is_light" ["thing"] s_is_light f_is_light _ := dn1 X G l_is_light c_is_light k_is_light a_is_light (fun _ _ _ _ _ _ _ => rfl)
  have D__law_net : Dn K mg "_law_net" ["_law_box_here"] s__law_net f__law_net _ := dn1 X G l__law_net c__law_net k__law_net a__law_net (fun _ _ _ _ _ _ _ => rfl)
  have D_is_tie : Dn K mg "is_tie" ["thing", "many"] s_is_tie f_is_tie _ := dn2 X G l_is_tie c_is_tie k_is_tie a_is_tie (fun _ _ _ _ _ _ _ _ => rfl)
  have D_is_net : Dn K mg "is_net" ["thing"] s_is_net f_is_net _ := dn1 X G l_is_net c_is_net k_is_net a_is_net (fun _ _ _ _ _ _ _ => rfl)
  have D_need_net : Dn K mg "need_net" ["thing"] s_need_net f_need_net _ := dn1 X G l_need_net c_need_net k_need_net a_need_net (fun _ _ _ _ _ _ _ => rfl)
  have D_net_switched : Dn K mg "net_switched" ["net", "lot"] s_net_switched f_net_switched _ := dn2 X G l_net_switched c_net_switched k_net_switched a_net_switched (fun _ _ _ _ _ _ _ _ => rfl)
  have S_D : SaidD K mg s__law_said f__law_said _ := SaidD.of (dn1 X G l__law_said c__law_said k__law_said a__law_said (fun _ _ _ _ _ _ _ => rfl))
  refine ⟨PySem.W.fnOf "law" "law" (defArgs s_law) (defBody s_law) (defScope s_law) .none kV_law dc_law pm_law an_law (.ref cT) ct_law, fun s v => .of_eq rfl, fun base _ _ hbm => ?_⟩
  have C_is_whole : CaE l.prog w K mg base "is_whole" 1 F_is_whole := ca_is_whole B et D_is_whole
  have C__law_cell : CaE l.prog w K mg base "_law_cell" 1 F__law_cell := ca__law_cell B et D__law_cell
  have C__law_mix : CaE l.prog w K mg base "_law_mix" 1 F__law_mix := ca__law_mix B et D__law_mix
  have C__law_take : CaE l.prog w K mg base "_law_take" 1 F__law_take := ca__law_take B et D__law_take
  have C__law_kind : CaM l.prog w K mg base "_law_kind" 1 F__law_kind := ca__law_kind B et D__law_kind
  have C__law_net_switched : CaE l.prog w K mg base "_law_net_switched" 1 F__law_net_switched := ca__law_net_switched B et D__law_net_switched
  have C__law_is_whole : CaE l.prog w K mg base "_law_is_whole" 1 F__law_is_whole := ca__law_is_whole B et D__law_is_whole
  have C_is_between : CaE l.prog w K mg base "is_between" 2 F_is_between := ca_is_between B et C_is_whole D_is_between
  have C_is_lot : CaE l.prog w K mg base "is_lot" 2 F_is_lot := ca_is_lot B et C_is_whole D_is_lot
  have C__law_box : CaE l.prog w K mg base "_law_box" 2 F__law_box := ca__law_box B et C__law_cell C__law_mix D__law_box
  have C__law_wide_box : CaE l.prog w K mg base "_law_wide_box" 2 F__law_wide_box := ca__law_wide_box B et C__law_take D__law_wide_box
  have C__law_lot : CaE l.prog w K mg base "_law_lot" 2 F__law_lot := ca__law_lot B et C__law_take D__law_lot
  have C__law_no_lot : CaE l.prog w K mg base "_law_no_lot" 2 F__law_no_lot := ca__law_no_lot B et C__law_take D__law_no_lot
  have C__law_no_net : CaE l.prog w K mg base "_law_no_net" 2 F__law_no_net := ca__law_no_net B et C__law_take D__law_no_net
  have C__law_is_net : CaE l.prog w K mg base "_law_is_net" 2 F__law_is_net := ca__law_is_net B et C__law_is_whole D__law_is_net
  have C_is_light : CaE l.prog w K mg base "is_light" 3 F_is_light := ca_is_light B et C_is_between D_is_light
  have C__law_net : CaE l.prog w K mg base "_law_net" 3 F__law_net := ca__law_net B et C__law_take C__law_wide_box D__law_net
  have C_is_tie : CaE l.prog w K mg base "is_tie" 4 F_is_tie := ca_is_tie B et C_is_lot C_is_light D_is_tie
  have C_is_net : CaE l.prog w K mg base "is_net" 5 F_is_net := ca_is_net B et C_is_between C_is_tie M_MOST_PLACES D_is_net
  have C_need_net : CaE l.prog w K mg base "need_net" 6 F_need_net := ca_need_net B et C_is_net D_need_net
  have C_net_switched : CaE l.prog w K mg base "net_switched" 7 F_net_switched := ca_net_switched B et C_need_net C_is_lot D_net_switched
  exact fn_mirrorL l_law c_law sc_law (fun ds h e => if_neg e) (fun ds h e => if_pos e) (fun A outer s H E hr => b_law B et C__law_box C__law_net C_is_net C__law_lot C_net_switched C__law_net_switched C__law_no_lot C__law_no_net C__law_is_net C__law_kind htp hcd hbm S_D _ A outer s H E hr)

end LK

namespace LK
open PySem PySem.Spec PyProof.Rows L2 LS
theorem _root_.LS.Sm.len {h h' : HD} (s : Sm h h') : h.length ≤ h'.length := by
  cases e : h.length with
  | zero => exact Nat.zero_le _
  | succ n =>
    have hn : n < h.length := by (first | lia | omega)
    have := s n h[n] (List.getElem?_eq_getElem hn)
    have := (List.getElem?_eq_some_iff.mp this).1
    (first | lia | omega)
theorem sz {n : Nat} (hn : n ≤ 8) : (List.range n).length ≤ sizeLine := by
  rw [List.length_range]; unfold sizeLine; (first | lia | omega)
open PySem.Builtin.Int in
theorem p_cell {ns : List Int} {k : Nat} (hb : ∀ i ∈ ns, Builtin.Int.intBits i ≤ 2 ^ 20) (hk : k ≤ 1000) : ∃ c : Int, Builtin.Int.intBits c ≤ 2 ^ 20 ∧ ∀ h, Pu (F__law_cell [.scr ns, .int (k : Nat)] h) h (.int c) := by
  by_cases hl : k < ns.length
  · refine ⟨ns[k], hb _ (List.getElem_mem hl), fun h => ?_⟩
    change Wp (mBody 2 g__law_cell [.scr ns, .int (k : Nat)] h) _
    first | refine Eq.mpr (wp_body) ?_ | rw [wp_body]
    have : (k : Int) < ns.length := by (first | lia | omega)
    simp [this]
    first | refine wpe (ix_scr (List.getElem?_eq_getElem hl)) ?_ | rw [ix_scr (List.getElem?_eq_getElem hl)]
    simp [Sm.refl]
  · refine ⟨6151 * (k : Int) + 29, ?_, fun h => ?_⟩
    · rw [intBits_le_iff]
      have h1 : (6151 * (k : Int) + 29).natAbs < 2 ^ 30 := by (first | lia | omega)
      exact Nat.lt_of_lt_of_le h1 (Nat.pow_le_pow_right (by decide) (by (first | lia | omega)))
    · change Wp (mBody 2 g__law_cell [.scr ns, .int (k : Nat)] h) _
      first | refine Eq.mpr (wp_body) ?_ | rw [wp_body]
      have : ¬ (k : Int) < ns.length := by (first | lia | omega)
      simp [this]
      rw [mul_l (by decide) (by decide)]
      simp [Sm.refl]
noncomputable def mixX (c : Int) (k : Nat) : Int := (((c + 1) * 40692 + 104729 * (k : Int)) * ((c + 1) * 40692 + 104729 * (k : Int))) % 2147483399 + (k : Int)
theorem rng24 {h : HD} : rng1D [.int 24] h = .ok ((List.range 24).map fun k => D.int ((k : Nat) : Int), []) h := rng1_ok (n := 24) (by decide)
theorem p_mix {c : Int} {k : Nat} (hc : Builtin.Int.intBits c ≤ 2 ^ 20) (hk : k ≤ 1000) : ∃ r : Int, ∀ h, Pu (F__law_mix [.int c, .int (k : Nat)] h) h (.int r) := by
  refine ⟨mixX c k * (mixX c k + 31) % 2147483563, fun h => ?_⟩
  change Wp (mBody 3 g__law_mix [.int c, .int (k : Nat)] h) _
  first | refine Eq.mpr (wp_body) ?_ | rw [wp_body]
  have bX : Builtin.Int.intBits ((c + 1) * 40692 + 104729 * (k : Int)) ≤ 16777216 := by
    have hk' : Builtin.Int.intBits ((k : Nat) : Int) ≤ 10 := PySem.intBits_le_iff.mpr (by (first | lia | omega))
    have := PySem.intBits_add_le (PySem.intBits_mul_le (PySem.intBits_add_le hc (show Builtin.Int.intBits 1 ≤ 1 by decide)) (show Builtin.Int.intBits 40692 ≤ 16 by decide)) (PySem.intBits_mul_le (show Builtin.Int.intBits 104729 ≤ 17 by decide) hk')
    exact Nat.le_trans this (by decide)
  have h1 := Int.emod_nonneg (((c + 1) * 40692 + 104729 * (k : Int)) * ((c + 1) * 40692 + 104729 * (k : Int))) (show (2147483399 : Int) ≠ 0 by decide)
  have h2 := Int.emod_lt_of_pos (((c + 1) * 40692 + 104729 * (k : Int)) * ((c + 1) * 40692 + 104729 * (k : Int))) (show (0 : Int) < 2147483399 by decide)
  simp
  rw [mul_r (by decide) (by decide)]
  simp
  rw [mul_l (by decide) (by decide)]
  simp
  rw [mul_b bX bX]
  simp
  rw [mod_p (by decide)]
  simp
  rw [mul_l (by (first | lia | omega)) (by (first | lia | omega))]
  simp
  rw [mod_p (by decide)]
  simp
  exact ⟨rfl, .refl _⟩
noncomputable def BoxAt (h : HD) (b : Nat) : Prop := ∃ n : Int, h[b]? = some (.lst [.int n])
inductive BxI (ns : List Int) (k : Nat) (c : Int) (h : HD) (xs : List Nat) (ρ : Rho) (h' : HD) : Prop where
  | mk (N : Int) (x : Option D) (f0 : ρ = [some (.scr ns), some (.int (k : Nat)), some (.int c), some (.int N), x]) (f1 : Sm h h') (f2 : ∀ j ∈ xs, j < 24) : BxI ns k c h xs ρ h'
theorem wp_box {ns : List Int} {k : Nat} {h : HD} {Q : D → HD → Prop} (hb : ∀ i ∈ ns, Builtin.Int.intBits i ≤ 2 ^ 20) (hk : k ≤ 1000) (q : ∀ l h', BoxAt h' l → h.length ≤ l → Sm h h' → Q (.loc l) h') : Wp (F__law_box [.scr ns, .int (k : Nat)] h) Q := by
  change Wp (mBody 5 (g__law_box F__law_cell F__law_mix) [.scr ns, .int (k : Nat)] h) _
  first | refine Eq.mpr (wp_body) ?_ | rw [wp_body]
  obtain ⟨c, bc, pc⟩ := p_cell (k := k) hb hk
  simp
  refine (pc h).wp fun h1 s1 => ?_
  rw [mod_p (by decide)]
  simp
  by_cases hz : c % 2 = 0
  · simp [hz]
    rw [fdiv_p (by decide) (by decide)]
    simp
    exact wp_newL (by simp) fun l h' s e el _ => q l h' ⟨_, e⟩ (by have := s1.len; (first | lia | omega)) (s1.trans s)
  · simp [hz]
    refine for_wp (src := []) (xs := List.range 24) (fun i => .int ((i : Nat) : Int)) (BxI ns k c h) ?_ (fun ys ρ h' _ => src0) ?_ ?_
    · simp [rng24]
      exact ⟨_, _, rfl, s1, fun j hj => List.mem_range.mp hj⟩
    · rintro x xs ρ h' ⟨N, y, rfl, sh, hx⟩
      refine ⟨_, rfl, ?_⟩
      obtain ⟨m, pm⟩ := p_mix (k := x) bc (by have := hx x List.mem_cons_self; (first | lia | omega))
      simp
      rw [mul_r (by decide) (by decide)]
      simp
      refine (pm h').wp fun h2 s2 => ?_
      simp [kLoop]
      exact ⟨_, _, rfl, sh.trans s2, fun j hj => hx j (List.mem_cons_of_mem _ hj)⟩
    · rintro ρ h' ⟨N, y, rfl, sh, _⟩
      simp
      exact wp_newL (by simp) fun l h' s e el _ => q l h' ⟨_, e⟩ (by have := sh.len; (first | lia | omega)) (sh.trans s)
noncomputable def Smx (b : Nat) (h h' : HD) : Prop := ∀ (l : Nat) (c : Cell), l ≠ b → h[l]? = some c → h'[l]? = some c
theorem Smx.refl (b : Nat) (h : HD) : Smx b h h := fun _ _ _ e => e
theorem Smx.trans {b : Nat} {h h1 h2 : HD} (a : Smx b h h1) (c : Smx b h1 h2) : Smx b h h2 := fun l x n e => c l x n (a l x n e)
theorem smx_of {b : Nat} {h h' : HD} (s : Sm h h') : Smx b h h' := fun l c _ e => s l c e
theorem wp_take {b : Nat} {m : Int} {h : HD} {Q : D → HD → Prop} (hx : BoxAt h b) (h1 : 0 < m) (h2 : m < 18446744073709551616) (q : ∀ d h', 0 ≤ d → d < m → BoxAt h' b → Smx b h h' → Q (.int d) h') : Wp (F__law_take [.loc b, .int m] h) Q := by
  change Wp (mBody 4 g__law_take [.loc b, .int m] h) _
  first | refine Eq.mpr (wp_body) ?_ | rw [wp_body]
  obtain ⟨N, e⟩ := hx
  simp
  rw [show (0 : Int) = ((0 : Nat) : Int) from rfl]
  first | refine wpe (ix_loc e (k := 0) rfl) ?_ | rw [ix_loc e (k := 0) rfl]
  simp
  first | refine wpe (divmod_p h1 h2) ?_ | rw [divmod_p h1 h2]
  simp
  rw [show (0 : Int) = ((0 : Nat) : Int) from rfl]
  first | refine wpe (set_loc e (by simp)) ?_ | rw [set_loc e (by simp)]
  simp
  have hl : b < h.length := (List.getElem?_eq_some_iff.mp e).1
  refine q _ _ (Int.emod_nonneg _ (by (first | lia | omega))) (Int.emod_lt_of_pos _ h1) ⟨_, by rw [List.getElem?_set_self hl]⟩ fun l c ne el => ?_
  rw [List.getElem?_set_ne (Ne.symm ne)]
  exact el
theorem BoxAt.sm {b : Nat} {h h' : HD} (x : BoxAt h b) (s : Sm h h') : BoxAt h' b := let ⟨n, e⟩ := x; ⟨n, s _ _ e⟩
theorem BoxAt.smx {a b : Nat} {h h' : HD} (x : BoxAt h b) (s : Smx a h h') (ne : b ≠ a) : BoxAt h' b := let ⟨n, e⟩ := x; ⟨n, s _ _ ne e⟩
theorem BoxAt.new {b : Nat} {h : HD} {c : Cell} (x : BoxAt h b) : BoxAt (h ++ [c]) b := x.sm (.app _ _)
noncomputable def Plain (h : HD) : D → Prop
  | .int _ => True
  | .bl _ => True
  | .non => True
  | .str _ => True
  | .tup _ => True
  | .edic => True
  | .loc l => ∃ ds, h[l]? = some (.lst ds)
  | _ => False
theorem Plain.sm {h h' : HD} {d : D} (p : Plain h d) (s : Sm h h') : Plain h' d := by
  cases d with
  | loc l => obtain ⟨ds, e⟩ := p; exact ⟨ds, s _ _ e⟩
  | _ => exact p
noncomputable def itemsT : D → List D
  | .tup ds => ds
  | _ => []
noncomputable def Plain2 (h : HD) (d : D) : Prop := Plain h d ∧ ∀ x ∈ itemsT d, Plain h x
noncomputable def Plain3 (h : HD) (d : D) : Prop := Plain h d ∧ ∀ x ∈ itemsT d, Plain2 h x
theorem Plain2.sm {h h' : HD} {d : D} (p : Plain2 h d) (s : Sm h h') : Plain2 h' d := ⟨p.1.sm s, fun x hx => (p.2 x hx).sm s⟩
theorem Plain3.sm {h h' : HD} {d : D} (p : Plain3 h d) (s : Sm h h') : Plain3 h' d := ⟨p.1.sm s, fun x hx => (p.2 x hx).sm s⟩
noncomputable def lightB : D → Bool
  | .int i => decide (0 ≤ i) && decide (i ≤ 1)
  | _ => false
noncomputable def lenT (d : D) : Nat := (itemsT d).length
theorem p_is_between_int {i a b : Int} {h : HD} : Pu (F_is_between [.int i, .int a, .int b] h) h (.bl (decide (a ≤ i) && decide (i ≤ b))) := by
  change Wp (mBody 3 (g_is_between F_is_whole) [.int i, .int a, .int b] h) _
  first | refine Eq.mpr (wp_body) ?_ | rw [wp_body]
  have e : F_is_whole [.int i] h = .ok (.bl true) h := rfl
  simp [e]
  by_cases h1 : a ≤ i <;> simp [h1, wp_bind, Sm.refl]
theorem p_not_whole {d : D} {a b : Int} {h : HD} (e : F_is_whole [d] h = .ok (.bl false) h) : Pu (F_is_between [d, .int a, .int b] h) h (.bl false) := by
  change Wp (mBody 3 (g_is_between F_is_whole) [d, .int a, .int b] h) _
  first | refine Eq.mpr (wp_body) ?_ | rw [wp_body]
  simp [e, Sm.refl]
noncomputable def wholeB : D → Bool
  | .int _ => true
  | _ => false
theorem e_wholeG {d : D} {h : HD} (p : Plain h d) : F_is_whole [d] h = .ok (.bl (wholeB d)) h := by
  cases d with
  | loc l =>
    obtain ⟨ds, e⟩ := p
    have i1 : instX (.loc l) (.ty "int") h = .ok (.bl false) h := inst_li e
    have w : Wp (mBody 1 g_is_whole [.loc l] h) fun d h' => d = .bl false ∧ h' = h := by
      refine Eq.mpr wp_body ?_
      simp [-instX_l, i1]
    obtain ⟨a, h', e', rfl, rfl⟩ := Wp.ex w
    exact e'
  | tup ds => rfl
  | int i => rfl
  | bl b => rfl
  | non => rfl
  | str x => rfl
  | edic => rfl
  | _ => exact p.elim
theorem whole_int {d : D} (h : wholeB d = true) : ∃ i, d = .int i := by cases d <;> first | exact ⟨_, rfl⟩ | cases h
theorem p_is_lightG {d : D} {h : HD} (p : Plain h d) : Pu (F_is_light [d] h) h (.bl (lightB d)) := by
  change Wp (mBody 1 (g_is_light F_is_between) [d] h) _
  refine Eq.mpr wp_body ?_
  simp
  cases hw : wholeB d with
  | true =>
    obtain ⟨i, rfl⟩ := whole_int hw
    exact p_is_between_int.wp fun h' s => ⟨rfl, s⟩
  | false =>
    have e := e_wholeG p
    rw [hw] at e
    have e2 : lightB d = false := by cases d <;> first | rfl | cases hw
    exact (p_not_whole e).wp fun h' s => ⟨by rw [e2], s⟩
noncomputable def tupB : D → Bool
  | .tup _ => true
  | _ => false
theorem inst_tupG {d : D} {h : HD} (p : Plain h d) : instX d (.ty "tuple") h = .ok (.bl (tupB d)) h := by
  cases d with
  | loc l => obtain ⟨ds, e⟩ := p; exact inst_lt e
  | tup ds => rfl
  | int i => rfl
  | bl b => rfl
  | non => rfl
  | str x => rfl
  | edic => rfl
  | _ => exact p.elim
theorem tup_of {d : D} (h : tupB d = true) : ∃ ds, d = .tup ds := by cases d <;> first | exact ⟨_, rfl⟩ | cases h
noncomputable def lit (x : Bool) : D := .int (if x then 1 else 0)
theorem lightB_lit {x : Bool} : lightB (lit x) = true := by cases x <;> rfl
section
variable {h : HD}
theorem pow29 : powD (.int 10) (.int 29) h = .ok (.int (10 ^ 29)) h := by
  simp only [powD, LS.intD]
  rw [if_pos (by decide)]
  rfl
end
theorem Plain.smx {b : Nat} {h h' : HD} {d : D} (p : Plain h d) (s : Smx b h h') (x : BoxAt h' b) : Plain h' d := by
  cases d with
  | loc l =>
    obtain ⟨ds, e⟩ := p
    by_cases hl : l = b
    · obtain ⟨n, e'⟩ := x
      exact ⟨_, hl ▸ e'⟩
    · exact ⟨ds, s _ _ hl e⟩
  | _ => exact p
theorem Plain2.smx {b : Nat} {h h' : HD} {d : D} (p : Plain2 h d) (s : Smx b h h') (x : BoxAt h' b) : Plain2 h' d := ⟨p.1.smx s x, fun y hy => (p.2 y hy).smx s x⟩
theorem Plain3.smx {b : Nat} {h h' : HD} {d : D} (p : Plain3 h d) (s : Smx b h h') (x : BoxAt h' b) : Plain3 h' d := ⟨p.1.smx s x, fun y hy => (p.2 y hy).smx s x⟩
noncomputable def TabAt (h : HD) : Prop := h[0]? = some .tab
theorem TabAt.sm {h h' : HD} (t : TabAt h) (s : Sm h h') : TabAt h' := s _ _ t
theorem TabAt.smx {b : Nat} {h h' : HD} (t : TabAt h) (s : Smx b h h') (hb : 0 < b) : TabAt h' := s _ _ (by (first | lia | omega)) t
theorem TabAt.pos {h : HD} (t : TabAt h) : 0 < h.length := (List.getElem?_eq_some_iff.mp t).1
theorem take_nat {b : Nat} {m : Int} {h : HD} {Q : D → HD → Prop} (hx : BoxAt h b) (hb : 0 < b) (ht : TabAt h) (h1 : 0 < m) (h2 : m ≤ 1000) (q : ∀ (d : Nat) h', (d : Int) < m → BoxAt h' b → TabAt h' → Smx b h h' → Q (.int (d : Nat)) h') : Wp (F__law_take [.loc b, .int m] h) Q :=
  wp_take hx (by (first | lia | omega)) (by (first | lia | omega)) fun d h' d0 d1 x s => by
    obtain ⟨k, rfl⟩ : ∃ k : Nat, d = (k : Int) := ⟨d.toNat, by (first | lia | omega)⟩
    exact q k h' (by (first | lia | omega)) x (ht.smx s hb) s
theorem BoxAt.lt {b : Nat} {h : HD} (x : BoxAt h b) : b < h.length := let ⟨_, e⟩ := x; (List.getElem?_eq_some_iff.mp e).1
@[simp] theorem sNames2 {ρ : Rho} {a b : D} {i j : Nat} : sNames [i, j] (.tup [a, b]) ρ = some ((ρ.set i (some a)).set j (some b)) := id rfl
theorem add_tt {xs ys : List D} {h : HD} (hz : xs.length + ys.length ≤ 1000) : addD (.tup xs) (.tup ys) h = .ok (.tup (xs ++ ys)) h := by
  simp only [addD]
  rw [if_pos (by unfold sizeLine; (first | lia | omega))]
theorem all_nil {P : D → Prop} : ∀ d ∈ ([] : List D), P d := fun d hd => by cases hd
theorem all_cons {P : D → Prop} {a : D} {l : List D} (h : P a) (t : ∀ d ∈ l, P d) : ∀ d ∈ a :: l, P d := fun d hd => by
  rcases List.mem_cons.mp hd with rfl | hd
  · exact h
  · exact t d hd
theorem all_app {P : D → Prop} {l r : List D} (h : ∀ d ∈ l, P d) (t : ∀ d ∈ r, P d) : ∀ d ∈ l ++ r, P d := fun d hd => by
  rcases List.mem_append.mp hd with hd | hd
  · exact h d hd
  · exact t d hd
theorem pick_loc (P : D → Prop) {l o : Nat} {ds : List D} {h : HD} (e : h[l]? = some (.lst ds)) (ho : o < ds.length) (hp : ∀ d ∈ ds, P d) : ∃ y, ixD (.loc l) (.int (o : Nat)) h = .ok y h ∧ P y :=
  ⟨ds[o], ix_loc e (List.getElem?_eq_getElem ho), hp _ (List.getElem_mem ho)⟩
theorem plain_flat {h : HD} {d : D} (p : Plain h d) (e : itemsT d = []) : Plain2 h d := ⟨p, fun x hx => by rw [e] at hx; cases hx⟩
theorem plain_flat3 {h : HD} {d : D} (p : Plain h d) (e : itemsT d = []) : Plain3 h d := ⟨p, fun x hx => by rw [e] at hx; cases hx⟩
theorem list_tup {R : List D} {h : HD} : listOfD (.tup R) h = newL R h := rfl
theorem e_is_whole {i : Int} {h : HD} : F_is_whole [.int i] h = .ok (.bl true) h := rfl
noncomputable def lotL (n : Nat) : Int → List D → Bool
  | _, [] => true
  | last, .int i :: ds => decide (last < i ∧ i < (n : Int)) && lotL n i ds
  | _, _ :: _ => false
noncomputable def lotB (n : Nat) (d : D) : Bool := match d with
  | .tup ds => lotL n (-1) ds
  | _ => false
theorem lotL_no {n : Nat} {last : Int} {x : D} {xs : List D} (h : wholeB x = false) : lotL n last (x :: xs) = false := by
  cases x <;> first | rfl | (cases h)
inductive LoI (ds : List D) (n : Nat) (h : HD) (xs : List D) (ρ : Rho) (h' : HD) : Prop where
  | mk (last : Int) (x : Option D) (f0 : ρ = [some (.tup ds), some (.int (n : Nat)), some (.int last), x]) (f1 : h' = h) (f2 : lotL n last xs = lotL n (-1) ds) (f3 : ∀ y ∈ xs, Plain h y) : LoI ds n h xs ρ h'
theorem p_is_lotG {d : D} {n : Nat} {h : HD} (p : Plain2 h d) : Pu (F_is_lot [d, .int (n : Nat)] h) h (.bl (lotB n d)) := by
  change Wp (mBody 4 (g_is_lot F_is_whole) [d, .int (n : Nat)] h) _
  refine Eq.mpr wp_body ?_
  cases hT : tupB d with
  | true =>
    obtain ⟨ds, rfl⟩ := tup_of hT
    simp
    refine for_wp (src := []) (xs := ds) (fun x => x) (LoI ds n h) ?_ (fun ys ρ h' _ => src0) ?_ ?_
    · simp
      exact ⟨-1, _, rfl, rfl, rfl, p.2⟩
    · rintro x xs ρ h' ⟨last, y, rfl, rfl, e, pl⟩
      refine ⟨_, rfl, ?_⟩
      have px := pl x List.mem_cons_self
      cases hx : wholeB x with
      | false =>
        simp [e_wholeG px, hx, kLoop, Sm.refl]
        rw [lotL_no hx] at e
        simp [lotB, ← e]
      | true =>
        obtain ⟨i, rfl⟩ := whole_int hx
        by_cases h1 : last < i
        · by_cases h2 : i < (n : Int)
          · simp [e_is_whole, h1, h2, wp_bind, kLoop]
            exact ⟨i, _, rfl, rfl, by rw [← e]; simp [lotL, h1, h2], fun y hy => pl y (List.mem_cons_of_mem _ hy)⟩
          · simp [e_is_whole, h1, h2, wp_bind, kLoop, Sm.refl]
            simp [lotB, ← e, lotL, h1, h2]
        · simp [e_is_whole, h1, wp_bind, kLoop, Sm.refl]
          simp [lotB, ← e, lotL, h1]
    · rintro ρ h' ⟨last, y, rfl, rfl, e, _⟩
      simp [Sm.refl, lotB, ← e, lotL]
  | false =>
    have e : lotB n d = false := by cases d <;> first | rfl | cases hT
    simp [inst_tupG p.1, hT, e, Sm.refl]
noncomputable def lotD (n : Nat) (p : Nat → Bool) : D := .tup (((List.range n).filter p).map fun i => .int ((i : Nat) : Int))
section
variable {H W n : Nat} {h : HD} {f : Nat → Nat → Bool} {r p q p' q' : Nat → Bool}
theorem lotL_lot : ∀ {ks : List Nat} {last : Int}, ks.Pairwise (· < ·) → (∀ k ∈ ks, last < (k : Int) ∧ k < n) → lotL n last (ks.map fun i => .int ((i : Nat) : Int)) = true
  | [], _, _, _ => rfl
  | k :: ks, last, hp, hb => by
    rw [List.pairwise_cons] at hp
    have h0 := hb k List.mem_cons_self
    rw [List.map_cons, lotL, lotL_lot hp.2 fun j hj => ⟨Int.ofNat_lt.mpr (hp.1 j hj), (hb j (List.mem_cons_of_mem _ hj)).2⟩, decide_eq_true ⟨h0.1, Int.ofNat_lt.mpr h0.2⟩]
    rfl
theorem lotB_lot : lotB n (lotD n p) = true := lotL_lot (List.Pairwise.filter _ List.pairwise_lt_range) fun k hk => ⟨by (first | lia | omega), List.mem_range.mp (List.mem_filter.mp hk).1⟩
theorem plain_lotD : Plain2 h (lotD n p) := ⟨trivial, fun x hx => by
  obtain ⟨k, _, rfl⟩ := List.mem_map.mp hx
  exact trivial⟩
theorem has_lot {k : Nat} (hk : k < n) : ((List.range n).filter p).contains k = p k := by
  rw [Bool.eq_iff_iff]
  simp [hk]
theorem in_lot {neg : Bool} {k : Nat} (hk : k < n) : inD neg (.int (k : Nat)) (lotD n p) h = .ok (.bl (if neg then !p k else p k)) h := by
  unfold lotD
  rw [in_ints, has_lot hk]
end
theorem Smx.over {a b : Nat} {h h1 h2 : HD} (s : Smx b h h1) (s2 : Smx a h1 h2) (hl : h.length ≤ a) : Smx b h h2 := fun l c n e => s2 l c (by have := (List.getElem?_eq_some_iff.mp e).1; (first | lia | omega)) (s l c n e)
theorem Smx.put {a b : Nat} {c : Cell} {h h1 : HD} (s : Smx b h h1) (hl : h.length ≤ a) : Smx b h (h1.set a c) := fun l x n e => by
  rw [List.getElem?_set_ne (by have := (List.getElem?_eq_some_iff.mp e).1; (first | lia | omega))]
  exact s l x n e
theorem Smx.new {b : Nat} {c : Cell} {h h1 : HD} (s : Smx b h h1) : Smx b h (h1 ++ [c]) := s.trans (smx_of (.app _ _))
theorem Smx.len {b : Nat} {h h' : HD} (s : Smx b h h') (hb : b < h'.length) : h.length ≤ h'.length := by
  cases e : h.length with
  | zero => exact Nat.zero_le _
  | succ n =>
    have hn : n < h.length := by (first | lia | omega)
    by_cases hz : n = b
    · (first | lia | omega)
    · have := s n h[n] hz (List.getElem?_eq_getElem hn)
      have := (List.getElem?_eq_some_iff.mp this).1
      (first | lia | omega)
inductive WbI (b : Nat) (h1 : HD) (xs : List Nat) (ρ : Rho) (h' : HD) : Prop where
  | mk (N M : Int) (x : Option D) (f0 : ρ = [some (.loc b), some (.int N), some (.int M), x]) (f1 : h' = h1) : WbI b h1 xs ρ h'
theorem wp_wide_box {b : Nat} {h : HD} {Q : D → HD → Prop} (hx : BoxAt h b) (q : ∀ l h', BoxAt h' b → BoxAt h' l → l ≠ b → h.length ≤ l → Smx b h h' → Q (.loc l) h') : Wp (F__law_wide_box [.loc b] h) Q := by
  change Wp (mBody 4 (g__law_wide_box F__law_take) [.loc b] h) _
  first | refine Eq.mpr (wp_body) ?_ | rw [wp_body]
  simp
  refine wp_take hx (by decide) (by decide) fun d h1 d0 d1 x1 s1 => ?_
  refine for_wp (src := []) (xs := List.range 24) (fun i => .int ((i : Nat) : Int)) (WbI b h1) ?_ (fun ys ρ h' _ => src0) ?_ ?_
  · simp [rng24]
    exact ⟨_, _, _, rfl, rfl⟩
  · rintro x xs ρ h' ⟨N, M, y, rfl, rfl⟩
    refine ⟨_, rfl, ?_⟩
    simp
    rw [mul_r (by decide) (by decide)]
    simp
    rw [mod_p (by decide)]
    simp
    rw [mul_r (by decide) (by decide)]
    simp [kLoop]
    exact ⟨_, _, _, rfl, rfl⟩
  · rintro ρ h' ⟨N, M, y, rfl, rfl⟩
    simp
    refine wp_newL (by simp) fun l h2 s e el _ => ?_
    exact q l h2 (x1.sm s) ⟨_, e⟩ (by have := x1.lt; (first | lia | omega)) (by have := s1.len x1.lt; (first | lia | omega)) (s1.trans (smx_of s))
theorem wp_lot {b n : Nat} {h : HD} {Q : D → HD → Prop} (hx : BoxAt h b) (hn : n ≤ 8) (q : ∀ p h', BoxAt h' b → Smx b h h' → Q (lotD n p) h') : Wp (F__law_lot [.loc b, .int (n : Nat)] h) Q := by
  change Wp (mBody 2 (g__law_lot F__law_take) [.loc b, .int (n : Nat)] h) _
  first | refine Eq.mpr (wp_body) ?_ | rw [wp_body]
  simp
  refine compN_tup (src := []) (xs := List.range n) (fun i => .int ((i : Nat) : Int)) (fun h' => BoxAt h' b ∧ Smx b h h') (fun _ _ => True) (fun i d => d = .int ((i : Nat) : Int)) (fun i => [some (.int ((i : Nat) : Int)), some (.loc b)]) ?_ (fun _ _ => src0) (fun h c x => ⟨x.1.new, x.2.new⟩) List.nodup_range (sz hn) (fun x _ => rfl) ?_ ?_
  · simp [rng1_ok (show n ≤ 1000 by (first | lia | omega)), hx, Smx.refl]
  · intro x hx h i
    simp
    refine wp_take i.1 (by decide) (by decide) fun d h1 d0 d1 x1 s1 => ?_
    simp [x1, i.2.trans s1]
  · intro h' g e x1 hr _
    have : ((List.range n).filter g).map e = ((List.range n).filter g).map fun i => D.int ((i : Nat) : Int) := List.map_congr_left fun x hx => hr x (List.mem_filter.mp hx).1 (List.mem_filter.mp hx).2
    rw [this]
    exact q g h' x1.1 x1.2
noncomputable def badD (n : Nat) : D → Bool
  | .int i => !(decide (0 ≤ i ∧ i < (n : Int)))
  | _ => true
theorem lotL_bad {n : Nat} : ∀ {ds : List D} {last : Int}, -1 ≤ last → (∃ x ∈ ds, badD n x = true) → lotL n last ds = false
  | [], _, _, h => by obtain ⟨x, hx, _⟩ := h; cases hx
  | d :: ds, last, hl, h => by
    cases hw : wholeB d with
    | false => exact lotL_no hw
    | true =>
      obtain ⟨i, rfl⟩ : ∃ i, d = .int i := by cases d <;> first | exact ⟨_, rfl⟩ | cases hw
      unfold lotL
      by_cases hi : last < i ∧ i < (n : Int)
      · rw [decide_eq_true hi, Bool.true_and]
        refine lotL_bad (by (first | lia | omega)) ?_
        obtain ⟨x, hx, hb⟩ := h
        rcases List.mem_cons.mp hx with e | hx
        · subst e
          simp [badD] at hb
          (first | lia | omega)
        · exact ⟨x, hx, hb⟩
      · rw [decide_eq_false hi, Bool.false_and]
theorem lotL_fall {n : Nat} {i j : Int} (hij : ¬ i < j) : ∀ {ds : List D} {last : Int}, lotL n last (ds ++ [.int i, .int j]) = false
  | [], last => by simp [lotL, hij]
  | d :: ds, last => by
    cases hw : wholeB d with
    | false => exact lotL_no hw
    | true =>
      obtain ⟨k, rfl⟩ : ∃ i, d = .int i := by cases d <;> first | exact ⟨_, rfl⟩ | cases hw
      rw [List.cons_append]
      unfold lotL
      rw [lotL_fall hij, Bool.and_false]
theorem lotB_bad {n : Nat} {ds : List D} {x : D} (hx : x ∈ ds) (hb : badD n x = true) : lotB n (.tup ds) = false := lotL_bad (Int.le_refl _) ⟨x, hx, hb⟩
theorem lotB_fall {n : Nat} {ds : List D} {i j : Int} (hij : ¬ i < j) : lotB n (.tup (ds ++ [.int i, .int j])) = false := lotL_fall hij
noncomputable def NoL (h : HD) (n : Nat) (d : D) : Prop := Plain2 h d ∧ lotB n d = false
theorem NoL.sm {h h' : HD} {n : Nat} {d : D} (x : NoL h n d) (s : Sm h h') : NoL h' n d := ⟨x.1.sm s, x.2⟩
theorem NoL.smx {b : Nat} {h h' : HD} {n : Nat} {d : D} (x : NoL h n d) (s : Smx b h h') (xb : BoxAt h' b) : NoL h' n d := ⟨x.1.smx s xb, x.2⟩
theorem rng_last {n : Nat} (hn : 1 ≤ n) : ((List.range n).map fun k => D.int ((k : Nat) : Int)) ++ [D.int ((n : Int) - 1)] = ((List.range (n - 1)).map fun k => D.int ((k : Nat) : Int)) ++ [.int ((n : Int) - 1), .int ((n : Int) - 1)] := by
  obtain ⟨m, rfl⟩ : ∃ m, n = m + 1 := ⟨n - 1, by (first | lia | omega)⟩
  simp [List.range_succ]
theorem plain_rng {h : HD} {n : Nat} {x : D} (hx : x ∈ (List.range n).map fun k => D.int ((k : Nat) : Int)) : Plain h x := by
  obtain ⟨k, _, rfl⟩ := List.mem_map.mp hx
  exact trivial
theorem wp_pick {n : Nat} {a b : Out D} {Q : D → HD → Prop} {h : HD} (hn : 1 ≤ n) (ha : a = .ok (.tup [.int ((n : Int) - 1), .int 0]) h) (hb : b = .ok (.tup [.int 0, .int 0]) h) (q : ∀ i j : Int, ¬ i < j → Q (.tup [.int i, .int j]) h) : Wp (if 1 < (n : Int) then a else b) Q := by
  split
  · rw [ha]; exact q _ _ (by (first | lia | omega))
  · rw [hb]; exact q _ _ (by (first | lia | omega))
theorem wp_no_lot {b n : Nat} {h : HD} {Q : D → HD → Prop} (hx : BoxAt h b) (hb : 0 < b) (ht : TabAt h) (hn : 1 ≤ n ∧ n ≤ 8) (q : ∀ d h', NoL h' n d → BoxAt h' b → TabAt h' → Smx b h h' → Q d h') : Wp (F__law_no_lot [.loc b, .int (n : Nat)] h) Q := by
  change Wp (mBody 5 (g__law_no_lot F__law_take) [.loc b, .int (n : Nat)] h) _
  refine Eq.mpr wp_body ?_
  simp [-kSeq_nx]
  refine take_nat hx hb ht (by (first | lia | omega)) (by (first | lia | omega)) fun A h1 lA x1 t1 s1 => ?_
  refine Eq.mpr kSeq_nx ?_
  try simp [-kSeq_nx, pow29]
  refine wp_newL (by simp) fun l3 h3 s3 e3 el3 _ => ?_
  try simp [-kSeq_nx]
  refine wp_newL (by simp) fun l4 h4 s4 e4 el4 _ => ?_
  have x4 : BoxAt h4 b := (x1.sm s3).sm s4
  have t4 : TabAt h4 := (t1.sm s3).sm s4
  have n3 : l3 ≠ b := by have := x1.lt; (first | lia | omega)
  have n4 : l4 ≠ b := by have := (x1.sm s3).lt; (first | lia | omega)
  try simp [-kSeq_nx]
  refine take_nat x4 hb t4 (by decide) (by decide) fun o h5 l2 x5 t5 s5 => ?_
  have e4' := s5 _ _ n4 e4
  have e3' := s5 _ _ n3 (s4 _ _ e3)
  obtain ⟨y, ey, py, ly⟩ := pick_loc (fun y => Plain h5 y ∧ badD n y = true) (o := o) e4' (by simp; (first | lia | omega)) <| all_cons ⟨trivial, by simp [badD]⟩ <| all_cons ⟨trivial, rfl⟩ <| all_cons ⟨trivial, rfl⟩ <| all_cons ⟨trivial, rfl⟩ <| all_cons ⟨trivial, rfl⟩ <| all_cons ⟨trivial, rfl⟩ <| all_cons ⟨trivial, by simp [badD]; (first | lia | omega)⟩ <| all_cons ⟨trivial, rfl⟩ <| all_cons ⟨⟨_, e3'⟩, rfl⟩ <| all_cons ⟨trivial, rfl⟩ all_nil
  refine wpe ey ?_
  refine Eq.mpr (wp_ok _ _) ?_
  refine Eq.mpr kSeq_nx ?_
  have S : Smx b h h5 := ((s1.trans (smx_of s3)).trans (smx_of s4)).trans s5
  clear ey
  try simp [-kSeq_nx]
  refine wp_newL (by simp) fun l6 h6 s6 e6 _ _ => ?_
  refine wp_pick (h := h6) hn.1 (by simp [mTup, mCons, mOp, mVar, mC, mNil, subD]) (by simp [mTup, mCons, mVar, mC, mNil]) fun i j hij => ?_
  refine wp_newL (by simp) fun l7 h7 s7 e7 _ _ => ?_
  refine Eq.mpr kSeq_nx ?_
  try simp [-kSeq_nx, wp_tupR]
  refine wpe (tupR_ok (by (first | lia | omega))) ?_
  try simp [-kSeq_nx]
  refine wpe (add_tt (by simp; (first | lia | omega))) ?_
  try simp [-kSeq_nx]
  refine wpe (tupR_ok (by (first | lia | omega))) ?_
  try simp [-kSeq_nx]
  refine wpe (add_tt (by simp; (first | lia | omega))) ?_
  try simp [-kSeq_nx]
  refine wp_newL (by simp) fun l8 h8 s8 e8 _ _ => ?_
  try simp [-kSeq_nx]
  refine wpe (add_ll (s8 _ _ e7) e8) ?_
  refine wp_newL (by simp; unfold sizeLine; (first | lia | omega)) fun l9 h9 s9 e9 el9 _ => ?_
  refine Eq.mpr kSeq_nx ?_
  try simp [-kSeq_nx]
  have s59 := ((s6.trans s7).trans s8).trans s9
  have x9 : BoxAt h9 b := x5.sm s59
  have t9 : TabAt h9 := t5.sm s59
  have n9 : l9 ≠ b := by have := (((x5.sm s6).sm s7).sm s8).lt; (first | lia | omega)
  obtain ⟨L, eL, lL, nL⟩ : ∃ L : List D, h9[l9]? = some (.lst L) ∧ L.length = 12 ∧ ∀ d ∈ L, NoL h9 n d := by
    have py9 : Plain h9 y := py.sm s59
    have bad : ∀ {ds : List D}, (∀ x ∈ ds, Plain h9 x) → y ∈ ds → NoL h9 n (.tup ds) := fun hd hy => ⟨⟨trivial, hd⟩, lotB_bad hy ly⟩
    have flat : ∀ {x : D}, Plain h9 x → itemsT x = [] → lotB n x = false → NoL h9 n x := fun p e l => ⟨plain_flat p e, l⟩
    have pint : ∀ i : Int, Plain h9 (.int i) := fun i => trivial
    have m0 : ∀ {l : List D}, y ∈ y :: l := List.mem_cons_self
    have two : ∀ {i j : Int}, ¬ i < j → NoL h9 n (.tup [.int i, .int j]) := fun z => ⟨⟨trivial, all_cons (pint _) (all_cons (pint _) all_nil)⟩, lotB_fall (ds := []) z⟩
    refine ⟨_, e9, by simp, all_app (all_cons (bad (all_cons py9 all_nil) m0) <| all_cons (two (Int.lt_irrefl _)) <| all_cons (bad (all_cons (pint _) (all_cons py9 all_nil)) (List.mem_cons_of_mem _ m0)) <|
      all_cons (flat ⟨_, (((s7.trans s8).trans s9) _ _ e6)⟩ rfl rfl) <| all_cons (flat trivial rfl rfl) <| all_cons (flat trivial rfl rfl) <| all_cons (flat trivial rfl rfl) <| all_cons (two hij) <| all_cons (flat trivial rfl rfl) <|
      all_cons (bad (all_cons py9 (all_cons (pint _) all_nil)) m0) all_nil) <| all_cons (bad (all_app (fun x z => plain_rng z) (all_cons py9 all_nil)) (List.mem_append_right _ m0)) <| all_cons ?_ all_nil⟩
    rw [rng_last hn.1]
    exact ⟨⟨trivial, all_app (fun x z => plain_rng z) (all_cons (pint _) (all_cons (pint _) all_nil))⟩, lotB_fall (Int.lt_irrefl _)⟩
  refine take_nat x9 hb t9 (by decide) (by decide) fun c h10 lc x10 t10 s10 => ?_
  have hd : c < L.length := by (first | lia | omega)
  refine wpe (ix_loc (s10 _ _ n9 eL) (List.getElem?_eq_getElem hd)) ?_
  exact q _ _ ((nL _ (List.getElem_mem hd)).smx s10 x10) x10 t10 ((S.trans (smx_of s59)).trans s10)
noncomputable def okB (c : Bool) (p : PyData) : Prop := if c then noLst p = true else p.hasDict = false
noncomputable def okBs (c : Bool) (ps : List PyData) : Prop := if c then noLsts ps = true else PyData.hasDictAll ps = false
inductive RpX (b : Nat) (h : HD) (c : Bool) (n L : Nat) (d : D) : Prop where
  | mk (p : PyData) (f0 : ∀ h', Smx b h h' → ∀ m, dPyX h' (n + m) d = some p) (f1 : p.showable = true) (f2 : okB c p) (f3 : p.depth ≤ n) (f4 : p.shown.length ≤ L) : RpX b h c n L d
inductive RpXs (b : Nat) (h : HD) (c : Bool) (n L : Nat) (ds : List D) : Prop where
  | mk (ps : List PyData) (f0 : ∀ h', Smx b h h' → ∀ m, allSome (ds.map (dPyX h' (n + m))) = some ps) (f1 : PyData.showableAll ps = true) (f2 : okBs c ps) (f3 : PyData.depthAll ps ≤ n) (f4 : ps.length = ds.length) (f5 : ∀ t ∈ PyData.shownAll ps, t.length ≤ L) : RpXs b h c n L ds
theorem rpx_all {b : Nat} {h : HD} {c : Bool} {n L : Nat} : ∀ {ds : List D}, (∀ d ∈ ds, RpX b h c n L d) → RpXs b h c n L ds
  | [], _ => ⟨[], fun _ _ _ => rfl, rfl, by cases c <;> rfl, Nat.zero_le _, rfl, fun t ht => by cases ht⟩
  | d :: ds, hd => by
    obtain ⟨p, a1, a2, a3, a4, a5⟩ := hd d List.mem_cons_self
    obtain ⟨ps, b1, b2, b3, b4, b5, b6⟩ := rpx_all (fun x hx => hd x (List.mem_cons_of_mem _ hx))
    refine ⟨p :: ps, fun h' s m => ?_, by simp [PyData.showableAll, a2, b2], ?_, by simp only [PyData.depthAll]; (first | lia | omega), by simp [b5], fun t ht => ?_⟩
    · rw [List.map_cons, a1 h' s m]
      simp only [allSome, b1 h' s m]
      rfl
    · cases c with
      | true =>
        change noLst p = true at a3
        change noLsts ps = true at b3
        change (noLst p && noLsts ps) = true
        rw [a3, b3]
        rfl
      | false =>
        change p.hasDict = false at a3
        change PyData.hasDictAll ps = false at b3
        change (p.hasDict || PyData.hasDictAll ps) = false
        rw [a3, b3]
        rfl
    · simp only [PyData.shownAll] at ht
      rcases List.mem_cons.mp ht with e | e
      · rw [e]; exact a5
      · exact b6 t e
theorem rpx_join {L k : Nat} {ds : List D} {ps : List PyData} (hk : ds.length ≤ k) (b5 : ps.length = ds.length) (b6 : ∀ t ∈ PyData.shownAll ps, t.length ≤ L) : (Str.join ", " (PyData.shownAll ps)).length ≤ k * (L + 2) := by
  have hl : (PyData.shownAll ps).length = ds.length := by rw [shownAll_len, b5]
  by_cases he : PyData.shownAll ps = []
  · rw [he]; exact Nat.zero_le _
  · have h1 := join_length_add _ he
    have h2 := piled_le b6
    have h3 : (PyData.shownAll ps).length * (L + 2) ≤ k * (L + 2) := Nat.mul_le_mul_right _ (by rw [hl]; exact hk)
    (first | lia | omega)
theorem rpx_tup {b : Nat} {h : HD} {c : Bool} {n L : Nat} (k : Nat) {ds : List D} (hd : ∀ d ∈ ds, RpX b h c n L d) (hk : ds.length ≤ k) : RpX b h c (n + 1) (k * (L + 2) + 3) (.tup ds) := by
  obtain ⟨ps, b1, b2, b3, b4, b5, b6⟩ := rpx_all hd
  refine ⟨.tuple ps, fun h' s m => ?_, by simpa [PyData.showable] using b2, by cases c <;> exact b3, by simp only [PyData.depth]; (first | lia | omega), ?_⟩
  · rw [show n + 1 + m = (n + m) + 1 by (first | lia | omega)]
    show (allSome (ds.map (dPyX h' (n + m)))).map PyData.tuple = _
    rw [b1 h' s m]
    rfl
  · have hj := rpx_join hk b5 b6
    simp only [PyData.shown, tupleText]
    rw [strLen_append, strLen_append]
    have e1 : ((("(" : String) : Str)).length = 1 := rfl
    have e2 : (((if (PyData.shownAll ps).length == 1 then ",)" else ")" : String) : Str)).length ≤ 2 := by split <;> decide
    (first | lia | omega)
theorem sum_len {L : Nat} : ∀ {ts : List Str}, (∀ t ∈ ts, t.length ≤ L) → (ts.map (·.length)).sum ≤ ts.length * L
  | [], _ => Nat.zero_le _
  | t :: ts, h => by
    have h1 := h t List.mem_cons_self
    have h2 := sum_len (fun x hx => h x (List.mem_cons_of_mem _ hx)) (ts := ts) (L := L)
    rw [List.map_cons, List.sum_cons, List.length_cons, Nat.succ_mul]
    (first | lia | omega)
theorem rpx_lst {b : Nat} {h : HD} {n L l : Nat} (k : Nat) {ds : List D} (hl : l ≠ b) (el : h[l]? = some (.lst ds)) (hd : ∀ d ∈ ds, RpX b h false n L d) (hk : ds.length ≤ k) : RpX b h false (n + 1) (k * (L + 2) + 3) (.loc l) := by
  obtain ⟨ps, b1, b2, b3, b4, b5, b6⟩ := rpx_all hd
  refine ⟨.list ps, fun h' s m => ?_, by simpa [PyData.showable] using b2, b3, by simp only [PyData.depth]; (first | lia | omega), ?_⟩
  · rw [show n + 1 + m = (n + m) + 1 by (first | lia | omega)]
    show (match h'[l]? with
      | some (.lst ds) => (allSome (ds.map (dPyX h' (n + m)))).map PyData.list
      | _ => none) = _
    rw [s _ _ hl el]
    show (allSome (ds.map (dPyX h' (n + m)))).map PyData.list = _
    rw [b1 h' s m]
    rfl
  · have hj := listText_len_le (PyData.shownAll ps)
    have hl : (PyData.shownAll ps).length = ds.length := by rw [shownAll_len, b5]
    have hs := sum_len b6
    have h3 : (PyData.shownAll ps).length * (L + 2) ≤ k * (L + 2) := Nat.mul_le_mul_right _ (by rw [hl]; exact hk)
    rw [Nat.mul_add] at h3
    show (listText (PyData.shownAll ps)).length ≤ _
    (first | lia | omega)
theorem rpx_of {b : Nat} {h : HD} {c : Bool} {n n' L L' : Nat} {d : D} (x : RpX b h c n L d) (hn : n ≤ n') (hl : L ≤ L') : RpX b h c n' L' d := by
  obtain ⟨p, a1, a2, a3, a4, a5⟩ := x
  exact ⟨p, fun h' s m => by have := a1 h' s (n' - n + m); rw [show n + (n' - n + m) = n' + m by (first | lia | omega)] at this; exact this, a2, a3, Nat.le_trans a4 hn, Nat.le_trans a5 hl⟩
theorem RpX.smx {b : Nat} {h h' : HD} {c : Bool} {n L : Nat} {d : D} (x : RpX b h c n L d) (s : Smx b h h') : RpX b h' c n L d := by
  obtain ⟨p, a1, a2, a3, a4, a5⟩ := x
  exact ⟨p, fun h2 s2 m => a1 h2 (s.trans s2) m, a2, a3, a4, a5⟩
theorem rpx_ok {b : Nat} {h : HD} {c : Bool} {n L : Nat} {d : D} (x : RpX b h c n L d) (hn : n ≤ 8) (hl : L ≤ sizeLine) : ∃ t : Str, ∀ h', Smx b h h' → reprX d h' = .ok (.str t) h' := by
  obtain ⟨p, a1, a2, a3, a4, a5⟩ := x
  refine ⟨p.shown, fun h' s => ?_⟩
  have e := a1 h' s (8 - n)
  rw [show n + (8 - n) = 8 by (first | lia | omega)] at e
  have h2 : p.hasDict = false ∨ noLst p = true := by
    cases c with
    | true => exact .inr a3
    | false => exact .inl a3
  unfold reprX
  rw [e]
  exact if_pos ⟨a2, h2, by (first | lia | omega), Nat.le_trans a5 hl⟩
theorem rpx_flat {b : Nat} {h : HD} {c : Bool} {L : Nat} {d : D} {p : PyData} (e : ∀ h m, dPyX h m d = some p) (h1 : p.showable = true) (h2 : okB c p) (h3 : p.depth = 0) (h4 : p.shown.length ≤ L) : RpX b h c 0 L d :=
  ⟨p, fun h' _ m => e h' _, h1, h2, by rw [h3]; exact Nat.le_refl _, h4⟩
section
variable {b : Nat} {h : HD} {c : Bool}
theorem rpx_100 {i : Int} (h1 : 0 ≤ i) (h2 : i < 100) : RpX b h c 0 3 (.int i) := by
  have key : ∀ k : Fin 100, PyData.showable (.int ((k.val : Nat) : Int)) = true ∧ (PyData.shown (.int ((k.val : Nat) : Int))).length ≤ 3 := by decide +kernel
  obtain ⟨n, rfl⟩ : ∃ n : Nat, i = (n : Int) := ⟨i.toNat, by (first | lia | omega)⟩
  have k := key ⟨n, by (first | lia | omega)⟩
  exact rpx_flat (p := .int (n : Int)) (fun h m => by cases m <;> rfl) k.1 (by cases c <;> rfl) rfl k.2
theorem rpx_bl {v : Bool} : RpX b h c 0 5 (.bl v) := rpx_flat (p := .bool v) (fun h m => by cases m <;> rfl) rfl (by cases c <;> rfl) rfl (by cases v <;> decide)
theorem rpx_non : RpX b h c 0 5 .non := rpx_flat (p := .none) (fun h m => by cases m <;> rfl) rfl (by cases c <;> rfl) rfl (by decide)
theorem rpx_str {x : Str} {L : Nat} (hx : (PyData.shown (.str x)).length ≤ L) : RpX b h c 0 L (.str x) := rpx_flat (p := .str x) (fun h m => by cases m <;> rfl) rfl (by cases c <;> rfl) rfl hx
theorem rpx_big {i : Int} {L : Nat} (h1 : PyData.showable (.int i) = true) (hx : (PyData.shown (.int i)).length ≤ L) : RpX b h c 0 L (.int i) := rpx_flat (p := .int i) (fun h m => by cases m <;> rfl) h1 (by cases c <;> rfl) rfl hx
theorem rpx_edic : RpX b h true 1 5 .edic := ⟨.dict [], fun h' _ m => by cases m <;> rfl, rfl, rfl, by decide, by decide⟩
theorem rpx_lit {x : Bool} : RpX b h c 0 3 (lit x) := rpx_100 (by split <;> decide) (by split <;> decide)
end
noncomputable def kindsV (c : Str) : List V := [.bl (excSub c "NoBoard"), .bl (excSub c "NoLine"), .bl (excSub c "NoSwitching"), .bl (excSub c "NoNumber"), .bl (excSub c "Unlike"), .bl (excSub c "NoNet"), .bl (excSub c "NoPlace"), .bl (excSub c "NoText"), .bl (excSub c "NoRow"), .bl (excSub c "TooMany")]
noncomputable def wordsD : List D := [.str "board", .str "line", .str "switching", .str "number", .str "unlike", .str "net", .str "place", .str "text", .str "row"]
theorem p_kindG {c w t : Str} {j : Nat} {h : HD} (hc : c ∈ excNames) (hn : countV (.bl true) (kindsV c) = 1) (h9 : excSub c "TooMany" = false) (hj : idxV (.bl true) (kindsV c) = some j) (hw : wordsD[j]? = some (.str w)) (hz : ((("! " : String) : Str)).length + w.length ≤ 1000) (ht : ((("! " : String) : Str)) ++ w = t) : Pu (F__law_kind [.exc c []] h) h (.str t) := by
  have i0 : ∀ h, instX (.exc c []) (.glo "NoBoard") h = .ok (.bl (excSub c "NoBoard")) h := fun h => instX_exc hc (by decide +kernel)
  have i1 : ∀ h, instX (.exc c []) (.glo "NoLine") h = .ok (.bl (excSub c "NoLine")) h := fun h => instX_exc hc (by decide +kernel)
  have i2 : ∀ h, instX (.exc c []) (.glo "NoSwitching") h = .ok (.bl (excSub c "NoSwitching")) h := fun h => instX_exc hc (by decide +kernel)
  have i3 : ∀ h, instX (.exc c []) (.glo "NoNumber") h = .ok (.bl (excSub c "NoNumber")) h := fun h => instX_exc hc (by decide +kernel)
  have i4 : ∀ h, instX (.exc c []) (.glo "Unlike") h = .ok (.bl (excSub c "Unlike")) h := fun h => instX_exc hc (by decide +kernel)
  have i5 : ∀ h, instX (.exc c []) (.glo "NoNet") h = .ok (.bl (excSub c "NoNet")) h := fun h => instX_exc hc (by decide +kernel)
  have i6 : ∀ h, instX (.exc c []) (.glo "NoPlace") h = .ok (.bl (excSub c "NoPlace")) h := fun h => instX_exc hc (by decide +kernel)
  have i7 : ∀ h, instX (.exc c []) (.glo "NoText") h = .ok (.bl (excSub c "NoText")) h := fun h => instX_exc hc (by decide +kernel)
  have i8 : ∀ h, instX (.exc c []) (.glo "NoRow") h = .ok (.bl (excSub c "NoRow")) h := fun h => instX_exc hc (by decide +kernel)
  have i9 : ∀ h, instX (.exc c []) (.glo "TooMany") h = .ok (.bl (excSub c "TooMany")) h := fun h => instX_exc hc (by decide +kernel)
  have iv : ∀ h, instX (.exc c []) (.ty "ValueError") h = .ok (.bl true) h := fun h => instX_ve hc
  change Wp (mBody 3 g__law_kind [.exc c []] h) _
  refine Eq.mpr wp_body ?_
  simp [-kSeq_nx, i0, i1, i2, i3]
  refine wp_newL (by simp) fun l1 h1 s1 e1 _ _ => ?_
  refine Eq.mpr kSeq_nx ?_
  simp [-kSeq_nx, i4, i5, i6, i7]
  refine wp_newL (by simp) fun l2 h2 s2 e2 _ _ => ?_
  refine wpe (add_ll (s2 _ _ e1) e2) ?_
  refine wp_newL (by simp) fun l3 h3 s3 e3 _ _ => ?_
  refine Eq.mpr kSeq_nx ?_
  simp [-kSeq_nx, i8, i9]
  refine wp_newL (by simp) fun l4 h4 s4 e4 _ _ => ?_
  refine wpe (add_ll (s4 _ _ e3) e4) ?_
  refine wp_newL (by simp) fun l5 h5 s5 e5 _ _ => ?_
  refine Eq.mpr kSeq_nx ?_
  simp [-kSeq_nx, iv, loc_isLst e5]
  refine wpe ((count_loc (vs := kindsV c) e5 rfl rfl).trans (by rw [hn])) ?_
  simp [-kSeq_nx]
  refine Eq.mpr kSeq_nx ?_
  simp [-kSeq_nx]
  rw [show (9 : Int) = ((9 : Nat) : Int) from rfl]
  refine wpe (ix_loc e5 (k := 9) rfl) ?_
  simp [-kSeq_nx, h9]
  refine Eq.mpr kSeq_nx ?_
  simp [-kSeq_nx]
  refine wp_newL (by simp) fun l6 h6 s6 e6 _ _ => ?_
  refine Eq.mpr kSeq_nx ?_
  simp [loc_isLst (s6 _ _ e5)]
  refine wpe (index_loc (s6 _ _ e5) rfl rfl hj) ?_
  simp only [wp_ok]
  refine wpe (ix_loc e6 hw) ?_
  simp only [wp_ok]
  refine wpe (add_ss hz) ?_
  exact ⟨congrArg D.str ht, ((((s1.trans s2).trans s3).trans s4).trans s5).trans s6⟩
end LK

namespace LK
open PySem PySem.Spec PyProof.Rows L2 LS
theorem slX_to {xs : List D} {k : Nat} {h : HD} : slX (.tup xs) none (some (k : Int)) h = .ok (.tup (xs.take k)) h := by
  simp only [slX]
  unfold LS.cutD
  rw [HT.sIx_nat, HT.sIx_none, List.drop_zero, Nat.sub_zero]
  congr 2
  rcases Nat.le_total k xs.length with z | z
  · rw [Nat.min_eq_left z]
  · rw [Nat.min_eq_right z, List.take_of_length_le z, List.take_of_length_le (Nat.le_refl _)]
theorem slX_from {xs : List D} {k : Nat} {h : HD} : slX (.tup xs) (some (k : Int)) none h = .ok (.tup (xs.drop k)) h := by
  simp only [slX]
  unfold LS.cutD
  rw [HT.sIx_nat, HT.sIx_none]
  congr 2
  rcases Nat.le_total k xs.length with z | z
  · rw [Nat.min_eq_left z, List.take_of_length_le (by simp)]
  · rw [Nat.min_eq_right z, Nat.sub_self, List.take_zero, List.drop_eq_nil_of_le z]
theorem slX_2 {xs : List D} {h : HD} : slX (.tup xs) none (some 2) h = .ok (.tup (xs.take 2)) h := slX_to (k := 2)
theorem slX_1 {xs : List D} {h : HD} : slX (.tup xs) none (some 1) h = .ok (.tup (xs.take 1)) h := slX_to (k := 1)
theorem slX_f1 {xs : List D} {h : HD} : slX (.tup xs) (some 1) none h = .ok (.tup (xs.drop 1)) h := slX_from (k := 1)
noncomputable def Plain4 (h : HD) (d : D) : Prop := Plain h d ∧ ∀ x ∈ itemsT d, Plain3 h x
theorem Plain4.sm {h h' : HD} {d : D} (p : Plain4 h d) (s : Sm h h') : Plain4 h' d := ⟨p.1.sm s, fun x hx => (p.2 x hx).sm s⟩
theorem Plain4.smx {b : Nat} {h h' : HD} {d : D} (p : Plain4 h d) (s : Smx b h h') (x : BoxAt h' b) : Plain4 h' d := ⟨p.1.smx s x, fun y hy => (p.2 y hy).smx s x⟩

noncomputable def betB (a b : Int) : D → Bool
  | .int i => decide (a ≤ i) && decide (i ≤ b)
  | _ => false
theorem betB_no {a b : Int} {d : D} (h : wholeB d = false) : betB a b d = false := by cases d <;> first | rfl | cases h
theorem p_is_betweenG {d : D} {a b : Int} {h : HD} (p : Plain h d) : Pu (F_is_between [d, .int a, .int b] h) h (.bl (betB a b d)) := by
  cases hw : wholeB d with
  | true =>
    obtain ⟨i, rfl⟩ := whole_int hw
    exact p_is_between_int
  | false =>
    have e := e_wholeG p
    rw [hw] at e
    rw [betB_no hw]
    exact p_not_whole e
theorem p_law_whole {d : D} {a b : Int} {h : HD} (p : Plain h d) : Pu (F__law_is_whole [d, .int a, .int b] h) h (.bl (betB a b d)) := by
  change Wp (mBody 3 g__law_is_whole [d, .int a, .int b] h) _
  refine Eq.mpr wp_body ?_
  cases d with
  | int i =>
    simp
    by_cases h1 : a ≤ i <;> simp [h1, wp_bind, Sm.refl, betB]
  | loc l =>
    obtain ⟨ds, e⟩ := p
    have i1 : instX (.loc l) (.ty "int") h = .ok (.bl false) h := inst_li e
    simp [-instX_l, i1, Sm.refl, betB]
  | bl c => simp [Sm.refl, betB]
  | non => simp [Sm.refl, betB]
  | str x => simp [Sm.refl, betB]
  | tup x => simp [Sm.refl, betB]
  | edic => simp [Sm.refl, betB]
  | _ => exact p.elim

noncomputable def tieB (n : Nat) : D → Bool
  | .tup [a, b, c] => lotB n (.tup [a, b]) && lightB c
  | _ => false
noncomputable def keyT : D → List Int
  | .tup (.int a :: .int b :: _) => [a, b]
  | _ => []
theorem tieB_len {n : Nat} {ds : List D} (h : ds.length ≠ 3) : tieB n (.tup ds) = false := by
  match ds, h with
  | [], _ => rfl
  | [_], _ => rfl
  | [_, _], _ => rfl
  | _ :: _ :: _ :: _ :: _, _ => rfl
theorem tieB_nt {n : Nat} {d : D} (h : tupB d = false) : tieB n d = false := by cases d <;> first | rfl | cases h
theorem three_of {ds : List D} (h : ds.length = 3) : ∃ a b c, ds = [a, b, c] := by
  match ds, h with
  | [a, b, c], _ => exact ⟨a, b, c, rfl⟩
theorem p_is_tieG {d : D} {n : Nat} {h : HD} (p : Plain2 h d) : Pu (F_is_tie [d, .int (n : Nat)] h) h (.bl (tieB n d)) := by
  change Wp (mBody 2 (g_is_tie F_is_lot F_is_light) [d, .int (n : Nat)] h) _
  refine Eq.mpr wp_body ?_
  cases hT : tupB d with
  | false => simp [inst_tupG p.1, hT, tieB_nt hT, Sm.refl]
  | true =>
    obtain ⟨ds, rfl⟩ := tup_of hT
    by_cases h3 : ds.length = 3
    · obtain ⟨a, b, c, rfl⟩ := three_of h3
      have pa := p.2 a (by simp [itemsT])
      have pb := p.2 b (by simp [itemsT])
      have pc := p.2 c (by simp [itemsT])
      simp
      refine wpe slX_2 ?_
      simp
      refine (p_is_lotG (d := .tup [a, b]) ⟨trivial, all_cons pa (all_cons pb all_nil)⟩).wp fun h1 s1 => ?_
      cases hl : lotB n (.tup [a, b]) with
      | false => simp [tieB, hl, s1]
      | true =>
        simp
        refine wpe (show ixD (.tup [a, b, c]) (.int 2) h1 = .ok c h1 from rfl) ?_
        simp
        refine (p_is_lightG (pc.sm s1)).wp fun h2 s2 => ?_
        simp [tieB, hl, s1.trans s2]
    · have e3 : ¬ ((ds.length : Int) = 3) := by (first | lia | omega)
      simp [e3, tieB_len h3, Sm.refl]
inductive TieIs (n : Nat) (t : D) : Prop where
  | mk (a b c : Int) (f0 : t = .tup [.int a, .int b, .int c]) (f1 : 0 ≤ a) (f2 : a < b) (f3 : b < n) (f4 : 0 ≤ c) (f5 : c ≤ 1) : TieIs n t
theorem tie_is {n : Nat} {t : D} (h : tieB n t = true) : TieIs n t := by
  cases hT : tupB t with
  | false => rw [tieB_nt hT] at h; cases h
  | true =>
    obtain ⟨ds, rfl⟩ := tup_of hT
    by_cases h3 : ds.length = 3
    · obtain ⟨a, b, c, rfl⟩ := three_of h3
      rw [tieB, Bool.and_eq_true] at h
      obtain ⟨h1, h2⟩ := h
      cases ha : wholeB a with
      | false => rw [show lotB n (.tup [a, b]) = false from lotL_no ha] at h1; cases h1
      | true =>
        obtain ⟨i, rfl⟩ := whole_int ha
        unfold lotB lotL at h1
        rw [Bool.and_eq_true, decide_eq_true_eq] at h1
        obtain ⟨h3, h4⟩ := h1
        cases hb : wholeB b with
        | false => rw [lotL_no hb] at h4; cases h4
        | true =>
          obtain ⟨j, rfl⟩ := whole_int hb
          unfold lotL at h4
          rw [Bool.and_eq_true, decide_eq_true_eq] at h4
          have h5 := h4.1
          cases hc : wholeB c with
          | false => rw [show lightB c = false by cases c <;> first | rfl | cases hc] at h2; cases h2
          | true =>
            obtain ⟨k, rfl⟩ := whole_int hc
            have h6 : (decide (0 ≤ k) && decide (k ≤ 1)) = true := h2
            rw [Bool.and_eq_true, decide_eq_true_eq, decide_eq_true_eq] at h6
            exact ⟨i, j, k, rfl, by (first | lia | omega), h5.1, h5.2, h6.1, h6.2⟩
    · rw [tieB_len h3] at h; cases h

noncomputable def zipLt : List D → Bool
  | x :: y :: r => HT.lexLt (keyT x) (keyT y) && zipLt (y :: r)
  | _ => true
theorem zip_all : ∀ {ts : List D}, ((ts.zip (ts.drop 1)).all fun p => HT.lexLt (keyT p.1) (keyT p.2)) = zipLt ts
  | [] => rfl
  | [_] => rfl
  | x :: y :: r => by
    have ih := zip_all (ts := y :: r)
    rw [List.drop_succ_cons, List.drop_zero] at ih ⊢
    rw [List.zip_cons_cons, List.all_cons, ih]
    rfl
noncomputable def natT : D → Nat
  | .int m => m.toNat
  | _ => 0
noncomputable def net2 (a b : D) : Bool := match b with
  | .tup ts => betB 1 8 a && (ts.all (tieB (natT a)) && zipLt ts)
  | _ => false
noncomputable def netL : List D → Bool
  | [a, b] => net2 a b
  | _ => false
noncomputable def netB (d : D) : Bool := match d with
  | .tup ds => netL ds
  | _ => false
theorem netB_len {ds : List D} (h : ds.length ≠ 2) : netB (.tup ds) = false := by
  match ds, h with
  | [], _ => rfl
  | [_], _ => rfl
  | _ :: _ :: _ :: _, _ => rfl
theorem netB_nt {d : D} (h : tupB d = false) : netB d = false := by cases d <;> first | rfl | cases h
theorem netB_nw {a b : D} (h : betB 1 8 a = false) : netB (.tup [a, b]) = false := by
  cases b with
  | tup ts =>
    show (betB 1 8 a && _) = false
    rw [h, Bool.false_and]
  | _ => rfl
theorem netB_nb {a b : D} (h : tupB b = false) : netB (.tup [a, b]) = false := by cases b <;> first | rfl | cases h
theorem two_of {ds : List D} (h : ds.length = 2) : ∃ a b, ds = [a, b] := by
  match ds, h with
  | [a, b], _ => exact ⟨a, b, rfl⟩
theorem bet_nat {a : D} (h : betB 1 8 a = true) : ∃ n : Nat, a = .int (n : Nat) ∧ 1 ≤ n ∧ n ≤ 8 := by
  cases hw : wholeB a with
  | false => rw [betB_no hw] at h; cases h
  | true =>
    obtain ⟨m, rfl⟩ := whole_int hw
    have h6 : (decide (1 ≤ m) && decide (m ≤ 8)) = true := h
    rw [Bool.and_eq_true, decide_eq_true_eq, decide_eq_true_eq] at h6
    exact ⟨m.toNat, by congr 1; (first | lia | omega), by (first | lia | omega), by (first | lia | omega)⟩
theorem cmp_key {f : List Int → List Int → Bool} {a b c d : Int} {h : HD} : cmpT f (.tup [.int a, .int b]) (.tup [.int c, .int d]) h = .ok (.bl (f [a, b] [c, d])) h := rfl
theorem p_is_netG {d : D} {h : HD} (p : Plain4 h d) (hz : ∀ x ∈ itemsT d, (itemsT x).length ≤ 1000) : Pu (F_is_net [d] h) h (.bl (netB d)) := by
  change Wp (mBody 3 (g_is_net F_is_between F_is_tie) [d] h) _
  refine Eq.mpr wp_body ?_
  cases hT : tupB d with
  | false => simp [inst_tupG p.1, hT, netB_nt hT, Sm.refl]
  | true =>
    obtain ⟨ds, rfl⟩ := tup_of hT
    by_cases h2 : ds.length = 2
    · obtain ⟨a, b, rfl⟩ := two_of h2
      have pa := p.2 a (by simp [itemsT])
      have pb := p.2 b (by simp [itemsT])
      simp
      refine (p_is_betweenG pa.1).wp fun h1 s1 => ?_
      cases hb : betB 1 8 a with
      | false => simp [netB_nw hb, s1]
      | true =>
        obtain ⟨n, rfl, n1, n2⟩ := bet_nat hb
        cases hU : tupB b with
        | false => simp [inst_tupG (pb.1.sm s1), hU, netB_nb hU, s1]
        | true =>
          obtain ⟨ts, rfl⟩ := tup_of hU
          have lz : ts.length ≤ 1000 := hz (.tup ts) (by simp [itemsT])
          have lz' : ts.length ≤ sizeLine := by unfold sizeLine; (first | lia | omega)
          have en : netB (.tup [.int (n : Nat), .tup ts]) = (ts.all (tieB n) && zipLt ts) := by
            show (betB 1 8 (.int (n : Nat)) && (ts.all (tieB (((n : Nat) : Int)).toNat) && zipLt ts)) = _
            rw [hb, Int.toNat_natCast, Bool.true_and]
          simp
          refine Pu.wp (p_xAll (src := []) (xs := ts) (φ := fun x => x) (tieB n) (fun x => [some x, some (.int (n : Nat))]) (by rw [List.map_id']; exact ⟨rfl, .refl _, fun h2 s2 => src0⟩) (fun x _ => rfl) (fun x hx h' s' => ?_) lz') fun h2 s2 => ?_
          · simp [Pu]
            exact p_is_tieG ((pb.2 x hx).sm (s1.trans s'))
          cases ha : ts.all (tieB n) with
          | false => simp [en, ha, s1.trans s2]
          | true =>
            simp
            refine Pu.wp (p_xAll (src := []) (xs := ts.zip (ts.drop 1)) (φ := fun p => .tup [p.1, p.2]) (fun p => HT.lexLt (keyT p.1) (keyT p.2)) (fun p => [some p.1, some p.2]) ?_ (fun x _ => rfl) (fun x hx h' s' => ?_) (by rw [List.length_zip]; exact Nat.le_trans (Nat.min_le_left _ _) lz')) fun h3 s3 => ?_
            · simp [It0]
              refine wpe slX_f1 ?_
              simp [-List.drop_one]
              refine wpe (show zipD [.tup ts, .tup (ts.drop 1)] h2 = .ok ((ts.zip (ts.drop 1)).map fun p => .tup [p.1, p.2], []) h2 from ?_) ?_
              · show Out.ok (zipL ts (ts.drop 1), []) h2 = _
                congr 2
                unfold zipL
                rw [List.zip, List.map_zipWith]
              · exact ⟨by rw [List.drop_one], .refl _, fun h2 s2 => src0⟩
            · have m := List.of_mem_zip (show (x.1, x.2) ∈ ts.zip (ts.drop 1) from hx)
              obtain ⟨a1, b1, c1, e1, _⟩ := tie_is (List.all_eq_true.mp ha _ m.1)
              obtain ⟨a2, b2, c2, e2, _⟩ := tie_is (List.all_eq_true.mp ha _ (List.mem_of_mem_drop m.2))
              simp [Pu]
              rw [e1, e2]
              refine wpe slX_2 ?_
              simp
              refine wpe slX_2 ?_
              simp
              refine wpe cmp_key ?_
              exact ⟨rfl, .refl _⟩
            · rw [zip_all, en, ha, Bool.true_and]
              exact ⟨rfl, (s1.trans s2).trans s3⟩
    · have e2 : ¬ ((ds.length : Int) = 2) := by (first | lia | omega)
      simp [e2, netB_len h2, Sm.refl]
end LK

namespace LK
open PySem PySem.Spec PyProof.Rows L2 LS
noncomputable def chainB : List Int → List D → Bool
  | _, [] => true
  | last, t :: ts => HT.lexLt last (keyT t) && chainB (keyT t) ts
theorem zc : ∀ {ts : List D} {t : D}, zipLt (t :: ts) = chainB (keyT t) ts
  | [], _ => rfl
  | y :: r, t => by
    show (HT.lexLt (keyT t) (keyT y) && zipLt (y :: r)) = _
    rw [zc]
    rfl
theorem zip_chain {n : Nat} {ts : List D} : (ts.all (tieB n) && zipLt ts) = (ts.all (tieB n) && chainB [-1, -1] ts) := by
  cases ts with
  | nil => rfl
  | cons t ts =>
    cases h : tieB n t with
    | false => rw [List.all_cons, h]; rfl
    | true =>
      obtain ⟨a, b, c, rfl, h1, _⟩ := tie_is h
      have e : HT.lexLt [-1, -1] [a, b] = true := by
        rw [HT.lexLt_cons, if_neg (by (first | lia | omega))]
        exact decide_eq_true (by (first | lia | omega))
      rw [zc]
      show _ = (_ && (HT.lexLt [-1, -1] [a, b] && _))
      rw [e, Bool.true_and]
theorem le_not {a b c d : Int} : HT.lexLe [a, b] [c, d] = !HT.lexLt [c, d] [a, b] := by
  rw [HT.lexLe_cons, HT.lexLt_cons]
  by_cases h : a = c
  · rw [if_pos h, if_pos h.symm, HT.lexLe_cons, HT.lexLt_cons]
    by_cases h2 : b = d
    · rw [if_pos h2, if_pos h2.symm]; rfl
    · rw [if_neg h2, if_neg fun z => h2 z.symm, Bool.eq_iff_iff]
      simp
  · rw [if_neg h, if_neg fun z => h z.symm, Bool.eq_iff_iff]
    simp
theorem bet_light {c : D} : betB 0 1 c = lightB c := by cases c <;> rfl
inductive LnI (n : Nat) (ts : List D) (h : HD) (xs : List D) (ρ : Rho) (h' : HD) : Prop where
  | mk (l1 l2 : Int) (x : Option D) (f0 : ρ = [some (.tup [.int (n : Nat), .tup ts]), some (.tup [.int l1, .int l2]), x]) (f1 : Sm h h') (f2 : (xs.all (tieB n) && chainB [l1, l2] xs) = (ts.all (tieB n) && chainB [-1, -1] ts)) (f3 : ∀ y ∈ xs, Plain2 h y) : LnI n ts h xs ρ h'
theorem lot_two {n : Nat} {i j : Int} : lotB n (.tup [.int i, .int j]) = (decide (-1 < i ∧ i < (n : Int)) && decide (i < j ∧ j < (n : Int))) := by
  show (decide (-1 < i ∧ i < (n : Int)) && (decide (i < j ∧ j < (n : Int)) && true)) = _
  rw [Bool.and_true]
theorem p_law_is_net {d : D} {h : HD} (p : Plain4 h d) : Pu (F__law_is_net [d] h) h (.bl (netB d)) := by
  change Wp (mBody 3 (g__law_is_net F__law_is_whole) [d] h) _
  refine Eq.mpr wp_body ?_
  cases hT : tupB d with
  | false => simp [inst_tupG p.1, hT, netB_nt hT, Sm.refl]
  | true =>
    obtain ⟨ds, rfl⟩ := tup_of hT
    by_cases h2 : ds.length = 2
    · obtain ⟨a, b, rfl⟩ := two_of h2
      have pa := p.2 a (by simp [itemsT])
      have pb := p.2 b (by simp [itemsT])
      simp [-kSeq_nx]
      refine (p_law_whole pa.1).wp fun h1 s1 => ?_
      cases hb : betB 1 8 a with
      | false => simp [netB_nw hb, s1]
      | true =>
        obtain ⟨n, rfl, n1, n2⟩ := bet_nat hb
        simp [-kSeq_nx]
        refine Eq.mpr kSeq_nx ?_
        cases hU : tupB b with
        | false => simp [inst_tupG (pb.1.sm s1), hU, netB_nb hU, s1]
        | true =>
          obtain ⟨ts, rfl⟩ := tup_of hU
          have en : netB (.tup [.int (n : Nat), .tup ts]) = (ts.all (tieB n) && chainB [-1, -1] ts) := by
            show (betB 1 8 (.int (n : Nat)) && (ts.all (tieB (((n : Nat) : Int)).toNat) && zipLt ts)) = _
            rw [hb, Int.toNat_natCast, Bool.true_and, zip_chain]
          simp [-kSeq_nx]
          refine Eq.mpr kSeq_nx ?_
          simp [-kSeq_nx]
          refine Eq.mpr kSeq_nx ?_
          refine Eq.mpr wp_seq ?_
          refine for_wp (src := []) (xs := ts) (fun x => x) (LnI n ts h) ?_ (fun ys ρ h' _ => src0) ?_ ?_
          · simp
            exact ⟨_, _, _, rfl, s1, rfl, pb.2⟩
          · rintro x xs ρ h' ⟨l1, l2, y, rfl, s, ea, pl⟩
            refine ⟨_, rfl, ?_⟩
            have px := (pl x List.mem_cons_self).sm s
            have stop : tieB n x = false → netB (.tup [.int (n : Nat), .tup ts]) = false := fun z => by
              rw [en, ← ea, List.all_cons, z, Bool.false_and, Bool.false_and]
            cases hx : tupB x with
            | false => simp [inst_tupG px.1, hx, kLoop, stop (tieB_nt hx), s]
            | true =>
              obtain ⟨es, rfl⟩ := tup_of hx
              by_cases h3 : es.length = 3
              · obtain ⟨a, b, c, rfl⟩ := three_of h3
                have qa := px.2 a (by simp [itemsT])
                have qb := px.2 b (by simp [itemsT])
                have qc := px.2 c (by simp [itemsT])
                have ix0 : ∀ h, ixD (.tup [a, b, c]) (.int 0) h = .ok a h := fun h => rfl
                have ix1 : ∀ h, ixD (.tup [a, b, c]) (.int 1) h = .ok b h := fun h => rfl
                have ix2 : ∀ h, ixD (.tup [a, b, c]) (.int 2) h = .ok c h := fun h => rfl
                simp [-kSeq_nx, ix2]
                refine (p_law_whole qc).wp fun h4 s4 => ?_
                have S4 := s.trans s4
                cases hc : betB 0 1 c with
                | false =>
                  have : tieB n (.tup [a, b, c]) = false := by rw [tieB, ← bet_light, hc, Bool.and_false]
                  simp [kLoop, stop this, S4]
                | true =>
                  simp [-kSeq_nx]
                  refine Eq.mpr kSeq_nx ?_
                  simp [-kSeq_nx, ix0, ix1]
                  refine (p_law_whole (qa.sm s4)).wp fun h5 s5 => ?_
                  have S5 := S4.trans s5
                  cases ha : betB 0 ((n : Int) - 1) a with
                  | false =>
                    have : tieB n (.tup [a, b, c]) = false := by
                      rw [tieB, lotB_bad (x := a) (by simp) ?_, Bool.false_and]
                      cases hw : wholeB a with
                      | false => cases a <;> first | rfl | cases hw
                      | true =>
                        obtain ⟨i, rfl⟩ := whole_int hw
                        have z : (decide (0 ≤ i) && decide (i ≤ (n : Int) - 1)) = false := ha
                        rw [Bool.eq_false_iff] at z
                        simp at z
                        simp [badD]
                        (first | lia | omega)
                    simp [kLoop, stop this, S5]
                  | true =>
                    simp [-kSeq_nx]
                    refine (p_law_whole ((qb.sm s4).sm s5)).wp fun h6 s6 => ?_
                    have S6 := S5.trans s6
                    cases hbb : betB 0 ((n : Int) - 1) b with
                    | false =>
                      have : tieB n (.tup [a, b, c]) = false := by
                        rw [tieB, lotB_bad (x := b) (by simp) ?_, Bool.false_and]
                        cases hw : wholeB b with
                        | false => cases b <;> first | rfl | cases hw
                        | true =>
                          obtain ⟨i, rfl⟩ := whole_int hw
                          have z : (decide (0 ≤ i) && decide (i ≤ (n : Int) - 1)) = false := hbb
                          rw [Bool.eq_false_iff] at z
                          simp at z
                          simp [badD]
                          (first | lia | omega)
                      simp [kLoop, stop this, S6]
                    | true =>
                      obtain ⟨i, rfl, i1, i2⟩ : ∃ i, a = .int i ∧ 0 ≤ i ∧ i ≤ (n : Int) - 1 := by
                        cases hw : wholeB a with
                        | false => rw [betB_no hw] at ha; cases ha
                        | true =>
                          obtain ⟨i, rfl⟩ := whole_int hw
                          have z : (decide (0 ≤ i) && decide (i ≤ (n : Int) - 1)) = true := ha
                          rw [Bool.and_eq_true, decide_eq_true_eq, decide_eq_true_eq] at z
                          exact ⟨i, rfl, z.1, z.2⟩
                      obtain ⟨j, rfl, j1, j2⟩ : ∃ j, b = .int j ∧ 0 ≤ j ∧ j ≤ (n : Int) - 1 := by
                        cases hw : wholeB b with
                        | false => rw [betB_no hw] at hbb; cases hbb
                        | true =>
                          obtain ⟨i, rfl⟩ := whole_int hw
                          have z : (decide (0 ≤ i) && decide (i ≤ (n : Int) - 1)) = true := hbb
                          rw [Bool.and_eq_true, decide_eq_true_eq, decide_eq_true_eq] at z
                          exact ⟨i, rfl, z.1, z.2⟩
                      simp [-kSeq_nx]
                      refine Eq.mpr kSeq_nx ?_
                      by_cases hij : j ≤ i
                      · have : tieB n (.tup [.int i, .int j, c]) = false := by
                          rw [tieB, lot_two, decide_eq_false (p := i < j ∧ j < (n : Int)) (by (first | lia | omega)), Bool.and_false, Bool.false_and]
                        simp [ix0, ix1, hij, kLoop, stop this, S6]
                      · have ti : tieB n (.tup [.int i, .int j, c]) = true := by
                          rw [tieB, lot_two, decide_eq_true (p := i < j ∧ j < (n : Int)) (by (first | lia | omega)), decide_eq_true (p := -1 < i ∧ i < (n : Int)) (by (first | lia | omega)), ← bet_light, hc]
                          rfl
                        simp [-kSeq_nx, ix0, ix1, hij]
                        refine wpe slX_2 ?_
                        simp [-kSeq_nx]
                        refine wpe cmp_key ?_
                        rw [le_not]
                        cases hl : HT.lexLt [l1, l2] [i, j] with
                        | false =>
                          have e : netB (.tup [.int (n : Nat), .tup ts]) = false := by
                            rw [en, ← ea]
                            show (_ && (HT.lexLt [l1, l2] [i, j] && _)) = false
                            rw [hl, Bool.false_and, Bool.and_false]
                          simp [kLoop, e, S6]
                        | true =>
                          simp [-kSeq_nx]
                          refine Eq.mpr kSeq_nx ?_
                          simp
                          refine wpe slX_2 ?_
                          simp [kLoop]
                          refine ⟨i, j, _, rfl, S6, ?_, fun w hw => pl w (List.mem_cons_of_mem _ hw)⟩
                          rw [← ea, List.all_cons, ti, Bool.true_and]
                          show _ = (_ && (HT.lexLt [l1, l2] [i, j] && _))
                          rw [hl, Bool.true_and]
                          rfl
              · have e3 : ¬ ((es.length : Int) = 3) := by (first | lia | omega)
                simp [e3, kLoop, stop (tieB_len h3), s]
          · rintro ρ h' ⟨l1, l2, y, rfl, s, ea, pl⟩
            have e : netB (.tup [.int (n : Nat), .tup ts]) = true := by rw [en, ← ea]; rfl
            simp [e, s]
    · have e2 : ¬ ((ds.length : Int) = 2) := by (first | lia | omega)
      simp [e2, netB_len h2, Sm.refl]
end LK

namespace LK
open PySem PySem.Spec PyProof.Rows L2 LS
noncomputable abbrev Tie := Nat × Nat × Bool
noncomputable def tieD (t : Tie) : D := .tup [.int ((t.1 : Nat) : Int), .int ((t.2.1 : Nat) : Int), lit t.2.2]
noncomputable def netD (n : Nat) (L : List Tie) : D := .tup [.int (n : Nat), .tup (L.map tieD)]
noncomputable def ltT (s t : Tie) : Prop := s.1 < t.1 ∨ (s.1 = t.1 ∧ s.2.1 < t.2.1)
structure NetOk (n : Nat) (L : List Tie) : Prop where
  n1 : 1 ≤ n
  n8 : n ≤ 8
  ok : ∀ t ∈ L, t.1 < t.2.1 ∧ t.2.1 < n
  so : L.Pairwise ltT
  le : L.length ≤ 100
theorem lt_key {s t : Tie} (h : ltT s t) : HT.lexLt (keyT (tieD s)) (keyT (tieD t)) = true := by
  show HT.lexLt [((s.1 : Nat) : Int), ((s.2.1 : Nat) : Int)] [((t.1 : Nat) : Int), ((t.2.1 : Nat) : Int)] = true
  rw [HT.lexLt_cons]
  rcases h with h | ⟨h1, h2⟩
  · rw [if_neg (by (first | lia | omega))]
    exact decide_eq_true (by (first | lia | omega))
  · rw [if_pos (by (first | lia | omega)), HT.lexLt_cons, if_neg (by (first | lia | omega))]
    exact decide_eq_true (by (first | lia | omega))
theorem zip_sorted : ∀ {L : List Tie}, L.Pairwise ltT → zipLt (L.map tieD) = true
  | [], _ => rfl
  | [_], _ => rfl
  | s :: t :: r, h => by
    rw [List.pairwise_cons] at h
    show (HT.lexLt (keyT (tieD s)) (keyT (tieD t)) && zipLt ((t :: r).map tieD)) = true
    rw [lt_key (h.1 t List.mem_cons_self), zip_sorted h.2]
    rfl
theorem tie_ok {n : Nat} {t : Tie} (h : t.1 < t.2.1 ∧ t.2.1 < n) : tieB n (tieD t) = true := by
  show (lotB n (.tup [.int ((t.1 : Nat) : Int), .int ((t.2.1 : Nat) : Int)]) && lightB (lit t.2.2)) = true
  rw [lot_two, lightB_lit, decide_eq_true (by (first | lia | omega)), decide_eq_true (by (first | lia | omega))]
  rfl
theorem net_ok {n : Nat} {L : List Tie} (k : NetOk n L) : netB (netD n L) = true := by
  show (betB 1 8 (.int (n : Nat)) && ((L.map tieD).all (tieB (((n : Nat) : Int)).toNat) && zipLt (L.map tieD))) = true
  rw [zip_sorted k.so, Int.toNat_natCast]
  have e1 : betB 1 8 (.int (n : Nat)) = true := by
    have := k.n1; have := k.n8
    show (decide ((1 : Int) ≤ (n : Int)) && decide ((n : Int) ≤ 8)) = true
    rw [decide_eq_true (by (first | lia | omega)), decide_eq_true (by (first | lia | omega))]
    rfl
  have e2 : (L.map tieD).all (tieB n) = true := by
    rw [List.all_eq_true]
    intro d hd
    obtain ⟨t, ht, rfl⟩ := List.mem_map.mp hd
    exact tie_ok (k.ok t ht)
  rw [e1, e2]
  rfl
theorem plain_tie {t : Tie} {h : HD} : Plain2 h (tieD t) := ⟨trivial, all_cons trivial (all_cons trivial (all_cons trivial all_nil))⟩
theorem plain_ties {L : List Tie} {h : HD} : Plain3 h (.tup (L.map tieD)) := ⟨trivial, fun x hx => by
  obtain ⟨t, _, rfl⟩ := List.mem_map.mp hx
  exact plain_tie⟩
theorem plain_net {n : Nat} {L : List Tie} {h : HD} : Plain4 h (netD n L) := ⟨trivial, all_cons (plain_flat3 trivial rfl) (all_cons plain_ties all_nil)⟩
theorem small_net {n : Nat} {L : List Tie} (k : NetOk n L) : ∀ x ∈ itemsT (netD n L), (itemsT x).length ≤ 1000 := all_cons (Nat.zero_le _) (all_cons (by show (L.map tieD).length ≤ 1000; rw [List.length_map]; have := k.le; (first | lia | omega)) all_nil)
theorem p_is_net {n : Nat} {L : List Tie} {h : HD} (k : NetOk n L) : Pu (F_is_net [netD n L] h) h (.bl true) := net_ok k ▸ p_is_netG plain_net (small_net k)
theorem p_need_net {n : Nat} {L : List Tie} {h : HD} (k : NetOk n L) : Pu (F_need_net [netD n L] h) h .non := by
  change Wp (mBody 1 (g_need_net F_is_net) [netD n L] h) _
  refine Eq.mpr wp_body ?_
  simp
  refine (p_is_net k).wp fun h1 s1 => ?_
  simp [s1]
theorem er_need_net {d : D} {h : HD} (p : Plain4 h d) (hz : ∀ x ∈ itemsT d, (itemsT x).length ≤ 1000) (hb : netB d = false) : Er (F_need_net [d] h) h "NoNet" := by
  change We (mBody 1 (g_need_net F_is_net) [d] h) _ _
  refine Eq.mpr we_body ?_
  simp
  refine (p_is_netG p hz).we fun h1 s1 => ?_
  simp [hb, s1, clsV]
noncomputable def swT (p : Nat → Bool) (t : Tie) : Tie := (t.1, t.2.1, Bool.xor t.2.2 (Bool.xor (p t.1) (p t.2.1)))
theorem p_is_lot {n : Nat} {p : Nat → Bool} {h : HD} : Pu (F_is_lot [lotD n p, .int (n : Nat)] h) h (.bl true) := lotB_lot (n := n) (p := p) ▸ p_is_lotG plain_lotD
theorem p_net_switched {n : Nat} {L : List Tie} {p : Nat → Bool} {h : HD} (k : NetOk n L) : Pu (F_net_switched [netD n L, lotD n p] h) h (netD n (L.map (swT p))) := by
  change Wp (mBody 4 (g_net_switched F_need_net F_is_lot) [netD n L, lotD n p] h) _
  refine Eq.mpr wp_body ?_
  simp
  refine (p_need_net k).wp fun h1 s1 => ?_
  simp [netD]
  refine p_is_lot.wp fun h2 s2 => ?_
  simp
  refine Pu.wp (comp_tup' (src := []) (xs := L) (φ := tieD) (fun t => tieD (swT p t)) (fun t => [some (.int ((t.1 : Nat) : Int)), some (.int ((t.2.1 : Nat) : Int)), some (lit t.2.2), some (lotD n p)]) ⟨rfl, .refl _, fun h2 s2 => src0⟩ (by have := k.le; unfold sizeLine; (first | lia | omega)) (fun x _ => rfl) (fun t ht h' s' => ?_)) fun h3 s3 => ?_
  · have hk := k.ok t ht
    simp [Pu, in_lot (show t.1 < n by (first | lia | omega)), in_lot hk.2]
    have key : ∀ a b c : Bool, Bool.xor a (Bool.xor b c) = if b = c then a else !a := by decide
    by_cases hq : p t.1 = p t.2.1
    · simp [hq, Sm.refl, tieD, swT]
    · have k2 : ∀ a : Bool, (1 : Int) - (if a = true then 1 else 0) = if (!a) = true then 1 else 0 := by decide
      have k3 : Bool.xor t.2.2 (Bool.xor (p t.1) (p t.2.1)) = !t.2.2 := by rw [key, if_neg hq]
      simp [hq, Sm.refl, tieD, swT, lit, k2, k3]
  · exact ⟨rfl, (s1.trans s2).trans s3⟩
theorem er_net_switched_of {d x : D} {h : HD} {c : Str} (e : Er (F_need_net [d] h) h c) : Er (F_net_switched [d, x] h) h c := by
  change We (mBody 4 (g_net_switched F_need_net F_is_lot) [d, x] h) _ _
  refine Eq.mpr we_body ?_
  simp
  exact e.we fun h1 s1 => ⟨rfl, s1⟩
theorem er_place {n : Nat} {L : List Tie} {d : D} {h : HD} (k : NetOk n L) (nd : NoL h n d) : Er (F_net_switched [netD n L, d] h) h "NoPlace" := by
  change We (mBody 4 (g_net_switched F_need_net F_is_lot) [netD n L, d] h) _ _
  refine Eq.mpr we_body ?_
  simp
  refine (p_need_net k).we fun h1 s1 => ?_
  have e : mUnp (sPair 2 3) (mVar 0) [some (netD n L), some d, none, none] h1 = .ok (.nx, [some (netD n L), some d, some (.int (n : Nat)), some (.tup (L.map tieD))]) h1 := rfl
  try simp
  rw [e]
  simp
  refine (p_is_lotG (nd.1.sm s1)).we fun h2 s2 => ?_
  simp [nd.2, s1.trans s2, clsV]
inductive NsI (n : Nat) (L : List Tie) (p : Nat → Bool) (h : HD) (l : Nat) (xs : List Tie) (ρ : Rho) (h' : HD) : Prop where
  | mk (done : List Tie) (d3 d4 d5 : Option D) (f0 : ρ = [some (netD n L), some (lotD n p), some (.loc l), d3, d4, d5]) (f1 : L = done ++ xs) (f2 : Sm h h') (f3 : h'[l]? = some (.lst (done.map fun t => tieD (swT p t)))) : NsI n L p h l xs ρ h'
theorem Sm.put {h h' : HD} {l : Nat} {c : Cell} (s : Sm h h') (hl : h.length ≤ l) : Sm h (h'.set l c) := fun k d ek => by
  have := (List.getElem?_eq_some_iff.mp ek).1
  rw [List.getElem?_set_ne (by (first | lia | omega))]
  exact s k d ek
theorem p_law_net_switched {n : Nat} {L : List Tie} {p : Nat → Bool} {h : HD} (k : NetOk n L) : Pu (F__law_net_switched [netD n L, lotD n p] h) h (netD n (L.map (swT p))) := by
  change Wp (mBody 6 g__law_net_switched [netD n L, lotD n p] h) _
  refine Eq.mpr wp_body ?_
  simp [-kSeq_nx]
  refine wp_newL (by simp) fun l h1 s1 e1 el _ => ?_
  refine Eq.mpr kSeq_nx ?_
  refine Eq.mpr wp_seq ?_
  have ix1 : ∀ h, ixD (netD n L) (.int 1) h = .ok (.tup (L.map tieD)) h := fun h => rfl
  have ix0 : ∀ h, ixD (netD n L) (.int 0) h = .ok (.int (n : Nat)) h := fun h => rfl
  refine for_wp (src := []) (xs := L) tieD (NsI n L p h l) ?_ (fun ys ρ h' _ => src0) ?_ ?_
  · simp [ix1]
    exact ⟨[], _, _, _, rfl, rfl, s1, e1⟩
  · rintro t xs ρ h' ⟨done, d3, d4, d5, rfl, eL, s, e⟩
    refine ⟨_, rfl, ?_⟩
    have hk := k.ok t (by rw [eL]; simp)
    have ld : done.length ≤ 100 := by have := k.le; rw [eL, List.length_append] at this; (first | lia | omega)
    simp [loc_isLst e, in_lot (show t.1 < n by (first | lia | omega)), in_lot hk.2]
    have ev : ∀ (Q : D → HD → Prop), Q (lit (Bool.xor t.2.2 (Bool.xor (p t.1) (p t.2.1)))) h' → Wp (addD (lit t.2.2) (D.int (if p t.1 = true then 1 else 0)) h') fun a h1 => Wp (addD a (D.int (if p t.2.1 = true then 1 else 0)) h1) fun a h1 => Wp (modD a (D.int 2) h1) Q := by
      intro Q hQ
      have key : ∀ a b c : Bool, ((if a then 1 else 0 : Int) + (if b = true then 1 else 0) + (if c = true then 1 else 0)) % 2 = if Bool.xor a (Bool.xor b c) then 1 else 0 := by decide
      have e := mod_p (i := (if t.2.2 then 1 else 0 : Int) + (if p t.1 = true then 1 else 0) + (if p t.2.1 = true then 1 else 0)) (j := 2) (h := h') (by decide)
      rw [key] at e
      exact (show Wp (modD (.int ((if t.2.2 then 1 else 0 : Int) + (if p t.1 = true then 1 else 0) + (if p t.2.1 = true then 1 else 0))) (.int 2) h') Q from e ▸ hQ)
    refine ev _ ?_
    try simp
    refine wpe (loc_app e (by rw [List.length_map]; unfold sizeLine; (first | lia | omega))) ?_
    have lm := (List.getElem?_eq_some_iff.mp e).1
    simp [kLoop]
    refine ⟨done ++ [t], _, _, _, rfl, by rw [eL]; simp, Sm.put s (by (first | lia | omega)), ?_⟩
    rw [List.getElem?_set_self lm, List.map_append]
    rfl
  · rintro ρ h' ⟨done, d3, d4, d5, rfl, eL, s, e⟩
    rw [List.append_nil] at eL
    subst eL
    simp [ix0, loc_tup e]
    refine ⟨?_, s⟩
    unfold netD
    rw [List.map_map]
    rfl
end LK

namespace LK
open PySem PySem.Spec PyProof.Rows L2 LS
theorem compN_lst {cs : List (Option Nat)} {it : MI} {sg : MG} {f : ME} {ρ : Rho} {h : HD} {src : Src} {xs : List Nat} {Q : D → HD → Prop} (φ : Nat → D) (I : HD → Prop) (R : Nat → D → Prop) (ρ1 : Nat → Rho) (hi : Wp (it ρ h) fun x h' => x = (xs.map φ, src) ∧ I h') (hs : ∀ h, I h → srcOk src (xs.map φ) h)
    (hnew : ∀ h c, I h → I (h ++ [c])) (hd : xs.Nodup) (hn : xs.length ≤ sizeLine) (hg : ∀ x ∈ xs, sg (φ x) (cRho cs ρ) = some (ρ1 x)) (ht : ∀ x ∈ xs, ∀ h, I h → Wp (f (ρ1 x) h) fun y h2 => I h2 ∧ R x y)
    (q : ∀ l h2 h' (e : Nat → D), I h2 → I h' → (∀ x ∈ xs, R x (e x)) → h'[l]? = some (.lst (xs.map e)) → l = h2.length → Q (.loc l) h') : Wp (mComp cs it sg mTrue f ρ h) Q := by
  unfold mComp
  rw [wp_bind]
  refine Wp.mono hi fun x h1 z5_ => ?_
  obtain ⟨ex, i1⟩ := z5_
  subst ex
  rw [if_pos (by simpa using hn), wp_bind]
  refine Wp.mono (compN_wp φ I (fun _ b => b = true) R ρ1 hs xs h1 hd i1 hg fun x hx h i => ⟨rfl, ht x hx h i⟩) fun ys h2 z6_ => ?_
  obtain ⟨i2, g, e, ey, hr, tr⟩ := z6_
  subst ey
  rw [List.filter_eq_self.mpr tr]
  refine wp_newL (by simpa using hn) fun l h3 s3 e3 el eh => ?_
  exact q l h2 h3 e i2 (by rw [eh]; exact hnew _ _ i2) (fun x hx => hr x hx (tr x hx)) e3 el
theorem rng2_ok {a n : Nat} {h : HD} (ha : a ≤ 1000) (hn : n ≤ 1000) : rng2D [.int (a : Int), .int (n : Int)] h = .ok ((List.range (n - a)).map fun k => D.int ((a : Int) + ((k : Nat) : Int)), []) h := by
  have : ((-(2 ^ 62) : Int) ≤ (a : Int) ∧ (a : Int) < 2 ^ 62) ∧ (-(2 ^ 62) : Int) ≤ (n : Int) ∧ (n : Int) < 2 ^ 62 := by (first | lia | omega)
  unfold rng2D
  simp only
  rw [if_pos this]
  have e : ((n : Int) - (a : Int)).toNat = n - a := by (first | lia | omega)
  rw [e]
  simp [rngL]
theorem drop_cons {n k x : Nat} {xs : List Nat} (h : (List.range n).drop k = x :: xs) : x = k ∧ k < n ∧ xs = (List.range n).drop (k + 1) := by
  have hk : k < n := by
    have := congrArg List.length h
    simp at this
    (first | lia | omega)
  rw [List.drop_eq_getElem_cons (by simpa using hk)] at h
  simp at h
  exact ⟨h.1.symm, hk, h.2.symm⟩
theorem drop_nil {n k : Nat} (hk : k ≤ n) (h : (List.range n).drop k = []) : k = n := by
  have := congrArg List.length h
  simp at this
  (first | lia | omega)
/-- the ties so far -/
structure TiesTo (n k j : Nat) (L : List Tie) : Prop where
  ok : ∀ t ∈ L, t.1 < t.2.1 ∧ t.2.1 < n ∧ (t.1 < k ∨ (t.1 = k ∧ t.2.1 < j))
  so : L.Pairwise ltT
  le : L.length ≤ 8 * k + j
theorem TiesTo.skip {n k j : Nat} {L : List Tie} (x : TiesTo n k j L) : TiesTo n k (j + 1) L := ⟨fun t ht => by have := x.ok t ht; (first | lia | omega), x.so, by have := x.le; (first | lia | omega)⟩
theorem TiesTo.add {n k j : Nat} {c : Bool} {L : List Tie} (x : TiesTo n k j L) (h1 : k < j) (h2 : j < n) : TiesTo n k (j + 1) (L ++ [(k, j, c)]) := by
  refine ⟨fun t ht => ?_, ?_, ?_⟩
  · rcases List.mem_append.mp ht with ht | ht
    · have := x.ok t ht; (first | lia | omega)
    · rw [List.mem_singleton.mp ht]
      exact ⟨h1, h2, .inr ⟨rfl, Nat.lt_succ_self _⟩⟩
  · rw [List.pairwise_append]
    refine ⟨x.so, List.pairwise_singleton _ _, fun s hs t ht => ?_⟩
    rw [List.mem_singleton.mp ht]
    have := x.ok s hs
    unfold ltT
    show s.1 < k ∨ (s.1 = k ∧ s.2.1 < j)
    (first | lia | omega)
  · rw [List.length_append]
    have := x.le
    simp
    (first | lia | omega)
theorem TiesTo.next {n k j : Nat} {L : List Tie} (x : TiesTo n k j L) (hj : j ≤ 8) : TiesTo n (k + 1) 0 L := ⟨fun t ht => by have := x.ok t ht; (first | lia | omega), x.so, by have := x.le; (first | lia | omega)⟩
theorem TiesTo.up {n k j : Nat} {L : List Tie} (x : TiesTo n k 0 L) : TiesTo n k j L := ⟨fun t ht => by have := x.ok t ht; (first | lia | omega), x.so, by have := x.le; (first | lia | omega)⟩
inductive NtS (b l2 l4 l5 : Nat) (zs : List Int) (h : HD) (L : List Tie) (h' : HD) : Prop where
  | mk (f3 : BoxAt h' b) (f4 : BoxAt h' l2) (f5 : h'[l4]? = some (.lst (zs.map D.int))) (f6 : h'[l5]? = some (.lst (L.map tieD))) (f7 : Smx b h h') : NtS b l2 l4 l5 zs h L h'
inductive NtO (b n l2 l4 l5 : Nat) (way : Int) (zs : List Int) (h : HD) (xs : List Nat) (ρ : Rho) (h' : HD) : Prop where
  | mk (k : Nat) (L : List Tie) (d6 d7 d8 : Option D) (f0 : xs = (List.range n).drop k) (f1 : k ≤ n) (f2 : ρ = [some (.loc b), some (.int (n : Nat)), some (.int way), some (.loc l2), some (.loc l4), some (.loc l5), d6, d7, d8]) (f3 : NtS b l2 l4 l5 zs h L h') (f4 : TiesTo n k 0 L) : NtO b n l2 l4 l5 way zs h xs ρ h'
inductive NtI (b n l2 l4 l5 : Nat) (way : Int) (zs : List Int) (h : HD) (k : Nat) (xs : List Nat) (ρ : Rho) (h' : HD) : Prop where
  | mk (m : Nat) (L : List Tie) (d7 d8 : Option D) (f0 : xs = (List.range (n - (k + 1))).drop m) (f1 : m ≤ n - (k + 1)) (f2 : ρ = [some (.loc b), some (.int (n : Nat)), some (.int way), some (.loc l2), some (.loc l4), some (.loc l5), some (.int (k : Nat)), d7, d8]) (f3 : NtS b l2 l4 l5 zs h L h') (f4 : TiesTo n k (k + 1 + m) L) : NtI b n l2 l4 l5 way zs h k xs ρ h'
/-- apart -/
structure Ap (b l2 l4 l5 : Nat) (h : HD) : Prop where
  a1 : l2 ≠ b
  a2 : l4 ≠ b
  a3 : l5 ≠ b
  a4 : l4 ≠ l2
  a5 : l5 ≠ l2
  a6 : l5 ≠ l4
  k2 : h.length ≤ l2
  k5 : h.length ≤ l5
theorem NtS.take {b l2 l4 l5 : Nat} {zs : List Int} {h h1 h2 : HD} {L : List Tie} (ap : Ap b l2 l4 l5 h) (x : NtS b l2 l4 l5 zs h L h1) (y : BoxAt h2 l2) (s : Smx l2 h1 h2) : NtS b l2 l4 l5 zs h L h2 := by
  obtain ⟨a1, a2, a3, a4, a5⟩ := x
  exact ⟨a1.smx s (Ne.symm ap.a1), y, s _ _ ap.a4 a3, s _ _ ap.a5 a4, a5.over s ap.k2⟩
theorem NtS.put {b l2 l4 l5 : Nat} {zs : List Int} {h h1 : HD} {L : List Tie} {t : Tie} (ap : Ap b l2 l4 l5 h) (x : NtS b l2 l4 l5 zs h L h1) : NtS b l2 l4 l5 zs h (L ++ [t]) (h1.set l5 (.lst (L.map tieD ++ [tieD t]))) := by
  obtain ⟨⟨n1, a1⟩, ⟨n2, a2⟩, a3, a4, a5⟩ := x
  have lt := (List.getElem?_eq_some_iff.mp a4).1
  refine ⟨⟨n1, ?_⟩, ⟨n2, ?_⟩, ?_, ?_, a5.put ap.k5⟩
  · rw [List.getElem?_set_ne ap.a3]; exact a1
  · rw [List.getElem?_set_ne ap.a5]; exact a2
  · rw [List.getElem?_set_ne ap.a6]; exact a3
  · rw [List.getElem?_set_self lt, List.map_append]; rfl
theorem lit_mod {z : Int} : ∃ c : Bool, D.int (z % 2) = lit c := by
  rcases Int.emod_two_eq z with e | e
  · exact ⟨false, by rw [e]; rfl⟩
  · exact ⟨true, by rw [e]; rfl⟩
theorem lit_of {z : Int} (h1 : 0 ≤ z) (h2 : z < 2) : ∃ c : Bool, D.int z = lit c := by
  rcases (show z = 0 ∨ z = 1 by (first | lia | omega)) with e | e
  · exact ⟨false, by rw [e]; rfl⟩
  · exact ⟨true, by rw [e]; rfl⟩
theorem net_step {b n l2 l4 l5 k j : Nat} {way : Int} {zs : List Int} {h h' : HD} {L : List Tie} {d8 : Option D} {Q : Fl × Rho → HD → Prop} (ap : Ap b l2 l4 l5 h) (x : NtS b l2 l4 l5 zs h L h') (t : TiesTo n k j L) (hz : zs.length = n) (hn : n ≤ 8) (hk : k < j) (hj : j < n)
    (q : ∀ L' c h2, NtS b l2 l4 l5 zs h L' h2 → TiesTo n k (j + 1) L' → Q (.nx, [some (.loc b), some (.int (n : Nat)), some (.int way), some (.loc l2), some (.loc l4), some (.loc l5), some (.int (k : Nat)), some (.int ((j : Nat) : Int)), some (lit c)]) h2) :
    Wp ((mSeq (mSet 8 (mCall F__law_take (mCons (mVar 3) (mCons (mC (.int 2)) (mNil))))) (mSeq (mIfS (mTb (mOp eqX (mVar 2) (mC (.int 0)))) (mSet 8 (mOp modD (mOp addD (mOp ixD (mVar 4) (mVar 6)) (mOp ixD (mVar 4) (mVar 7))) (mC (.int 2)))) (mSkip)) (mIfS (mAnd (mTb (mOp gtD (mCall F__law_take (mCons (mVar 3) (mCons (mC (.int 3)) (mNil)))) (mC (.int 0)))) (mOr (mTb (mOp neX (mVar 2) (mC (.int 1)))) (mTb (mChain ltD leD (mVar 6) (mC (.int 3)) (mVar 7))))) (mExpr (mApp (mVar 5) (mTup (mCons (mVar 6) (mCons (mVar 7) (mCons (mVar 8) (mNil))))))) (mSkip)))) [some (.loc b), some (.int (n : Nat)), some (.int way), some (.loc l2), some (.loc l4), some (.loc l5), some (.int (k : Nat)), some (.int ((j : Nat) : Int)), d8] h') Q := by
  simp [-kSeq_nx]
  have y2 : BoxAt h' l2 := by cases x; assumption
  refine wp_take y2 (by decide) (by decide) fun z h1 z0 z1 x1 s1 => ?_
  have X1 := x.take ap x1 s1
  refine Eq.mpr kSeq_nx ?_
  refine Eq.mpr wp_seq ?_
  have two : ∀ (Q : Fl × Rho → HD → Prop), (∀ c : Bool, Q (.nx, [some (.loc b), some (.int (n : Nat)), some (.int way), some (.loc l2), some (.loc l4), some (.loc l5), some (.int (k : Nat)), some (.int ((j : Nat) : Int)), some (lit c)]) h1) →
      Wp ((mIfS (mTb (mOp eqX (mVar 2) (mC (.int 0)))) (mSet 8 (mOp modD (mOp addD (mOp ixD (mVar 4) (mVar 6)) (mOp ixD (mVar 4) (mVar 7))) (mC (.int 2)))) (mSkip)) [some (.loc b), some (.int (n : Nat)), some (.int way), some (.loc l2), some (.loc l4), some (.loc l5), some (.int (k : Nat)), some (.int ((j : Nat) : Int)), some (.int z)] h1) Q := by
    intro Q hQ
    by_cases hw : way = 0
    · subst hw
      have e4 : h1[l4]? = some (.lst (zs.map D.int)) := by cases X1; assumption
      have i1 : ixD (.loc l4) (.int (k : Nat)) h1 = .ok (.int (zs[k]'(by (first | lia | omega)))) h1 := ix_loc e4 (by rw [List.getElem?_map, List.getElem?_eq_getElem (by (first | lia | omega))]; rfl)
      have i2 : ixD (.loc l4) (.int ((j : Nat) : Int)) h1 = .ok (.int (zs[j]'(by (first | lia | omega)))) h1 := ix_loc e4 (by rw [List.getElem?_map, List.getElem?_eq_getElem (by (first | lia | omega))]; rfl)
      simp [i1, i2]
      refine wpe (mod_p (by decide)) ?_
      obtain ⟨c, ec⟩ := lit_mod (z := zs[k]'(by (first | lia | omega)) + zs[j]'(by (first | lia | omega)))
      simp [ec]
      exact hQ c
    · obtain ⟨c, ec⟩ := lit_of z0 z1
      simp [hw, ec]
      exact hQ c
  refine two _ fun c => ?_
  refine Eq.mpr kSeq_nx ?_
  simp
  refine wp_take (by cases X1; assumption) (by decide) (by decide) fun w h2 w0 w1 x2 s2 => ?_
  have X2 := X1.take ap x2 s2
  have e5 : h2[l5]? = some (.lst (L.map tieD)) := by cases X2; assumption
  have ll : (L.map tieD).length < sizeLine := by
    have := t.le
    rw [List.length_map]
    unfold sizeLine
    (first | lia | omega)
  have app := q (L ++ [(k, j, c)]) c _ (X2.put ap) (t.add hk hj)
  have skp := q L c h2 X2 t.skip
  have et : D.tup [.int (k : Nat), .int ((j : Nat) : Int), lit c] = tieD (k, j, c) := rfl
  by_cases hw : 0 < w
  · by_cases hy : way = 1
    · by_cases h3 : (k : Int) < 3
      · by_cases h4 : (3 : Int) ≤ (j : Int)
        · simp [hw, hy, h3, h4, wp_bind, loc_isLst e5]
          rw [et]
          refine wpe (loc_app e5 ll) ?_
          simp
          rw [hy] at app
          exact app
        · simp [hw, hy, h3, h4, wp_bind]
          rw [hy] at skp
          exact skp
      · simp [hw, hy, h3, wp_bind]
        rw [hy] at skp
        exact skp
    · simp [hw, hy, wp_bind, loc_isLst e5]
      rw [et]
      refine wpe (loc_app e5 ll) ?_
      simp
      exact app
  · simp [hw]
    exact skp
end LK

namespace LK
open PySem PySem.Spec PyProof.Rows L2 LS
inductive CpI (b l2 : Nat) (h h' : HD) : Prop where
  | mk (f1 : BoxAt h' b) (f2 : BoxAt h' l2) (f3 : Smx b h h') : CpI b l2 h h'
theorem wp_law_net {b : Nat} {h : HD} {Q : D → HD → Prop} (hx : BoxAt h b) (hb : 0 < b) (ht : TabAt h) (q : ∀ n L h', NetOk n L → BoxAt h' b → TabAt h' → Smx b h h' → Q (netD n L) h') : Wp (F__law_net [.loc b] h) Q := by
  change Wp (mBody 9 (g__law_net F__law_take F__law_wide_box) [.loc b] h) _
  refine Eq.mpr wp_body ?_
  simp [-kSeq_nx]
  refine take_nat hx hb ht (by decide) (by decide) fun d1 h1 l1 x1 t1 s1 => ?_
  try simp [-kSeq_nx]
  refine wp_take x1 (by decide) (by decide) fun way h2 w0 w1 x2 s2 => ?_
  try simp [-kSeq_nx]
  obtain ⟨n, en, hn⟩ : ∃ n : Nat, (1 : Int) + (d1 : Int) = (n : Int) ∧ 1 ≤ n ∧ n ≤ 8 := ⟨1 + d1, by (first | lia | omega), by (first | lia | omega), by (first | lia | omega)⟩
  rw [en]
  refine Eq.mpr kSeq_nx ?_
  simp [-kSeq_nx]
  refine wp_wide_box x2 fun l2 h3 x3 y3 n2 k2 z3 => ?_
  have z03 := (s1.trans s2).trans z3
  have kl2 : h.length ≤ l2 := by have := (s1.trans s2).len x2.lt; (first | lia | omega)
  refine Eq.mpr kSeq_nx ?_
  refine Eq.mpr wp_seq ?_
  refine Eq.mpr wp_set ?_
  refine compN_lst (src := []) (xs := List.range n) (fun i => .int ((i : Nat) : Int)) (CpI b l2 h) (fun _ d => ∃ z : Int, d = .int z) (fun i => [some (.int ((i : Nat) : Int)), some (.loc l2)]) ?_ (fun _ _ => src0) (fun h c x => by obtain ⟨a1, a2, a3⟩ := x; exact ⟨a1.new, a2.new, a3.new⟩) List.nodup_range (sz hn.2) (fun x _ => rfl) ?_ fun l4 h4 h5 e i4 i5 hr e4 el4 => ?_
  · simp
    refine wpe (rng1_ok (by (first | lia | omega))) ?_
    exact ⟨rfl, x3, y3, z03⟩
  · intro x hx h' i
    obtain ⟨a1, a2, a3⟩ := i
    simp
    refine wp_take a2 (by decide) (by decide) fun d h6 d0 d1 x6 s6 => ?_
    exact ⟨⟨a1.smx s6 (Ne.symm n2), x6, a3.over s6 kl2⟩, d, rfl⟩
  obtain ⟨zs, lz, ez⟩ : ∃ zs : List Int, zs.length = n ∧ (List.range n).map e = zs.map D.int := by
    have hr' : ∃ r : Nat → Int, ∀ x ∈ List.range n, e x = .int (r x) := ⟨fun x => if h : x ∈ List.range n then (hr x h).choose else 0, fun x hx => by simp only [dif_pos hx]; exact (hr x hx).choose_spec⟩
    obtain ⟨r, er⟩ := hr'
    exact ⟨(List.range n).map r, by simp, by rw [List.map_map]; exact List.map_congr_left er⟩
  rw [ez] at e4
  obtain ⟨a41, a42, a43⟩ := i4
  obtain ⟨a51, a52, a53⟩ := i5
  have n42 : l4 ≠ l2 := by have := a42.lt; (first | lia | omega)
  have n4b : l4 ≠ b := by have := a41.lt; (first | lia | omega)
  refine Eq.mpr kSeq_nx ?_
  simp [-kSeq_nx]
  refine wp_newL (by simp) fun l5 h6 s6 e6 el5 _ => ?_
  have n5b : l5 ≠ b := by have := a51.lt; (first | lia | omega)
  have n52 : l5 ≠ l2 := by have := a52.lt; (first | lia | omega)
  have n54 : l5 ≠ l4 := by have := (List.getElem?_eq_some_iff.mp e4).1; (first | lia | omega)
  have ap : Ap b l2 l4 l5 h := ⟨n2, n4b, n5b, n42, n52, n54, kl2, by have := a53.len a51.lt; (first | lia | omega)⟩
  refine Eq.mpr kSeq_nx ?_
  refine Eq.mpr wp_seq ?_
  refine for_wp (src := []) (xs := List.range n) (fun i => .int ((i : Nat) : Int)) (NtO b n l2 l4 l5 way zs h) ?_ (fun ys ρ h' _ => src0) ?_ ?_
  · simp
    refine wpe (rng1_ok (by (first | lia | omega))) ?_
    exact ⟨rfl, 0, [], _, _, _, by simp, by (first | lia | omega), rfl, ⟨a51.sm s6, a52.sm s6, s6 _ _ e4, e6, a53.trans (smx_of s6)⟩, ⟨(fun t ht => nomatch ht), List.Pairwise.nil, Nat.zero_le _⟩⟩
  · rintro x xs ρ h' ⟨k, L, d6, d7, d8, ex, hk, rfl, st, ti⟩
    obtain ⟨rfl, hk', rfl⟩ := drop_cons ex.symm
    refine ⟨_, rfl, ?_⟩
    refine for_wp (src := []) (xs := List.range (n - (x + 1))) (fun i => .int (((x + 1 : Nat) : Int) + ((i : Nat) : Int))) (NtI b n l2 l4 l5 way zs h x) ?_ (fun ys ρ h' _ => src0) ?_ ?_
    · simp
      refine wpe (rng2_ok (a := x + 1) (by (first | lia | omega)) (by (first | lia | omega))) ?_
      exact ⟨by simp, 0, L, _, _, by simp, by (first | lia | omega), rfl, st, ti.up⟩
    · rintro y ys ρ h2 ⟨m, L', d7, d8, ey, hm, rfl, st2, ti2⟩
      obtain ⟨rfl, hm', rfl⟩ := drop_cons ey.symm
      refine ⟨_, rfl, ?_⟩
      have ej : ((x + 1 : Nat) : Int) + ((y : Nat) : Int) = ((x + 1 + y : Nat) : Int) := by (first | lia | omega)
      simp only [List.set_cons_succ, List.set_cons_zero]
      rw [ej]
      refine net_step ap st2 ti2 lz hn.2 (by (first | lia | omega)) (by (first | lia | omega)) fun L2 c h3 st3 ti3 => ?_
      simp only [kLoop]
      exact ⟨y + 1, L2, _, _, rfl, by (first | lia | omega), rfl, st3, by rw [← Nat.add_assoc]; exact ti3⟩
    · rintro ρ h2 ⟨m, L', d7, d8, ey, hm, rfl, st2, ti2⟩
      simp only [kLoop]
      exact ⟨x + 1, L', _, _, _, rfl, by (first | lia | omega), rfl, st2, ti2.next (by (first | lia | omega))⟩
  · rintro ρ h' ⟨k, L, d6, d7, d8, ex, hk, rfl, st, ti⟩
    have := drop_nil hk ex.symm
    subst this
    obtain ⟨b1, b2, b3, b4, b5⟩ := st
    simp [loc_tup b4]
    refine q k L h' ⟨hn.1, hn.2, fun t ht => by have := ti.ok t ht; (first | lia | omega), ti.so, by have := ti.le; (first | lia | omega)⟩ b1 (ht.smx b5 hb) b5
end LK

namespace LK
open PySem PySem.Spec PyProof.Rows L2 LS
/-- what may stand for a tie -/
noncomputable def XOk (b : Nat) (h : HD) (x : D) : Prop := Plain2 h x ∧ ∃ c, RpX b h c 2 300 x
/-- what may stand for a net -/
noncomputable def ThN (b : Nat) (h : HD) (d : D) : Prop := Plain4 h d ∧ (∀ x ∈ itemsT d, (itemsT x).length ≤ 1000) ∧ ∃ c, RpX b h c 5 1000000 d
theorem XOk.sm {b : Nat} {h h' : HD} {x : D} (z : XOk b h x) (s : Sm h h') : XOk b h' x := ⟨z.1.sm s, let ⟨c, y⟩ := z.2; ⟨c, y.smx (smx_of s)⟩⟩
theorem ThN.smx {b : Nat} {h h' : HD} {x : D} (z : ThN b h x) (s : Smx b h h') (y : BoxAt h' b) : ThN b h' x := ⟨z.1.smx s y, z.2.1, let ⟨c, y⟩ := z.2.2; ⟨c, y.smx s⟩⟩
theorem ThN.ok {b : Nat} {h : HD} {x : D} (z : ThN b h x) : ∃ t : Str, ∀ h', Smx b h h' → reprX x h' = .ok (.str t) h' := let ⟨c, y⟩ := z.2.2; rpx_ok y (by decide) (by unfold sizeLine; decide)
theorem rpx_tie {b : Nat} {h : HD} {c : Bool} {t : Tie} (h1 : t.1 < 100) (h2 : t.2.1 < 100) : RpX b h c 1 18 (tieD t) :=
  rpx_tup 3 (all_cons (rpx_100 (by (first | lia | omega)) (by (first | lia | omega))) (all_cons (rpx_100 (by (first | lia | omega)) (by (first | lia | omega))) (all_cons rpx_lit all_nil))) (by simp)
section
variable {b n : Nat} {h : HD} {L : List Tie}
theorem rpx_ties (k : NetOk n L) (c : Bool) : ∀ d ∈ L.map tieD, RpX b h c 2 300 d := fun d hd => by
  obtain ⟨t, ht, rfl⟩ := List.mem_map.mp hd
  have := k.ok t ht
  have := k.n8
  exact rpx_of (rpx_tie (by (first | lia | omega)) (by (first | lia | omega))) (by decide) (by decide)
theorem plain_all : ∀ d ∈ L.map tieD, Plain2 h d := fun d hd => by
  obtain ⟨t, _, rfl⟩ := List.mem_map.mp hd
  exact plain_tie
/-- a number and ties, or what stands for them -/
theorem th_two {a : D} {ts : List D} (pa : Plain3 h a) (la : (itemsT a).length ≤ 1000) (c : Bool) (ra : RpX b h c 4 400000 a) (pt : ∀ x ∈ ts, Plain2 h x) (lt : ts.length ≤ 1000) (rt : ∀ x ∈ ts, RpX b h c 2 300 x) : ThN b h (.tup [a, .tup ts]) :=
  ⟨⟨trivial, all_cons pa (all_cons ⟨trivial, pt⟩ all_nil)⟩, all_cons la (all_cons lt all_nil), c, rpx_of (rpx_tup 2 (all_cons ra (all_cons (rpx_of (rpx_tup 1000 rt lt) (by decide) (by decide)) all_nil)) (by simp)) (by decide) (by decide)⟩
theorem th_num {c : Bool} {m : Nat} (hm : m < 100) : RpX b h c 4 400000 (.int (m : Nat)) := rpx_of (rpx_100 (by (first | lia | omega)) (by (first | lia | omega))) (by decide) (by decide)
theorem th_net {ts : List D} (k : NetOk n L) (c : Bool) (pt : ∀ x ∈ ts, Plain2 h x) (lt : ts.length ≤ 1000) (rt : ∀ x ∈ ts, RpX b h c 2 300 x) : ThN b h (.tup [.int (n : Nat), .tup ts]) :=
  th_two (plain_flat3 trivial rfl) (Nat.zero_le _) c (th_num (by have := k.n8; (first | lia | omega))) pt lt rt
theorem th_flat {d : D} (p : Plain h d) (e : itemsT d = []) (c : Bool) (r : RpX b h c 5 1000000 d) : ThN b h d := ⟨⟨p, (fun x hx => by rw [e] at hx; cases hx)⟩, (fun x hx => by rw [e] at hx; cases hx), c, r⟩
theorem empty_rp {c : Bool} : RpX b h c 1 3 (.tup []) := rpx_tup (n := 0) (L := 0) 0 all_nil (by simp)
end
theorem wp_rev {f : ME} {ρ : Rho} {h : HD} {Q : D → HD → Prop} : Wp (mRev f ρ h) Q = Wp (f ρ h) fun x h1 => Wp (revT x h1) Q := by unfold mRev; rw [wp_bind]
noncomputable abbrev gR3 : MS := mSeq (mSet 9 (mOp addD (mVar 9) (mLst (mCons (mTup (mCons (mVar 2) (mCons (mCall (ar1 listOfD) (mCons (mVar 3) (mNil))) (mNil)))) (mCons (mLst (mCons (mVar 2) (mCons (mVar 3) (mNil)))) (mCons (mTup (mCons (mC (.int 9)) (mCons (mVar 3) (mNil)))) (mCons (mTup (mCons (mC (.int 0)) (mCons (mTup (mNil)) (mNil)))) (mCons (mTup (mCons (mC (.bl true)) (mCons (mTup (mNil)) (mNil)))) (mCons (mTup (mCons (mVar 2) (mNil))) (mCons (mTup (mCons (mVar 2) (mCons (mVar 3) (mCons (mTup (mNil)) (mNil))))) (mNil))))))))))) (mSeq (mSet 9 (mOp addD (mVar 9) (mLst (mCons (mC .non) (mCons (mC (.int 1)) (mCons (mC .edic) (mCons (mVar 3) (mCons (mTup (mCons (mVar 2) (mCons (mRev (mVar 3)) (mNil)))) (mCons (mTup (mCons (mVar 2) (mCons (mOp addD (mOp addD (mSliceX (mVar 3) (mNoPart) (mPart (mVar 4))) (mSliceX (mVar 3) (mNoPart) (mPart (mC (.int 1))))) (mSliceX (mVar 3) (mPart (mVar 4)) (mNoPart))) (mNil)))) (mNil)))))))))) (mRet (mOp ixD (mVar 9) (mCall F__law_take (mCons (mVar 0) (mCons (mCall (ar1 lenD) (mCons (mVar 9) (mNil))) (mNil)))))))
noncomputable abbrev gR2 : MS := mSeq (mSet 9 (mLst (mCons (mVar 8) (mCons (mVar 8) (mCons (mVar 8) (mCons (mSliceX (mVar 7) (mNoPart) (mPart (mC (.int 2)))) (mCons (mOp addD (mVar 7) (mTup (mCons (mC (.int 0)) (mNil)))) (mCons (mCall (ar1 listOfD) (mCons (mVar 7) (mNil))) (mCons (mC .non) (mCons (mTup (mCons (mOp ixD (mVar 7) (mC (.int 1))) (mCons (mOp ixD (mVar 7) (mC (.int 0))) (mCons (mOp ixD (mVar 7) (mC (.int 2))) (mNil))))) (mCons (mTup (mCons (mOp ixD (mVar 7) (mC (.int 0))) (mCons (mOp ixD (mVar 7) (mC (.int 0))) (mCons (mC (.int 0)) (mNil))))) (mCons (mTup (mNil)) (mNil))))))))))))) (mSeq (mSet 9 (mComp [none, some 2, some 3, some 4] (mISeq (mVar 9)) (sName 0) (mTrue) (mTup (mCons (mVar 1) (mCons (mOp addD (mOp addD (mSliceX (mVar 2) (mNoPart) (mPart (mVar 3))) (mTup (mCons (mVar 0) (mNil)))) (mSliceX (mVar 2) (mPart (mOp addD (mVar 3) (mC (.int 1)))) (mNoPart))) (mNil)))))) gR3)
noncomputable def rhoN (b n A B : Nat) (T : List D) (y tie bent : D) (c9 : Option D) : Rho := [some (.loc b), some (.tup [.int (n : Nat), .tup T]), some (.int (n : Nat)), some (.tup T), some (.int (A : Nat)), some (.int (B : Nat)), some y, some tie, some bent, c9]
theorem no_rest3 {b n A B l8 : Nat} {L : List Tie} {y tie bent : D} {ds : List D} {h : HD} {Q : D → HD → Prop} (hx : BoxAt h b) (hb : 0 < b) (ht : TabAt h) (k : NetOk n L) (e8 : h[l8]? = some (.lst ds)) (lds : ds.length = 10) (hds : ∀ d ∈ ds, ThN b h d)
    (q : ∀ d h', ThN b h' d → BoxAt h' b → TabAt h' → Smx b h h' → Q d h') : Wp (gR3 (rhoN b n A B (L.map tieD) y tie bent (some (.loc l8))) h) (kBody Q) := by
  have lL := k.le
  have hn1 := k.n1
  have hn8 := k.n8
  have lT : (L.map tieD).length = L.length := List.length_map ..
  unfold gR3 rhoN
  simp [-kSeq_nx]
  refine wpe list_tup ?_
  refine wp_newL (by rw [lT]; unfold sizeLine; (first | lia | omega)) fun l9 h9 s9 e9 el9 _ => ?_
  try simp [-kSeq_nx]
  refine wp_newL (by simp) fun l10 h10 s10 e10 el10 _ => ?_
  try simp [-kSeq_nx]
  refine wp_newL (by simp) fun l11 h11 s11 e11 el11 _ => ?_
  try simp [-kSeq_nx]
  refine wpe (add_ll (((s9.trans s10).trans s11) _ _ e8) e11) ?_
  refine wp_newL (by simp; unfold sizeLine; (first | lia | omega)) fun l12 h12 s12 e12 el12 _ => ?_
  refine Eq.mpr kSeq_nx ?_
  try simp [-kSeq_nx, wp_rev]
  refine wpe (show revT (.tup (L.map tieD)) h12 = .ok (.tup (L.map tieD).reverse) h12 from rfl) ?_
  try simp [-kSeq_nx]
  refine wpe slX_to ?_
  try simp [-kSeq_nx]
  refine wpe slX_1 ?_
  try simp [-kSeq_nx]
  refine wpe (add_tt (by simp; (first | lia | omega))) ?_
  try simp [-kSeq_nx]
  refine wpe slX_from ?_
  try simp [-kSeq_nx]
  refine wpe (add_tt (by simp; (first | lia | omega))) ?_
  try simp [-kSeq_nx]
  refine wp_newL (by simp) fun l13 h13 s13 e13 el13 _ => ?_
  try simp [-kSeq_nx]
  refine wpe (add_ll (s13 _ _ e12) e13) ?_
  refine wp_newL (by simp; unfold sizeLine; (first | lia | omega)) fun l14 h14 s14 e14 el14 _ => ?_
  refine Eq.mpr kSeq_nx ?_
  have s0e := ((((s9.trans s10).trans s11).trans s12).trans s13).trans s14
  have xE := hx.sm s0e
  have tE := ht.sm s0e
  have nE : l14 ≠ b := by have := (((((hx.sm s9).sm s10).sm s11).sm s12).sm s13).lt; (first | lia | omega)
  have n9 : l9 ≠ b := by have := hx.lt; (first | lia | omega)
  have n10 : l10 ≠ b := by have := (hx.sm s9).lt; (first | lia | omega)
  have s9e := (((s10.trans s11).trans s12).trans s13).trans s14
  have s10e := ((s11.trans s12).trans s13).trans s14
  obtain ⟨M, eM, lM, hM⟩ : ∃ M : List D, h14[l14]? = some (.lst M) ∧ M.length = 23 ∧ ∀ d ∈ M, ThN b h14 d := by
    have c9 := s9e _ _ e9
    have c10 := s10e _ _ e10
    have pT : Plain3 h14 (.tup (L.map tieD)) := plain_ties
    have rT : ∀ c, RpX b h14 c 3 40000 (.tup (L.map tieD)) := fun c => rpx_of (rpx_tup 100 (rpx_ties k c) (by (first | lia | omega))) (by decide) (by decide)
    have rn : ∀ c, RpX b h14 c 3 40000 (.int (n : Nat)) := fun c => rpx_of (rpx_100 (by (first | lia | omega)) (by (first | lia | omega))) (by decide) (by decide)
    have pn : Plain3 h14 (.int (n : Nat)) := plain_flat3 trivial rfl
    have r9 : RpX b h14 false 3 40000 (.loc l9) := rpx_of (rpx_lst 100 n9 c9 (rpx_ties k false) (by (first | lia | omega))) (by decide) (by decide)
    have r10 : RpX b h14 false 5 1000000 (.loc l10) := rpx_of (rpx_lst 2 n10 c10 (all_cons (rn false) (all_cons (rT false) all_nil)) (by simp)) (by decide) (by decide)
    have e0 : RpX b h14 false 3 40000 (.tup []) := rpx_of empty_rp (by decide) (by decide)
    have p0 : Plain3 h14 (.tup []) := plain_flat3 trivial rfl
    refine ⟨_, e14, by simp [lds], all_app (all_app (fun d hd => (hds d hd).smx (smx_of s0e) xE) <|
      all_cons ⟨⟨trivial, all_cons pn (all_cons (plain_flat3 ⟨_, c9⟩ rfl) all_nil)⟩, all_cons (Nat.zero_le _) (all_cons (Nat.zero_le _) all_nil), false, rpx_of (rpx_tup 2 (all_cons (rn false) (all_cons r9 all_nil)) (by simp)) (by decide) (by decide)⟩ <|
      all_cons (th_flat ⟨_, c10⟩ rfl false r10) <|
      all_cons (th_two (plain_flat3 trivial rfl) (Nat.zero_le _) false (th_num (m := 9) (by decide)) plain_all (by (first | lia | omega)) (rpx_ties k false)) <|
      all_cons (th_two (plain_flat3 trivial rfl) (Nat.zero_le _) false (th_num (m := 0) (by decide)) all_nil (Nat.zero_le _) all_nil) <|
      all_cons (th_two (plain_flat3 trivial rfl) (Nat.zero_le _) false (rpx_of rpx_bl (by decide) (by decide)) all_nil (Nat.zero_le _) all_nil) <|
      all_cons ⟨⟨trivial, all_cons pn all_nil⟩, all_cons (Nat.zero_le _) all_nil, false, rpx_of (rpx_tup 1 (all_cons (rn false) all_nil) (by simp)) (by decide) (by decide)⟩ <|
      all_cons ⟨⟨trivial, all_cons pn (all_cons pT (all_cons p0 all_nil))⟩, all_cons (Nat.zero_le _) (all_cons (by show (L.map tieD).length ≤ 1000; (first | lia | omega)) (all_cons (Nat.zero_le _) all_nil)), false, rpx_of (rpx_tup 3 (all_cons (rn false) (all_cons (rT false) (all_cons e0 all_nil))) (by simp)) (by decide) (by decide)⟩ all_nil) <|
      all_cons (th_flat trivial rfl false (rpx_of rpx_non (by decide) (by decide))) <| all_cons (th_flat trivial rfl false (rpx_of (rpx_100 (by decide) (by decide)) (by decide) (by decide))) <| all_cons (th_flat trivial rfl true (rpx_of rpx_edic (by decide) (by decide))) <|
      all_cons ⟨⟨trivial, fun x hx => ?_⟩, fun x hx => ?_, false, rpx_of (rT false) (by decide) (by decide)⟩ <|
      all_cons (th_net k false (fun z hz => plain_all z (List.mem_reverse.mp hz)) (by rw [List.length_reverse]; (first | lia | omega)) fun z hz => rpx_ties k false z (List.mem_reverse.mp hz)) <|
      all_cons (th_net k false (all_app (fun z hz => plain_all z (List.mem_of_mem_take hz)) (all_app (fun z hz => plain_all z (List.mem_of_mem_take hz)) fun z hz => plain_all z (List.mem_of_mem_drop hz))) (by simp; (first | lia | omega)) (all_app (fun z hz => rpx_ties k false z (List.mem_of_mem_take hz)) (all_app (fun z hz => rpx_ties k false z (List.mem_of_mem_take hz)) fun z hz => rpx_ties k false z (List.mem_of_mem_drop hz)))) all_nil⟩
    · obtain ⟨t, _, rfl⟩ := List.mem_map.mp hx
      exact ⟨trivial, all_cons (plain_flat trivial rfl) (all_cons (plain_flat trivial rfl) (all_cons (plain_flat trivial rfl) all_nil))⟩
    · obtain ⟨t, _, rfl⟩ := List.mem_map.mp hx
      show 3 ≤ 1000
      decide
  clear e14
  simp [-kSeq_nx]
  refine wpe (len_loc eM) ?_
  simp [-kSeq_nx]
  refine take_nat xE hb tE (by (first | lia | omega)) (by (first | lia | omega)) fun o h15 lo x15 t15 s15 => ?_
  have ho : o < M.length := by (first | lia | omega)
  refine wpe (ix_loc (s15 _ _ nE eM) (List.getElem?_eq_getElem ho)) ?_
  exact q _ _ ((hM _ (List.getElem_mem ho)).smx s15 x15) x15 t15 ((smx_of s0e).trans s15)
theorem cons_ok {f : ME} {fa : MA} {ρ : Rho} {h h' : HD} {x : D} {Q : List D → HD → Prop} (e : f ρ h = .ok x h') (q : Wp (fa ρ h') fun xs h2 => Q (x :: xs) h2) : Wp (mCons f fa ρ h) Q := by
  rw [wp_cons, e]
  exact q
theorem no_rest2 {b n A B ta tb : Nat} {tc : Bool} {L : List Tie} {y bent : D} {c9 : Option D} {h5 : HD} {Q : D → HD → Prop} (x5 : BoxAt h5 b) (hb : 0 < b) (t5 : TabAt h5) (k : NetOk n L) (hA : A ≤ L.length) (ha7 : ta < 100) (hb7 : tb < 100) (xbent : XOk b h5 bent)
    (q : ∀ d h', ThN b h' d → BoxAt h' b → TabAt h' → Smx b h5 h' → Q d h') : Wp (gR2 (rhoN b n A B (L.map tieD) y (.tup [D.int ((ta : Nat) : Int), .int ((tb : Nat) : Int), lit tc]) bent c9) h5) (kBody Q) := by
  have lL := k.le
  have hn1 := k.n1
  have hn8 := k.n8
  have lT : (L.map tieD).length = L.length := List.length_map ..
  have tl : ∀ (c : Bool) {h' : HD}, ∀ x ∈ [D.int ((ta : Nat) : Int), .int ((tb : Nat) : Int), lit tc], RpX b h' c 1 60 x := fun c h' => all_cons (rpx_of (rpx_100 (by (first | lia | omega)) (by (first | lia | omega))) (by decide) (by decide)) (all_cons (rpx_of (rpx_100 (by (first | lia | omega)) (by (first | lia | omega))) (by decide) (by decide)) (all_cons (rpx_of rpx_lit (by decide) (by decide)) all_nil))
  unfold gR2 rhoN
  have ix0 : ∀ h, ixD (.tup [D.int ((ta : Nat) : Int), .int ((tb : Nat) : Int), lit tc]) (.int 0) h = .ok (.int ((ta : Nat) : Int)) h := fun h => rfl
  have ix1 : ∀ h, ixD (.tup [D.int ((ta : Nat) : Int), .int ((tb : Nat) : Int), lit tc]) (.int 1) h = .ok (.int ((tb : Nat) : Int)) h := fun h => rfl
  have ix2 : ∀ h, ixD (.tup [D.int ((ta : Nat) : Int), .int ((tb : Nat) : Int), lit tc]) (.int 2) h = .ok (lit tc) h := fun h => rfl
  refine Eq.mpr wp_seq ?_
  refine Eq.mpr wp_set ?_
  refine Eq.mpr wp_lst ?_
  have e4 : mSliceX (mVar 7) mNoPart (mPart (mC (.int 2))) [some (.loc b), some (.tup [.int (n : Nat), .tup (L.map tieD)]), some (.int (n : Nat)), some (.tup (L.map tieD)), some (.int (A : Nat)), some (.int (B : Nat)), some y, some (.tup [D.int ((ta : Nat) : Int), .int ((tb : Nat) : Int), lit tc]), some bent, c9] h5 = .ok (.tup [D.int ((ta : Nat) : Int), .int ((tb : Nat) : Int)]) h5 := slX_2 (xs := [D.int ((ta : Nat) : Int), .int ((tb : Nat) : Int), lit tc])
  have e5 : mOp addD (mVar 7) (mTup (mCons (mC (.int 0)) mNil)) [some (.loc b), some (.tup [.int (n : Nat), .tup (L.map tieD)]), some (.int (n : Nat)), some (.tup (L.map tieD)), some (.int (A : Nat)), some (.int (B : Nat)), some y, some (.tup [D.int ((ta : Nat) : Int), .int ((tb : Nat) : Int), lit tc]), some bent, c9] h5 = .ok (.tup [D.int ((ta : Nat) : Int), .int ((tb : Nat) : Int), lit tc, .int 0]) h5 := add_tt (xs := [D.int ((ta : Nat) : Int), .int ((tb : Nat) : Int), lit tc]) (ys := [.int 0]) (by simp)
  refine cons_ok rfl <| cons_ok rfl <| cons_ok rfl <| cons_ok e4 <| cons_ok e5 ?_
  refine Eq.mpr wp_cons ?_
  refine wp_newL (xs := [D.int ((ta : Nat) : Int), .int ((tb : Nat) : Int), lit tc]) (by simp) fun l6 h6 s6 e6 el6 _ => ?_
  refine cons_ok rfl <| cons_ok (x := .tup [.int ((tb : Nat) : Int), .int ((ta : Nat) : Int), lit tc]) rfl <| cons_ok (x := .tup [.int ((ta : Nat) : Int), .int ((ta : Nat) : Int), .int 0]) rfl <| cons_ok rfl ?_
  refine Eq.mpr wp_nil ?_
  refine wp_newL (by simp) fun l7 h7 s7 e7 el7 _ => ?_
  have n6 : l6 ≠ b := by have := x5.lt; (first | lia | omega)
  obtain ⟨ds, eds, lds, xds⟩ : ∃ ds : List D, h7[l7]? = some (.lst ds) ∧ ds.length = 10 ∧ ∀ x ∈ ds, XOk b h7 x := by
    have xb := (xbent.sm s6).sm s7
    have nums : ∀ {i j : Int} {c : Bool}, 0 ≤ i → i < 100 → 0 ≤ j → j < 100 → XOk b h7 (.tup [.int i, .int j, lit c]) := fun h1 h2 h3 h4 => ⟨⟨trivial, all_cons trivial (all_cons trivial (all_cons trivial all_nil))⟩, false, rpx_of (rpx_tup 3 (all_cons (rpx_100 h1 h2) (all_cons (rpx_100 h3 h4) (all_cons rpx_lit all_nil))) (by simp)) (by decide) (by decide)⟩
    refine ⟨_, e7, by simp, all_cons xb <| all_cons xb <| all_cons xb <| all_cons ⟨⟨trivial, all_cons trivial (all_cons trivial all_nil)⟩, false, rpx_of (rpx_tup 2 (all_cons (rpx_100 (by (first | lia | omega)) (by (first | lia | omega))) (all_cons (rpx_100 (by (first | lia | omega)) (by (first | lia | omega))) all_nil)) (by simp)) (by decide) (by decide)⟩ <|
      all_cons ⟨⟨trivial, all_cons trivial (all_cons trivial (all_cons trivial (all_cons trivial all_nil)))⟩, false, rpx_of (rpx_tup 4 (all_cons (rpx_100 (by (first | lia | omega)) (by (first | lia | omega))) (all_cons (rpx_100 (by (first | lia | omega)) (by (first | lia | omega))) (all_cons rpx_lit (all_cons (rpx_100 (by (first | lia | omega)) (by (first | lia | omega))) all_nil)))) (by simp)) (by decide) (by decide)⟩ <|
      all_cons ⟨plain_flat ⟨_, s7 _ _ e6⟩ rfl, false, rpx_of (rpx_lst 3 n6 (s7 _ _ e6) (tl false) (by simp)) (by decide) (by decide)⟩ <| all_cons ⟨plain_flat trivial rfl, false, rpx_of rpx_non (by decide) (by decide)⟩ <|
      all_cons (nums (by (first | lia | omega)) (by (first | lia | omega)) (by (first | lia | omega)) (by (first | lia | omega))) <| all_cons (nums (c := false) (by (first | lia | omega)) (by (first | lia | omega)) (by (first | lia | omega)) (by (first | lia | omega))) <| all_cons ⟨plain_flat trivial rfl, false, rpx_of empty_rp (by decide) (by decide)⟩ all_nil⟩
  clear e7 xbent
  refine Eq.mpr kSeq_nx ?_
  refine Eq.mpr wp_seq ?_
  refine Eq.mpr wp_set ?_
  refine comp_wp (src := [(l7, ds)]) (xs := ds) (φ := fun x => x) (fun _ => true) (fun x => .tup [.int (n : Nat), .tup ((L.map tieD).take A ++ [x] ++ (L.map tieD).drop (A + 1))]) (fun x => [some x, some (.int (n : Nat)), some (.tup (L.map tieD)), some (.int (A : Nat))]) ?_ (by unfold sizeLine; (first | lia | omega)) (fun x _ => rfl) (fun x hx h' s' => .ok) (fun x hx _ h' s' => ?_) fun l8 h8 s8 e8 => ?_
  · simp
    refine wpe (iseq_loc eds) ?_
    simp [Sm.refl]
    exact fun h2 s2 => src1 (s2 _ _ eds)
  · have eA1 : ((A : Int) + 1) = ((A + 1 : Nat) : Int) := by (first | lia | omega)
    simp [Pu]
    refine wpe slX_to ?_
    simp
    refine wpe (add_tt (by simp; (first | lia | omega))) ?_
    simp
    rw [eA1]
    refine wpe slX_from ?_
    simp
    refine wpe (add_tt (by simp; (first | lia | omega))) ?_
    simp [Sm.refl]
  rw [filter_tt] at e8
  refine Eq.mpr kSeq_nx ?_
  have s58 := (s6.trans s7).trans s8
  refine no_rest3 (x5.sm s58) hb (t5.sm s58) k e8 (by rw [List.length_map]; exact lds) (fun d hd => ?_) fun d h' th x t s => q d h' th x t ((smx_of s58).trans s)
  obtain ⟨x, hx1, rfl⟩ := List.mem_map.mp hd
  obtain ⟨px, c, rx⟩ := (xds x hx1).sm s8
  refine th_net k c (all_app (all_app (fun z hz => plain_all z (List.mem_of_mem_take hz)) (all_cons px all_nil)) fun z hz => plain_all z (List.mem_of_mem_drop hz)) (by simp; (first | lia | omega)) (all_app (all_app (fun z hz => rpx_ties k c z (List.mem_of_mem_take hz)) (all_cons rx all_nil)) fun z hz => rpx_ties k c z (List.mem_of_mem_drop hz))
theorem wp_no_net {b n : Nat} {L : List Tie} {h : HD} {Q : D → HD → Prop} (hx : BoxAt h b) (hb : 0 < b) (ht : TabAt h) (k : NetOk n L) (q : ∀ d h', ThN b h' d → BoxAt h' b → TabAt h' → Smx b h h' → Q d h') : Wp (F__law_no_net [.loc b, netD n L] h) Q := by
  have lL := k.le
  have hn1 := k.n1
  have hn8 := k.n8
  have lT : (L.map tieD).length = L.length := List.length_map ..
  change Wp (mBody 10 (g__law_no_net F__law_take) [.loc b, netD n L] h) _
  refine Eq.mpr wp_body ?_
  simp [-kSeq_nx, netD]
  refine Eq.mpr kSeq_nx ?_
  simp [-kSeq_nx]
  refine take_nat hx hb ht (by (first | lia | omega)) (by (first | lia | omega)) fun A h1 lA x1 t1 s1 => ?_
  try simp [-kSeq_nx]
  refine take_nat x1 hb t1 (by decide) (by decide) fun B h2 lB x2 t2 s2 => ?_
  try simp [-kSeq_nx]
  refine Eq.mpr kSeq_nx ?_
  try simp [-kSeq_nx, pow29]
  refine wp_newL (by simp) fun l3 h3 s3 e3 el3 _ => ?_
  try simp [-kSeq_nx]
  refine wp_newL (by simp; unfold sizeLine; (first | lia | omega)) fun l4 h4 s4 e4 el4 _ => ?_
  have x4 : BoxAt h4 b := (x2.sm s3).sm s4
  have t4 : TabAt h4 := (t2.sm s3).sm s4
  have n3 : l3 ≠ b := by have := x2.lt; (first | lia | omega)
  have n4 : l4 ≠ b := by have := (x2.sm s3).lt; (first | lia | omega)
  try simp [-kSeq_nx]
  refine take_nat x4 hb t4 (by decide) (by decide) fun o h5 lo x5 t5 s5 => ?_
  have e4' := s5 _ _ n4 e4
  have e3' := s5 _ _ n3 (s4 _ _ e3)
  have i100 : ∀ {c : Bool} {i : Int}, 0 ≤ i → i < 100 → RpX b h5 c 1 60 (.int i) := fun h1 h2 => rpx_of (rpx_100 h1 h2) (by decide) (by decide)
  obtain ⟨y, ey, py, cy, sy⟩ := pick_loc (fun y => Plain h5 y ∧ ∃ c, RpX b h5 c 1 60 y) (o := o) e4' (by simp; (first | lia | omega)) <| all_cons ⟨trivial, false, i100 (by (first | lia | omega)) (by (first | lia | omega))⟩ <| all_cons ⟨trivial, false, rpx_of (rpx_big (L := 3) (by decide) (by decide)) (by decide) (by decide)⟩ <|
    all_cons ⟨trivial, false, rpx_of rpx_bl (by decide) (by decide)⟩ <| all_cons ⟨trivial, false, rpx_of rpx_bl (by decide) (by decide)⟩ <| all_cons ⟨trivial, false, rpx_of rpx_non (by decide) (by decide)⟩ <| all_cons ⟨trivial, false, rpx_of (rpx_str (L := 5) (by decide +kernel)) (by decide) (by decide)⟩ <|
    all_cons ⟨trivial, false, rpx_of (rpx_tup 1 (all_cons (rpx_100 (by decide) (by decide)) all_nil) (by simp)) (by decide) (by decide)⟩ <| all_cons ⟨trivial, false, rpx_of (rpx_big (L := 40) (by decide +kernel) (by decide +kernel)) (by decide) (by decide)⟩ <| all_cons ⟨trivial, false, i100 (by decide) (by decide)⟩ <|
    all_cons ⟨⟨_, e3'⟩, false, rpx_of (rpx_lst 1 n3 e3' (all_cons (rpx_100 (by decide) (by decide)) all_nil) (by simp)) (by decide) (by decide)⟩ <| all_cons ⟨trivial, true, rpx_of rpx_edic (by decide) (by decide)⟩ all_nil
  refine wpe ey ?_
  refine Eq.mpr (wp_ok _ _) ?_
  refine Eq.mpr kSeq_nx ?_
  have S : Smx b h h5 := (((s1.trans s2).trans (smx_of s3)).trans (smx_of s4)).trans s5
  clear ey
  simp [-kSeq_nx]
  refine wpe (add_tt (by rw [lT]; simp; (first | lia | omega))) ?_
  have eT : L.map tieD ++ [.tup [.int 0, .int 1, .int 1]] = (L ++ [(0, 1, true)]).map tieD := by rw [List.map_append]; rfl
  rw [eT]
  have hA : A < (L ++ [(0, 1, true)]).length := by rw [List.length_append]; simp; (first | lia | omega)
  refine Eq.mpr (wp_ok _ _) ?_
  refine wpe (ix_tup (k := A) (show ((L ++ [(0, 1, true)]).map tieD)[A]? = some (tieD (L ++ [(0, 1, true)])[A]) by rw [List.getElem?_map, List.getElem?_eq_getElem hA]; rfl)) ?_
  have ht7 : (L ++ [(0, 1, true)])[A].1 < 100 ∧ (L ++ [(0, 1, true)])[A].2.1 < 100 := by
    rcases List.mem_append.mp (List.getElem_mem hA) with z | z
    · have := k.ok _ z; (first | lia | omega)
    · rw [List.mem_singleton.mp z]; decide
  generalize (L ++ [(0, 1, true)])[A] = t7 at ht7
  obtain ⟨ta, tb, tc⟩ := t7
  have ha7 : ta < 100 := ht7.1
  have hb7 : tb < 100 := ht7.2
  refine Eq.mpr (wp_ok _ _) ?_
  refine Eq.mpr kSeq_nx ?_
  have eB1 : ((B : Int) + 1) = ((B + 1 : Nat) : Int) := by (first | lia | omega)
  simp [-kSeq_nx, tieD]
  refine wpe slX_to ?_
  try simp [-kSeq_nx]
  refine wpe (add_tt (by simp; (first | lia | omega))) ?_
  try simp [-kSeq_nx]
  rw [eB1]
  refine wpe slX_from ?_
  try simp [-kSeq_nx]
  refine wpe (add_tt (by simp; (first | lia | omega))) ?_
  refine Eq.mpr (wp_ok _ _) ?_
  refine Eq.mpr kSeq_nx ?_
  have tl : ∀ (c : Bool) {h' : HD}, ∀ x ∈ [D.int ((ta : Nat) : Int), .int ((tb : Nat) : Int), lit tc], RpX b h' c 1 60 x := fun c h' => all_cons (rpx_of (rpx_100 (by (first | lia | omega)) (by (first | lia | omega))) (by decide) (by decide)) (all_cons (rpx_of (rpx_100 (by (first | lia | omega)) (by (first | lia | omega))) (by decide) (by decide)) (all_cons (rpx_of rpx_lit (by decide) (by decide)) all_nil))
  have tp : ∀ {h' : HD}, ∀ x ∈ [D.int ((ta : Nat) : Int), .int ((tb : Nat) : Int), lit tc], Plain h' x := fun {h'} => all_cons trivial (all_cons trivial (all_cons trivial all_nil))
  generalize hbent : D.tup (List.take B [D.int ((ta : Nat) : Int), .int ((tb : Nat) : Int), lit tc] ++ [y] ++ List.drop B [D.int ((tb : Nat) : Int), lit tc]) = bent
  have xbent : XOk b h5 bent := by
    rw [← hbent]
    refine ⟨⟨trivial, all_app (all_app (fun x hx => tp x (List.mem_of_mem_take hx)) (all_cons py all_nil)) fun x hx => tp x (List.mem_cons_of_mem _ (List.mem_of_mem_drop hx))⟩, cy, rpx_of (rpx_tup 4 (all_app (all_app (fun x hx => tl cy x (List.mem_of_mem_take hx)) (all_cons sy all_nil)) fun x hx => tl cy x (List.mem_cons_of_mem _ (List.mem_of_mem_drop hx))) (by simp; (first | lia | omega))) (by decide) (by decide)⟩
  exact no_rest2 (n := n) (L := L) (tc := tc) x5 hb t5 k (by (first | lia | omega)) ha7 hb7 xbent fun d h' th x t s => q d h' th x t (S.trans s)
end LK

namespace LK
open PySem PySem.Spec PyProof.Rows L2 LS
theorem p_kind_net {h : HD} : Pu (F__law_kind [.exc "NoNet" []] h) h (.str "! net") := p_kindG (w := "net") (j := 5) (by decide +kernel) (by decide +kernel) (by decide +kernel) (by decide +kernel) rfl (by decide +kernel) (by decide +kernel)
theorem said_net {cs : List Nat} {f : ME} {ρ : Rho} {h : HD} {ds : List D} {Q : D → HD → Prop} (ht : TabAt h) (hd : allSome (cs.map fun j => (ρ[j]?).join) = some ds) (he : Er (f (ds.map some) h) h "NoNet")
    (q : ∀ h', Sm h h' → Q (.str "! net") h') : Wp (mSaid cs F__law_kind f ρ h) Q :=
  wp_said ht hd (he.we fun h' s => ⟨by decide +kernel, p_kind_net.wp fun h2 s2 => q h2 (s.trans s2)⟩)
theorem p_kind_place {h : HD} : Pu (F__law_kind [.exc "NoPlace" []] h) h (.str "! place") := p_kindG (w := "place") (j := 6) (by decide +kernel) (by decide +kernel) (by decide +kernel) (by decide +kernel) rfl (by decide +kernel) (by decide +kernel)
theorem said_place {cs : List Nat} {f : ME} {ρ : Rho} {h : HD} {ds : List D} {Q : D → HD → Prop} (ht : TabAt h) (hd : allSome (cs.map fun j => (ρ[j]?).join) = some ds) (he : Er (f (ds.map some) h) h "NoPlace")
    (q : ∀ h', Sm h h' → Q (.str "! place") h') : Wp (mSaid cs F__law_kind f ρ h) Q :=
  wp_said ht hd (he.we fun h' s => ⟨by decide +kernel, p_kind_place.wp fun h2 s2 => q h2 (s.trans s2)⟩)
noncomputable abbrev gs0 : MS := mSet 2 (mCall F__law_box (mCons (mVar 0) (mCons (mVar 1) (mNil))))
noncomputable abbrev gs1 : MS := mSet 3 (mCall F__law_net (mCons (mVar 2) (mNil)))
noncomputable abbrev gs2 : MS := mIfS (mTb (mOp isnotD (mCall F_is_net (mCons (mVar 3) (mNil))) (mC (.bl true)))) (mRet (mC (.bl false))) (mSkip)
noncomputable abbrev gs3 : MS := mFor (mISeq (mLst (mCons (mCall F__law_lot (mCons (mVar 2) (mCons (mOp ixD (mVar 3) (mC (.int 0))) (mNil)))) (mCons (mTup (mNil)) (mCons (mTupR (mOp ixD (mVar 3) (mC (.int 0)))) (mNil)))))) (sName 4) (mIfS (mTb (mOp neX (mCall (ar1 reprX) (mCons (mCall F_net_switched (mCons (mVar 3) (mCons (mVar 4) (mNil)))) (mNil))) (mCall (ar1 reprX) (mCons (mCall F__law_net_switched (mCons (mVar 3) (mCons (mVar 4) (mNil)))) (mNil))))) (mRet (mC (.bl false))) (mSkip))
noncomputable abbrev gs4 : MS := mFor (mIRng1 (mCons (mC (.int 5)) (mNil))) (sName 5) (mSeq (mUnp (sNames [6, 7]) (mTup (mCons (mCall F__law_no_net (mCons (mVar 2) (mCons (mVar 3) (mNil)))) (mCons (mCall F__law_no_lot (mCons (mVar 2) (mCons (mOp ixD (mVar 3) (mC (.int 0))) (mNil)))) (mNil))))) (mSeq (mPar 8 9 (mCons (mCall F__law_is_net (mCons (mVar 6) (mNil))) (mCons (mCall (ar1 reprX) (mCons (mVar 6) (mNil))) (mNil)))) (mSeq (mIfS (mOr (mTb (mOp neX (mCall (ar1 reprX) (mCons (mCall F_is_net (mCons (mVar 6) (mNil))) (mNil))) (mCall (ar1 reprX) (mCons (mVar 8) (mNil))))) (mTb (mOp neX (mCall (ar1 reprX) (mCons (mVar 6) (mNil))) (mVar 9)))) (mRet (mC (.bl false))) (mSkip)) (mSeq (mIfS (mAnd (mNot (mTru (mVar 8))) (mTb (mOp neX (mSaid [6, 7] F__law_kind (mCall F_net_switched (mCons (mVar 0) (mCons (mVar 1) (mNil))))) (mC (.str "! net"))))) (mRet (mC (.bl false))) (mSkip)) (mIfS (mTb (mOp neX (mSaid [3, 7] F__law_kind (mCall F_net_switched (mCons (mVar 0) (mCons (mVar 1) (mNil))))) (mC (.str "! place")))) (mRet (mC (.bl false))) (mSkip))))))
noncomputable def rho (ns : List Int) (k b n : Nat) (L : List Tie) (c4 c5 c6 c7 c8 c9 : Option D) : Rho := [some (.scr ns), some (.int (k : Nat)), some (.loc b), some (netD n L), c4, c5, c6, c7, c8, c9]
theorem lot_all {n : Nat} : D.tup ((List.range n).map fun k => D.int ((k : Nat) : Int)) = lotD n fun _ => true := by
  unfold lotD
  rw [List.filter_eq_self.mpr (fun _ _ => rfl)]
theorem lot_none {n : Nat} : D.tup [] = lotD n fun _ => false := by
  unfold lotD
  rw [List.filter_eq_nil_iff.mpr (fun _ _ => Bool.false_ne_true)]
  rfl
theorem net_sw {n : Nat} {L : List Tie} {p : Nat → Bool} (k : NetOk n L) : NetOk n (L.map (swT p)) := ⟨k.n1, k.n8, fun t ht => by
  obtain ⟨s, hs, rfl⟩ := List.mem_map.mp ht
  exact k.ok s hs, List.pairwise_map.mpr (k.so.imp fun h => h), by rw [List.length_map]; exact k.le⟩
theorem rp_net {b n : Nat} {L : List Tie} {h : HD} (k : NetOk n L) : ∃ t : Str, ∀ h', Smx b h h' → reprX (netD n L) h' = .ok (.str t) h' := ThN.ok (th_net k false plain_all (by rw [List.length_map]; have := k.le; (first | lia | omega)) (rpx_ties k false))
theorem ix_net {n : Nat} {L : List Tie} {h : HD} : ixD (netD n L) (.int 0) h = .ok (.int (n : Nat)) h := rfl
section
variable {ns : List Int} {k b n : Nat} {L : List Tie} {c4 c5 c6 c7 c8 c9 : Option D} {h : HD} {Q : Fl × Rho → HD → Prop}
inductive LoP (ns : List Int) (k b n : Nat) (L : List Tie) (c5 c6 c7 c8 c9 : Option D) (h : HD) (l : Nat) (ds : List D) (xs : List (Nat → Bool)) (ρ : Rho) (h' : HD) : Prop where
  | mk (d4 : Option D) (f0 : ρ = rho ns k b n L d4 c5 c6 c7 c8 c9) (f1 : Sm h h') (f2 : h'[l]? = some (.lst ds)) : LoP ns k b n L c5 c6 c7 c8 c9 h l ds xs ρ h'
theorem lots_loop (ko : NetOk n L) (hx : BoxAt h b) (hb : 0 < b) (ht : TabAt h)
    (q : ∀ d4 h', BoxAt h' b → TabAt h' → Q (.nx, rho ns k b n L d4 c5 c6 c7 c8 c9) h') :
    Wp (gs3 (rho ns k b n L c4 c5 c6 c7 c8 c9) h) Q := by
  have hn8 := ko.n8
  unfold gs3 mFor
  refine Eq.mpr wp_bind ?_
  unfold rho
  simp [ix_net]
  refine wp_lot hx hn8 fun p1 h1 x1 s1 => ?_
  have t1 := ht.smx s1 hb
  try simp [wp_tupR, ix_net]
  refine wpe (tupR_ok (by (first | lia | omega))) ?_
  refine Eq.mpr (wp_ok _ _) ?_
  rw [lot_all, lot_none (n := n)]
  refine wp_newL (by simp) fun l h3 s3 e3 _ _ => ?_
  refine wpe (iseq_loc e3) ?_
  refine Eq.mpr (wp_ok _ _) ?_
  refine loop_wp (src := [(l, _)]) (fun p : Nat → Bool => lotD n p) (LoP ns k b n L c5 c6 c7 c8 c9 h3 l _) (fun ys ρ h' z => by obtain ⟨_, _, _, e⟩ := z; exact src1 e) ?_ ?_
    [p1, fun _ => false, fun _ => true] _ _ ⟨_, rfl, Sm.refl _, e3⟩
  · rintro p xs ρ h' ⟨d4, rfl, s, eL⟩
    refine ⟨_, rfl, ?_⟩
    obtain ⟨y, ry⟩ := rp_net (b := b) (h := h') (net_sw (p := p) ko)
    simp [rho]
    refine (p_net_switched ko).wp fun h4 s4 => ?_
    refine wpe (ry h4 (smx_of s4)) ?_
    simp
    refine (p_law_net_switched ko).wp fun h5 s5 => ?_
    refine wpe (ry h5 (smx_of (s4.trans s5))) ?_
    simp [kLoop]
    have S := s4.trans s5
    exact ⟨_, rfl, s.trans S, S _ _ eL⟩
  · rintro ρ h' ⟨d4, rfl, s, eL⟩
    exact q _ h' ((x1.sm s3).sm s) ((t1.sm s3).sm s)
inductive TuI (ns : List Int) (k b n : Nat) (L : List Tie) (c4 : Option D) (xs : List Nat) (ρ : Rho) (h' : HD) : Prop where
  | mk (d5 d6 d7 d8 d9 : Option D) (f0 : ρ = rho ns k b n L c4 d5 d6 d7 d8 d9) (f1 : BoxAt h' b) (f2 : TabAt h') : TuI ns k b n L c4 xs ρ h'
theorem turn_loop (ko : NetOk n L) (hx : BoxAt h b) (hb : 0 < b) (ht : TabAt h)
    (q : ∀ d5 d6 d7 d8 d9 h', TabAt h' → Q (.nx, rho ns k b n L c4 d5 d6 d7 d8 d9) h') :
    Wp (gs4 (rho ns k b n L c4 c5 c6 c7 c8 c9) h) Q := by
  unfold gs4
  refine for_wp (src := []) (xs := List.range 5) (fun i => .int ((i : Nat) : Int)) (TuI ns k b n L c4) ?_ (fun ys ρ h' _ => src0) ?_ ?_
  · simp
    refine wpe (rng1_ok (n := 5) (by decide)) ?_
    exact ⟨rfl, _, _, _, _, _, rfl, hx, ht⟩
  · rintro x xs ρ h' ⟨d5, d6, d7, d8, d9, rfl, x0, t0⟩
    refine ⟨_, rfl, ?_⟩
    simp [rho, -kSeq_nx]
    refine wp_no_net x0 hb t0 ko fun e h1 th x1 t1 s1 => ?_
    try simp [-kSeq_nx, ix_net]
    refine wp_no_lot x1 hb t1 ⟨ko.n1, ko.n8⟩ fun d h2 nd x2 t2 s2 => ?_
    have th := th.smx s2 x2
    obtain ⟨t, rt⟩ := th.ok
    obtain ⟨tb, rtb⟩ := rpx_ok (rpx_bl (b := b) (h := h2) (c := false) (v := netB e)) (by decide) (by unfold sizeLine; decide)
    try simp [-kSeq_nx]
    refine Eq.mpr kSeq_nx ?_
    try simp [-kSeq_nx]
    refine (p_law_is_net th.1).wp fun h3 s3 => ?_
    try simp [-kSeq_nx]
    refine wpe (rt h3 (smx_of s3)) ?_
    try simp [-kSeq_nx]
    refine Eq.mpr kSeq_nx ?_
    try simp [-kSeq_nx]
    refine (p_is_netG (th.1.sm s3) th.2.1).wp fun h4 s4 => ?_
    have s24 := s3.trans s4
    try simp [-kSeq_nx]
    refine wpe (rtb h4 (smx_of s24)) ?_
    try simp [-kSeq_nx]
    refine wpe (rtb h4 (smx_of s24)) ?_
    try simp [-kSeq_nx]
    refine wpe (rt h4 (smx_of s24)) ?_
    try simp [-kSeq_nx]
    refine Eq.mpr kSeq_nx ?_
    have t4 := t2.sm s24
    have x4 := x2.sm s24
    have last : ∀ h5, Sm h4 h5 → Wp ((mIfS (mTb (mOp neX (mSaid [3, 7] F__law_kind (mCall F_net_switched (mCons (mVar 0) (mCons (mVar 1) (mNil))))) (mC (.str "! place")))) (mRet (mC (.bl false))) (mSkip)) [some (.scr ns), some (.int (k : Nat)), some (.loc b), some (netD n L), c4, some (.int ((x : Nat) : Int)), some e, some d, some (.bl (netB e)), some (.str t)] h5) (kLoop (TuI ns k b n L c4 xs) Q) := fun h5 s5 => by
      simp
      refine said_place (ds := [netD n L, d]) (t4.sm s5) rfl ?_ fun h6 s6 => ?_
      · unfold Er
        simp
        exact er_place ko (nd.sm (s24.trans s5))
      simp [kLoop]
      exact ⟨_, _, _, _, _, rfl, (x4.sm s5).sm s6, (t4.sm s5).sm s6⟩
    refine Eq.mpr wp_seq ?_
    cases hb2 : netB e with
    | true =>
      simp [-kSeq_nx]
      refine Eq.mpr kSeq_nx ?_
      rw [hb2] at last
      exact last h4 (.refl _)
    | false =>
      simp [-kSeq_nx]
      refine said_net (ds := [e, d]) t4 rfl ?_ fun h5 s5 => ?_
      · unfold Er
        simp
        exact er_net_switched_of (er_need_net (th.1.sm s24) th.2.1 hb2)
      simp [-kSeq_nx]
      refine Eq.mpr kSeq_nx ?_
      rw [hb2] at last
      exact last h5 s5
  · rintro ρ h' ⟨d5, d6, d7, d8, d9, rfl, x0, t0⟩
    exact q _ _ _ _ _ h' t0
end
noncomputable abbrev gBody : MS := mSeq gs0 (mSeq gs1 (mSeq gs2 (mSeq gs3 gs4)))
theorem body_true {ns : List Int} {k : Nat} {h : HD} {a2 a3 a4 a5 a6 a7 a8 a9 : Option D} {Q : Fl × Rho → HD → Prop} (hb : ∀ i ∈ ns, Builtin.Int.intBits i ≤ 2 ^ 20) (hk : k ≤ 1000) (ht : TabAt h)
    (q : ∀ (b2 b3 b4 b5 b6 b7 b8 b9 : Option D) h', TabAt h' → Q (.nx, [some (.scr ns), some (.int (k : Nat)), b2, b3, b4, b5, b6, b7, b8, b9]) h') :
    Wp (gBody [some (.scr ns), some (.int (k : Nat)), a2, a3, a4, a5, a6, a7, a8, a9] h) Q := by
  refine Eq.mpr wp_seq ?_
  simp only [gs0, wp_set, wp_call, wp_cons, wp_varS, wp_var0, wp_nil]
  refine wp_box hb hk fun b h1 x1 lb s1 => ?_
  have hb0 : 0 < b := by have := ht.pos; (first | lia | omega)
  have t1 := ht.sm s1
  refine Eq.mpr kSeq_nx ?_
  refine Eq.mpr wp_seq ?_
  unfold gs1
  try simp [-kSeq_nx]
  refine wp_law_net x1 hb0 t1 fun n L h2 ko x2 t2 s2 => ?_
  refine Eq.mpr kSeq_nx ?_
  refine Eq.mpr wp_seq ?_
  unfold gs2
  try simp [-kSeq_nx]
  refine (p_is_net ko).wp fun h3 s3 => ?_
  simp [-kSeq_nx]
  refine Eq.mpr kSeq_nx ?_
  refine Eq.mpr wp_seq ?_
  refine lots_loop (ns := ns) (k := k) (b := b) ko (x2.sm s3) hb0 (t2.sm s3) fun d4 h4 x4 t4 => ?_
  refine Eq.mpr kSeq_nx ?_
  exact turn_loop ko x4 hb0 t4 fun d5 d6 d7 d8 d9 h5 t5 => q _ _ _ _ _ _ _ _ h5 t5
inductive IL (ns : List Int) (xs : List Nat) (ρ : Rho) (h' : HD) : Prop where
  | mk (d1 d2 d3 d4 d5 d6 d7 d8 d9 : Option D) (f0 : ρ = [some (.scr ns), d1, d2, d3, d4, d5, d6, d7, d8, d9]) (f1 : TabAt h') (f2 : ∀ k ∈ xs, k ≤ 1000) : IL ns xs ρ h'
theorem law_true (ns : List Int) (hl : ns.length ≤ 63) (hb : ∀ i ∈ ns, Builtin.Int.intBits i ≤ 2 ^ 20) : ∃ h', F_law [.scr ns] [.tab] = .ok (.bl true) h' := by
  have main : Wp (F_law [.scr ns] [.tab]) fun d _ => d = .bl true := by
    change Wp (mBody 10 (g_law F__law_box F__law_net F_is_net F__law_lot F_net_switched F__law_net_switched F__law_no_lot F__law_no_net F__law_is_net F__law_kind) [.scr ns] [.tab]) _
    refine Eq.mpr wp_body ?_
    refine Eq.mpr wp_seq ?_
    obtain ⟨n, en, hn⟩ : ∃ n : Nat, (if (if (6 : Int) < (ns.length : Int) then (6 : Int) else (ns.length : Int)) > 1 then (if (6 : Int) < (ns.length : Int) then (6 : Int) else (ns.length : Int)) else 1) = (n : Int) ∧ n ≤ 6 := by
      have h0 : 0 ≤ (if (if (6 : Int) < (ns.length : Int) then (6 : Int) else (ns.length : Int)) > 1 then (if (6 : Int) < (ns.length : Int) then (6 : Int) else (ns.length : Int)) else 1) ∧ (if (if (6 : Int) < (ns.length : Int) then (6 : Int) else (ns.length : Int)) > 1 then (if (6 : Int) < (ns.length : Int) then (6 : Int) else (ns.length : Int)) else 1) ≤ 6 := by
        constructor <;> (split <;> split <;> (first | lia | omega))
      generalize (if (if (6 : Int) < (ns.length : Int) then (6 : Int) else (ns.length : Int)) > 1 then (if (6 : Int) < (ns.length : Int) then (6 : Int) else (ns.length : Int)) else 1) = E at h0
      exact ⟨E.toNat, by (first | lia | omega), by (first | lia | omega)⟩
    refine for_wp (src := []) (xs := List.range n) (fun i => .int ((i : Nat) : Int)) (IL ns) ?_ (fun ys ρ h' _ => src0) ?_ ?_
    · simp
      rw [en]
      refine wpe (rng1_ok (by (first | lia | omega))) ?_
      exact ⟨rfl, _, _, _, _, _, _, _, _, _, rfl, rfl, fun k hk => by have := List.mem_range.mp hk; (first | lia | omega)⟩
    · rintro x xs ρ h' ⟨d1, d2, d3, d4, d5, d6, d7, d8, d9, rfl, t, hx⟩
      refine ⟨_, rfl, ?_⟩
      exact body_true hb (hx x List.mem_cons_self) t fun b2 b3 b4 b5 b6 b7 b8 b9 h2 t2 => by
        simp [kLoop]
        exact ⟨_, _, _, _, _, _, _, _, _, rfl, t2, fun k hk => hx k (List.mem_cons_of_mem _ hk)⟩
    · rintro ρ h' ⟨d1, d2, d3, d4, d5, d6, d7, d8, d9, rfl, t, hx⟩
      simp
  obtain ⟨a, h', e, rfl⟩ := Wp.ex main
  exact ⟨h', e⟩
end LK

open PySem PySem.W PyProof.Rows
set_option maxRecDepth 100000 in
set_option maxHeartbeats 0 in
theorem PySem.Challenge.cw_lineswitch_k71_nets_looked_at_holds : PySem.Challenge.rw_lineswitch_k71_nets_looked_at.Holds := by
  w_on; o_law; k_head; (case hw => w_witness2)
  k_fill
  refine LS.walk_lam' (l := PySem.Challenge.rw_lineswitch_k71_nets_looked_at) (n := 63) (k := 10) (x := "_law_script") (F := LK.F_law) rfl (by decide) rfl ⟨rfl, by decide, by decide, rfl⟩ (fun w h Y => PySem.W.km_in_of Y) (fun w h Y => PySem.W.km_tabs_of Y _ List.mem_cons_self) (fun w => by kernel_rfl) (fun w => by kernel_rfl) ?F ?S
  case S => exact LK.law_true
  case F =>
    intro w mg fa h KX G hmg
    refine' LK.all_mk KX G hmg ?htc ?a_is_whole ?l_is_whole ?c_is_whole ?k_is_whole ?a__law_cell ?l__law_cell ?c__law_cell ?k__law_cell ?a__law_mix ?l__law_mix ?c__law_mix ?k__law_mix ?a__law_take ?l__law_take ?c__law_take ?k__law_take ?a__law_kind ?l__law_kind ?c__law_kind ?k__law_kind ?a__law_net_switched ?l__law_net_switched ?c__law_net_switched ?k__law_net_switched ?a__law_is_whole ?l__law_is_whole ?c__law_is_whole ?k__law_is_whole ?a_is_between ?l_is_between ?c_is_between ?k_is_between ?a_is_lot ?l_is_lot ?c_is_lot ?k_is_lot ?a__law_box ?l__law_box ?c__law_box ?k__law_box ?a__law_wide_box ?l__law_wide_box ?c__law_wide_box ?k__law_wide_box ?a__law_lot ?l__law_lot ?c__law_lot ?k__law_lot ?a__law_no_lot ?l__law_no_lot ?c__law_no_lot ?k__law_no_lot ?a__law_no_net ?l__law_no_net ?c__law_no_net ?k__law_no_net ?a__law_is_net ?l__law_is_net ?c__law_is_net ?k__law_is_net ?a_is_light ?l_is_light ?c_is_light ?k_is_light ?a__law_net ?l__law_net ?c__law_net ?k__law_net ?a_is_tie ?l_is_tie ?c_is_tie ?k_is_tie ?a_is_net ?l_is_net ?c_is_net ?k_is_net ?a_need_net ?l_need_net ?c_need_net ?k_need_net ?a_net_switched ?l_net_switched ?c_net_switched ?k_net_switched ?a_law ?l_law ?c_law ?k_law ?a__law_said ?l__law_said ?c__law_said ?k__law_said ?et ?z_ValueError ?z_all ?z_bool ?z_divmod ?z_int ?z_isinstance ?z_len ?z_list ?z_max ?z_min ?z_range ?z_repr ?z_tuple ?z_zip ?v_MOST_PLACES
    (case a_is_whole => k_is)
    (case l_is_whole => k_is)
    (case c_is_whole => k_is)
    (case k_is_whole => k_is)
    (case a__law_cell => k_is)
    (case l__law_cell => k_is)
    (case c__law_cell => k_is)
    (case k__law_cell => k_is)
    (case a__law_mix => k_is)
    (case l__law_mix => k_is)
    (case c__law_mix => k_is)
    (case k__law_mix => k_is)
    (case a__law_take => k_is)
    (case l__law_take => k_is)
    (case c__law_take => k_is)
    (case k__law_take => k_is)
    (case a__law_kind => k_is)
    (case l__law_kind => k_is)
    (case c__law_kind => k_is)
    (case k__law_kind => k_is)
    (case a__law_net_switched => k_is)
    (case l__law_net_switched => k_is)
    (case c__law_net_switched => k_is)
    (case k__law_net_switched => k_is)
    (case a__law_is_whole => k_is)
    (case l__law_is_whole => k_is)
    (case c__law_is_whole => k_is)
    (case k__law_is_whole => k_is)
    (case a_is_between => k_is)
    (case l_is_between => k_is)
    (case c_is_between => k_is)
    (case k_is_between => k_is)
    (case a_is_lot => k_is)
    (case l_is_lot => k_is)
    (case c_is_lot => k_is)
    (case k_is_lot => k_is)
    (case a__law_box => k_is)
    (case l__law_box => k_is)
    (case c__law_box => k_is)
    (case k__law_box => k_is)
    (case a__law_wide_box => k_is)
    (case l__law_wide_box => k_is)
    (case c__law_wide_box => k_is)
    (case k__law_wide_box => k_is)
    (case a__law_lot => k_is)
    (case l__law_lot => k_is)
    (case c__law_lot => k_is)
    (case k__law_lot => k_is)
    (case a__law_no_lot => k_is)
    (case l__law_no_lot => k_is)
    (case c__law_no_lot => k_is)
    (case k__law_no_lot => k_is)
    (case a__law_no_net => k_is)
    (case l__law_no_net => k_is)
    (case c__law_no_net => k_is)
    (case k__law_no_net => k_is)
    (case a__law_is_net => k_is)
    (case l__law_is_net => k_is)
    (case c__law_is_net => k_is)
    (case k__law_is_net => k_is)
    (case a_is_light => k_is)
    (case l_is_light => k_is)
    (case c_is_light => k_is)
    (case k_is_light => k_is)
    (case a__law_net => k_is)
    (case l__law_net => k_is)
    (case c__law_net => k_is)
    (case k__law_net => k_is)
    (case a_is_tie => k_is)
    (case l_is_tie => k_is)
    (case c_is_tie => k_is)
    (case k_is_tie => k_is)
    (case a_is_net => k_is)
    (case l_is_net => k_is)
    (case c_is_net => k_is)
    (case k_is_net => k_is)
    (case a_need_net => k_is)
    (case l_need_net => k_is)
    (case c_need_net => k_is)
    (case k_need_net => k_is)
    (case a_net_switched => k_is)
    (case l_net_switched => k_is)
    (case c_net_switched => k_is)
    (case k_net_switched => k_is)
    (case a_law => k_is)
    (case l_law => k_is)
    (case c_law => k_is)
    (case k_law => k_is)
    (case a__law_said => k_is)
    (case l__law_said => k_is)
    (case c__law_said => k_is)
    (case k__law_said => k_is)
    (case et => kernel_rfl)
    (case z_ValueError => k_is)
    (case z_all => k_is)
    (case z_bool => k_is)
    (case z_divmod => k_is)
    (case z_int => k_is)
    (case z_isinstance => k_is)
    (case z_len => k_is)
    (case z_list => k_is)
    (case z_max => k_is)
    (case z_min => k_is)
    (case z_range => k_is)
    (case z_repr => k_is)
    (case z_tuple => k_is)
    (case z_zip => k_is)
    (case v_MOST_PLACES => k_is)
    (case htc => kernel_rfl)

