import PyProof.Rows.All
import Wide.All
import OpenK.AllK
import Wide.FinOn
import Lean
import PyProof.EqAt
import PyProof.EqKinds
import PyProof.TupleCall
import PyProof.ExcBaseAll.ValueError
import PyProof.ZipIter
import KE.KIsAll
import KE.KTryMore
import PyProof.ExcArgsOwn
import PyProof.ExcAttrAll.ValueError
import KE.KLam
import KE.KNestM
import PyProof.NsDelKeeps
import PyProof.Rows.CatchPack
import PyProof.ReprRoads
import PyProof.Rows.FStr
import PyProof.ListRange
import PyProof.CollectIter
import KE.KRevSl
import PySem.Challenge.RW_lineswitch_k83_halved_boards
set_option Elab.async false
set_option linter.all false
set_option maxRecDepth 100000
namespace L2
open PySem PySem.Spec PyProof.Rows
abbrev Key := Sum Int Str
end L2
namespace L2
open PySem PySem.Spec PyProof.Rows
inductive V where
  | non | bl (b : Bool) | int (i : Int) | str (x : Str) | byt (b : Array UInt8) | flt (b : UInt64) | ref (a : Addr) | ty (n : String)
  deriving DecidableEq
def RelV : V → Value → Prop
  | .non, u => u = Value.none
  | .bl b, u => u = Value.bool b
  | .int i, u => ∃ t, u = Value.int i t
  | .str x, u => ∃ t, u = Value.str x t
  | .byt b, u => ∃ t, u = Value.bytes b t
  | .flt b, u => ∃ t, u = Value.float b t
  | .ref a, u => u = Value.ref a
  | .ty n, u => u = Value.type n
abbrev Vals : List V → List Value → Prop := Paired RelV
theorem Vals.length {xs : List V} {us : List Value} (r : Vals xs us) : xs.length = us.length := Paired.length r
theorem Vals.get : ∀ {xs : List V} {us : List Value} {i : Nat} {x : V}, Vals xs us → xs[i]? = some x → ∃ u, us[i]? = some u ∧ RelV x u
  | _, _, _, _, .nil, e => by simp at e
  | _, _, 0, _, .cons r _, e => by simp at e; subst e; exact ⟨_, rfl, r⟩
  | _, _, i + 1, x, .cons _ t, e => by
    obtain ⟨u, h1, h2⟩ := Vals.get (i := i) (x := x) t (by simpa using e)
    exact ⟨u, by simpa using h1, h2⟩
theorem Vals.set {x : V} {u : Value} (r : RelV x u) : ∀ {xs : List V} {us : List Value} (i : Nat), Vals xs us → Vals (xs.set i x) (us.set i u)
  | _, _, _, .nil => .nil
  | _, _, 0, .cons _ t => .cons r t
  | _, _, i + 1, .cons q t => .cons q (Vals.set r i t)
theorem Vals.append : ∀ {xs ys : List V} {us ws : List Value}, Vals xs us → Vals ys ws → Vals (xs ++ ys) (us ++ ws)
  | _, _, _, _, .nil, s => s
  | _, _, _, _, .cons r t, s => .cons r (Vals.append t s)
theorem Vals.take : ∀ {xs : List V} {us : List Value} (n : Nat), Vals xs us → Vals (xs.take n) (us.take n)
  | _, _, 0, _ => .nil
  | _, _, _ + 1, .nil => .nil
  | _, _, n + 1, .cons r t => .cons r (Vals.take n t)
theorem Vals.drop : ∀ {xs : List V} {us : List Value} (n : Nat), Vals xs us → Vals (xs.drop n) (us.drop n)
  | _, _, 0, r => r
  | _, _, _ + 1, .nil => .nil
  | _, _, n + 1, .cons _ t => Vals.drop n t
def Ztn : Option V → Option Value → Prop
  | some v, some u => RelV v u
  | none, none => True
  | _, _ => False
def kV : Key → V
  | .inl i => .int i
  | .inr x => .str x
inductive HO where
  | lst (xs : List V)
  | tup (xs : List V)
  | own (x : Addr)
  | xd (fs : List (Str × V))
  | frz (o : Obj) (u : HO)
  | tbl (ps : Array Value)
  | ext (φ : Heap → Prop)
abbrev Hp := Addr → Option HO
def upd (H : Hp) (a : Addr) (o : HO) : Hp := fun b => if b = a then some o else H b
theorem Za0 {H : Hp} {a : Addr} {o : HO} : upd H a o a = some o := by unfold upd; rw [if_pos rfl]
theorem Zaq {H : Hp} {a b : Addr} {o : HO} (h : b ≠ a) : upd H a o b = H b := by unfold upd; rw [if_neg h]
theorem Zau {H : Hp} {a b : Addr} {o : HO} (h : H a = some o) (h' : H b = none) : a ≠ b := by
  intro e; subst e; rw [h] at h'; cases h'
section
variable (P : Program) (w : World)
inductive Zof (h : Heap) (a : Addr) (xs : List V) : Prop where
  | mk (f1 : xs.length ≤ sizeLine) (its : List Value) (n : Nat) (f2 : Vals xs its) (f3 : h.get? a = some { cls := .type "list", data := .seq its.toArray n }) : Zof h a xs
def NoDict (h : Heap) (a : Addr) : Prop := ∀ o, h.get? a = some o → o.dict = none
inductive Zog (h : Heap) (a : Addr) (xs : List V) : Prop where
  | mk (f1 : xs.length ≤ sizeLine) (its : List Value) (f2 : Vals xs its) (f3 : IsTup h a its.toArray) (f4 : NoDict h a) : Zog h a xs
theorem NoDict.new {h : Heap} {o : Obj} (hd : o.dict = none := by rfl) (hf : o.isFreed = false := by rfl) : NoDict (h.push o) h.objs.size := fun u e => by
  rw [Heap.get?_push_size _ hf] at e
  cases e
  exact hd
def ObjOk (P : Program) (w : World) (H : Hp) (h : Heap) (a : Addr) : HO → Prop
  | .lst xs => Zof h a xs
  | .tup xs => Zog h a xs
  | .own _ => ∃ o, h.get? a = some o
  | .xd fs => ∃ mA, h.Ns1 a mA ∧ ∀ f, Ztn (fs.lookup f) (mA f)
  | .frz o u => h.get? a = some o ∧ ObjOk P w H h a u
  | .tbl ps => h.get? a = some { cls := .none, data := .fields ps }
  | .ext φ => φ h ∧ (∃ o, h.get? a = some o) ∧ ∀ h1 h2 : Heap, φ h1 → (∀ o, h1.get? a = some o → h2.get? a = some o) → φ h2
def HOk (H : Hp) (h : Heap) : Prop := ∀ a o, H a = some o → ObjOk P w H h a o
end
section
variable {P : Program} {w : World} {H H' : Hp} {h h' : Heap} {a : Addr} {o : HO}
theorem ObjOk.lt (x : ObjOk P w H h a o) : a < h.objs.size := by
  cases o with
  | lst xs => obtain ⟨_, _, _, _, e⟩ := x; exact Heap.lt_size e
  | tup xs => obtain ⟨_, _, _, p, _⟩ := x; exact p.lt
  | own y => obtain ⟨_, e⟩ := x; exact Heap.lt_size e
  | xd fs => obtain ⟨_, ⟨_, _, _, e, _⟩, _⟩ := x; exact Heap.lt_size e
  | frz ob u => obtain ⟨e, _⟩ := x; exact Heap.lt_size e
  | tbl ps => exact Heap.lt_size (show h.get? a = some _ from x)
  | ext φ => obtain ⟨_, ⟨_, e⟩, _⟩ := x; exact Heap.lt_size e
theorem ObjOk.stay (x : ObjOk P w H h a o) (k : ∀ b u, (b = a ∨ H b = some (.own a)) → h.get? b = some u → h'.get? b = some u)
    (ho : ∀ b, H b = some (.own a) → H' b = some (.own a)) (ht : ∀ b xs, H b = some (.tup xs) → H' b = some (.tup xs)) : ObjOk P w H' h' a o := by
  induction o with
  | lst xs => obtain ⟨z, its, n, r, e⟩ := x; exact ⟨z, its, n, r, k _ _ (.inl rfl) e⟩
  | tup xs => obtain ⟨z, its, r, ⟨ob, e, c⟩, nd⟩ := x; exact ⟨z, its, r, ⟨ob, k _ _ (.inl rfl) e, c⟩, fun o e2 => by rw [k _ _ (.inl rfl) e] at e2; cases e2; exact nd _ e⟩
  | own y => obtain ⟨ob, e⟩ := x; exact ⟨ob, k _ _ (.inl rfl) e⟩
  | xd fs => obtain ⟨mA, ⟨od, es, ep, e, c⟩, r⟩ := x; exact ⟨mA, ⟨od, es, ep, k _ _ (.inl rfl) e, c⟩, r⟩
  | frz ob u ih => obtain ⟨e, q⟩ := x; exact ⟨k _ _ (.inl rfl) e, ih q⟩
  | tbl ps =>
    have e : h.get? a = some { cls := .none, data := .fields ps } := x
    show h'.get? a = some { cls := .none, data := .fields ps }
    exact k a _ (.inl rfl) e
  | ext φ => obtain ⟨p, ⟨o, e⟩, st⟩ := x; exact ⟨st _ _ p fun o q => k _ _ (.inl rfl) q, ⟨o, k _ _ (.inl rfl) e⟩, st⟩
theorem HOk.lt (x : HOk P w H h) (e : H a = some o) : a < h.objs.size := (x a o e).lt
theorem HOk.fresh (x : HOk P w H h) (e : h.objs.size ≤ a) : H a = none := by
  cases q : H a with
  | none => rfl
  | some u => exact absurd (Nat.lt_of_lt_of_le (x.lt q) e) (Nat.lt_irrefl _)
theorem HOk.kept (x : HOk P w H h) (k : ∀ b u, h.get? b = some u → h'.get? b = some u) : HOk P w H h' := fun a o e =>
  (x a o e).stay (fun b u _ q => k b u q) (fun _ q => q) fun _ _ q => q
theorem HOk.laid (x : HOk P w H h) (k : ∀ b u, h.get? b = some u → h'.get? b = some u) (hp : h.objs.size ≤ a) (new : ObjOk P w (upd H a o) h' a o) : HOk P w (upd H a o) h' := fun b u e => by
  have hn := x.fresh hp
  by_cases hb : b = a
  · subst hb; rw [Za0] at e; cases e; exact new
  · rw [Zaq hb] at e
    exact (x b u e).stay (fun c v _ q => k c v q) (fun c q => by rw [Zaq (Zau q hn)]; exact q) fun c xs q => by rw [Zaq (Zau q hn)]; exact q
end
def Rd (H : Hp) (a : Addr) (u : HO) : Prop := H a = some u ∨ ∃ o, H a = some (.frz o u)
theorem Rd.ok {P : Program} {w : World} {H : Hp} {h : Heap} {a : Addr} {u : HO} (r : Rd H a u) (x : HOk P w H h) : ObjOk P w H h a u := by
  rcases r with r | ⟨o, r⟩
  · exact x a u r
  · obtain ⟨_, q⟩ := x a _ r
    exact q
def Mut : Option HO → Prop
  | some (.lst _) => True
  | some (.ext _) => True
  | _ => False
section
variable {P : Program} {w : World} {H : Hp} {h h' : Heap} {x e : Addr} {o' : HO}
theorem HOk.write (ok : HOk P w H h) (mu : Mut (H x)) (he : e = x ∨ H e = some (.own x)) (k : ∀ b u, b ≠ e → h.get? b = some u → h'.get? b = some u) (heo : ∃ u, h'.get? e = some u)
    (new : ObjOk P w (upd H x o') h' x o') : HOk P w (upd H x o') h' := fun b u q => by
  have nown : ∀ c y, H c = some (.own y) → c ≠ x := fun c y r z => by subst z; rw [r] at mu; exact mu
  have ntup : ∀ c xs, H c = some (.tup xs) → c ≠ x := fun c xs r z => by subst z; rw [r] at mu; exact mu
  by_cases hb : b = x
  · subst hb; rw [Za0] at q; cases q; exact new
  · rw [Zaq hb] at q
    by_cases hbe : b = e
    · have q' : H b = some (.own x) := by
        rcases he with z | z
        · exact absurd (hbe.trans z) hb
        · rw [hbe]; exact z
      rw [q] at q'; cases q'
      obtain ⟨v, hv⟩ := heo
      exact ⟨v, by rw [hbe]; exact hv⟩
    · refine (ok b u q).stay (fun c v hc r => k c v ?_ r) (fun c r => by rw [Zaq (nown c b r)]; exact r) fun c xs r => by rw [Zaq (ntup c xs r)]; exact r
      rcases hc with rfl | hc
      · exact hbe
      · rintro rfl
        rcases he with z | z
        · exact nown c b hc z
        · rw [hc] at z; cases z; exact hb rfl
end
structure Un (fs ex : List Addr) (H H' : Hp) (h h' : Heap) : Prop where
  keep : ∀ b o, h.get? b = some o → H b = none → b ∉ fs → b ∉ ex → h'.get? b = some o
  slot : ∀ b o, h.get? b = some o → H b = none → b ∈ fs → b ∉ ex → ∃ sl, h'.get? b = some { o with slots := sl }
  free : ∀ b o, h.get? b = some o → H b = none → b ∉ ex → H' b = none
  there : ∀ b o, h.get? b = some o → b ∉ ex → ∃ o', h'.get? b = some o'
  tups : ∀ b xs, H b = some (.tup xs) → H' b = some (.tup xs)
  frzs : ∀ b o u, H b = some (.frz o u) → H' b = some (.frz o u)
  tbls : ∀ b ps, H b = some (.tbl ps) → ∃ more, H' b = some (.tbl (ps ++ more))
section
variable {fs fs' ex ex' : List Addr} {H H1 H2 : Hp} {h h1 h2 h' : Heap} {a x e : Addr} {o : HO}
theorem Un.any (u : Un fs ex H H1 h h1) {b : Addr} {ob : Obj} (q : h.get? b = some ob) (n : H b = none) (hx : b ∉ ex) : ∃ sl, h1.get? b = some { ob with slots := sl } := by
  by_cases hb : b ∈ fs
  · exact u.slot b ob q n hb hx
  · exact ⟨ob.slots, u.keep b ob q n hb hx⟩
theorem Un.kept (k : ∀ b u, h.get? b = some u → h'.get? b = some u) : Un fs ex H H h h' :=
  ⟨fun b ob q _ _ _ => k b ob q, fun b ob q _ _ _ => ⟨ob.slots, k b ob q⟩, fun _ _ _ n _ => n, fun b ob q _ => ⟨ob, k b ob q⟩, fun _ _ q => q, fun _ _ _ q => q, fun _ ps q => ⟨#[], by rw [q]; simp⟩⟩
theorem Un.refl : Un fs ex H H h h := Un.kept fun _ _ q => q
theorem Un.laid (k : ∀ b u, h.get? b = some u → h'.get? b = some u) (hp : h.objs.size ≤ a) (hn : H a = none) : Un fs ex H (upd H a o) h h' where
  keep := fun b u q _ _ _ => k b u q
  slot := fun b u q _ _ _ => ⟨u.slots, k b u q⟩
  free := fun b u q n _ => by rw [Zaq (Nat.ne_of_lt (Nat.lt_of_lt_of_le (Heap.lt_size q) hp))]; exact n
  there := fun b u q _ => ⟨u, k b u q⟩
  tups := fun b xs q => by rw [Zaq (Zau q hn)]; exact q
  frzs := fun b u xs q => by rw [Zaq (Zau q hn)]; exact q
  tbls := fun b ps q => ⟨#[], by rw [Zaq (Zau q hn), q]; simp⟩
theorem Un.write (mu : Mut (H x)) (he : e = x ∨ H e = some (.own x)) (k : ∀ b u, b ≠ e → h.get? b = some u → h'.get? b = some u) (heo : ∃ u, h'.get? e = some u) : Un fs ex H (upd H x o) h h' := by
  have hx : ∀ b, H b = none → b ≠ x := fun b n z => by subst z; rw [n] at mu; exact mu
  have hb : ∀ b, H b = none → b ≠ e := fun b n z => by
    subst z
    rcases he with r | r
    · exact hx b n r
    · rw [n] at r; cases r
  have hm : ∀ b u, H b = some u → ¬ Mut (some u) → b ≠ x := fun b u q nm z => by subst z; rw [q] at mu; exact nm mu
  refine ⟨fun b u q n _ _ => k b u (hb b n) q, fun b u q n _ _ => ⟨u.slots, k b u (hb b n) q⟩, fun b u q n _ => by rw [Zaq (hx b n)]; exact n, fun b u q _ => ?_,
    fun b xs q => by rw [Zaq (hm b _ q fun z => z)]; exact q, fun b u xs q => by rw [Zaq (hm b _ q fun z => z)]; exact q, fun b ps q => ⟨#[], by rw [Zaq (hm b _ q fun z => z), q]; simp⟩⟩
  by_cases hbe : b = e
  · subst hbe; exact heo
  · exact ⟨u, k b u hbe q⟩
end
def trk (h : Heap) (H : Hp) : List Addr := (List.range h.objs.size).filter fun a => (H a).isSome
def ZkY (h : Heap) (H : Hp) : Heap := PySem.W.hideAll h (trk h H)
theorem Zjh (h : Heap) (H : Hp) : (ZkY h H).objs.size = h.objs.size := PySem.W.hideAll_size _ _
theorem Zk1 {h : Heap} {H : Hp} {b : Addr} {o : Obj} (e : h.get? b = some o) (n : H b = none) : (ZkY h H).get? b = some o :=
  PySem.W.hideAll_get _ e fun hm => by
    have q : (H b).isSome = true := (List.mem_filter.mp hm).2
    rw [n] at q; simp at q
theorem ZmB {h : Heap} {H : Hp} {b : Addr} {o : Obj} (e : (ZkY h H).get? b = some o) : h.get? b = some o ∧ H b = none := by
  have e' : h.get? b = some o := PySem.W.of_hideAll (trk h H) e
  refine ⟨e', ?_⟩
  cases q : H b with
  | none => rfl
  | some x =>
    have hm : b ∈ trk h H := List.mem_filter.mpr ⟨List.mem_range.mpr (Heap.lt_size e'), by simp [q]⟩
    have z : (ZkY h H).get? b = none := PySem.W.hideAll_none (trk h H) hm
    rw [z] at e; cases e
def ZmC (g h : Heap) (L : Addr) : List (Addr × Obj) := (List.range h.objs.size).filterMap fun a => if a = L ∨ (g.get? a).isSome = true then none else (h.get? a).map fun o => (a, o)
def rest (g h : Heap) (L d : Addr) : List (Addr × Obj) := (ZmC g h L).filter fun p => decide (p.1 ≠ d)
end L2
namespace L2
open PySem PySem.Spec PyProof.Rows
structure Mod (K : PySem.W.Frag) (mg : Str → Option Value) (base : Heap) : Prop where
  kin : K.In base
  glob : base.Ns mainGlobals mg
  blt : ∃ mb, base.Ns builtinsNs mb ∧ ∀ x : Str, x ≠ "__name__" → mb x = bootBuiltins x
  nolimit : base.NoLimit
structure Cx where
  prog : Program
  w : World
  K : PySem.W.Frag
  mg : Str → Option Value
  base : Heap
  A : Around
  N : List Str
  s₀ : Shared
  H₀ : Hp
  env : Env
  outer : List Env
  stack : List Env
  ex : List Addr
  fn : Str → Bool
  calm : Bool
  pn : List (Addr × Obj)
  xe : Value → Shared → Prop
def frs (l : List Env) : List Addr := l.filterMap (·.frame)
abbrev Cx.fs (X : Cx) : List Addr := frs X.outer
def Vis (sc : Scope) (x : Str) : Prop := sc.names.lookup x = some .local ∨ sc.names.lookup x = some .cell ∨ sc.names.lookup x = some .free
def Loc (sc : Scope) (x : Str) : Prop := sc.names.lookup x = some .local ∨ sc.names.lookup x = some .cell
def Zse (env : Env) (h : Heap) (m : Str → Option Value) (x : Str) (u : Value) : Prop :=
  (env.kindOf x = some .local ∧ m x = some u) ∨ ((env.kindOf x = some .cell ∨ env.kindOf x = some .free) ∧ ∃ c, env.cells.lookup x = some c ∧ h.IsCell c (some u))
structure Cx.Ok (X : Cx) : Prop where
  mod : Mod X.K X.mg X.base
  kind : X.env.scope.kind = .function
  glob : X.env.globals = mainGlobals
  blt : X.env.builtins = builtinsNs
  above : X.s₀.heap.objs.size ≤ X.env.locals
  inj : ∀ x y c, X.env.cells.lookup x = some c → X.env.cells.lookup y = some c → x = y
  has : ∀ x, (X.env.kindOf x = some .cell ∨ X.env.kindOf x = some .free) → ∃ c, X.env.cells.lookup x = some c
  cab : ∀ x c, X.fn x = true → X.env.cells.lookup x = some c → X.s₀.heap.objs.size ≤ c
  hd : X.calm = true → X.A.handled = none
  frames : X.A.frames = some X.stack
  stk : X.stack = X.outer ∨ (X.stack = X.env :: X.outer ∧ X.env.frame = some X.env.locals)
  exf : ∀ b ∈ X.ex, b ≠ X.env.locals ∧ ∀ x c, X.env.cells.lookup x = some c → c ≠ b
  bs : ∀ b o, X.base.get? b = some o → X.s₀.heap.get? b = some o ∧ X.H₀ b = none
  bsz : X.base.objs.size ≤ X.s₀.heap.objs.size
  noex : ∀ b o, X.base.get? b = some o → b ∉ X.ex
  exfs : ∀ b ∈ X.ex, b ∉ X.fs
  funs : X.s₀.heap.FunFrames X.base X.outer
  frf : ∀ b ∈ X.fs, X.H₀ b = none
structure Inv (X : Cx) (pins : List (Addr × Obj)) (σ : List (Option V)) (H : Hp) (s : Shared) : Prop where
  ok : X.Ok
  os : s.os = X.s₀.os
  bare : AllBare s.gens
  base : Un X.fs X.ex X.H₀ H X.s₀.heap s.heap
  loc : ∃ m, s.heap.Ns X.env.locals m ∧ ∀ (i : Nat) (x : Str) (v : V), X.N[i]? = some x → σ[i]? = some (some v) → Vis X.env.scope x → ∃ u, RelV v u ∧ Zse X.env s.heap m x u
  cell : ∀ x c, X.env.cells.lookup x = some c → ∃ v, s.heap.IsCell c v
  free : H X.env.locals = none
  freeC : ∀ x c, X.env.cells.lookup x = some c → H c = none
  pin : ∀ p ∈ X.pn ++ pins, s.heap.get? p.1 = some p.2 ∧ H p.1 = none ∧ p.1 ≠ X.env.locals ∧ p.1 ∉ X.fs ∧ ∀ v, p.2.data ≠ .cell v
  hok : HOk X.prog X.w H s.heap
  len : σ.length = X.N.length
section
variable {X : Cx} {pins : List (Addr × Obj)} {σ : List (Option V)} {H H' : Hp} {s : Shared} {h' : Heap}
theorem Cx.Ok.nofr (ok : X.Ok) {b : Addr} {o : Obj} (e : X.base.get? b = some o) : b ∉ X.fs := fun hb => by
  have := (ok.funs.mem hb).1
  rw [e] at this; cases this
theorem Inv.bs (I : Inv X pins σ H s) : ∀ b o, X.base.get? b = some o → s.heap.get? b = some o ∧ H b = none := fun b o e =>
  ⟨I.base.keep b o (I.ok.bs b o e).1 (I.ok.bs b o e).2 (I.ok.nofr e) (I.ok.noex b o e), I.base.free b o (I.ok.bs b o e).1 (I.ok.bs b o e).2 (I.ok.noex b o e)⟩
theorem Inv.bk (I : Inv X pins σ H s) : ∀ b o, X.base.get? b = some o → s.heap.get? b = some o := fun b o e => (I.bs b o e).1
theorem Inv.mod (I : Inv X pins σ H s) : Mod X.K X.mg X.base := I.ok.mod
theorem Inv.kIn (I : Inv X pins σ H s) : X.K.In s.heap := I.ok.mod.kin.keeps I.bk
theorem Inv.nolimit (I : Inv X pins σ H s) : s.heap.NoLimit := I.ok.mod.nolimit.keeps I.bk
theorem Inv.lt (I : Inv X pins σ H s) : X.env.locals < s.heap.objs.size := let ⟨_, hn, _⟩ := I.loc; hn.lt
theorem Inv.sz (I : Inv X pins σ H s) : X.s₀.heap.objs.size ≤ s.heap.objs.size := Nat.le_trans I.ok.above (Nat.le_of_lt I.lt)
theorem Inv.nofs (I : Inv X pins σ H s) {a : Addr} (h : s.heap.objs.size ≤ a) : a ∉ X.fs := fun hb => by
  obtain ⟨_, o, ho, _⟩ := I.ok.funs.mem hb
  exact absurd (Nat.lt_of_lt_of_le (Heap.lt_size ho) (Nat.le_trans I.sz h)) (Nat.lt_irrefl _)
theorem Inv.cne (I : Inv X pins σ H s) : ∀ x c, X.env.cells.lookup x = some c → c ≠ X.env.locals := fun x c e z => by
  obtain ⟨v, o, ho, hd⟩ := I.cell x c e
  obtain ⟨m, ⟨o', es, ep, ho', hd', _⟩, _⟩ := I.loc
  rw [z, ho'] at ho; cases ho; rw [hd'] at hd; cases hd
theorem Inv.funs (I : Inv X pins σ H s) : s.heap.FunFrames X.base X.outer := by
  have all : ∀ (l : List Env), (∀ b ∈ frs l, b ∈ X.fs) → X.s₀.heap.FunFrames X.base l → s.heap.FunFrames X.base l := by
    intro l
    induction l with
    | nil => intro _ _; trivial
    | cons env r ih =>
      intro hs hl
      obtain ⟨hk, ⟨L, o, hf, hn, ho, hd⟩, hr⟩ := hl
      have hL : L ∈ X.fs := hs L (by unfold frs; rw [List.filterMap_cons, hf]; exact List.mem_cons_self)
      obtain ⟨sl, e⟩ := I.base.slot L o ho (I.ok.frf L hL) hL fun z => I.ok.exfs L z hL
      exact ⟨hk, ⟨L, _, hf, hn, e, hd⟩, ih (fun b hb => hs b (by unfold frs; rw [List.filterMap_cons, hf]; exact List.mem_cons_of_mem _ hb)) hr⟩
  exact all X.outer (fun _ hb => hb) I.ok.funs
theorem Inv.stack (I : Inv X pins σ H s) : s.heap.FunFrames X.base X.stack := by
  rcases I.ok.stk with e | ⟨e, hf⟩
  · rw [e]; exact I.funs
  · rw [e]
    obtain ⟨m, hn, _⟩ := I.loc
    refine .cons (by rw [I.ok.kind]; decide) hf hn ?_ I.funs
    exact Heap.get?_none_of_le (Nat.le_trans I.ok.bsz I.ok.above)
theorem Inv.stkSub (I : Inv X pins σ H s) : ∀ b ∈ frs X.stack, b ∈ X.env.locals :: X.fs := fun b hb => by
  rcases I.ok.stk with e | ⟨e, hf⟩
  · rw [e] at hb; exact List.mem_cons_of_mem _ hb
  · rw [e] at hb
    unfold frs at hb
    rw [List.filterMap_cons, hf] at hb
    exact hb
theorem Inv.stkFree (I : Inv X pins σ H s) : ∀ b ∈ frs X.stack, H b = none := fun b hb => by
  rcases List.mem_cons.mp (I.stkSub b hb) with e | hb
  · rw [e]; exact I.free
  · obtain ⟨_, o, ho, _⟩ := I.ok.funs.mem hb
    exact I.base.free b o ho (I.ok.frf b hb) fun z => I.ok.exfs b z hb
theorem Inv.step {g' : Array GenState} {t' : Nat} {d' : Drawn} {ch : List Addr} (I : Inv X pins σ H s)
    (hch : ∀ b ∈ ch, (b ∈ X.ex ∨ X.s₀.heap.objs.size ≤ b) ∧ b ≠ X.env.locals ∧ (∀ x c, X.env.cells.lookup x = some c → c ≠ b) ∧ ∀ p ∈ X.pn ++ pins, p.1 ≠ b)
    (keep : ∀ b o, b ≠ X.env.locals → b ∉ X.fs → b ∉ ch → s.heap.get? b = some o → H b = none → h'.get? b = some o)
    (slot : ∀ b o, b ≠ X.env.locals → b ∈ X.fs → b ∉ ch → s.heap.get? b = some o → H b = none → ∃ sl, h'.get? b = some { o with slots := sl }) (free : ∀ b o, b ∉ ch → s.heap.get? b = some o → H b = none → H' b = none)
    (there : ∀ b o, b ∉ ch → s.heap.get? b = some o → ∃ o', h'.get? b = some o')
    (tups : ∀ b xs, H b = some (.tup xs) → H' b = some (.tup xs)) (frzs : ∀ b o u, H b = some (.frz o u) → H' b = some (.frz o u)) (tbls : ∀ b ps, H b = some (.tbl ps) → ∃ more, H' b = some (.tbl (ps ++ more)))
    (ns : ∀ m, s.heap.Ns X.env.locals m → h'.Ns X.env.locals m) (hok : HOk X.prog X.w H' h') (hg : AllBare g') :
    Inv X pins σ H' { s with heap := h', gens := g', drawn := d', toks := t' } := by
  have neL : ∀ b o, X.s₀.heap.get? b = some o → b ≠ X.env.locals := fun b o e => Nat.ne_of_lt (Nat.lt_of_lt_of_le (Heap.lt_size e) I.ok.above)
  have neC : ∀ b o, X.s₀.heap.get? b = some o → b ∉ X.ex → b ∉ ch := fun b o e hx hb => by
    rcases (hch b hb).1 with z | z
    · exact hx z
    · exact absurd (Nat.lt_of_lt_of_le (Heap.lt_size e) z) (Nat.lt_irrefl _)
  have cellK : ∀ x c, X.env.cells.lookup x = some c → ∀ v, s.heap.IsCell c v → h'.IsCell c v := fun x c e v z1_ => by
    obtain ⟨o, ho, hd⟩ := z1_
    have nch : c ∉ ch := fun z => (hch c z).2.2.1 x c e rfl
    by_cases hc : c ∈ X.fs
    · obtain ⟨sl, q⟩ := slot c o (I.cne x c e) hc nch ho (I.freeC x c e)
      exact ⟨_, q, hd⟩
    · exact ⟨o, keep c o (I.cne x c e) hc nch ho (I.freeC x c e), hd⟩
  refine ⟨I.ok, I.os, hg, ⟨fun b o e n hb hx => ?_, fun b o e n hb hx => ?_, fun b o e n hx => ?_, fun b o e hx => ?_, fun b xs e => tups b xs (I.base.tups b xs e), fun b o xs e => frzs b o xs (I.base.frzs b o xs e), fun b ps e => ?_⟩, ?_, fun x c e => ?_, ?_, fun x c e => ?_, fun p hp => ?_, hok, I.len⟩
  · exact keep b o (neL b o e) hb (neC b o e hx) (I.base.keep b o e n hb hx) (I.base.free b o e n hx)
  · obtain ⟨sl, e1⟩ := I.base.slot b o e n hb hx
    obtain ⟨sl', e2⟩ := slot b _ (neL b o e) hb (neC b o e hx) e1 (I.base.free b o e n hx)
    exact ⟨sl', e2⟩
  · obtain ⟨o', e1⟩ := I.base.there b o e hx
    exact free b o' (neC b o e hx) e1 (I.base.free b o e n hx)
  · obtain ⟨o', e1⟩ := I.base.there b o e hx
    exact there b o' (neC b o e hx) e1
  · obtain ⟨m1, e1⟩ := I.base.tbls b ps e
    obtain ⟨m2, e2⟩ := tbls b _ e1
    exact ⟨m1 ++ m2, by rw [e2, Array.append_assoc]⟩
  · obtain ⟨m, hn, hl⟩ := I.loc
    refine ⟨m, ns m hn, fun i x v e1 e2 e3 => ?_⟩
    obtain ⟨u, r, l⟩ := hl i x v e1 e2 e3
    refine ⟨u, r, ?_⟩
    rcases l with l | ⟨k, c, e, z⟩
    · exact .inl l
    · exact .inr ⟨k, c, e, cellK x c e _ z⟩
  · obtain ⟨v, z⟩ := I.cell x c e
    exact ⟨v, cellK x c e v z⟩
  · obtain ⟨m, ⟨o, _, _, ho, _⟩, _⟩ := I.loc
    exact free _ o (fun z => (hch _ z).2.1 rfl) ho I.free
  · obtain ⟨v, o, ho, hd⟩ := I.cell x c e
    exact free c o (fun z => (hch c z).2.2.1 x c e rfl) ho (I.freeC x c e)
  · obtain ⟨e, n, ne, nf, d⟩ := I.pin p hp
    have nch : p.1 ∉ ch := fun z => (hch p.1 z).2.2.2 p hp rfl
    exact ⟨keep p.1 p.2 ne nf nch e n, free p.1 p.2 nch e n, ne, nf, d⟩
theorem Inv.un {t' : Nat} (I : Inv X pins σ H s) (u : Un X.fs [] H H' s.heap h') (hok : HOk X.prog X.w H' h') : Inv X pins σ H' { s with heap := h', toks := t' } := by
  obtain ⟨m, ⟨o, es, ep, ho, r⟩, _⟩ := id I.loc
  obtain ⟨sl, hL⟩ := u.any ho I.free (by simp)
  exact I.step (g' := s.gens) (d' := s.drawn) (ch := []) (fun _ z => nomatch z) (fun b o _ hb _ e n => u.keep b o e n hb (by simp)) (fun b o _ hb _ e n => u.slot b o e n hb (by simp)) (fun b o _ e n => u.free b o e n (by simp)) (fun b o _ e => u.there b o e (by simp)) u.tups u.frzs u.tbls (fun m' hm => by
    obtain ⟨o', es', ep', ho', r'⟩ := hm
    rw [ho] at ho'; cases ho'
    exact ⟨_, es', ep', hL, r'⟩) hok I.bare
theorem Inv.call {g' : Array GenState} {t' : Nat} {d' : Drawn} {ch : List Addr} (I : Inv X pins σ H s) (u : Un (frs X.stack) ch H H' s.heap h') (hok : HOk X.prog X.w H' h') (hg : AllBare g')
    (hch : ∀ b ∈ ch, (b ∈ X.ex ∨ X.s₀.heap.objs.size ≤ b) ∧ b ≠ X.env.locals ∧ (∀ x c, X.env.cells.lookup x = some c → c ≠ b) ∧ ∀ p ∈ X.pn ++ pins, p.1 ≠ b) :
    Inv X pins σ H' { s with heap := h', gens := g', drawn := d', toks := t' } := by
  obtain ⟨m, ⟨o, es, ep, ho, r⟩, _⟩ := id I.loc
  obtain ⟨sl, hL⟩ := u.any ho I.free fun z => (hch _ z).2.1 rfl
  exact I.step (ch := ch) hch (fun b o hL hb hc e n => u.keep b o e n (fun z => (List.mem_cons.mp (I.stkSub b z)).elim hL hb) hc) (fun b o _ _ hc e n => u.any e n hc) (fun b o hc e n => u.free b o e n hc) (fun b o hc e => u.there b o e hc) u.tups u.frzs u.tbls (fun m' hm => by
    obtain ⟨o', es', ep', ho', r'⟩ := hm
    rw [ho] at ho'; cases ho'
    exact ⟨_, es', ep', hL, r'⟩) hok hg
theorem Inv.turned {t' : Nat} {it : Addr} (I : Inv X pins σ H s) (k : ∀ b o, b ≠ it → s.heap.get? b = some o → h'.get? b = some o) (hn : H it = none) (hL : it ≠ X.env.locals)
    (h1 : it ∈ X.ex ∨ X.s₀.heap.objs.size ≤ it) (h2 : ∀ x c, X.env.cells.lookup x = some c → c ≠ it) (h3 : ∀ p ∈ X.pn ++ pins, p.1 ≠ it) : Inv X pins σ H { s with heap := h', toks := t' } := by
  have nit : ∀ b u, H b = some u → b ≠ it := fun b u e z => by rw [z, hn] at e; cases e
  refine I.step (g' := s.gens) (d' := s.drawn) (ch := [it]) (fun b hb => ?_) (fun b o _ _ hc e _ => k b o (fun z => hc (by simp [z])) e) (fun b o _ _ hc e _ => ⟨o.slots, k b o (fun z => hc (by simp [z])) e⟩) (fun _ _ _ _ n => n)
    (fun b o hc e => ⟨o, k b o (fun z => hc (by simp [z])) e⟩) (fun _ _ e => e) (fun _ _ _ e => e) (fun b ps e => ⟨#[], by rw [e]; simp⟩) (fun m hm => ?_) (fun b u e => ?_) I.bare
  · have e : b = it := by simpa using hb
    subst e
    exact ⟨h1, hL, h2, h3⟩
  · obtain ⟨o, es, ep, ho, r⟩ := hm
    exact ⟨o, es, ep, k _ o (Ne.symm hL) ho, r⟩
  · refine (I.hok b u e).stay (fun c v hc q => k c v ?_ q) (fun _ q => q) fun _ _ q => q
    rcases hc with z | z
    · rw [z]; exact nit b u e
    · exact nit c _ z
theorem Inv.tok (I : Inv X pins σ H s) (t : Nat) : Inv X pins σ H { s with toks := t } := I.un (h' := s.heap) (t' := t) Un.refl I.hok
theorem Inv.kept {t' : Nat} (I : Inv X pins σ H s) (k : ∀ b u, s.heap.get? b = some u → h'.get? b = some u) : Inv X pins σ H { s with heap := h', toks := t' } := I.un (Un.kept k) (I.hok.kept k)
theorem Inv.laid {a : Addr} {o : HO} {t' : Nat} (I : Inv X pins σ H s) (k : ∀ b u, s.heap.get? b = some u → h'.get? b = some u) (hp : s.heap.objs.size ≤ a) (new : ObjOk X.prog X.w (upd H a o) h' a o) :
    Inv X pins σ (upd H a o) { s with heap := h', toks := t' } := I.un (Un.laid k hp (I.hok.fresh hp)) (I.hok.laid k hp new)
theorem Inv.write {x e : Addr} {o : HO} {t' : Nat} (I : Inv X pins σ H s) (mu : Mut (H x)) (he : e = x ∨ H e = some (.own x)) (k : ∀ b u, b ≠ e → s.heap.get? b = some u → h'.get? b = some u) (heo : ∃ u, h'.get? e = some u)
    (new : ObjOk X.prog X.w (upd H x o) h' x o) : Inv X pins σ (upd H x o) { s with heap := h', toks := t' } := I.un (Un.write mu he k heo) (I.hok.write mu he k heo new)
theorem Inv.weak {σ' : List (Option V)} (I : Inv X pins σ H s) (hl : σ'.length = σ.length) (w : ∀ (i : Nat) v, σ'[i]? = some (some v) → σ[i]? = some (some v)) : Inv X pins σ' H s :=
  ⟨I.ok, I.os, I.bare, I.base, let ⟨m, hn, hl'⟩ := I.loc; ⟨m, hn, fun i x v e1 e2 e3 => hl' i x v e1 (w i v e2) e3⟩, I.cell, I.free, I.freeC, I.pin, I.hok, hl.trans I.len⟩
theorem Inv.pins_of {pins' : List (Addr × Obj)} (I : Inv X pins σ H s) (h : ∀ p ∈ pins', s.heap.get? p.1 = some p.2 ∧ H p.1 = none ∧ p.1 ≠ X.env.locals ∧ p.1 ∉ X.fs ∧ ∀ v, p.2.data ≠ .cell v) : Inv X pins' σ H s :=
  ⟨I.ok, I.os, I.bare, I.base, I.loc, I.cell, I.free, I.freeC, fun p hp => (List.mem_append.mp hp).elim (fun z => I.pin p (List.mem_append_left _ z)) (h p), I.hok, I.len⟩
theorem ZfT {N : List Str} (hN : N.Nodup) {i j : Nat} {x : Str} (a : N[i]? = some x) (b : N[j]? = some x) : i = j := by
  obtain ⟨h1, e1⟩ := List.getElem?_eq_some_iff.mp a
  obtain ⟨h2, e2⟩ := List.getElem?_eq_some_iff.mp b
  exact (List.getElem_inj hN).mp (e1.trans e2.symm)
theorem Zdv {M : Model} {A : Around} {E : Value → Shared → Prop} {i : Nat} {x : Str} {v : V} {u : Value} {Q : Unit → Shared → Prop} (I : Inv X pins σ H s) (hN : X.N.Nodup) (hi : X.N[i]? = some x) (hx : Loc X.env.scope x) (r : RelV v u)
    (h : ∀ s', Inv X pins (σ.set i (some v)) H s' → (∃ a, Heap.SameBut a s.heap s'.heap ∧ (a = X.env.locals ∨ X.env.cells.lookup x = some a)) → Q () s') (hf : X.fn x = true ∨ X.env.scope.names.lookup x = some .local := by first | exact .inl rfl | exact .inr rfl | assumption) : wpAny M A (storeName X.env x u) Q E s := by
  obtain ⟨m, hn, hl⟩ := id I.loc
  have hcls : (X.env.scope.kind == .class || (X.env.scope.kind == .module && X.env.locals != X.env.globals)) = false := by rw [I.ok.kind]; rfl
  have hiσ : i < σ.length := by rw [I.len]; exact (List.getElem?_eq_some_iff.mp hi).1
  have cne := I.cne
  have tracked : ∀ {a : Addr} {h' : Heap}, (∃ o, s.heap.get? a = some o ∧ H a = none) → Heap.SameBut a s.heap h' → HOk X.prog X.w H h' := fun {a h'} ha hs b ob e => by
    obtain ⟨_, _, hfree⟩ := ha
    refine (I.hok b ob e).stay (fun c w' hc q => (hs.2 c ?_).trans q) (fun _ q => q) fun _ _ q => q
    rintro rfl
    rcases hc with rfl | hc
    · rw [hfree] at e; cases e
    · rw [hfree] at hc; cases hc
  rcases hx with hk | hk
  · refine wpAny_storeName_local hk hn (fun h' hn' hs => ?_) hcls
    obtain ⟨oL, _, _, hoL, _⟩ := id hn
    refine h _ ⟨I.ok, I.os, I.bare, ⟨fun b o e n hb hx => ?_, fun b o e n hb hx => ?_, I.base.free, fun b o e hx => ?_, I.base.tups, I.base.frzs, I.base.tbls⟩, ⟨_, hn', fun j y v' e1 e2 e3 => ?_⟩, fun y c e => ?_, I.free, I.freeC, fun p hp => ?_, tracked ⟨oL, hoL, I.free⟩ hs, by simpa using I.len⟩ ⟨_, hs, .inl rfl⟩
    · exact (hs.2 b (Nat.ne_of_lt (Nat.lt_of_lt_of_le (Heap.lt_size e) I.ok.above))).trans (I.base.keep b o e n hb hx)
    · obtain ⟨sl, e1⟩ := I.base.slot b o e n hb hx
      exact ⟨sl, (hs.2 b (Nat.ne_of_lt (Nat.lt_of_lt_of_le (Heap.lt_size e) I.ok.above))).trans e1⟩
    · obtain ⟨o', e1⟩ := I.base.there b o e hx
      exact ⟨o', (hs.2 b (Nat.ne_of_lt (Nat.lt_of_lt_of_le (Heap.lt_size e) I.ok.above))).trans e1⟩
    · by_cases hj : j = i
      · subst hj
        rw [hi] at e1; cases e1
        rw [List.getElem?_set_self hiσ] at e2
        cases e2
        exact ⟨u, r, .inl ⟨hk, by simp⟩⟩
      · rw [List.getElem?_set_ne (Ne.symm hj)] at e2
        obtain ⟨u', r', q⟩ := hl j y v' e1 e2 e3
        refine ⟨u', r', ?_⟩
        rcases q with ⟨k, e⟩ | ⟨k, c, e, z⟩
        · refine .inl ⟨k, ?_⟩
          have : y ≠ x := fun e => hj (ZfT hN e1 (e ▸ hi))
          simp [this, e]
        · exact .inr ⟨k, c, e, z.sameBut hs (cne y c e)⟩
    · obtain ⟨w', z⟩ := I.cell y c e
      exact ⟨w', z.sameBut hs (cne y c e)⟩
    · obtain ⟨e, n, ne, nf, d⟩ := I.pin p hp
      exact ⟨(hs.2 p.1 ne).trans e, n, ne, nf, d⟩
  · have hfn : X.fn x = true := by
      rcases hf with z | z
      · exact z
      · rw [z] at hk; cases hk
    obtain ⟨c, hc⟩ := I.ok.has x (.inl hk)
    obtain ⟨w', z⟩ := I.cell x c hc
    refine wpAny_storeName_cell I.ok.kind hk hc z (fun h' hc' hs => ?_)
    obtain ⟨oc, hoc, hocd⟩ := id z
    refine h { s with heap := h' } ⟨I.ok, I.os, I.bare, ⟨fun b o e n hb hx => ?_, fun b o e n hb hx => ?_, I.base.free, fun b o e hx => ?_, I.base.tups, I.base.frzs, I.base.tbls⟩, ⟨m, hn.sameBut hs (Ne.symm (cne x c hc)), fun j y v' e1 e2 e3 => ?_⟩, fun y c' e => ?_, I.free, I.freeC, fun p hp => ?_, tracked ⟨oc, hoc, I.freeC x c hc⟩ hs, by simpa using I.len⟩ ⟨c, hs, .inr hc⟩
    · exact (hs.2 b (Nat.ne_of_lt (Nat.lt_of_lt_of_le (Heap.lt_size e) (I.ok.cab x c hfn hc)))).trans (I.base.keep b o e n hb hx)
    · obtain ⟨sl, e1⟩ := I.base.slot b o e n hb hx
      exact ⟨sl, (hs.2 b (Nat.ne_of_lt (Nat.lt_of_lt_of_le (Heap.lt_size e) (I.ok.cab x c hfn hc)))).trans e1⟩
    · obtain ⟨o', e1⟩ := I.base.there b o e hx
      exact ⟨o', (hs.2 b (Nat.ne_of_lt (Nat.lt_of_lt_of_le (Heap.lt_size e) (I.ok.cab x c hfn hc)))).trans e1⟩
    · by_cases hj : j = i
      · subst hj
        rw [hi] at e1; cases e1
        rw [List.getElem?_set_self hiσ] at e2
        cases e2
        exact ⟨u, r, .inr ⟨.inl hk, c, hc, hc'⟩⟩
      · rw [List.getElem?_set_ne (Ne.symm hj)] at e2
        obtain ⟨u', r', q⟩ := hl j y v' e1 e2 e3
        refine ⟨u', r', ?_⟩
        rcases q with q | ⟨k, c', e, z'⟩
        · exact .inl q
        · refine .inr ⟨k, c', e, z'.sameBut hs ?_⟩
          rintro rfl
          exact hj (ZfT hN e1 (I.ok.inj _ _ _ e hc ▸ hi))
    · by_cases hcc : c' = c
      · subst hcc; exact ⟨_, hc'⟩
      · obtain ⟨w2, z2⟩ := I.cell y c' e
        exact ⟨w2, z2.sameBut hs hcc⟩
    · obtain ⟨e, n, ne, nf, d⟩ := I.pin p hp
      refine ⟨(hs.2 p.1 ?_).trans e, n, ne, nf, d⟩
      intro q
      rw [q, hoc] at e
      have q' : oc = p.2 := Option.some.inj e
      exact d w' (by rw [← q']; exact hocd)
theorem Zes {M : Model} {A : Around} {E : Value → Shared → Prop} {i : Nat} {x : Str} {v : V} {u : Value} {Q : Unit → Shared → Prop} (I : Inv X pins σ H s) (hN : X.N.Nodup) (hi : X.N[i]? = some x) (hx : Loc X.env.scope x) (r : RelV v u)
    (h : ∀ s', Inv X pins (σ.set i (some v)) H s' → Q () s') (hf : X.fn x = true ∨ X.env.scope.names.lookup x = some .local := by first | exact .inl rfl | exact .inr rfl | assumption) : wpAny M A (storeName X.env x u) Q E s :=
  Zdv I hN hi hx r (fun s' I' _ => h s' I') hf
theorem Inv.call' {s' : Shared} {ch : List Addr} (I : Inv X pins σ H s) (ho : s'.os = s.os) (u : Un (frs X.stack) ch H H' s.heap s'.heap) (hok : HOk X.prog X.w H' s'.heap) (hg : AllBare s'.gens)
    (hch : ∀ b ∈ ch, (b ∈ X.ex ∨ X.s₀.heap.objs.size ≤ b) ∧ b ≠ X.env.locals ∧ (∀ x c, X.env.cells.lookup x = some c → c ≠ b) ∧ ∀ p ∈ X.pn ++ pins, p.1 ≠ b) : Inv X pins σ H' s' := by
  obtain ⟨h', g', d', t', o'⟩ := s'
  have e : o' = s.os := ho
  subst e
  exact I.call (g' := g') (t' := t') (d' := d') u hok hg hch
end
abbrev XK := Value → Option Addr → Hp → Prop
abbrev St := List (Option V)
abbrev VK := V → Hp → Prop
abbrev TE := St → Hp → VK → Prop
abbrev TT := St → Hp → (Bool → Hp → Prop) → Prop
abbrev TA := St → Hp → (List V → Hp → Prop) → Prop
structure Zjf where
  nx : St → Hp → Prop
  rt : VK
  bk : St → Hp → Prop := fun _ _ => False
  ct : St → Hp → Prop := fun _ _ => False
abbrev TS := Zjf → St → Hp → Prop
inductive EP (X : Cx) (pins : List (Addr × Obj)) (σ : St) (Q : VK) (u : Value) (s' : Shared) : Prop where
  | mk (v : V) (H' : Hp) (i : Inv X pins σ H' s') (r : RelV v u) (q : Q v H') : EP X pins σ Q u s'
inductive TP (X : Cx) (pins : List (Addr × Obj)) (σ : St) (Q : Bool → Hp → Prop) (b : Bool) (s' : Shared) : Prop where
  | mk (H' : Hp) (i : Inv X pins σ H' s') (q : Q b H') : TP X pins σ Q b s'
inductive AP (X : Cx) (pins : List (Addr × Obj)) (σ : St) (Q : List V → Hp → Prop) (us : List Value) (s' : Shared) : Prop where
  | mk (vs : List V) (H' : Hp) (i : Inv X pins σ H' s') (r : Vals vs us) (q : Q vs H') : AP X pins σ Q us s'
inductive SN (X : Cx) (pins : List (Addr × Obj)) (q : St → Hp → Prop) (s' : Shared) : Prop where
  | mk (σ' : St) (H' : Hp) (i : Inv X pins σ' H' s') (p : q σ' H') : SN X pins q s'
inductive SR (X : Cx) (pins : List (Addr × Obj)) (q : V → Hp → Prop) (u : Value) (s' : Shared) : Prop where
  | mk (v : V) (σ' : St) (H' : Hp) (i : Inv X pins σ' H' s') (r : RelV v u) (p : q v H') : SR X pins q u s'
def SP (X : Cx) (pins : List (Addr × Obj)) (D : Zjf) (f : Flow) (s' : Shared) : Prop :=
  match f with
  | .next => SN X pins D.nx s'
  | .brk => SN X pins D.bk s'
  | .cont => SN X pins D.ct s'
  | .ret u => SR X pins D.rt u s'
def PE (X : Cx) (e : Expr) (t : TE) : Prop :=
  ∀ (pins : List (Addr × Obj)) (s : Shared) (σ : St) (H : Hp) (Q : VK), Inv X pins σ H s → t σ H Q → wpAny (model X.prog X.w) X.A (eval e X.env) (EP X pins σ Q) X.xe s
def PT (X : Cx) (e : Expr) (t : TT) : Prop :=
  ∀ (pins : List (Addr × Obj)) (s : Shared) (σ : St) (H : Hp) (Q : Bool → Hp → Prop), Inv X pins σ H s → t σ H Q → wpAny (model X.prog X.w) X.A (isTrue e X.env (eval e X.env)) (TP X pins σ Q) X.xe s
def PW (X : Cx) (e : Expr) (t : TT) : Prop :=
  ∀ (Zfp : Sem Value) (pins : List (Addr × Obj)) (s : Shared) (σ : St) (H : Hp) (Q : Bool → Hp → Prop), Inv X pins σ H s → t σ H Q → wpAny (model X.prog X.w) X.A (isTrue e X.env Zfp) (TP X pins σ Q) X.xe s
theorem PW.pt {X : Cx} {e : Expr} {t : TT} (h : PW X e t) : PT X e t := h _
def PA (X : Cx) (es : List Expr) (t : TA) : Prop :=
  ∀ (pos : Pos) (pins : List (Addr × Obj)) (s : Shared) (σ : St) (H : Hp) (Q : List V → Hp → Prop), Inv X pins σ H s → t σ H Q → wpAny (model X.prog X.w) X.A (spliced (backTo pos (starEach es X.env))) (AP X pins σ Q) X.xe s
def PS (X : Cx) (st : Stmt) (t : TS) : Prop :=
  ∀ (pins : List (Addr × Obj)) (s : Shared) (σ : St) (H : Hp) (D : Zjf), Inv X pins σ H s → t D σ H → wpAny (model X.prog X.w) X.A (exec st X.env) (SP X pins D) X.xe s
def PSs (X : Cx) (st : List Stmt) (t : TS) : Prop :=
  ∀ (pins : List (Addr × Obj)) (s : Shared) (σ : St) (H : Hp) (D : Zjf), Inv X pins σ H s → t D σ H → wpAny (model X.prog X.w) X.A (execs st X.env) (SP X pins D) X.xe s
theorem thn {α : Type} {t : Sem α} {Q Q' : α → Shared → Prop} {M : Model} {A : Around} {E : Value → Shared → Prop} {s : Shared} (h : wpAny M A t Q E s) (hQ : ∀ a s, Q a s → Q' a s) : wpAny M A t Q' E s := wpAny_mono h hQ fun _ _ x => x
end L2
namespace L2
open PySem PySem.Spec PyProof.Rows
section
variable {X : Cx}
def Zqv (i : Nat) : TE := fun σ H Q => ∃ v, σ[i]? = some (some v) ∧ Q v H
def tC (v : V) : TE := fun _ H Q => Q v H
theorem Zji {i : Nat} {x : Str} {pos : Pos} (hN : X.N[i]? = some x) (hv : Vis X.env.scope x) (hd : (x == ("__debug__" : Str)) = false := by decide) (hcd : (x == ("__classdict__" : Str)) = false := by decide) : PE X (.Name x pos) (Zqv i) := by
  intro pins s σ H Q I h
  obtain ⟨v, e, h⟩ := h
  obtain ⟨m, hn, hl⟩ := I.loc
  obtain ⟨u, r, l⟩ := hl i x v hN e hv
  have fin : EP X pins σ Q u s := ⟨v, H, I, r, h⟩
  rcases l with ⟨hk, hm⟩ | ⟨hk, c, hc, hcell⟩
  · exact wpAny_Name (wpAny_loadName_local I.ok.kind hk hn hm fin) hd
  · rcases hk with hk | hk
    · exact wpAny_Name (wpAny_loadName_cell I.ok.kind hk hc hcell fin) hd
    · exact wpAny_Name (wpAny_loadName_free I.ok.kind hk hc hcell fin hcd) hd
theorem Zoh {i j pos} : PE X (.Constant (.int i) j pos) (tC (.int i)) := fun _ _ _ H _ I h => wpAny_Constant_int ⟨.int i, H, I.tok _, ⟨_, rfl⟩, h⟩
theorem Zqw {b j pos} : PE X (.Constant (.bool b) j pos) (tC (.bl b)) := fun _ _ _ H _ I h => Constant_bool ⟨.bl b, H, I, rfl, h⟩
theorem Zoi {j pos} : PE X (.Constant .none j pos) (tC .non) := fun _ _ _ H _ I h => Constant_none ⟨.non, H, I, rfl, h⟩
theorem Zoj {x j pos} : PE X (.Constant (.str x) j pos) (tC (.str x)) := fun _ _ _ H _ I h => Calls.Constant_str ⟨.str x, H, I.tok _, ⟨_, rfl⟩, h⟩
def Gl (X : Cx) (x : Str) : Prop := X.env.kindOf x = some .globalImplicit
theorem ZdN {E : Value → Shared → Prop} {pins : List (Addr × Obj)} {s : Shared} {σ : St} {H : Hp} {x : Str} {u : Value} {pos : Pos} {Q : Value → Shared → Prop} (I : Inv X pins σ H s) (hg : Gl X x) (hm : X.mg x = some u) (h : Q u s)
    (hd : (x == ("__debug__" : Str)) = false := by decide) : wpAny (model X.prog X.w) X.A (eval (.Name x pos) X.env) Q E s :=
  Calls.Name_function_global I.ok.kind hg (Calls.loadGlobal_global (by rw [I.ok.glob]; exact I.mod.glob.keeps I.bk) hm h) hd
theorem ZfA {E : Value → Shared → Prop} {pins : List (Addr × Obj)} {s : Shared} {σ : St} {H : Hp} {x : Str} {u : Value} {pos : Pos} {Q : Value → Shared → Prop} (I : Inv X pins σ H s) (hg : Gl X x) (hm : X.mg x = none) (hv : bootBuiltins x = some u) (h : Q u s)
    (hn : x ≠ "__name__" := by decide) (hd : (x == ("__debug__" : Str)) = false := by decide) : wpAny (model X.prog X.w) X.A (eval (.Name x pos) X.env) Q E s := by
  obtain ⟨mb, h1, h2⟩ := I.mod.blt
  exact Calls.Name_function_global I.ok.kind hg (Calls.loadGlobal_builtin (by rw [I.ok.glob]; exact I.mod.glob.keeps I.bk) hm (by rw [I.ok.blt]; exact h1.keeps I.bk) ((h2 x hn).trans hv) h) hd
theorem ZmD {x : Str} {v : V} {u : Value} {pos : Pos} (hg : Gl X x) (hm : X.mg x = some u) (r : RelV v u) (hd : (x == ("__debug__" : Str)) = false := by decide) : PE X (.Name x pos) (tC v) :=
  fun _ _ _ H _ I h => ZdN I hg hm ⟨v, H, I, r, h⟩ hd
theorem ZmE {x : Str} {v : V} {u : Value} {pos : Pos} (hg : Gl X x) (hm : X.mg x = none) (hv : bootBuiltins x = some u) (r : RelV v u) (hn : x ≠ "__name__" := by decide) (hd : (x == ("__debug__" : Str)) = false := by decide) : PE X (.Name x pos) (tC v) :=
  fun _ _ _ H _ I h => ZfA I hg hm hv ⟨v, H, I, r, h⟩ hn hd
variable {a b : Expr} {ta tb : TE} {pos : Pos}
variable {tA tB' : TT} {rest : List Expr}
def tOr (t u : TT) : TT := fun σ H Q => t σ H fun c H1 => if c = true then Q true H1 else u σ H1 Q
def Zto (t : TT) : TT := fun σ H Q => t σ H fun c H1 => Q (!c) H1
theorem Zok (ha : PT X a tA) : PW X (.BoolOp .Or [a] pos) tA := by
  intro wh pins s σ H Q I h
  refine isTrue_or (thn (ha pins s σ H Q I h) fun c s1 e => ?_)
  cases c with
  | false => exact isTrue_or_nil e
  | true => exact e
theorem Zqx (ha : PT X a tA) (hb : PW X (.BoolOp .Or (b :: rest) pos) tB') : PW X (.BoolOp .Or (a :: b :: rest) pos) (tOr tA tB') := by
  intro wh pins s σ H Q I h
  refine isTrue_or (thn (ha pins s σ H _ I h) fun c s1 z9_ => ?_)
  obtain ⟨H1, I1, q1⟩ := z9_
  cases c with
  | true => exact ⟨H1, I1, q1⟩
  | false => exact hb wh pins s1 σ H1 Q I1 q1
theorem Zol (ha : PT X a tA) : PT X (.UnaryOp .Not a pos) (Zto tA) := by
  intro pins s σ H Q I h
  exact isTrue_not (thn (ha pins s σ H (fun c H1 => Q (!c) H1) I h) fun c s1 z => by cases z with | mk H1 I1 q => exact ⟨H1, I1, q⟩)
def Zqy (ta tb : TE) : TE := fun σ H Q => ta σ H fun x H1 => ∃ c, x = .bl c ∧ if c = true then tb σ H1 Q else Q (.bl false) H1
def Zui (ta tb : TE) : TE := fun σ H Q => ta σ H fun x H1 => ∃ c, x = .bl c ∧ if c = true then Q (.bl true) H1 else tb σ H1 Q
def Zqz (ta : TE) : TE := fun σ H Q => ta σ H fun x H1 => ∃ c, x = .bl c ∧ Q (.bl (!c)) H1
theorem Zom {op} {t : TE} (h : PE X a t) : PE X (.BoolOp op [a] pos) t := fun pins s σ H Q I hw => BoolOp_one (h pins s σ H Q I hw)
theorem Zon (ha : PE X a ta) (hb : PE X (.BoolOp .And (b :: rest) pos) tb) : PE X (.BoolOp .And (a :: b :: rest) pos) (Zqy ta tb) := by
  intro pins s σ H Q I h
  refine BoolOp_and (thn (ha pins s σ H _ I h) fun v s1 z10_ => ?_)
  obtain ⟨x, H1, I1, r1, q1⟩ := z10_
  obtain ⟨c, rfl, q1⟩ := q1
  cases r1
  refine wpAny_truthy_bool ?_
  cases c with
  | true => exact hb pins s1 σ H1 Q I1 q1
  | false => exact ⟨.bl false, H1, I1, rfl, q1⟩
theorem Zoo (ha : PE X a ta) : PE X (.UnaryOp .Not a pos) (Zqz ta) := by
  intro pins s σ H Q I h
  refine UnaryOp_ (thn (ha pins s σ H _ I h) fun v s1 z12_ => ?_)
  obtain ⟨x, H1, I1, r1, q1⟩ := z12_
  obtain ⟨c, rfl, q1⟩ := q1
  cases r1
  exact not_of (wpAny_truthy_bool ⟨.bl (!c), H1, I1, rfl, q1⟩)
def tIf (t : TT) (ta tb : TE) : TE := fun σ H Q => t σ H fun c H1 => if c = true then ta σ H1 Q else tb σ H1 Q
theorem Zk2 {c : Expr} (hc : PT X c tA) (ha : PE X a ta) (hb : PE X b tb) : PE X (.IfExp c a b pos) (tIf tA ta tb) := by
  intro pins s σ H Q I h
  refine wpAny_IfExp (thn (hc pins s σ H _ I h) fun d s1 z13_ => ?_)
  obtain ⟨H1, I1, q1⟩ := z13_
  cases d with
  | true => exact ha pins s1 σ H1 Q I1 q1
  | false => exact hb pins s1 σ H1 Q I1 q1
end
end L2
namespace L2
open PySem PySem.Spec PyProof.Rows
def SqL (K : PySem.W.Frag) (H : Hp) (a : Addr) (xs : List V) : Prop :=
  Rd H a (.lst xs) ∨
    ∃ (o : Obj) (its : Array Value) (n : Nat), K.lookup a = some o ∧ o.cls = .type "list" ∧ o.dict = none ∧ o.data = .seq its n ∧ its.size ≤ sizeLine ∧ Vals xs its.toList
def SqT (K : PySem.W.Frag) (H : Hp) (a : Addr) (xs : List V) : Prop :=
  Rd H a (.tup xs) ∨
    ∃ (o : Obj) (its : Array Value) (n : Nat), K.lookup a = some o ∧ o.cls = .type "tuple" ∧ o.data = .seq its n ∧ its.size ≤ sizeLine ∧ Vals xs its.toList
def Ztp : Value → Option V
  | .none => some .non
  | .bool b => some (.bl b)
  | .int i _ => some (.int i)
  | .str x _ => some (.str x)
  | .bytes b _ => some (.byt b)
  | .float b _ => some (.flt b)
  | .ref a => some (.ref a)
  | .type n => some (.ty n)
  | _ => none
theorem RelV.abs {x : V} {u : Value} (r : RelV x u) : Ztp u = some x := by
  cases x with
  | non => cases r; rfl
  | bl _ => cases r; rfl
  | int _ => obtain ⟨t, rfl⟩ := r; rfl
  | str _ => obtain ⟨t, rfl⟩ := r; rfl
  | byt _ => obtain ⟨t, rfl⟩ := r; rfl
  | flt _ => obtain ⟨t, rfl⟩ := r; rfl
  | ref _ => cases r; rfl
  | ty _ => cases r; rfl
theorem RelV.inj {x y : V} {u : Value} (r : RelV x u) (q : RelV y u) : x = y := Option.some.inj (r.abs.symm.trans q.abs)
theorem Vals.inj {xs ys : List V} {us : List Value} (h : Vals xs us) (g : Vals ys us) : xs = ys := by
  induction h generalizing ys with
  | nil => cases g; rfl
  | cons r t ih => cases g with | cons r' t' => rw [r.inj r', ih t']
section
variable {X : Cx} {pins : List (Addr × Obj)} {σ : St} {H : Hp} {s : Shared} {a : Addr} {xs ys : List V}
theorem SqL.of {K : PySem.W.Frag} (h : H a = some (.lst xs)) : SqL K H a xs := .inl (.inl h)
theorem SqT.of {K : PySem.W.Frag} (h : H a = some (.tup xs)) : SqT K H a xs := .inl (.inl h)
theorem Inv.list (I : Inv X pins σ H s) (h : SqL X.K H a xs) : ∃ its : List Value, Vals xs its ∧ PlainL s.heap a its.toArray ∧ xs.length ≤ sizeLine := by
  rcases h with h | ⟨o, its, n, hk, hc, hd, hs, hz, r⟩
  · obtain ⟨z, its, n, r, e⟩ := h.ok I.hok
    exact ⟨its, r, ⟨_, n, e, rfl, rfl, rfl⟩, z⟩
  · refine ⟨its.toList, r, ⟨o, n, I.kIn a o hk, hc, hd, by simpa using hs⟩, ?_⟩
    have e := r.length
    simp only [Array.length_toList] at e
    omega
theorem Inv.tuple (I : Inv X pins σ H s) (h : SqT X.K H a xs) : ∃ its : List Value, Vals xs its ∧ IsTup s.heap a its.toArray ∧ xs.length ≤ sizeLine := by
  rcases h with h | ⟨o, its, n, hk, hc, hs, hz, r⟩
  · obtain ⟨z, its, r, p, _⟩ := h.ok I.hok
    exact ⟨its, r, p, z⟩
  · refine ⟨its.toList, r, ⟨o, I.kIn a o hk, hc, n, by simpa using hs⟩, ?_⟩
    have e := r.length
    simp only [Array.length_toList] at e
    omega
theorem Inv.list_inj (I : Inv X pins σ H s) (h : SqL X.K H a xs) (h' : SqL X.K H a ys) : xs = ys := by
  obtain ⟨its, r, ⟨o, n, e, _, _, d⟩, _⟩ := I.list h
  obtain ⟨its', r', ⟨o', n', e', _, _, d'⟩, _⟩ := I.list h'
  rw [e] at e'; cases e'
  rw [d] at d'
  injection d' with d1 _
  have : its = its' := by simpa using congrArg Array.toList d1
  subst this
  exact r.inj r'
theorem Inv.tuple_inj (I : Inv X pins σ H s) (h : SqT X.K H a xs) (h' : SqT X.K H a ys) : xs = ys := by
  obtain ⟨its, r, ⟨o, e, _, n, d⟩, _⟩ := I.tuple h
  obtain ⟨its', r', ⟨o', e', _, n', d'⟩, _⟩ := I.tuple h'
  rw [e] at e'; cases e'
  rw [d] at d'
  injection d' with d1 _
  have : its = its' := by simpa using congrArg Array.toList d1
  subst this
  exact r.inj r'
end
section
variable {X : Cx} {pins : List (Addr × Obj)} {σ : St} {H : Hp} {s : Shared} {E : Value → Shared → Prop}
end
section
variable {X : Cx} {st : Stmt} {rest : List Stmt} {t u : TS} {e : Expr} {te : TE} {pos : Pos}
def ZqA : TS := fun D σ H => D.nx σ H
def Ztq (t u : TS) : TS := fun D σ H => t { D with nx := u D } σ H
theorem ZmF : PSs X [] ZqA := fun _ _ σ H _ I h => wpAny_execs_nil ⟨σ, H, I, h⟩
theorem Zk3 (h1 : PS X st t) (h2 : PSs X rest u) : PSs X (st :: rest) (Ztq t u) := by
  intro pins s σ H D I h
  refine wpAny_execs_cons (thn (h1 pins s σ H { D with nx := u D } I h) fun f s1 q => ?_)
  cases f with
  | next =>
    obtain ⟨σ', H', I', q⟩ := q
    exact h2 pins s1 σ' H' D I' q
  | ret v => exact q
  | brk => exact q
  | cont => exact q
theorem ZmG (h1 : PS X st t) : PSs X [st] t := by
  intro pins s σ H D I h
  refine wpAny_execs_cons (thn (h1 pins s σ H D I h) fun f s1 q => ?_)
  cases f with
  | next => exact wpAny_execs_nil q
  | ret v => exact q
  | brk => exact q
  | cont => exact q
theorem Inv.quiet {pins : List (Addr × Obj)} {σ : St} {H : Hp} {s : Shared} (I : Inv X pins σ H s) : interactive X.env = false := by simp [interactive, I.ok.kind]
def ZqB (te : TE) : TS := fun D σ H => te σ H fun _ H1 => D.nx σ H1
theorem ZmH (he : PE X e te) (hs : swapsWith e none pos.line X.env = pure false := by rfl) : PS X (.Expr e pos) (ZqB te) := by
  intro pins s σ H D I h
  exact wpAny_Expr_any (thn (he pins s σ H _ I h) fun v s1 z16_ => by obtain ⟨x, H1, I1, r1, q1⟩ := z16_; exact (⟨σ, H1, I1, q1⟩)) I.quiet hs
def Ztr (te : TE) : TS := fun D σ H => te σ H D.rt
theorem Zop (he : PE X e te) : PS X (.Return (some e) pos) (Ztr te) := by
  intro pins s σ H D I h
  exact wpAny_Return_some (thn (he pins s σ H _ I h) fun v s1 z17_ => by obtain ⟨x, H1, I1, r1, q1⟩ := z17_; exact (⟨x, σ, H1, I1, r1, q1⟩))
def Zts (c : TT) (t u : TS) : TS := fun D σ H => c σ H fun b H1 => if b = true then t D σ H1 else u D σ H1
theorem ZqC {c : Expr} {a b : List Stmt} {tc : TT} (hc : PT X c tc) (ha : PSs X a t) (hb : PSs X b u) : PS X (.If c a b pos) (Zts tc t u) := by
  intro pins s σ H D I h
  refine wpAny_If (thn (hc pins s σ H _ I h) fun d s1 z18_ => ?_)
  obtain ⟨H1, I1, q1⟩ := z18_
  cases d with
  | true => exact ha pins s1 σ H1 D I1 q1
  | false => exact hb pins s1 σ H1 D I1 q1
def Zl5 : TS := fun _ _ _ => False
theorem Zk4 : PS X st Zl5 := fun _ _ _ _ _ _ h => h.elim
theorem Zjj {sts : List Stmt} : PSs X sts Zl5 := fun _ _ _ _ _ _ h => h.elim
end
abbrev TG := V → St → Hp → (St → Hp → Prop) → Prop
abbrev TGs := List V → St → Hp → (St → Hp → Prop) → Prop
def PG (X : Cx) (target : Expr) (t : TG) : Prop :=
  ∀ (pins : List (Addr × Obj)) (s : Shared) (σ : St) (H : Hp) (v : V) (u : Value) (Q : St → Hp → Prop), Inv X pins σ H s → RelV v u → t v σ H Q →
    wpAny (model X.prog X.w) X.A (assign target X.env u) (fun _ s' => SN X pins Q s') X.xe s
def PGs (X : Cx) (ts : List Expr) (t : TGs) : Prop :=
  ∀ (pins : List (Addr × Obj)) (s : Shared) (σ : St) (H : Hp) (vs : List V) (us : List Value) (Q : St → Hp → Prop), Inv X pins σ H s → Vals vs us → t vs σ H Q →
    wpAny (model X.prog X.w) X.A (assignInOrder ((assignEach ts X.env).map (·.2)) us) (fun _ s' => SN X pins Q s') X.xe s
abbrev ZqD := V → V → V → Hp → (Hp → Prop) → Prop
def Zsf (X : Cx) (t : ZqD) : Prop :=
  ∀ (pins : List (Addr × Obj)) (s : Shared) (σ : St) (H : Hp) (o i v : V) (ov iv u : Value) (Q : Hp → Prop), Inv X pins σ H s → RelV o ov → RelV i iv → RelV v u → t o i v H Q →
    wpAny (model X.prog X.w) X.A (setItem ov iv u) (fun _ s' => ∃ H', Inv X pins σ H' s' ∧ Q H') X.xe s
section
variable {X : Cx} {pos : Pos}
def ZcQ (i : Nat) : TG := fun v σ H Q => Q (σ.set i (some v)) H
theorem Zaw {i : Nat} {x : Str} (hN : X.N.Nodup) (hi : X.N[i]? = some x) (hx : Loc X.env.scope x) (hf : X.fn x = true ∨ X.env.scope.names.lookup x = some .local := by first | exact .inl rfl | exact .inr rfl | assumption) : PG X (.Name x pos) (ZcQ i) := by
  intro pins s σ H v u Q I r h
  exact wpAny_assign_Name (Zes I hN hi hx r (fun s' I' => ⟨_, H, I', h⟩) hf)
def Zl6 : TGs := fun vs σ H Q => vs = [] ∧ Q σ H
def Zdw (t : TG) (u : TGs) : TGs := fun vs σ H Q => ∃ v r, vs = v :: r ∧ t v σ H fun σ' H' => u r σ' H' Q
theorem Zjk : PGs X [] Zl6 := by
  intro pins s σ H vs us Q I r h
  obtain ⟨e, h⟩ := h
  subst e
  cases r
  exact assignInOrder_nil ⟨σ, H, I, h⟩
theorem Zet {e : Expr} {es : List Expr} {t : TG} {u : TGs} (h1 : PG X e t) (h2 : PGs X es u)
    (hs : (assignEach (e :: es) X.env).map (·.2) = assign e X.env :: (assignEach es X.env).map (·.2) := by rfl) : PGs X (e :: es) (Zdw t u) := by
  intro pins s σ H vs us Q I r h
  obtain ⟨v, vr, e1, h⟩ := h
  subst e1
  cases r with
  | cons r rr =>
    rw [hs]
    refine assignInOrder_cons (thn (h1 pins s σ H _ _ _ I r h) fun _ s1 z19_ => ?_)
    obtain ⟨σ1, H1, I1, q1⟩ := z19_
    exact h2 pins s1 σ1 H1 _ _ Q I1 rr q1
def Zl7 (K : PySem.W.Frag) (n : Nat) (t : TGs) : TG := fun v σ H Q => ∃ a xs, v = .ref a ∧ SqT K H a xs ∧ xs.length = n ∧ t xs σ H Q
theorem Zl8 {es : List Expr} {k : Nat} {t : TGs} {n : Nat} (hc : X.calm = true) (h : PGs X es t)
    (hn : (assignEach es X.env).length = n := by rfl) (hst : (assignEach es X.env).findIdx? (·.1) = none := by rfl) : PG X (.Tuple es k pos) (Zl7 X.K n t) := by
  intro pins s σ H v u Q I r hw
  obtain ⟨a, xs, e1, hq, hl, hw⟩ := hw
  subst e1
  cases r
  obtain ⟨its, rv, ht, hz⟩ := I.tuple hq
  refine assign_Tuple_tuple (I.ok.hd hc) ht (by simp [hn, ← hl, rv.length]) hst fun h' hx => ?_
  have I1 : Inv X pins σ H { s with heap := h' } := I.kept (t' := s.toks) fun b o e => hx b o (Nat.ne_of_lt (Heap.lt_size e)) e
  exact h pins _ σ H xs _ Q I1 (by simpa using rv) hw
def Ztt (to ti : TE) (t : ZqD) : TG := fun v σ H Q => to σ H fun o H1 => ti σ H1 fun i H2 => t o i v H2 fun H3 => Q σ H3
theorem Zoq {o i : Expr} {to ti : TE} {t : ZqD} (ho : PE X o to) (hi : PE X i ti) (hs : Zsf X t)
    (ha : ∀ v, assign (.Subscript o i pos) X.env v = (do
      let ov ← holding [v] (eval o X.env)
      let iv ← holding [v, ov] (eval i X.env)
      standAt pos
      holding [v, ov, iv] (setItem ov iv v)
      release [v, ov, iv] []) := by intro _; rfl) : PG X (.Subscript o i pos) (Ztt to ti t) := by
  intro pins s σ H v u Q I r h
  rw [ha]
  refine wpAny_bind (wpAny_holding (thn (ho pins s σ H _ I h) fun ov s1 z20_ => ?_))
  obtain ⟨x, H1, I1, r1, q1⟩ := z20_
  refine wpAny_bind (wpAny_holding (thn (hi pins s1 σ H1 _ I1 q1) fun iv s2 z21_ => ?_))
  obtain ⟨y, H2, I2, r2, q2⟩ := z21_
  refine wpAny_bind (wpAny_standAt (wpAny_bind (wpAny_holding (thn (hs pins s2 σ H2 x y v ov iv u _ I2 r1 r2 r q2) fun _ s3 z22_ => ?_))))
  obtain ⟨H3, I3, q3⟩ := z22_
  exact wpAny_release ⟨σ, H3, I3, q3⟩
def Zsg (te : TE) (g : TG) : TS := fun D σ H => te σ H fun x H1 => g x σ H1 D.nx
theorem Zl9 {tg e : Expr} {te : TE} {g : TG} (he : PE X e te) (hg : PG X tg g) (hs : swapsWithSole [tg] e pos.line X.env = pure false := by rfl) (hw : swappedStores [tg] e X.env = pure none := by rfl)
    (h1 : (assignEach [tg] X.env).map (·.2) = [assign tg X.env] := by rfl) : PS X (.Assign [tg] e pos) (Zsg te g) := by
  intro pins s σ H D I h
  refine wpAny_Assign_stores (thn (he pins s σ H _ I h) fun v s1 z23_ => ?_) hs hw
  obtain ⟨x, H1, I1, r1, q1⟩ := z23_
  rw [h1]
  exact thn (hg pins s1 σ H1 x v _ I1 r1 q1) fun _ s2 q => q
theorem Zor {i : Nat} {x : Str} {e : Expr} {te : TE} {pos' : Pos} (hN : X.N.Nodup) (hi : X.N[i]? = some x) (hx : Loc X.env.scope x) (he : PE X e te) (hs : swapsWith e (some (.Name x pos')) pos.line X.env = pure false := by rfl) (hf : X.fn x = true ∨ X.env.scope.names.lookup x = some .local := by first | exact .inl rfl | exact .inr rfl | assumption) :
    PS X (.Assign [.Name x pos'] e pos) (Zsg te (ZcQ i)) := by
  intro pins s σ H D I h
  refine wpAny_Assign_Name (thn (he pins s σ H _ I h) fun v s1 z24_ => ?_) hs
  obtain ⟨y, H1, I1, r1, q1⟩ := z24_
  exact Zes I1 hN hi hx r1 (fun s2 I2 => ⟨_, H1, I2, q1⟩) hf
def Ztu (i j : Nat) (ta : TA) : TS := fun D σ H => ta σ H fun vs H1 => ∃ v w, vs = [v, w] ∧ D.nx ((σ.set i (some v)).set j (some w)) H1
theorem Zos {i j : Nat} {x y : Str} {a b : Expr} {ta : TA} {px py pt : Pos} {kt k2 pt2} (hc : X.calm = true) (hN : X.N.Nodup) (hi : X.N[i]? = some x) (hj : X.N[j]? = some y) (hij : i ≠ j)
    (hx : X.env.scope.names.lookup x = some .local) (hy : X.env.scope.names.lookup y = some .local) (ha : PA X [a, b] ta)
    (hw : swappedStores [.Tuple [.Name x px, .Name y py] kt pt] (.Tuple [a, b] k2 pt2) X.env = pure (some [x, y]))
    (hs : swapsWithSole [.Tuple [.Name x px, .Name y py] kt pt] (.Tuple [a, b] k2 pt2) pos.line X.env = pure false := by rfl) :
    PS X (.Assign [.Tuple [.Name x px, .Name y py] kt pt] (.Tuple [a, b] k2 pt2) pos) (Ztu i j ta) := by
  intro pins s σ H D I h
  rw [exec_Assign_arm]
  refine wpAny_bind (wpAny_standAt ?_)
  rw [hs]
  refine wpAny_bind (wpAny_pure ?_)
  rw [if_neg (by decide)]
  refine wpAny_bind (Tuple_ (thn (ha _ pins s σ H _ I h) fun us s1 z25_ => ?_))
  obtain ⟨vs, H1, I1, r1, q1⟩ := z25_
  obtain ⟨v, w, e1, q1⟩ := q1
  subst e1
  obtain ⟨u1, u2, rfl, rv, rw'⟩ : ∃ u1 u2, us = [u1, u2] ∧ RelV v u1 ∧ RelV w u2 := by
    cases r1 with
    | cons p q =>
      cases q with
      | cons p' q' =>
        cases q'
        exact ⟨_, _, rfl, p, p'⟩
  refine wpAny_newObj_type ?_ (by show 2 ≤ sizeLine; decide)
  have I2 : Inv X pins σ H1 { s1 with heap := s1.heap.push { cls := .type "tuple", data := .seq [u1, u2].toArray } } := I1.kept (t' := s1.toks) fun b o e => Heap.get?_push_of_some _ e
  rw [hw]
  refine wpAny_bind (wpAny_pure ?_)
  show wpAny (model X.prog X.w) X.A (do rule "assign.swapped-stores"; let items ← unpackItems (.ref s1.heap.objs.size) 2 none; assignInOrder [fun v => bindName X.env y v, fun v => bindName X.env x v] items.reverse; pure Flow.next) _ _ _
  refine wpAny_bind (wpAny_rule (wpAny_bind (unpackItems_tuple (items := #[u1, u2]) (I.ok.hd hc) (IsTup.new s1.heap _) fun h' hx' => ?_)))
  have I3 := I2.kept (h' := h') (t' := s1.toks) fun b o e => hx' b o (Nat.ne_of_lt (Heap.lt_size e)) e
  show wpAny _ _ (assignInOrder [fun v => bindName X.env y v, fun v => bindName X.env x v] [u2, u1] >>= fun _ => pure Flow.next) _ _ _
  refine wpAny_bind (assignInOrder_cons (wpAny_bindName (Zes I3 hN hj (.inl hy) rw' (fun s2 I4 => ?_) (.inr hy))))
  refine assignInOrder_cons (wpAny_bindName (Zes I4 hN hi (.inl hx) rv (fun s3 I5 => assignInOrder_nil (wpAny_pure ?_)) (.inr hx)))
  rw [List.set_comm _ _ (Ne.symm hij)] at I5
  exact ⟨_, H1, I5, q1⟩
end
section
variable {X : Cx} {pos : Pos}
end
structure It where
  go : Nat → Hp → Prop
  yld : Nat → Hp → V → Hp → Prop
  stop : Nat → Hp → Prop
def Zhm (X : Cx) (pins : List (Addr × Obj)) (H : Hp) (b : Addr) : Prop :=
  H b = none ∧ b ≠ X.env.locals ∧ b ∉ X.fs ∧ (b ∈ X.ex ∨ X.s₀.heap.objs.size ≤ b) ∧ (∀ x c, X.env.cells.lookup x = some c → c ≠ b) ∧ ∀ p ∈ X.pn ++ pins, p.1 ≠ b
theorem Inv.fpOk {X : Cx} {pins : List (Addr × Obj)} {σ : St} {H H' : Hp} {s : Shared} {b : Addr} (I : Inv X pins σ H s) (hb : s.heap.objs.size ≤ b) (hn : H' b = none) : Zhm X pins H' b := by
  refine ⟨hn, Nat.ne_of_gt (Nat.lt_of_lt_of_le I.lt hb), I.nofs hb, .inr (Nat.le_trans I.sz hb), fun x c e z => ?_, fun p hp z => ?_⟩
  · obtain ⟨v, q⟩ := I.cell x c e
    exact absurd (Nat.lt_of_lt_of_le q.lt (by rw [z]; exact hb)) (Nat.lt_irrefl _)
  · exact absurd (Nat.lt_of_lt_of_le (Heap.lt_size (I.pin p hp).1) (by rw [z]; exact hb)) (Nat.lt_irrefl _)
structure Zma (P : Program) (w : World) (K : PySem.W.Frag) (tg : Expr) (J : It) (fp : List Addr) (it : Addr) (tn : Nat → Heap → Prop) : Prop where
  mem : it ∈ fp
  obj : ∀ i h, tn i h → ∀ b ∈ fp, ∃ o, h.get? b = some o ∧ ∀ v, o.data ≠ .cell v
  keep : ∀ i h h', tn i h → (∀ b ∈ fp, ∀ o, h.get? b = some o → h'.get? b = some o) → tn i h'
  item : ∀ (X : Cx), X.prog = P → X.w = w → X.K = K → X.calm = true → ∀ (i : Nat) (pins : List (Addr × Obj)) (s : Shared) (σ : St) (H : Hp) (E : Value → Shared → Prop), Inv X pins σ H s → (∀ b ∈ fp, Zhm X pins H b) → tn i s.heap → J.go i H →
    wpAny (model P w) X.A (pyNext (.ref it)) (fun r s1 => ∃ u, r = some u ∧
      wpAny (model P w) X.A (letOwnedTupleGo tg (.ref it) u) (fun _ s2 => ∃ x H', Inv X pins σ H' s2 ∧ RelV x u ∧ J.yld i H x H' ∧ tn (i + 1) s2.heap ∧ ∀ b ∈ fp, H' b = none) E s1) E s
  done : ∀ (X : Cx), X.prog = P → X.w = w → X.K = K → X.calm = true → ∀ (i : Nat) (pins : List (Addr × Obj)) (s : Shared) (σ : St) (H : Hp) (E : Value → Shared → Prop), Inv X pins σ H s → (∀ b ∈ fp, Zhm X pins H b) → tn i s.heap → J.stop i H →
    wpAny (model P w) X.A (pyNext (.ref it)) (fun r s1 => r = none ∧ Inv X pins σ H s1) E s
  self : ∀ (A : Around) (i : Nat) (s : Shared) (Q : Value → Shared → Prop) (E : Value → Shared → Prop), tn i s.heap → Q (.ref it) s → wpAny (model P w) A (pyIter (.ref it)) Q E s
abbrev TI := St → Hp → (It → Hp → Prop) → Prop
inductive PIE (X : Cx) (pins : List (Addr × Obj)) (σ : St) (tg : Expr) (R : It → Hp → Prop) (itv : Value) (s2 : Shared) : Prop where
  | mk (it : Addr) (fp : List Addr) (tn : Nat → Heap → Prop) (J : It) (H' : Hp) (e : itv = .ref it) (i : Inv X pins σ H' s2) (t : Zma X.prog X.w X.K tg J fp it tn) (st : tn 0 s2.heap) (f : ∀ b ∈ fp, Zhm X pins H' b) (r : R J H') : PIE X pins σ tg R itv s2
def PI (X : Cx) (tg iter : Expr) (wi : TI) : Prop :=
  ∀ (pins : List (Addr × Obj)) (s : Shared) (σ : St) (H : Hp) (R : It → Hp → Prop), Inv X pins σ H s → wi σ H R →
    wpAny (model X.prog X.w) X.A (eval iter X.env) (fun v s1 => wpAny (model X.prog X.w) X.A (pyIter v) (PIE X pins σ tg R) X.xe s1) X.xe s
theorem ZmI {M : Model} {A : Around} {E : Value → Shared → Prop} {s : Shared} {tg : Expr} {it : Addr} {u : Value} {o : Obj} {n : String} {vs : Array Value} {Q : Unit → Shared → Prop} (ho : s.heap.get? it = some o) (hc : o.cls = .type n) (hd : o.data = .fields vs)
    (hn : ["enumerate", "zip", "dict_itemiterator", "dict_reverseitemiterator", "odict_iterator", "itertools.zip_longest", "itertools.pairwise"].contains n = false) (hQ : Q () s) : wpAny M A (letOwnedTupleGo tg (.ref it) u) Q E s := by
  unfold letOwnedTupleGo
  cases tg <;> first
    | exact wpAny_pure hQ
    | (cases u <;> first
        | exact wpAny_pure hQ
        | (refine wpAny_bind (wpAny_load ho ?_)
           rw [hc, hd]
           show wpAny M A (if (["enumerate", "zip", "dict_itemiterator", "dict_reverseitemiterator", "odict_iterator", "itertools.zip_longest", "itertools.pairwise"].contains n && vs[0]? == some (rawInt _)) = true then _ else _) Q E s
           rw [if_neg (by intro h; rw [hn, Bool.false_and] at h; cases h)]
           exact wpAny_pure hQ))
def Itl (K : PySem.W.Frag) (a : Addr) : It :=
  ⟨fun i H => ∃ xs x, SqL K H a xs ∧ xs[i]? = some x, fun i H x H' => H' = H ∧ ∀ xs, SqL K H a xs → xs[i]? = some x, fun i H => ∃ xs, SqL K H a xs ∧ xs.length ≤ i⟩
def Itt (K : PySem.W.Frag) (a : Addr) : It :=
  ⟨fun i H => ∃ xs x, SqT K H a xs ∧ xs[i]? = some x, fun i H x H' => H' = H ∧ ∀ xs, SqT K H a xs → xs[i]? = some x, fun i H => ∃ xs, SqT K H a xs ∧ xs.length ≤ i⟩
def Itr (lo : Int) (n : Nat) : It := ⟨fun i _ => i < n, fun i H x H' => H' = H ∧ x = .int (lo + i), fun i _ => n ≤ i⟩
theorem Zjl {P : Program} {w : World} {K : PySem.W.Frag} {tg : Expr} (a it : Addr) : Zma P w K tg (Itl K a) [it] it (fun i h => h.IsListIter it a i) where
  mem := by simp
  obj := fun i h st b hb => by
    have e : b = it := by simpa using hb
    subst e
    obtain ⟨o, e, c, d⟩ := st
    exact ⟨o, e, fun v z => by rw [d] at z; cases z⟩
  keep := fun i h h' st k => st.at fun o e => k it (by simp) o e
  item := by
    intro X hP hw hK hc i pins s σ H E I hf st hg
    subst hP hw hK
    obtain ⟨xs, x, hq, hx⟩ := hg
    obtain ⟨its, rv, p, hz⟩ := I.list hq
    obtain ⟨u, hu, ru⟩ := rv.get hx
    obtain ⟨f0, f1, f2, f3, f4, f5⟩ := hf it (by simp)
    refine wpAny_pyNext_list_item st p.isList (x := u) (by simpa using hu) fun h' st' sb => ?_
    have I1 : Inv X pins σ H { s with heap := h' } := I.turned (t' := s.toks) (fun b o hb e => (sb.2 b hb).trans e) f0 f1 f3 f4 f5
    obtain ⟨o, e, c, d⟩ := id st'
    exact ⟨u, rfl, ZmI (s := { s with heap := h' }) e c d (by decide) ⟨x, H, I1, ru, ⟨rfl, fun ys hy => by rw [I.list_inj hy hq]; exact hx⟩, st', fun b hb => (hf b hb).1⟩⟩
  done := by
    intro X hP hw hK hc i pins s σ H E I hf st hg
    subst hP hw hK
    obtain ⟨xs, hq, hx⟩ := hg
    obtain ⟨its, rv, p, hz⟩ := I.list hq
    obtain ⟨f0, f1, f2, f3, f4, f5⟩ := hf it (by simp)
    have hl := rv.length
    exact wpAny_pyNext_list_end (I.ok.hd hc) st p.isList (by simp; omega) fun h' eb => ⟨rfl, I.turned (t' := s.toks) (fun b o hb e => eb b o hb e) f0 f1 f3 f4 f5⟩
  self := fun _ _ _ _ _ st h => wpAny_pyIter_listiter st h
theorem ZiA {P : Program} {w : World} {K : PySem.W.Frag} {tg : Expr} (a it : Addr) : Zma P w K tg (Itt K a) [it] it (fun i h => h.IsTupleIter it a i) where
  mem := by simp
  obj := fun i h st b hb => by
    have e : b = it := by simpa using hb
    subst e
    obtain ⟨o, e, c, d⟩ := st
    exact ⟨o, e, fun v z => by rw [d] at z; cases z⟩
  keep := fun i h h' st k => st.at fun o e => k it (by simp) o e
  item := by
    intro X hP hw hK hc i pins s σ H E I hf st hg
    subst hP hw hK
    obtain ⟨xs, x, hq, hx⟩ := hg
    obtain ⟨its, rv, p, hz⟩ := I.tuple hq
    obtain ⟨u, hu, ru⟩ := rv.get hx
    obtain ⟨f0, f1, f2, f3, f4, f5⟩ := hf it (by simp)
    refine wpAny_pyNext_tuple_item st (show s.heap.IsTuple a its.toArray from p) (x := u) (by simpa using hu) fun h' st' sb => ?_
    have I1 : Inv X pins σ H { s with heap := h' } := I.turned (t' := s.toks) (fun b o hb e => (sb.2 b hb).trans e) f0 f1 f3 f4 f5
    obtain ⟨o, e, c, d⟩ := id st'
    exact ⟨u, rfl, ZmI (s := { s with heap := h' }) e c d (by decide) ⟨x, H, I1, ru, ⟨rfl, fun ys hy => by rw [I.tuple_inj hy hq]; exact hx⟩, st', fun b hb => (hf b hb).1⟩⟩
  done := by
    intro X hP hw hK hc i pins s σ H E I hf st hg
    subst hP hw hK
    obtain ⟨xs, hq, hx⟩ := hg
    obtain ⟨its, rv, p, hz⟩ := I.tuple hq
    obtain ⟨f0, f1, f2, f3, f4, f5⟩ := hf it (by simp)
    have hl := rv.length
    exact wpAny_pyNext_tuple_end (I.ok.hd hc) st (show s.heap.IsTuple a its.toArray from p) (by simp; omega) fun h' eb => ⟨rfl, I.turned (t' := s.toks) (fun b o hb e => eb b o hb e) f0 f1 f3 f4 f5⟩
  self := fun _ _ _ _ _ st h => wpAny_pyIter_tupleiter st h
theorem ZiB {P : Program} {w : World} {K : PySem.W.Frag} {tg : Expr} (it : Addr) (lo : Int) (n : Nat) : Zma P w K tg (Itr lo n) [it] it (fun i h => IsRangeIter h it (lo + (i : Nat) * 1) ((n : Int) - (i : Nat)) 1) where
  mem := by simp
  obj := fun i h st b hb => by
    have e : b = it := by simpa using hb
    subst e
    exact ⟨_, st, fun v z => by
      have z' : Data.fields _ = Data.cell v := z
      cases z'⟩
  keep := fun i h h' st k => k it (by simp) _ st
  item := by
    intro X hP hw hK hc i pins s σ H E I hf st hg
    subst hP hw hK
    obtain ⟨f0, f1, f2, f3, f4, f5⟩ := hf it (by simp)
    have W := Walks.range (prog := X.prog) (w := X.w) (I.ok.hd hc) it lo 1 n
    refine W.item i s _ _ hg st fun v h' tk hv st' kk => ?_
    obtain ⟨t, rfl⟩ := hv
    have I1 : Inv X pins σ H { s with heap := h', toks := tk } := I.turned (fun b o hb e => kk b o (by simpa using hb) e) f0 f1 f3 f4 f5
    refine ⟨_, rfl, ZmI (s := { s with heap := h', toks := tk }) (n := "range_iterator") st' rfl rfl (by decide) ⟨.int (lo + i), H, I1, ⟨t, ?_⟩, ⟨rfl, rfl⟩, st', fun b hb => (hf b hb).1⟩⟩
    rw [Int.mul_one]
  done := by
    intro X hP hw hK hc i pins s σ H E I hf st hg
    subst hP hw hK
    obtain ⟨f0, f1, f2, f3, f4, f5⟩ := hf it (by simp)
    exact wpAny_pyNext_range_end (I.ok.hd hc) st (by have : n ≤ i := hg; omega) fun h' eb => ⟨rfl, I.turned (t' := s.toks) (fun b o hb e => eb b o hb e) f0 f1 f3 f4 f5⟩
  self := fun _ _ _ _ _ st h => wpAny_pyIter_rangeiter st h
end L2
namespace L2
open PySem PySem.Spec PyProof.Rows
section
variable {X : Cx} {tg : Expr}
theorem Zk5 {pins : List (Addr × Obj)} {σ : St} {H : Hp} {s : Shared} {R : It → Hp → Prop} {E : Value → Shared → Prop} {lo hi : Int} {t u v : Tok} {tk : Nat} (I : Inv X pins σ H s) (h1 : -(2 ^ 62) ≤ lo) (h2 : lo < 2 ^ 62) (h3 : -(2 ^ 62) ≤ hi) (h4 : hi < 2 ^ 62)
    (q : R (Itr lo (hi - lo).toNat) H) : wpAny (model X.prog X.w) X.A (pyIter (.ref s.heap.objs.size)) (PIE X pins σ tg R) E { s with heap := s.heap.push { cls := .type "range", data := .fields #[.int lo t, .int hi u, .int 1 v] }, toks := tk } := by
  refine wpAny_pyIter_range (IsRange.new ..) (small_one h1 h2 h3 h4) ?_
  have I1 : Inv X pins σ H { s with heap := s.heap.push { cls := .type "range", data := .fields #[.int lo t, .int hi u, .int 1 v] }, toks := tk } := I.kept fun b o e => Heap.get?_push_of_some _ e
  refine ⟨(s.heap.push { cls := .type "range", data := .fields #[.int lo t, .int hi u, .int 1 v] }).objs.size, [(s.heap.push { cls := .type "range", data := .fields #[.int lo t, .int hi u, .int 1 v] }).objs.size], _, _, H, rfl,
    I1.kept (t' := tk) fun b o e => Heap.get?_push_of_some _ e, ZiB _ lo (hi - lo).toNat, ?_, fun b hb => ?_, q⟩
  · have e1 : lo + ((0 : Nat) : Int) * 1 = lo := by simp
    have e2 : (((hi - lo).toNat : Nat) : Int) - ((0 : Nat) : Int) = Builtin.Range.rangeSize lo hi 1 := by rw [rangeSize_one]; split <;> omega
    show IsRangeIter _ _ (lo + ((0 : Nat) : Int) * 1) ((((hi - lo).toNat : Nat) : Int) - ((0 : Nat) : Int)) 1
    rw [e1, e2]
    exact Heap.get?_push_size _ rfl
  · have e : b = (s.heap.push { cls := .type "range", data := .fields #[.int lo t, .int hi u, .int 1 v] }).objs.size := by simpa using hb
    subst e
    exact I1.fpOk (Nat.le_refl _) (I1.hok.fresh (Nat.le_refl _))
def ZqE (ta : TA) : TI := fun σ H R => ta σ H fun vs H1 => ∃ j : Int, vs = [.int j] ∧ -(2 ^ 62) ≤ j ∧ j < 2 ^ 62 ∧ R (Itr 0 j.toNat) H1
theorem Zjm {a : Expr} {ta : TA} {p pos : Pos} (hg : Gl X "range") (hm : X.mg "range" = none) (ha : PA X [a] ta) (hs : starEach [a] X.env = [(false, eval a X.env)] := by rfl) : PI X tg (.Call (.Name "range" p) [a] [] pos) (ZqE ta) := by
  intro pins s σ H R I h
  refine Call_ (ZfA I hg hm boot_range (PyProof.Rows.callWith_type1 (thn (ha pos pins s σ H _ I h) fun us s1 z37_ => ?_) hs rfl))
  obtain ⟨vs, H1, I1, r1, q1⟩ := z37_
  obtain ⟨j, e, q1, q2, q⟩ := q1
  subst e
  cases r1 with
  | cons r rr =>
    cases rr
    obtain ⟨t, rfl⟩ := r
    exact call_range_1 (Zk5 I1 (by omega) (by omega) q1 q2 (by simpa using q))
def Ztv (wi : TI) (g : TG) (tb : TS) : TS := fun D σ H => wi σ H fun J H1 => ∃ W : Nat → Nat → St → Hp → Prop, (∃ m, W 0 m σ H1) ∧ ∀ i m σ H, W i m σ H →
  (J.stop i H ∧ D.nx σ H) ∨ (J.go i H ∧ ∃ N : St → Hp → Prop, (∀ σ' H', N σ' H' → ∃ m', m' < m ∧ W (i + 1) m' σ' H') ∧ ∀ x H', J.yld i H x H' → g x σ H' fun σ2 H2 => tb { D with nx := N, ct := N, bk := D.nx } σ2 H2)
def Zd7 (fp : List Addr) (h : Heap) : List (Addr × Obj) := fp.filterMap fun b => (h.get? b).map fun o => (b, o)
theorem ZcJ {fp : List Addr} {h : Heap} {b : Addr} {o : Obj} (hb : b ∈ fp) (e : h.get? b = some o) : (b, o) ∈ Zd7 fp h := List.mem_filterMap.mpr ⟨b, hb, by rw [e]; rfl⟩
theorem Zgx {fp : List Addr} {h : Heap} {p : Addr × Obj} (hp : p ∈ Zd7 fp h) : p.1 ∈ fp ∧ h.get? p.1 = some p.2 := by
  obtain ⟨b, hb, e⟩ := List.mem_filterMap.mp hp
  cases q : h.get? b with
  | none => rw [q] at e; cases e
  | some o =>
    rw [q] at e
    have e' : (b, o) = p := Option.some.inj e
    subst e'
    exact ⟨hb, q⟩
theorem Inv.pinned {pins : List (Addr × Obj)} {σ : St} {H : Hp} {s : Shared} {fp : List Addr} (I : Inv X pins σ H s) (hf : ∀ b ∈ fp, Zhm X pins H b) (ho : ∀ b ∈ fp, ∃ o, s.heap.get? b = some o ∧ ∀ v, o.data ≠ .cell v) : Inv X (pins ++ Zd7 fp s.heap) σ H s :=
  I.pins_of fun p hp => (List.mem_append.mp hp).elim (fun z => I.pin p (List.mem_append_right _ z)) fun z => by
    obtain ⟨hb, e⟩ := Zgx z
    obtain ⟨f0, f1, f2, _⟩ := hf p.1 hb
    obtain ⟨o, e', d⟩ := ho p.1 hb
    rw [e] at e'; cases e'
    exact ⟨e, f0, f1, f2, d⟩
theorem Inv.unpinned {pins pl : List (Addr × Obj)} {σ : St} {H : Hp} {s : Shared} (I : Inv X (pins ++ pl) σ H s) : Inv X pins σ H s := I.pins_of fun p hp => I.pin p (List.mem_append_right _ (List.mem_append_left _ hp))
inductive FLI (X : Cx) (pins : List (Addr × Obj)) (tn : Nat → Heap → Prop) (fp : List Addr) (W : Nat → Nat → St → Hp → Prop) (n : Nat) (s' : Shared) : Prop where
  | mk (i : Nat) (σ' : St) (H' : Hp) (ii : Inv X pins σ' H' s') (st : tn i s'.heap) (fr : ∀ b ∈ fp, H' b = none) (w : W i n σ' H') : FLI X pins tn fp W n s'
theorem Zot {iter : Expr} {body : List Stmt} {wi : TI} {g : TG} {tb : TS} {pos : Pos} (hp : PassesOwn (model X.prog X.w) X.A X.env X.xe) (hc : X.calm = true) (hi : PI X tg iter wi) (hg : PG X tg g) (hb : PSs X body tb)
    (hs : ∀ x, foldedSetIterable iter X.env x = pure x := by intro _; rfl) : PS X (.For tg iter body [] pos) (Ztv wi g tb) := by
  intro pins s σ H D I h
  refine wpAny_For (thn (hi pins s σ H _ I h) fun v s1 h1 => thn h1 fun itv s2 h2 => ?_) hs
  obtain ⟨it, fp, tn, J, H2, e, I2, T, st2, f2, W, ⟨m0, w0⟩, turn⟩ := h2
  subst e
  have stat : ∀ {H' : Hp}, (∀ b ∈ fp, H' b = none) → ∀ b ∈ fp, Zhm X pins H' b := fun hn b hb => ⟨hn b hb, (f2 b hb).2⟩
  refine codeAny_forLoop_any (FLI X pins tn fp W) ?_ m0 ⟨0, σ, H2, I2, st2, fun b hb => (f2 b hb).1, w0⟩
  rintro n s3 ⟨i, σ3, H3, I3, st3, fr3, w3⟩
  rcases turn i n σ3 H3 w3 with ⟨stop, qn⟩ | ⟨go, N, hN, step⟩
  · refine wpAny_passesOwn hp (thn (T.done X rfl rfl rfl hc i pins s3 σ3 H3 X.xe I3 (stat fr3) st3 stop) fun r s4 z39_ => ?_)
    obtain ⟨hr, I4⟩ := z39_
    subst hr
    exact wpAny_execs_nil ⟨σ3, H3, I4, qn⟩
  · refine wpAny_passesOwn hp (thn (T.item X rfl rfl rfl hc i pins s3 σ3 H3 X.xe I3 (stat fr3) st3 go) fun r s4 z40_ => ?_)
    obtain ⟨u, hr, h4⟩ := z40_
    subst hr
    refine wpAny_passesOwn hp (thn h4 fun _ s5 z41_ => ?_)
    obtain ⟨x, H5, I5, r5, y5, st5, fr5⟩ := z41_
    have I5' := I5.pinned (stat fr5) (T.obj _ _ st5)
    refine wpAny_passesOwn hp (thn (hg _ s5 σ3 H5 x u _ I5' r5 (step x H5 y5)) fun _ s6 z42_ => ?_)
    obtain ⟨σ6, H6, I6, q6⟩ := z42_
    refine wpAny_passesOwn hp (thn (hb _ s6 σ6 H6 _ I6 q6) fun f s7 q7 => ?_)
    have again : ∀ {σ7 : St} {H7 : Hp}, Inv X (pins ++ Zd7 fp s5.heap) σ7 H7 s7 → N σ7 H7 → ∃ m, m < n ∧ FLI X pins tn fp W m s7 := fun {σ7 H7} I7 n7 => by
      obtain ⟨m', hm, w7⟩ := hN σ7 H7 n7
      refine ⟨m', hm, i + 1, σ7, H7, I7.unpinned, T.keep _ _ _ st5 fun b hb o e => (I7.pin (b, o) (List.mem_append_right _ (List.mem_append_right _ (ZcJ hb e)))).1, fun b hb => ?_, w7⟩
      obtain ⟨o, e, d⟩ := T.obj _ _ st5 b hb
      exact (I7.pin (b, o) (List.mem_append_right _ (List.mem_append_right _ (ZcJ hb e)))).2.1
    cases f with
    | next => obtain ⟨σ7, H7, I7, n7⟩ := q7; exact again I7 n7
    | cont => obtain ⟨σ7, H7, I7, n7⟩ := q7; exact again I7 n7
    | brk => obtain ⟨σ7, H7, I7, q7⟩ := q7; exact ⟨σ7, H7, I7.unpinned, q7⟩
    | ret v => obtain ⟨x7, σ7, H7, I7, r7, q7⟩ := q7; exact ⟨x7, σ7, H7, I7.unpinned, r7, q7⟩
end
end L2
namespace L2
open PySem PySem.Spec PyProof.Rows
abbrev R2 := V → V → Hp → VK → Prop
def OpR (X : Cx) (f : Value → Value → Sem Value) (r : R2) : Prop :=
  ∀ (pins : List (Addr × Obj)) (s : Shared) (σ : St) (H : Hp) (x y : V) (v u : Value) (Q : VK), Inv X pins σ H s → RelV x v → RelV y u → r x y H Q →
    wpAny (model X.prog X.w) X.A (f v u) (EP X pins σ Q) X.xe s
def UnR (X : Cx) (f : Value → Sem Value) (r : V → Hp → VK → Prop) : Prop :=
  ∀ (pins : List (Addr × Obj)) (s : Shared) (σ : St) (H : Hp) (x : V) (v : Value) (Q : VK), Inv X pins σ H s → RelV x v → r x H Q →
    wpAny (model X.prog X.w) X.A (f v) (EP X pins σ Q) X.xe s
def Zec (X : Cx) (f : Value) (r : List V → Hp → VK → Prop) : Prop :=
  ∀ (pins : List (Addr × Obj)) (s : Shared) (σ : St) (H : Hp) (xs : List V) (us : List Value) (Q : VK), Inv X pins σ H s → Vals xs us → r xs H Q →
    wpAny (model X.prog X.w) X.A (call f us) (EP X pins σ Q) X.xe s
def Ztw (X : Cx) (r : V → Hp → (Bool → Hp → Prop) → Prop) : Prop :=
  ∀ (pins : List (Addr × Obj)) (s : Shared) (σ : St) (H : Hp) (x : V) (v : Value) (Q : Bool → Hp → Prop), Inv X pins σ H s → RelV x v → r x H Q →
    wpAny (model X.prog X.w) X.A (truthy v) (TP X pins σ Q) X.xe s
def tOp (r : R2) (ta tb : TE) : TE := fun σ H Q => ta σ H fun x H1 => tb σ H1 fun y H2 => r x y H2 Q
def tUn (r : V → Hp → VK → Prop) (ta : TE) : TE := fun σ H Q => ta σ H fun x H1 => r x H1 Q
def rI (C : Int → Int → Prop) (g : Int → Int → V) : R2 := fun x y H Q => ∃ i j, x = .int i ∧ y = .int j ∧ C i j ∧ Q (g i j) H
def rI0 (g : Int → Int → V) : R2 := fun x y H Q => ∃ i j, x = .int i ∧ y = .int j ∧ Q (g i j) H
def rU (g : Int → V) : V → Hp → VK → Prop := fun x H Q => ∃ i, x = .int i ∧ Q (g i) H
section
variable {X : Cx} {a b c : Expr} {ta tb tc : TE} {pos : Pos}
theorem ZqF (ha : PE X a ta) (hb : PE X b tb) {pins : List (Addr × Obj)} {s : Shared} {σ : St} {H : Hp} {R : V → V → Hp → Prop} (I : Inv X pins σ H s)
    (h : ta σ H fun x H1 => tb σ H1 fun y H2 => R x y H2) {Q : Value → Shared → Prop} {f : Value → Value → Sem Value}
    (hf : ∀ v u s2 x y H2, Inv X pins σ H2 s2 → RelV x v → RelV y u → R x y H2 → wpAny (model X.prog X.w) X.A (f v u) Q X.xe s2) :
    wpAny (model X.prog X.w) X.A (eval a X.env) (fun v s₁ => wpAny (model X.prog X.w) X.A (eval b X.env) (fun u s₂ => wpAny (model X.prog X.w) X.A (f v u) Q X.xe s₂) X.xe s₁) X.xe s := by
  refine thn (ha pins s σ H _ I h) fun v s1 z44_ => ?_
  obtain ⟨x, H1, I1, r1, q1⟩ := z44_
  refine thn (hb pins s1 σ H1 _ I1 q1) fun u s2 z45_ => ?_
  obtain ⟨y, H2, I2, r2, q2⟩ := z45_
  exact hf v u s2 x y H2 I2 r1 r2 q2
theorem ZqG {op : Operator} {r : R2} (ho : OpR X (binaryOp op) r) (ha : PE X a ta) (hb : PE X b tb) : PE X (.BinOp a op b pos) (tOp r ta tb) := by
  intro pins s σ H Q I h
  exact wpAny_BinOp (ZqF ha hb I h fun v u s2 x y H2 I2 rx ry q => ho pins s2 σ H2 x y v u Q I2 rx ry q)
theorem ZqH {op : UnaryOp} {r : V → Hp → VK → Prop} (ho : UnR X (unaryOp op) r) (ha : PE X a ta) : PE X (.UnaryOp op a pos) (tUn r ta) := by
  intro pins s σ H Q I h
  exact UnaryOp_ (thn (ha pins s σ H _ I h) fun v s1 z46_ => by obtain ⟨x, H1, I1, r1, q1⟩ := z46_; exact (ho pins s1 σ H1 x v Q I1 r1 q1))
theorem opI {f : Value → Value → Sem Value} {C : Int → Int → Prop} {g : Int → Int → Int}
    (rule : ∀ (i j : Int) (t u : Tok) (s : Shared) (Q : Value → Shared → Prop) (E : Value → Shared → Prop), C i j → Q (.int (g i j) s.toks) { s with toks := s.toks + 1 } → wpAny (model X.prog X.w) X.A (f (.int i t) (.int j u)) Q E s) :
    OpR X f (rI C fun i j => .int (g i j)) := by
  intro pins s σ H x y v u Q I rx ry h
  obtain ⟨i, j, rfl, rfl, hc, q⟩ := h
  obtain ⟨t, rfl⟩ := rx
  obtain ⟨t', rfl⟩ := ry
  exact rule i j t t' s _ _ hc ⟨.int (g i j), H, I.tok _, ⟨_, rfl⟩, q⟩
theorem ZqI {f : Value → Value → Sem Value} {g : Int → Int → Int}
    (rule : ∀ (i j : Int) (t u : Tok) (s : Shared) (Q : Value → Shared → Prop) (E : Value → Shared → Prop), Q (.int (g i j) s.toks) { s with toks := s.toks + 1 } → wpAny (model X.prog X.w) X.A (f (.int i t) (.int j u)) Q E s) :
    OpR X f (rI0 fun i j => .int (g i j)) := by
  intro pins s σ H x y v u Q I rx ry h
  obtain ⟨i, j, rfl, rfl, q⟩ := h
  obtain ⟨t, rfl⟩ := rx
  obtain ⟨t', rfl⟩ := ry
  exact rule i j t t' s _ _ ⟨.int (g i j), H, I.tok _, ⟨_, rfl⟩, q⟩
theorem ZqJ {f : Value → Value → Sem Value} {g : Int → Int → Bool}
    (rule : ∀ (i j : Int) (t u : Tok) (s : Shared) (Q : Value → Shared → Prop) (E : Value → Shared → Prop), Q (.bool (g i j)) s → wpAny (model X.prog X.w) X.A (f (.int i t) (.int j u)) Q E s) :
    OpR X f (rI0 fun i j => .bl (g i j)) := by
  intro pins s σ H x y v u Q I rx ry h
  obtain ⟨i, j, rfl, rfl, q⟩ := h
  obtain ⟨t, rfl⟩ := rx
  obtain ⟨t', rfl⟩ := ry
  exact rule i j t t' s _ _ ⟨.bl (g i j), H, I, rfl, q⟩
def Zsh (i j : Int) : Prop := 0 < j ∧ j < 1073741824
def Zn0 (i j : Int) : Prop := 0 ≤ j ∧ j ≤ 1000000 ∧ i.natAbs < 2 ^ 64
def CMul (i j : Int) : Prop := (-(2 ^ 64) < i ∧ i < 2 ^ 64) ∨ (-(2 ^ 64) < j ∧ j < 2 ^ 64)
theorem CMul.ok {i j : Int} (h : CMul i j) : IntMulOk i j := by
  rcases h with ⟨h1, h2⟩ | ⟨h1, h2⟩
  · exact .of_left (intBits_le_64 h1 h2)
  · exact .of_right (intBits_le_64 h1 h2)
theorem ZiC (k : Nat) : (0 : Int) ≤ 2 ^ k := by
  rw [two_pow_cast]
  exact Int.natCast_nonneg _
theorem op_add : OpR X (binaryOp .Add) (rI0 fun i j => .int (i + j)) := ZqI fun _ _ _ _ _ _ _ q => add_int q
theorem Zou : OpR X (binaryOp .Sub) (rI0 fun i j => .int (i - j)) := ZqI fun _ _ _ _ _ _ _ q => sub_int q
theorem Zov : OpR X (binaryOp .Mod) (rI (fun _ j => 0 < j) fun i j => .int (i % j)) := opI fun i j _ _ _ _ _ hc q => by
  have h1 : (0 : Int) < j := hc
  exact mod_int' (by omega) (by rw [Int.fmod_eq_emod_of_nonneg i (by omega)]; exact q)
theorem Zow : OpR X (binaryOp .Pow) (rI Zn0 fun i j => .int (i ^ j.toNat)) := opI fun _ _ _ _ _ _ _ hc q => pow_int_small hc.1 hc.2.1 hc.2.2 q
theorem Zox : OpR X (binaryOp .LShift) (rI Zn0 fun i j => .int (i * 2 ^ j.toNat)) := opI fun _ _ _ _ _ _ _ hc q => lshift_int_small hc.1 hc.2.1 hc.2.2 q
theorem Zoy : OpR X (binaryOp .RShift) (rI (fun _ j => 0 ≤ j) fun i j => .int (i / 2 ^ j.toNat)) := opI fun i j _ _ _ _ _ hc q =>
  rshift_int hc (by rw [Int.fdiv_eq_ediv_of_nonneg i (ZiC _)]; exact q)
theorem Zoz : OpR X (binaryOp .BitAnd) (rI0 fun i j => .int (Builtin.bitAnd i j)) := ZqI fun _ _ _ _ _ _ _ q => and_int q
theorem unI {f : Value → Sem Value} {g : Int → Int}
    (rule : ∀ (i : Int) (t : Tok) (s : Shared) (Q : Value → Shared → Prop) (E : Value → Shared → Prop), Q (.int (g i) s.toks) { s with toks := s.toks + 1 } → wpAny (model X.prog X.w) X.A (f (.int i t)) Q E s) :
    UnR X f (rU fun i => .int (g i)) := by
  intro pins s σ H x v Q I rx h
  obtain ⟨i, rfl, q⟩ := h
  obtain ⟨t, rfl⟩ := rx
  exact rule i t s _ _ ⟨.int (g i), H, I.tok _, ⟨_, rfl⟩, q⟩
theorem ZoA : UnR X (unaryOp .USub) (rU fun i => .int (-i)) := unI fun _ _ _ _ _ q => neg_int q
end
def Zsi : V → V → Bool
  | .non, .non => true | .non, .int _ => true | .int _, .non => true | .non, .bl _ => true | .bl _, .non => true | .non, .str _ => true | .str _, .non => true
  | .int _, .int _ => true | .bl _, .bl _ => true | .str _, .str _ => true | .byt _, .byt _ => true
  | .int _, .str _ => true | .str _, .int _ => true | .bl _, .str _ => true | .str _, .bl _ => true
  | _, _ => false
def rEq : R2 := fun x y H Q => Zsi x y = true ∧ Q (.bl (decide (x = y))) H
def rNe : R2 := fun x y H Q => Zsi x y = true ∧ Q (.bl (!decide (x = y))) H
theorem Zjn {i j : Int} : decide (V.int i = V.int j) = (i == j) := by
  rw [Bool.eq_iff_iff]
  simp
theorem Zmb {i j : Bool} : decide (V.bl i = V.bl j) = (i == j) := by
  rw [Bool.eq_iff_iff]
  simp
theorem ZfU {i j : Str} : decide (V.str i = V.str j) = (i == j) := by
  rw [Bool.eq_iff_iff]
  simp
theorem Zjo {i j : Array UInt8} : decide (V.byt i = V.byt j) = (i.toList == j.toList) := by
  rw [Bool.eq_iff_iff]
  cases i
  cases j
  simp
section
variable {X : Cx} {a b c : Expr} {ta tb tc : TE} {pos : Pos}
theorem Za3 {pins : List (Addr × Obj)} {σ : St} {H : Hp} {s : Shared} {Q : VK} {k k' : Bool} (I : Inv X pins σ H s) (q : Q (.bl k) H) (e : k = k') : EP X pins σ Q (.bool k') s := by
  subst e
  exact ⟨.bl k, H, I, rfl, q⟩
theorem op_eq : OpR X (compareOp .Eq) rEq := by
  intro pins s σ H x y v u Q I rx ry h
  obtain ⟨hs, q⟩ := h
  cases x with
  | non =>
    cases rx
    cases y with
    | non => cases ry; exact PySem.EqNone.eq_none_none (Za3 I q (by simp))
    | bl j => cases ry; exact PySem.EqNone.eq_none_bool (Za3 I q (by simp))
    | int j => obtain ⟨t', rfl⟩ := ry; exact PySem.EqNone.eq_none_int (Za3 I q (by simp))
    | str j => obtain ⟨t', rfl⟩ := ry; exact PySem.EqNone.eq_none_str (Za3 I q (by simp))
    | _ => exact absurd (show false = true from hs) Bool.false_ne_true
  | bl i =>
    cases rx
    cases y with
    | non => cases ry; exact PySem.EqNone.eq_bool_none (Za3 I q (by simp))
    | bl j => cases ry; exact eq_bool (Za3 I q Zmb)
    | str j => obtain ⟨t', rfl⟩ := ry; exact PySem.EqMixed.eq_bool_str (Za3 I q (by simp))
    | _ => exact absurd (show false = true from hs) Bool.false_ne_true
  | int i =>
    obtain ⟨t, rfl⟩ := rx
    cases y with
    | non => cases ry; exact PySem.EqNone.eq_int_none (Za3 I q (by simp))
    | int j => obtain ⟨t', rfl⟩ := ry; exact eq_int (Za3 I q Zjn)
    | str j => obtain ⟨t', rfl⟩ := ry; exact PySem.EqMixed.eq_int_str (Za3 I q (by simp))
    | _ => exact absurd (show false = true from hs) Bool.false_ne_true
  | str i =>
    obtain ⟨t, rfl⟩ := rx
    cases y with
    | non => cases ry; exact PySem.EqNone.eq_str_none (Za3 I q (by simp))
    | bl j => cases ry; exact PySem.EqMixed.eq_str_bool (Za3 I q (by simp))
    | int j => obtain ⟨t', rfl⟩ := ry; exact PySem.EqMixed.eq_str_int (Za3 I q (by simp))
    | str j => obtain ⟨t', rfl⟩ := ry; exact eq_str (Za3 I q ZfU)
    | _ => exact absurd (show false = true from hs) Bool.false_ne_true
  | byt i =>
    obtain ⟨t, rfl⟩ := rx
    cases y with
    | byt j => obtain ⟨t', rfl⟩ := ry; exact PySem.W.eq_bytes (Za3 I q Zjo)
    | _ => exact absurd (show false = true from hs) Bool.false_ne_true
  | _ => cases y <;> exact absurd (show false = true from hs) Bool.false_ne_true
theorem op_ne : OpR X (compareOp .NotEq) rNe := by
  intro pins s σ H x y v u Q I rx ry h
  obtain ⟨hs, q⟩ := h
  cases x with
  | non =>
    cases rx
    cases y with
    | non => cases ry; exact PySem.EqNone.ne_none_none (Za3 I q (by simp))
    | bl j => cases ry; exact PySem.EqNone.ne_none_bool (Za3 I q (by simp))
    | int j => obtain ⟨t', rfl⟩ := ry; exact PySem.EqNone.ne_none_int (Za3 I q (by simp))
    | str j => obtain ⟨t', rfl⟩ := ry; exact PySem.EqNone.ne_none_str (Za3 I q (by simp))
    | _ => exact absurd (show false = true from hs) Bool.false_ne_true
  | bl i =>
    cases rx
    cases y with
    | non => cases ry; exact PySem.EqNone.ne_bool_none (Za3 I q (by simp))
    | bl j => cases ry; exact ne_bool (Za3 I q (congrArg not Zmb))
    | str j => obtain ⟨t', rfl⟩ := ry; exact PySem.EqMixed.ne_bool_str (Za3 I q (by simp))
    | _ => exact absurd (show false = true from hs) Bool.false_ne_true
  | int i =>
    obtain ⟨t, rfl⟩ := rx
    cases y with
    | non => cases ry; exact PySem.EqNone.ne_int_none (Za3 I q (by simp))
    | int j => obtain ⟨t', rfl⟩ := ry; exact ne_int (Za3 I q (congrArg not Zjn))
    | str j => obtain ⟨t', rfl⟩ := ry; exact PySem.EqMixed.ne_int_str (Za3 I q (by simp))
    | _ => exact absurd (show false = true from hs) Bool.false_ne_true
  | str i =>
    obtain ⟨t, rfl⟩ := rx
    cases y with
    | non => cases ry; exact PySem.EqNone.ne_str_none (Za3 I q (by simp))
    | bl j => cases ry; exact PySem.EqMixed.ne_str_bool (Za3 I q (by simp))
    | int j => obtain ⟨t', rfl⟩ := ry; exact PySem.EqMixed.ne_str_int (Za3 I q (by simp))
    | str j => obtain ⟨t', rfl⟩ := ry; exact ne_str (Za3 I q (congrArg not ZfU))
    | _ => exact absurd (show false = true from hs) Bool.false_ne_true
  | byt i =>
    obtain ⟨t, rfl⟩ := rx
    cases y with
    | byt j => obtain ⟨t', rfl⟩ := ry; exact PySem.W.ne_bytes (Za3 I q (congrArg not Zjo))
    | _ => exact absurd (show false = true from hs) Bool.false_ne_true
  | _ => cases y <;> exact absurd (show false = true from hs) Bool.false_ne_true
theorem ZqK : OpR X (compareOp .Lt) (rI0 fun i j => .bl (decide (i < j))) := ZqJ fun _ _ _ _ _ _ _ q => lt_int q
theorem ZqL : OpR X (compareOp .LtE) (rI0 fun i j => .bl (decide (i ≤ j))) := ZqJ fun _ _ _ _ _ _ _ q => le_int q
theorem ZqM : OpR X (compareOp .Gt) (rI0 fun i j => .bl (decide (j < i))) := ZqJ fun _ _ _ _ _ _ _ q => gt_int q
theorem ZmJ : OpR X (compareOp .IsNot) (fun x y H Q => y = .non ∧ Q (.bl (!decide (x = .non))) H) := by
  intro pins s σ H x y v u Q I rx ry h
  obtain ⟨rfl, q⟩ := h
  cases ry
  refine isnot_none_gen (Za3 I q ?_)
  cases x <;> first
    | (cases rx; rfl)
    | (obtain ⟨t, rfl⟩ := rx; rfl)
theorem OpR.or {f : Value → Value → Sem Value} {r r' : R2} (h : OpR X f r) (h' : OpR X f r') : OpR X f (fun x y H Q => r x y H Q ∨ r' x y H Q) := by
  intro pins s σ H x y v u Q I rx ry q
  rcases q with q | q
  · exact h pins s σ H x y v u Q I rx ry q
  · exact h' pins s σ H x y v u Q I rx ry q
theorem ZbR (b : Expr) {op : CmpOp} (h : op ≠ .In := by decide) (h2 : op ≠ .NotIn := by decide) : behindInMarks op b = false := by
  have e1 : (op == CmpOp.In) = false := by cases op <;> first | rfl | exact absurd rfl h
  have e2 : (op == CmpOp.NotIn) = false := by cases op <;> first | rfl | exact absurd rfl h2
  cases b with
  | Set elts k p =>
    show (k == 0 && (op == .In || op == .NotIn) && elts.all (constantsAlone 8)) = false
    rw [e1, e2, Bool.or_self, Bool.and_false, Bool.false_and]
  | _ => rfl
theorem ZmK {op : CmpOp} {r : R2} (ho : OpR X (compareOp op) r) (ha : PE X a ta) (hb : PE X b tb) (hm : behindInMarks op b = false) : PE X (.Compare a [op] [b] pos) (tOp r ta tb) := by
  intro pins s σ H Q I h
  exact wpAny_Compare1 (ZqF ha hb I h fun v u s2 x y H2 I2 rx ry q => ho pins s2 σ H2 x y v u Q I2 rx ry q) hm
def ZoB (t : TE) : TT := fun σ H Q => t σ H fun x H' => ∃ k, x = .bl k ∧ Q k H'
theorem ZmL {op : CmpOp} {r : R2} (ho : OpR X (compareOp op) r) (ha : PE X a ta) (hb : PE X b tb) (hm : behindInMarks op b = false) : PT X (.Compare a [op] [b] pos) (ZoB (tOp r ta tb)) := by
  intro pins s σ H Q I h
  refine wpAny_isTrue_Compare1 (thn (ha pins s σ H _ I h) fun v s1 ⟨x, H1, I1, r1, q1⟩ => thn (hb pins s1 σ H1 _ I1 q1) ?_) hm
  rintro u s2 ⟨y, H2, I2, r2, q2⟩
  refine thn (ho pins s2 σ H2 x y v u _ I2 r1 r2 q2) fun c s3 z49_ => ?_
  obtain ⟨z, H3, I3, r3, k, e, q3⟩ := z49_
  subst e
  cases r3
  exact wpAny_truthy_bool ⟨H3, I3, q3⟩
def Zjp (r r' : R2) (ta tb tc : TE) : TE := fun σ H Q => ta σ H fun x H1 => tb σ H1 fun y H2 => r x y H2 fun z H3 => ∃ k, z = .bl k ∧
  (if k = true then tc σ H3 fun w' H4 => r' y w' H4 Q else Q (.bl false) H3)
theorem Zk6 {op op' : CmpOp} {r r' : R2} (ho : OpR X (compareOp op) r) (ho' : OpR X (compareOp op') r') (ha : PE X a ta) (hb : PE X b tb) (hc : PE X c tc)
    (hm : lastMarks [op, op'] [b, c] = false := by with_unfolding_all rfl) : PE X (.Compare a [op, op'] [b, c] pos) (Zjp r r' ta tb tc) := by
  intro pins s σ H Q I h
  refine Compare_chain (thn (ha pins s σ H _ I h) fun v s1 ⟨x, H1, I1, r1, q1⟩ => chain_link (thn (hb pins s1 σ H1 _ I1 q1) ?_)) hm
  rintro u s2 ⟨y, H2, I2, r2, q2⟩
  refine thn (ho pins s2 σ H2 x y v u _ I2 r1 r2 q2) fun d s3 z52_ => ?_
  obtain ⟨z, H3, I3, r3, k, e, q3⟩ := z52_
  subst e
  cases r3
  refine wpAny_truthy_bool ?_
  cases k with
  | false => exact ite_ff ⟨.bl false, H3, I3, rfl, q3⟩
  | true => exact ite_tt (chain_last (thn (hc pins s3 σ H3 _ I3 q3) fun w' s4 z53_ => by obtain ⟨z', H4, I4, r4, q4⟩ := z53_; exact (ho' pins s4 σ H4 y z' u w' Q I4 r2 r4 q4)))
theorem Zk7 {op op' : CmpOp} {r r' : R2} (ho : OpR X (compareOp op) r) (ho' : OpR X (compareOp op') r') (ha : PE X a ta) (hb : PE X b tb) (hc : PE X c tc)
    (hm : lastMarks [op, op'] [b, c] = false := by with_unfolding_all rfl) : PT X (.Compare a [op, op'] [b, c] pos) (ZoB (Zjp r r' ta tb tc)) := by
  intro pins s σ H Q I h
  refine isTrue_chain (thn (ha pins s σ H _ I h) fun v s1 ⟨x, H1, I1, r1, q1⟩ => test_link (thn (hb pins s1 σ H1 _ I1 q1) ?_)) hm
  rintro u s2 ⟨y, H2, I2, r2, q2⟩
  refine thn (ho pins s2 σ H2 x y v u _ I2 r1 r2 q2) fun d s3 z56_ => ?_
  obtain ⟨z, H3, I3, r3, k, e, q3⟩ := z56_
  subst e
  cases r3
  refine wpAny_truthy_bool ?_
  cases k with
  | false =>
    obtain ⟨k', e', q'⟩ := q3
    cases e'
    exact ite_ff ⟨H3, I3, q'⟩
  | true =>
    refine ite_tt (test_last (thn (hc pins s3 σ H3 _ I3 q3) ?_))
    rintro w' s4 ⟨z', H4, I4, r4, q4⟩
    refine thn (ho' pins s4 σ H4 y z' u w' _ I4 r2 r4 q4) fun d' s5 z58_ => ?_
    obtain ⟨z2, H5, I5, r5, k2, e2, q5⟩ := z58_
    subst e2
    cases r5
    exact wpAny_truthy_bool ⟨H5, I5, q5⟩
def ZqN (K : PySem.W.Frag) (x : V) (H : Hp) (k : Bool) : Prop :=
  match x with
  | .non => k = false
  | .bl b => k = b
  | .int i => k = (i != 0)
  | .str y => y.length ≤ sizeLine ∧ k = ((y.length : Int) != 0)
  | .byt y => y.size ≤ sizeLine ∧ k = ((y.size : Int) != 0)
  | .ref p => (∃ xs, SqL K H p xs ∧ k = !xs.isEmpty) ∨ (∃ xs, SqT K H p xs ∧ k = !xs.isEmpty)
  | _ => False
theorem ZfB {xs : List V} {its : List Value} (r : Vals xs its) : (!its.toArray.isEmpty) = !xs.isEmpty := by
  cases r <;> simp
theorem ZfC : (sizeLine : Nat) < 2 ^ 63 := by rw [sizeLine_eq]; decide
theorem ZoC : Ztw X (fun x H Q => ∃ k, ZqN X.K x H k ∧ Q k H) := by
  intro pins s σ H x v Q I rx h
  obtain ⟨k, e, q⟩ := h
  have hl := ZfC
  have hs : sizeLine = 16777216 := sizeLine_eq
  cases x with
  | non =>
    cases rx
    have e' : k = false := e
    subst e'
    exact truthy_none ⟨H, I, q⟩
  | bl b =>
    cases rx
    have e' : k = b := e
    subst e'
    exact wpAny_truthy_bool ⟨H, I, q⟩
  | int i =>
    obtain ⟨t, rfl⟩ := rx
    have e' : k = (i != 0) := e
    subst e'
    exact PySem.P.truthy_int ⟨H, I, q⟩
  | str y =>
    obtain ⟨t, rfl⟩ := rx
    obtain ⟨hy, e'⟩ : y.length ≤ sizeLine ∧ k = ((y.length : Int) != 0) := e
    subst e'
    exact PySem.P.truthy_str (by omega) ⟨H, I.tok _, q⟩
  | byt y =>
    obtain ⟨t, rfl⟩ := rx
    obtain ⟨hy, e'⟩ : y.size ≤ sizeLine ∧ k = ((y.size : Int) != 0) := e
    subst e'
    exact PySem.W.truthy_bytes (by omega) ⟨H, I.tok _, q⟩
  | ref p =>
    cases rx
    have e' : (∃ xs, SqL X.K H p xs ∧ k = !xs.isEmpty) ∨ (∃ xs, SqT X.K H p xs ∧ k = !xs.isEmpty) := e
    rcases e' with ⟨xs, hx, e'⟩ | ⟨xs, hx, e'⟩
    · subst e'
      obtain ⟨its, r, pl, hz⟩ := I.list hx
      have hlen := r.length
      exact wpAny_truthy_list pl.isList (by simp only [List.size_toArray]; omega) ⟨H, I.tok _, by rw [ZfB r]; exact q⟩
    · subst e'
      obtain ⟨its, r, pl, hz⟩ := I.tuple hx
      have hlen := r.length
      exact truthy_tuple pl (by simp only [List.size_toArray]; omega) ⟨H, I.tok _, by rw [ZfB r]; exact q⟩
  | _ => exact (show False from e).elim
theorem Zk8 (ha : PE X a ta) (he : ∀ Zfp, isTrue a X.env Zfp = (do let v ← Zfp; standAt a.pos; holding [v] (truthy v))) :
    PT X a (fun σ H Q => ta σ H fun x H' => ∃ k, ZqN X.K x H' k ∧ Q k H') := by
  intro pins s σ H Q I h
  exact isTrue_plain (thn (ha pins s σ H _ I h) fun v s1 z59_ => by obtain ⟨x, H1, I1, r1, q1⟩ := z59_; exact (ZoC pins s1 σ H1 x v Q I1 r1 q1)) (he _)
theorem ZiD : OpR X (binaryOp .Add) (fun x y H Q => ∃ i j, x = .str i ∧ y = .str j ∧ i.length + j.length ≤ sizeLine ∧ Q (.str (i ++ j)) H) := by
  intro pins s σ H x y v u Q I rx ry h
  obtain ⟨i, j, rfl, rfl, hz, q⟩ := h
  obtain ⟨t, rfl⟩ := rx
  obtain ⟨t', rfl⟩ := ry
  exact add_str (fun t' tk => ⟨.str (i ++ j), H, I.tok _, ⟨_, rfl⟩, q⟩) hz
theorem ZfV {x : V} {us : List Value} (r : Vals [x] us) : ∃ u, us = [u] ∧ RelV x u := by
  cases r with
  | cons r1 r2 => cases r2; exact ⟨_, rfl, r1⟩
theorem Zk9 {x y : V} {us : List Value} (r : Vals [x, y] us) : ∃ u w', us = [u, w'] ∧ RelV x u ∧ RelV y w' := by
  cases r with
  | cons r1 r2 =>
    cases r2 with
    | cons r3 r4 => cases r4; exact ⟨_, _, rfl, r1, r3⟩
theorem Zjq (hc : X.calm = true) : Zec X (.builtin "max") (fun xs H Q => ∃ i j, xs = [.int i, .int j] ∧ Q (.int (if j > i then j else i)) H) := by
  intro pins s σ H xs us Q I r h
  obtain ⟨i, j, rfl, q⟩ := h
  obtain ⟨u, w', rfl, ⟨t, rfl⟩, ⟨t', rfl⟩⟩ := Zk9 r
  refine max_two_ints (I.ok.hd hc) fun h' tk k => ⟨_, H, I.kept k, ?_, q⟩
  by_cases hj : j > i
  · rw [if_pos hj, if_pos hj]; exact ⟨_, rfl⟩
  · rw [if_neg hj, if_neg hj]; exact ⟨_, rfl⟩
theorem Zjr (hc : X.calm = true) : Zec X (.builtin "min") (fun xs H Q => ∃ i j, xs = [.int i, .int j] ∧ Q (.int (if j < i then j else i)) H) := by
  intro pins s σ H xs us Q I r h
  obtain ⟨i, j, rfl, q⟩ := h
  obtain ⟨u, w', rfl, ⟨t, rfl⟩, ⟨t', rfl⟩⟩ := Zk9 r
  refine min_two_ints (I.ok.hd hc) fun h' tk k => ⟨_, H, I.kept k, ?_, q⟩
  by_cases hj : j < i
  · rw [if_pos hj, if_pos hj]; exact ⟨_, rfl⟩
  · rw [if_neg hj, if_neg hj]; exact ⟨_, rfl⟩
theorem Zjs : Zec X (.type "int") (fun xs H Q => (∃ i, xs = [.int i] ∧ Q (.int i) H) ∨ ∃ k, xs = [.bl k] ∧ Q (.int (if k then 1 else 0)) H) := by
  intro pins s σ H xs us Q I r h
  rcases h with ⟨i, rfl, q⟩ | ⟨k, rfl, q⟩
  · obtain ⟨u, rfl, t, rfl⟩ := ZfV r
    exact call_int_int ⟨.int i, H, I, ⟨_, rfl⟩, q⟩
  · obtain ⟨u, rfl, r1⟩ := ZfV r
    cases r1
    exact call_int_bool ⟨.int (if k then 1 else 0), H, I.tok _, ⟨_, rfl⟩, q⟩
end
end L2
namespace L2
open PySem PySem.Spec PyProof.Rows
section
variable {prog : Program} {w : World} {A : Around} {E : Value → Shared → Prop} {s : Shared} {K : PySem.W.Frag} {x dx C f : Addr} {mA : Str → Option Value} {name : Str} {v : Value}
end
section
variable {P : Program} {w : World} {H H' : Hp} {h h' : Heap} {a C dx : Addr} {fs fs' : List (Str × V)}
end
section
variable {X : Cx} {pins : List (Addr × Obj)} {σ : St} {H : Hp} {s : Shared} {a C dx : Addr} {fs : List (Str × V)} {f : Str} {v : V} {A : Around} {E : Value → Shared → Prop}
end
section
variable {X : Cx} {o e value : Expr} {f : Str} {pos pos' tpos : Pos} {ta tv : TE}
end
section
variable {X : Cx} {pins : List (Addr × Obj)} {σ : St} {H : Hp} {s : Shared} {A : Around} {E : Value → Shared → Prop} {Q : Value → Shared → Prop} {c : Value} {b : Bool}
inductive ZkZ (K : PySem.W.Frag) (H : Hp) : V → Value → Prop where
  | non : ZkZ K H .non (.type "NoneType")
  | bl (x : Bool) : ZkZ K H (.bl x) (.type "bool")
  | int (i : Int) : ZkZ K H (.int i) (.type "int")
  | str (x : Str) : ZkZ K H (.str x) (.type "str")
  | flt (x : UInt64) : ZkZ K H (.flt x) (.type "float")
  | lst {a : Addr} {xs : List V} (e : H a = some (.lst xs)) : ZkZ K H (.ref a) (.type "list")
  | frz {a : Addr} {o : Obj} {xs : List V} (e : H a = some (.frz o (.lst xs))) : ZkZ K H (.ref a) (.type "list")
  | tup {a : Addr} {xs : List V} (e : H a = some (.tup xs)) : ZkZ K H (.ref a) (.type "tuple")
theorem Zjt {x : V} {u t : Value} (I : Inv X pins σ H s) (rx : RelV x u) (ty : ZkZ X.K H x t) (e : PySem.W.kitOne X.K t c = some b) (h : ∀ tk, Q (.bool b) { s with toks := tk }) :
    wpAny (model X.prog X.w) A (call (.builtin "isinstance") [u, c]) Q E s := by
  cases ty with
  | non => cases (show u = Value.none from rx); exact PySem.W.kia_one PySem.W.kitx_none I.kIn True.intro e (fun z => nomatch z) h
  | bl y => cases (show u = Value.bool y from rx); exact PySem.W.kia_one PySem.W.kitx_bool I.kIn True.intro e (fun z => nomatch z) h
  | int i => obtain ⟨t, q⟩ := (show ∃ t, u = Value.int i t from rx); cases q; exact PySem.W.kia_one PySem.W.kitx_int I.kIn True.intro e (fun z => nomatch z) h
  | str y => obtain ⟨t, q⟩ := (show ∃ t, u = Value.str y t from rx); cases q; exact PySem.W.kia_one PySem.W.kitx_str I.kIn True.intro e (fun z => nomatch z) h
  | flt y => obtain ⟨t, q⟩ := (show ∃ t, u = Value.float y t from rx); cases q; exact PySem.W.kia_one PySem.W.kitx_float I.kIn True.intro e (fun z => nomatch z) h
  | @lst a xs ea =>
    cases (show u = Value.ref a from rx)
    obtain ⟨_, _, n, _, h1⟩ := (show ObjOk X.prog X.w H s.heap a (.lst xs) from I.hok a _ ea)
    exact PySem.W.kia_one PySem.W.kitx_list I.kIn ⟨_, h1, rfl⟩ e (fun z => nomatch z) h
  | @frz a ob xs ea =>
    cases (show u = Value.ref a from rx)
    obtain ⟨_, _, _, n, _, h1⟩ := (show ObjOk X.prog X.w H s.heap a (.frz ob (.lst xs)) from I.hok a _ ea)
    exact PySem.W.kia_one PySem.W.kitx_list I.kIn ⟨_, h1, rfl⟩ e (fun z => nomatch z) h
  | @tup a xs ea =>
    cases (show u = Value.ref a from rx)
    obtain ⟨_, _, _, p, _⟩ := (show ObjOk X.prog X.w H s.heap a (.tup xs) from I.hok a _ ea)
    obtain ⟨o, h1, h2, _⟩ := p
    exact PySem.W.kia_one PySem.W.kitx_tuple I.kIn ⟨o, h1, h2⟩ e (fun z => nomatch z) h
end
end L2
namespace L2
open PySem PySem.Spec PyProof.Rows
structure Room (k : Nat) (A : Around) : Prop where
  hd : A.handled = none
  dp : A.depth + 3 * k + 5 < recursionLimit
  un : A.units + 16 * k + 200 < cLine
  gd : A.guards = some []
theorem Room.mono {j k : Nat} {A : Around} (r : Room k A) (h : j ≤ k) : Room j A := ⟨r.hd, by have := r.dp; omega, by have := r.un; omega, r.gd⟩
theorem Room.deeper {k : Nat} {A : Around} (r : Room (k + 1) A) (env : Env) : Room k (A.deeper env) :=
  ⟨r.hd, by have := r.dp; show A.depth + 1 + 3 * k + 5 < _; omega, by have := r.un; show A.units + 3 + 16 * k + 200 < _; omega, r.gd⟩
theorem Room.depth {k : Nat} {A : Around} (r : Room k A) : A.depth < recursionLimit := by have := r.dp; omega
theorem Room.units {k : Nat} {A : Around} (r : Room k A) : A.units + 64 < cLine := by have := r.un; omega
def Ztx : TA := fun _ H Q => Q [] H
def ZqO (ta : TE) (tr : TA) : TA := fun σ H Q => ta σ H fun x H1 => tr σ H1 fun xs H2 => Q (x :: xs) H2
section
variable {X : Cx} {e : Expr} {es : List Expr} {te : TE} {t : TA} {pos : Pos}
theorem ZoD : PA X [] Ztx := fun _ _ _ _ H Q I h => Calls.spliced_nil ⟨[], H, I, .nil, h⟩
theorem ZmM (ha : PE X e te) (hr : PA X es t) (hs : starEach (e :: es) X.env = (false, eval e X.env) :: starEach es X.env := by rfl) : PA X (e :: es) (ZqO te t) := by
  intro pos pins s σ H Q I h
  rw [hs]
  show wpAny _ _ (spliced ((false, eval e X.env) :: backTo pos (starEach es X.env))) _ _ s
  refine Calls.spliced_cons (thn (ha pins s σ H _ I h) fun u s1 z68_ => ?_)
  obtain ⟨x, H1, I1, r1, q1⟩ := z68_
  exact thn (hr pos pins s1 σ H1 _ I1 q1) fun us s2 z69_ => by obtain ⟨xs, H2, I2, r2, q2⟩ := z69_; exact (⟨x :: xs, H2, I2, .cons r1 r2, q2⟩)
def Zty (t : TA) : TE := fun σ H Q => t σ H fun xs H1 => xs.length ≤ sizeLine ∧ ∀ p, H1 p = none → Q (.ref p) (upd H1 p (.tup xs))
def Ztz (t : TA) : TE := fun σ H Q => t σ H fun xs H1 => xs.length ≤ sizeLine ∧ ∀ p, H1 p = none → Q (.ref p) (upd H1 p (.lst xs))
theorem ZoE {x1} (h : PA X es t) : PE X (.Tuple es x1 pos) (Zty t) := by
  intro pins s σ H Q I hq
  refine wpAny_Tuple_spliced (thn (h pos pins s σ H _ I hq) fun us s1 ⟨xs, H1, I1, r, z, q⟩ => ⟨by rw [← r.length]; exact z, ?_⟩)
  have hf : H1 s1.heap.objs.size = none := I1.hok.fresh (Nat.le_refl _)
  refine ⟨.ref s1.heap.objs.size, upd H1 s1.heap.objs.size (.tup xs), I1.laid (t' := s1.toks) (fun b u e => Heap.get?_push_of_some _ e) (Nat.le_refl _) ?_, rfl, q _ hf⟩
  exact ⟨z, us, r, ⟨_, Heap.get?_push_size _ rfl, rfl, _, rfl⟩, NoDict.new⟩
theorem ZoF (h : PA X es t) : PE X (.List es pos) (Ztz t) := by
  intro pins s σ H Q I hq
  refine wpAny_List_spliced (thn (h pos pins s σ H _ I hq) fun us s1 ⟨xs, H1, I1, r, z, q⟩ => ⟨by rw [← r.length]; exact z, ?_⟩)
  have hf : H1 s1.heap.objs.size = none := I1.hok.fresh (Nat.le_refl _)
  refine ⟨.ref s1.heap.objs.size, upd H1 s1.heap.objs.size (.lst xs), I1.laid (t' := s1.toks) (fun b u e => Heap.get?_push_of_some _ e) (Nat.le_refl _) ?_, rfl, q _ hf⟩
  exact ⟨z, us, 0, r, Heap.get?_push_size _ rfl⟩
end
abbrev Sp := List V → Hp → VK → XK → Prop
abbrev CXT := List Env → Hp → Shared → XK → Value → Shared → Prop
structure Zmc (P : Program) (w : World) (K : PySem.W.Frag) (mg : Str → Option Value) (base : Heap) (A : Around) (outer : List Env) (s : Shared) (H : Hp) : Prop where
  frames : A.frames = some outer
  mod : Mod K mg base
  bs : ∀ b o, base.get? b = some o → s.heap.get? b = some o ∧ H b = none
  bsz : base.objs.size ≤ s.heap.objs.size
  funs : s.heap.FunFrames base outer
  frf : ∀ b ∈ frs outer, H b = none
  hok : HOk P w H s.heap
  bare : AllBare s.gens
inductive CE (outer : List Env) (P : Program) (w : World) (H : Hp) (s : Shared) (Q : VK) (u : Value) (s' : Shared) : Prop where
  | mk (v : V) (H' : Hp) (os : s'.os = s.os) (bare : AllBare s'.gens) (un : Un (frs outer) [] H H' s.heap s'.heap) (hok : HOk P w H' s'.heap) (r : RelV v u) (q : Q v H') : CE outer P w H s Q u s'
def CR (CX : CXT) (outer : List Env) (P : Program) (w : World) (H : Hp) (s : Shared) (Q : VK) (E : XK) (r : Result) (s' : Shared) : Prop :=
  match r with
  | .ok (.ret u) => CE outer P w H s Q u s'
  | .ok _ => False
  | .error e => CX outer H s E e s'
structure FnOk (P : Program) (w : World) (K : PySem.W.Frag) (mg : Str → Option Value) (base : Heap) (CX : CXT) (k : Nat) (f : Addr) (fd : FuncData) (ps : List Str) (sp : Sp) : Prop where
  len : ∀ vs H Q E, sp vs H Q E → vs.length = ps.length
  run : ∀ (A : Around) (outer : List Env) (s : Shared) (H : Hp) (args : Args) (us : List Value) (vs : List V) (Q : VK) (E : XK), Room k A → Zmc P w K mg base A outer s H → BindsTo s fd args (ps.zip us) → Vals vs us → sp vs H Q E →
    codeAny (model P w) A (.call (.ref f) args) (CR CX outer P w H s Q E) s
theorem FnOk.mono {P : Program} {w : World} {K : PySem.W.Frag} {mg : Str → Option Value} {base : Heap} {CX : CXT} {j k : Nat} {f : Addr} {fd : FuncData} {ps : List Str} {sp : Sp} (F : FnOk P w K mg base CX j f fd ps sp) (h : j ≤ k) :
    FnOk P w K mg base CX k f fd ps sp := ⟨F.len, fun A outer s H args us vs Q E hr => F.run A outer s H args us vs Q E (hr.mono h)⟩
theorem FnOk.imp {P : Program} {w : World} {K : PySem.W.Frag} {mg : Str → Option Value} {base : Heap} {CX : CXT} {k : Nat} {f : Addr} {fd : FuncData} {ps : List Str} {sp sp' : Sp} (F : FnOk P w K mg base CX k f fd ps sp)
    (h : ∀ vs H Q E, sp' vs H Q E → sp vs H Q E) : FnOk P w K mg base CX k f fd ps sp' :=
  ⟨fun vs H Q E q => F.len vs H Q E (h _ _ _ _ q), fun A outer s H args us vs Q E hr he hb hv hs => F.run A outer s H args us vs Q E hr he hb hv (h _ _ _ _ hs)⟩
section
variable {X : Cx} {pins : List (Addr × Obj)} {σ : St} {H : Hp} {s s' : Shared}
theorem Inv.env0 (I : Inv X pins σ H s) : Zmc X.prog X.w X.K X.mg X.base X.A X.stack s H :=
  ⟨I.ok.frames, I.ok.mod, I.bs, Nat.le_trans I.ok.bsz I.sz, I.stack, I.stkFree, I.hok, I.bare⟩
theorem Inv.after {Q : VK} {u : Value} (I : Inv X pins σ H s) (h : CE X.stack X.prog X.w H s Q u s') : EP X pins σ Q u s' := by
  obtain ⟨v, H', os, bare, un, hok, r, q⟩ := h
  obtain ⟨hh, g, d, t, os'⟩ := s'
  obtain rfl : os' = s.os := os
  exact ⟨v, H', I.call (h' := hh) (g' := g) (d' := d) (t' := t) (ch := []) un hok bare (fun b z => absurd z (by simp)), r, q⟩
end
def ZqP (sp : Sp) (dvs : List V) (E : XK) (t : TA) : TE := fun σ H Q => t σ H fun vs H1 => sp (vs ++ dvs) H1 Q E
def Binds (K : PySem.W.Frag) (fd : FuncData) (ps : List Str) (ds : List Value) : Prop :=
  ∀ (s : Shared) (us : List Value), K.In s.heap → (us ++ ds).length = ps.length → BindsTo s fd ⟨us, []⟩ (ps.zip (us ++ ds))
theorem Binds.all {K : PySem.W.Frag} {fd : FuncData} {ps : List Str} (h : ∀ us : List Value, us.length = ps.length → bindArgs fd ⟨us, []⟩ = pure (ps.zip us)) : Binds K fd ps [] := fun s us _ hl => by
  rw [List.append_nil] at hl ⊢
  exact .of_eq (h us hl)
def ZeC (CX : CXT) (X : Cx) (E : XK) : Prop := ∀ (pins : List (Addr × Obj)) (σ : St) (H : Hp) (s : Shared) (e : Value) (s' : Shared), Inv X pins σ H s → CX X.stack H s E e s' → X.xe e s'
section
variable {X : Cx} {CX : CXT} {k : Nat} {f C : Addr} {fd : FuncData} {ps : List Str} {sp : Sp} {dvs : List V} {ds : List Value} {E : XK} {x m : Str} {p pos apos : Pos} {e o : Expr} {es : List Expr} {ta : TE} {t : TA}
theorem ZoG {pins : List (Addr × Obj)} {σ : St} {H : Hp} {s : Shared} {Q : VK} {us : List Value} {vs : List V} (F : FnOk X.prog X.w X.K X.mg X.base CX k f fd ps sp) (hr : Room k X.A) (hb : Binds X.K fd ps ds) (hd : Vals dvs ds) (hx : ZeC CX X E)
    (I : Inv X pins σ H s) (r : Vals vs us) (h : sp (vs ++ dvs) H Q E) : wpAny (model X.prog X.w) X.A (call (.ref f) us) (EP X pins σ Q) X.xe s := by
  have r2 : Vals (vs ++ dvs) (us ++ ds) := r.append hd
  have hl : (us ++ ds).length = ps.length := by rw [← r2.length]; exact F.len _ _ _ _ h
  refine wpAny_call (codeAny_mono (F.run X.A X.stack s H ⟨us, []⟩ (us ++ ds) (vs ++ dvs) Q E hr I.env0 (hb s us I.kIn hl) r2 h) fun r s' hq => ?_)
  cases r with
  | error e => exact hx pins σ H s e s' I hq
  | ok fl =>
    cases fl with
    | ret u => exact I.after hq
    | next => exact False.elim hq
    | brk => exact False.elim hq
    | cont => exact False.elim hq
theorem ZmN (F : FnOk X.prog X.w X.K X.mg X.base CX k f fd ps sp) (hr : Room k X.A) (hg : Gl X x) (hm : X.mg x = some (.ref f)) (hk : PySem.W.keepIn X.K (.ref f) = true) (hb : Binds X.K fd ps ds) (hd : Vals dvs ds) (hx : ZeC CX X E)
    (ha : PA X (e :: es) t) (hdb : (x == ("__debug__" : Str)) = false := by decide) (he : starEach (e :: es) X.env = (false, eval e X.env) :: starEach es X.env := by rfl) (hpl : (backTo pos (starEach es X.env)).any (·.1) = false := by rfl) :
    PE X (.Call (.Name x p) (e :: es) [] pos) (ZqP sp dvs E t) := by
  intro pins s σ H Q I h
  refine wpAny_Call_Name_kw (ZdN I hg hm ?_ hdb)
  refine PySem.W.callWith_K (h₀ := X.base) I.ok.mod.kin hk (thn (ha pos pins s σ H _ I h) ?_) he hpl
  rintro us s1 ⟨vs, H1, I1, r, q⟩
  refine ⟨I1.kIn, ?_⟩
  exact ZoG F hr hb hd hx I1 r q
end
section
variable {X : Cx} {CX : CXT} {k : Nat} {f C : Addr} {fd : FuncData} {ps ks : List Str} {sp : Sp} {E : XK} {x m : Str} {p pos apos kpos : Pos} {e o : Expr} {es : List Expr} {kws : List Keyword} {te ta : TE} {t tk : TA} {nm : Option Str}
variable {g : List Value → List Value → List Value} {gV : List V → List V → List V}
end
structure ZaA (N P : List Str) (sc : Scope) : Prop where
  kind : sc.kind = .function
  co : sc.isCoroutine = false
  gen : sc.isGenerator = false
  nd : N.Nodup
  pre : N.take P.length = P
  par : ∀ x ∈ P, sc.names.lookup x = some .local ∨ sc.names.lookup x = some .cell
  nofree : ∀ y ∈ sc.names, y.2 ≠ .free
theorem Zgy {kindOf : Str → Option NameKind} {x : Str} : ∀ {binds : List (Str × Value)} {m : Str → Option Value}, (∀ v, (x, v) ∉ binds) → bindL kindOf binds m x = m x
  | [], _, _ => rfl
  | (n, v) :: r, m, h => by
    unfold bindL
    rw [Zgy fun w hw => h w (List.mem_cons_of_mem _ hw)]
    split
    · have : x ≠ n := by rintro rfl; exact h v List.mem_cons_self
      simp [this]
    · rfl
theorem Zgz {kindOf : Str → Option NameKind} {x : Str} : ∀ {binds : List (Str × Value)} {m : Str → Option Value}, (∀ v, (x, v) ∉ binds) → bindC kindOf binds m x = m x
  | [], _, _ => rfl
  | (n, v) :: r, m, h => by
    unfold bindC
    rw [Zgz fun w hw => h w (List.mem_cons_of_mem _ hw)]
    split
    · rfl
    · have : x ≠ n := by rintro rfl; exact h v List.mem_cons_self
      simp [this]
theorem ZeD {kindOf : Str → Option NameKind} {x : Str} {v : Value} : ∀ {P : List Str} {vs : List Value} {i : Nat} {m : Str → Option Value}, P.Nodup → P[i]? = some x → vs[i]? = some v → kindOf x = some .local →
    bindL kindOf (P.zip vs) m x = some v
  | [], _, _, _, _, h, _, _ => by simp at h
  | _ :: _, [], _, _, _, _, h, _ => by simp at h
  | p :: P, w :: vs, 0, m, nd, h1, h2, hk => by
    simp at h1 h2; subst h1; subst h2
    show bindL kindOf ((p, w) :: P.zip vs) m p = _
    unfold bindL
    rw [Zgy fun v hv => (List.nodup_cons.mp nd).1 (List.of_mem_zip hv).1, if_pos hk]
    simp
  | p :: P, w :: vs, i + 1, m, nd, h1, h2, hk => by
    show bindL kindOf ((p, w) :: P.zip vs) m x = _
    unfold bindL
    exact ZeD (i := i) (List.nodup_cons.mp nd).2 (by simpa using h1) (by simpa using h2) hk
theorem ZeE {kindOf : Str → Option NameKind} {x : Str} {v : Value} : ∀ {P : List Str} {vs : List Value} {i : Nat} {m : Str → Option Value}, P.Nodup → P[i]? = some x → vs[i]? = some v → kindOf x ≠ some .local →
    bindC kindOf (P.zip vs) m x = some v
  | [], _, _, _, _, h, _, _ => by simp at h
  | _ :: _, [], _, _, _, _, h, _ => by simp at h
  | p :: P, w :: vs, 0, m, nd, h1, h2, hk => by
    simp at h1 h2; subst h1; subst h2
    show bindC kindOf ((p, w) :: P.zip vs) m p = _
    unfold bindC
    rw [Zgz fun v hv => (List.nodup_cons.mp nd).1 (List.of_mem_zip hv).1, if_neg hk]
    simp
  | p :: P, w :: vs, i + 1, m, nd, h1, h2, hk => by
    show bindC kindOf ((p, w) :: P.zip vs) m x = _
    unfold bindC
    exact ZeE (i := i) (List.nodup_cons.mp nd).2 (by simpa using h1) (by simpa using h2) hk
def start (N : List Str) (vs : List V) : St := vs.map some ++ List.replicate (N.length - vs.length) none
def Zcj (CX : CXT) (P : Program) (w : World) (K : PySem.W.Frag) (mg : Str → Option Value) (base : Heap) (N : List Str) (qual : Str) (scope : Scope) (f : Addr) (cd : Value) (A : Around) (outer : List Env) (s : Shared) (H : Hp) (E : XK) : Cx where
  prog := P
  w := w
  K := K
  mg := mg
  base := base
  A := A.deeper (envOfC qual scope s.heap.objs.size f cd)
  N := N
  s₀ := s
  H₀ := H
  env := envOfC qual scope s.heap.objs.size f cd
  outer := outer
  stack := envOfC qual scope s.heap.objs.size f cd :: outer
  ex := []
  calm := true
  fn := fun _ => true
  pn := []
  xe := fun e s' => wpAny (model P w) (A.deeper (envOfC qual scope s.heap.objs.size f cd)) (leaving (envOfC qual scope s.heap.objs.size f cd) e) (fun _ s'' => CX outer H s E e s'') (fun e' s'' => CX outer H s E e' s'') s'
theorem Zeu {sc : Scope} {n : Nat} {x : Str} (h : sc.names.lookup x = some .cell) : ∃ c, (cellsFrom n sc.names []).lookup x = some c := by
  have q := PySem.W.cellsFrom_some sc.names n [] (.inl h)
  exact Option.isSome_iff_exists.mp q
theorem ZgA {CX : CXT} {P : Program} {w : World} {K : PySem.W.Frag} {mg : Str → Option Value} {base : Heap} {N ps : List Str} {qual : Str} {scope : Scope} {f : Addr} {cd : Value} {A : Around} {outer : List Env} {s s1 : Shared} {H : Hp} {E : XK} {us : List Value} {vs : List V}
    (S : ZaA N ps scope) (hd : A.handled = none) (e0 : Zmc P w K mg base A outer s H) (hl : vs.length = ps.length) (r : Vals vs us)
    (x : InCallC s s.heap.objs.size (bindL (envOfC qual scope s.heap.objs.size f cd).kindOf (ps.zip us) fun _ => none) (cellsFrom (s.heap.objs.size + 1) scope.names []) (bindC (envOfC qual scope s.heap.objs.size f cd).kindOf (ps.zip us) fun _ => none) s1) :
    Inv (Zcj CX P w K mg base N qual scope f cd A outer s H E) [] (start N vs) H s1 := by
  have hpl : ps.length ≤ N.length := by have := congrArg List.length S.pre; rw [List.length_take] at this; omega
  obtain ⟨h1, tk, rfl, hk⟩ := x.done
  have noA : ∀ b : Addr, b ∉ (Zcj CX P w K mg base N qual scope f cd A outer s H E).ex := fun b z => absurd (show b ∈ ([] : List Addr) from z) (by simp)
  refine ⟨⟨e0.mod, S.kind, rfl, rfl, Nat.le_refl _, fun y z c h1 h2 => ?_, fun y hy => ?_, fun y c _ h => ?_, fun _ => hd, Around.frames_deeper e0.frames, .inr ⟨rfl, rfl⟩, fun b z => absurd z (noA b), e0.bs, e0.bsz, fun b _ _ => noA b, fun b z => absurd z (noA b), e0.funs, e0.frf⟩,
    rfl, e0.bare, Un.kept hk, ⟨_, x.toInCall.ns, fun i y v h1 h2 h3 => ?_⟩, fun y c h => ⟨_, x.cell y c h⟩, e0.hok.fresh (Nat.le_refl _), fun y c h => ?_, fun p hp => absurd (show p ∈ ([] : List (Addr × Obj)) from hp) (by simp), e0.hok.kept hk, ?_⟩
  · exact name_of_addr x.apart (PySem.mem_of_lookup h1) (PySem.mem_of_lookup h2)
  · have hy : scope.names.lookup y = some .cell ∨ scope.names.lookup y = some .free := hy
    rcases hy with hy | hy
    · exact Zeu hy
    · exact absurd rfl (S.nofree _ (PySem.mem_of_lookup hy))
  · exact Nat.le_of_lt (x.above y c (PySem.mem_of_lookup h))
  · have hi : i < vs.length := by
      unfold start at h2
      by_cases hi : i < vs.length
      · exact hi
      · rw [List.getElem?_append_right (by simpa using hi)] at h2
        rw [List.getElem?_replicate] at h2
        split at h2 <;> cases h2
    have ha : vs[i]? = some v := by
      unfold start at h2
      rw [List.getElem?_append_left (by simpa using hi), List.getElem?_map] at h2
      cases e : vs[i]? with
      | none => rw [e] at h2; cases h2
      | some a => rw [e] at h2; cases h2; rfl
    obtain ⟨u, hu, rv⟩ := r.get ha
    have hp : ps[i]? = some y := by
      rw [← S.pre, List.getElem?_take_of_lt (by omega)]; exact h1
    have ndP : ps.Nodup := by rw [← S.pre]; exact S.nd.sublist (List.take_sublist _ _)
    refine ⟨u, rv, ?_⟩
    rcases S.par y (List.mem_of_getElem? hp) with k | k
    · exact .inl ⟨k, ZeD ndP hp hu k⟩
    · obtain ⟨c, e⟩ := Zeu (n := s.heap.objs.size + 1) k
      refine .inr ⟨.inl k, c, e, ?_⟩
      have q := x.cell y c e
      rw [ZeE ndP hp hu (by show scope.names.lookup y ≠ _; rw [k]; decide)] at q
      exact q
  · exact e0.hok.fresh (Nat.le_of_lt (x.above y c (PySem.mem_of_lookup h)))
  · unfold start
    show _ = N.length
    rw [List.length_append, List.length_map, List.length_replicate]
    omega
theorem ZoH {CX : CXT} {P : Program} {w : World} {K : PySem.W.Frag} {mg : Str → Option Value} {base : Heap} {k : Nat} {f : Addr} {name qual : Str} {params : Arguments} {body : List Stmt} {scope : Scope} {dV kV doc pm cdv ct oc : Value} {an od : Option Addr}
    {osl : Array (Option Value)} {N ps : List Str} {sp : Sp} (lk : K.lookup f = some ⟨oc, od, .func (PySem.W.fnOf name qual params body scope dV kV doc pm an cdv ct), osl⟩) (hcd : PySem.W.codeIn K cdv qual = true) (S : ZaA N ps scope)
    (len : ∀ vs H Q E, sp vs H Q E → vs.length = ps.length)
    (hbody : ∀ (A : Around) (outer : List Env) (s : Shared) (H : Hp) (vs : List V) (Q : VK) (E : XK), Room k (A.deeper (envOfC qual scope s.heap.objs.size f cdv)) → sp vs H Q E →
      ∃ t, PSs (Zcj CX P w K mg base N qual scope f cdv A outer s H E) body t ∧ t { nx := fun _ H' => Q .non H', rt := Q } (start N vs) H) :
    FnOk P w K mg base CX (k + 1) f (PySem.W.fnOf name qual params body scope dV kV doc pm an cdv ct) ps sp := by
  refine ⟨len, fun A outer s H args us vs Q E hr e0 hb r hsp => ?_⟩
  have hl := len _ _ _ _ hsp
  have KX : K.In s.heap := e0.mod.kin.keeps fun b o e => (e0.bs b o e).1
  have lim : s.heap.NoLimit := e0.mod.nolimit.keeps fun b o e => (e0.bs b o e).1
  have hkind : ∀ y ∈ ps.zip us, scope.names.lookup y.1 = some .local ∨ (scope.names.lookup y.1 = some .cell ∧ ((cellsFrom (s.heap.objs.size + 1) scope.names []).lookup y.1).isSome = true) := fun z81_ hy => by
    obtain ⟨n, v⟩ := z81_
    rcases S.par n (List.of_mem_zip hy).1 with q | q
    · exact .inl q
    · exact .inr ⟨q, PySem.W.cellsFrom_some _ _ _ (.inl q)⟩
  refine codeAny_call_function hr.depth (KX _ _ lk) rfl S.co S.gen rfl (PySem.W.codeRec_of KX hcd) (hb _ _ _ _ ?_)
  refine wpAny_newFunctionEnv_cells S.kind hkind fun env he s1 x => ?_
  subst he
  refine ⟨lim.keeps x.toInCall.keep, codeAny_func ?_⟩
  obtain ⟨t, ht, hq⟩ := hbody A outer s H vs Q E (hr.deeper _) hsp
  have I : Inv (Zcj CX P w K mg base N qual scope f cdv A outer s H E) [] (start N vs) H s1 := ZgA S hr.hd e0 hl r x
  refine wpAny_mono (ht [] s1 (start N vs) H _ I hq) (fun fl s' hs => ?_) fun e s' hs => hs
  have fin : ∀ {σ' : St} {H' : Hp} {v : V} {u : Value}, Inv (Zcj CX P w K mg base N qual scope f cdv A outer s H E) [] σ' H' s' → RelV v u → Q v H' → CE outer P w H s Q u s' :=
    fun {σ' H' v u} J rv q => ⟨v, H', J.os, J.bare, J.base, J.hok, rv, q⟩
  cases fl with
  | ret u =>
    obtain ⟨v, σ', H', J, rv, q⟩ := hs
    exact fin J rv q
  | next =>
    obtain ⟨σ', H', J, q⟩ := hs
    exact fin (v := V.non) (u := Value.none) J rfl q
  | brk =>
    obtain ⟨_, _, _, q⟩ := hs
    exact False.elim q
  | cont =>
    obtain ⟨_, _, _, q⟩ := hs
    exact False.elim q
end L2
namespace L2
open PySem PySem.Spec PyProof.Rows
section
variable {X : Cx} {x : Str} {p pos : Pos} {e : Expr} {es : List Expr} {t : TA} {id T : String} {r : List V → Hp → VK → Prop}
def tCB (r : List V → Hp → VK → Prop) (t : TA) : TE := fun σ H Q => t σ H fun vs H1 => r vs H1 Q
theorem Zla (hc : Zec X (.builtin id) r) (hg : Gl X x) (hm : X.mg x = none) (hv : bootBuiltins x = some (.builtin id)) (ha : PA X (e :: es) t) (hn : x ≠ "__name__" := by decide) (hdb : (x == ("__debug__" : Str)) = false := by decide)
    (he : starEach (e :: es) X.env = (false, eval e X.env) :: starEach es X.env := by rfl) (hpl : (backTo pos (starEach es X.env)).any (·.1) = false := by rfl) : PE X (.Call (.Name x p) (e :: es) [] pos) (tCB r t) := by
  intro pins s σ H Q I h
  refine wpAny_Call_Name_kw (ZfA I hg hm hv ?_ hn hdb)
  exact PyProof.Rows.callWith_builtin1 (thn (ha pos pins s σ H _ I h) fun us s1 z82_ => by obtain ⟨vs, H1, I1, r1, q1⟩ := z82_; exact (hc pins s1 σ H1 vs us Q I1 r1 q1)) he hpl
theorem Zju (hc : Zec X (.type T) r) (hg : Gl X x) (hm : X.mg x = none) (hv : bootBuiltins x = some (.type T)) (ha : PA X (e :: es) t) (hn : x ≠ "__name__" := by decide) (hdb : (x == ("__debug__" : Str)) = false := by decide)
    (he : starEach (e :: es) X.env = (false, eval e X.env) :: starEach es X.env := by rfl) (hpl : (backTo pos (starEach es X.env)).any (·.1) = false := by rfl) : PE X (.Call (.Name x p) (e :: es) [] pos) (tCB r t) := by
  intro pins s σ H Q I h
  refine wpAny_Call_Name_kw (ZfA I hg hm hv ?_ hn hdb)
  exact PyProof.Rows.callWith_type1 (thn (ha pos pins s σ H _ I h) fun us s1 z83_ => by obtain ⟨vs, H1, I1, r1, q1⟩ := z83_; exact (hc pins s1 σ H1 vs us Q I1 r1 q1)) he hpl
end
end L2
namespace HT
open PySem PyProof.Rows
section
open PySem.SeqAt
open PySem.AutoSeq1 (wpAny_loadPart')
open PySem.MeetsSeq PySem.MeetsSeq2 PySem.MeetsSeq3
end
section
variable {prog : Program} {w : World} {A : Around} {E : Value → Shared → Prop} {s : Shared}
theorem cat_tup {t b : Addr} {vs ws : List Value} {Q : Value → Shared → Prop} (ht : IsTup s.heap t vs.toArray) (hb : IsTup s.heap b ws.toArray) (hv : vs ≠ [])
    (h1 : ws = [] → Q (.ref t) s) (h2 : ws ≠ [] → Q (.ref s.heap.objs.size) { s with heap := s.heap.push { cls := .type "tuple", data := .seq (vs ++ ws).toArray } })
    (hsz : vs.length + ws.length ≤ sizeLine) : wpAny (model prog w) A (binaryOp .Add (.ref t) (.ref b)) Q E s := by
  obtain ⟨⟨cls, dd, data, sl⟩, ho, hc, n, hd⟩ := id ht
  obtain ⟨⟨cls2, dd2, data2, sl2⟩, ho2, hc2, n2, hd2⟩ := id hb
  simp only at hc hd hc2 hd2
  subst hc hd hc2 hd2
  have e : vs.toArray ++ ws.toArray = (vs ++ ws).toArray := by simp
  by_cases hw : ws = []
  · exact concat_meets ⟨_, ho, rfl⟩ ⟨_, ho2, rfl⟩ noFill_tuple_add seq_tuple_add PySem.F.slot_tuple_add PySem.F.entry_tuple_add (PySem.F.args_tuple_add_2 _ _)
      (tuple_addW1 t b vs.toArray ws.toArray n n2 dd dd2 sl sl2 (by simpa using hv) (by simp [hw])) ⟨ho, ho2, h1 hw⟩
  · refine concat_meets ⟨_, ho, rfl⟩ ⟨_, ho2, rfl⟩ noFill_tuple_add seq_tuple_add PySem.F.slot_tuple_add PySem.F.entry_tuple_add (PySem.F.args_tuple_add_2 _ _)
      (tuple_addW2 t b vs.toArray ws.toArray n n2 dd dd2 sl sl2 (by simpa using hv) (by simpa using hw) (by rw [List.size_toArray, List.size_toArray]; exact hsz)) ⟨ho, ho2, ?_⟩
    rw [e]
    exact h2 hw
def sIx (n d : Nat) : Option Int → Nat
  | none => d
  | some v => if v < 0 then (v + (n : Int)).toNat else min v.toNat n
theorem sIx_none (n d : Nat) : sIx n d none = d := rfl
theorem sIx_nat (n d k : Nat) : sIx n d (some (k : Int)) = min k n := by
  show (if (k : Int) < 0 then ((k : Int) + (n : Int)).toNat else min (k : Int).toNat n) = min k n
  rw [if_neg (by omega), Int.toNat_natCast]
theorem ZoI (n d : Nat) (hd : d ≤ n) (o : Option Int) : sIx n d o ≤ n := by
  cases o with
  | none => exact hd
  | some v =>
    show (if v < 0 then (v + (n : Int)).toNat else min v.toNat n) ≤ n
    by_cases hv : v < 0
    · rw [if_pos hv]; omega
    · rw [if_neg hv]; exact Nat.min_le_right _ _
theorem Zjv (v : Int) (n d : Nat) : (if v < 0 then max (v + (n : Int)) 0 else min v (n : Int)) = ((sIx n d (some v) : Nat) : Int) := by
  show (if v < 0 then max (v + (n : Int)) 0 else min v (n : Int)) = (((if v < 0 then (v + (n : Int)).toNat else min v.toNat n) : Nat) : Int)
  by_cases hv : v < 0
  · simp only [if_pos hv]; omega
  · simp only [if_neg hv]; omega
theorem ZiE (lo hi : Option Int) (n : Nat) : Builtin.Slice.sliceAdjust lo hi 1 (n : Int) = (((sIx n 0 lo : Nat) : Int), ((sIx n n hi : Nat) : Int)) := by
  have h1 : ¬ ((1 : Int) < 0) := by omega
  unfold Builtin.Slice.sliceAdjust
  simp only [h1, if_false]
  refine Prod.ext ?_ ?_
  · cases lo with
    | none => rfl
    | some v => exact Zjv v n 0
  · cases hi with
    | none => rfl
    | some v => exact Zjv v n n
theorem ZiF (i j : Nat) : Builtin.Slice.slicePlaces (i : Int) (j : Int) 1 = j - i := by
  unfold Builtin.Slice.slicePlaces
  have h1 : (1 : Int) > 0 := by omega
  simp only [h1, if_true, Int.ediv_one]
  split <;> omega
theorem ZfD {v : Value} {o : Option Int} {Q : Option Int → Shared → Prop} (p : IsPart v o) (h : Q o s) : wpAny (model prog w) A (Builtin.Slice.slicePartIndex v) Q E s := by
  cases p with
  | none => exact slicePart_none h
  | int i t => exact slicePart_int h
theorem sliceApplied_gen {sl : Addr} {vl vu : Value} {lo hi : Option Int} {n : Nat} {Q : Int × Int × Nat → Shared → Prop} (hs : s.heap.IsSliceOf sl vl vu .none) (pl : IsPart vl lo) (pu : IsPart vu hi)
    (h : Q (((sIx n 0 lo : Nat) : Int), 1, sIx n n hi - sIx n 0 lo) s) : wpAny (model prog w) A (Builtin.Slice.sliceApplied (.ref sl) (pure (n : Int))) Q E s := by
  obtain ⟨os, hos, hcs, hds⟩ := id hs
  unfold Builtin.Slice.sliceApplied Builtin.Slice.sliceFields
  refine wpAny_bind (wpAny_bind (wpAny_field hos hds (x := vl) rfl (wpAny_bind (wpAny_field hos hds (x := vu) rfl (wpAny_bind (wpAny_field hos hds (x := .none) rfl (wpAny_pure ?_)))))))
  refine wpAny_bind (slicePart_none ?_)
  show wpAny _ _ (if ((1 : Int) == 0) = true then _ else _) _ _ s
  rw [if_neg (by decide)]
  refine wpAny_bind (ZfD pl (wpAny_bind (ZfD pu (wpAny_bind (wpAny_pure ?_)))))
  show wpAny _ _ (match Builtin.Slice.sliceAdjust lo hi 1 (n : Int) with | (lo, hi) => pure (lo, (1 : Int), Builtin.Slice.slicePlaces lo hi 1)) _ _ s
  rw [ZiE lo hi n]
  show wpAny _ _ (pure (((sIx n 0 lo : Nat) : Int), (1 : Int), Builtin.Slice.slicePlaces ((sIx n 0 lo : Nat) : Int) ((sIx n n hi : Nat) : Int) 1)) _ _ s
  rw [ZiF]
  exact wpAny_pure h
theorem Zlb (xs : Array Value) (i k : Nat) : ((List.range k).filterMap fun (m : Nat) => xs[((i : Int) + (m : Int) * 1).toNat]?).toArray = ((xs.toList.drop i).take k).toArray := by
  have e : (fun (m : Nat) => xs[((i : Int) + (m : Int) * 1).toNat]?) = fun m => xs[i + m]? := by
    funext m
    have : ((i : Int) + (m : Int) * 1).toNat = i + m := by omega
    rw [this]
  rw [e]
  have := pick_run xs i k
  rw [List.filterMap_map] at this
  have e2 : ((fun x => xs[x]?) ∘ fun x => i + x) = fun m => xs[i + m]? := rfl
  rw [e2] at this
  rw [this]
theorem getItem_tuple_cut {t sl : Addr} {items : Array Value} {vl vu : Value} {lo hi : Option Int} {Q : Value → Shared → Prop} (ht : IsTup s.heap t items) (hs : s.heap.IsSliceOf sl vl vu .none) (pl : IsPart vl lo) (pu : IsPart vu hi)
    (hw : ¬ (sIx items.size 0 lo = 0 ∧ sIx items.size items.size hi = items.size))
    (h : Q (.ref s.heap.objs.size) { s with heap := s.heap.push { cls := .type "tuple", data := .seq ((items.toList.drop (sIx items.size 0 lo)).take (sIx items.size items.size hi - sIx items.size 0 lo)).toArray } })
    (hsz : items.size ≤ sizeLine) : wpAny (model prog w) A (getItem (.ref t) (.ref sl)) Q E s := by
  have htake : sizeOk (.seq ((items.toList.drop (sIx items.size 0 lo)).take (sIx items.size items.size hi - sIx items.size 0 lo)).toArray) := by
    show ((items.toList.drop (sIx items.size 0 lo)).take (sIx items.size items.size hi - sIx items.size 0 lo)).toArray.size ≤ sizeLine
    rw [List.size_toArray, List.length_take, List.length_drop, Array.length_toList]
    omega
  have hj : sIx items.size items.size hi ≤ items.size := ZoI _ _ (Nat.le_refl _) hi
  obtain ⟨os, hos, hcs, hds⟩ := id hs
  have hTs : s.TypeIs (.ref sl) "slice" := ⟨os, hos, hcs⟩
  unfold getItem
  try with_reducible refine wpAny_holding ?_
  first | refine wpAny_bind (wpAny_pure ?_) | skip
  refine wpAny_bind (wpAny_sequenceKey ht.typeIs (by decide) ?_)
  refine wpAny_bind (wpAny_callSpecial?_slot (name := Str.ofString "__getitem__") ht.typeIs PyProof.Rows.slot_tuple_getitem
    (wpAny_call_entry PyProof.Rows.slot_tuple_getitem ht.typeIs entry_tuple_getitem ?_ (args_tuple_getitem _ _)))
  show wpAny _ _ (Builtin.Tuple.tupleItemsOf (.ref t) >>= _) _ _ s
  refine wpAny_bind (tupleItemsOf_ ht ?_)
  refine wpAny_bind (wpAny_typeOf hTs ?_)
  rw [if_pos (by decide)]
  refine wpAny_bind (sliceApplied_gen hs pl pu ?_)
  have hno : ¬ ((((sIx items.size 0 lo : Nat) : Int) == 0 && (1 : Int) == 1 && (sIx items.size items.size hi - sIx items.size 0 lo) == items.size) = true) := by
    intro q
    rw [Bool.and_eq_true, Bool.and_eq_true] at q
    have q1 : ((sIx items.size 0 lo : Nat) : Int) = 0 := eq_of_beq q.1.1
    have q2 : sIx items.size items.size hi - sIx items.size 0 lo = items.size := eq_of_beq q.2
    exact hw ⟨by omega, by omega⟩
  show wpAny _ _ (if (((sIx items.size 0 lo : Nat) : Int) == 0 && (1 : Int) == 1 && (sIx items.size items.size hi - sIx items.size 0 lo) == items.size) = true then _ else _) _ _ s
  rw [if_neg hno, Zlb]
  first
    | exact wpAny_bind (m := Builtin.Tuple.tupleExact _) (wpAny_newObj_type (wpAny_pure ⟨_, rfl, wpAny_pure h⟩) htake)
    | exact wpAny_bind (m := Builtin.Tuple.tupleExact _) (wpAny_newObj_type (wpAny_bind (wpAny_pure (wpAny_pure ⟨_, rfl, wpAny_pure h⟩))) htake)
    | exact wpAny_bind (wpAny_bind (m := Builtin.Tuple.tupleExact _) (wpAny_newObj_type (wpAny_pure (wpAny_pure ⟨_, rfl, wpAny_pure h⟩)) htake))
    | exact wpAny_bind (wpAny_bind (m := Builtin.Tuple.tupleExact _) (wpAny_newObj_type (wpAny_pure ⟨_, rfl, wpAny_pure h⟩) htake))
end
end HT
namespace L2
open PySem PySem.Spec PyProof.Rows
abbrev TO := St → Hp → (Option Int → Hp → Prop) → Prop
def PO (X : Cx) (e : Option Expr) (t : TO) : Prop :=
  ∀ (pins : List (Addr × Obj)) (s : Shared) (σ : St) (H : Hp) (Q : Option Int → Hp → Prop), Inv X pins σ H s → t σ H Q →
    wpAny (model X.prog X.w) X.A (evalPart e X.env) (fun u s' => ∃ o H', Inv X pins σ H' s' ∧ IsPart u o ∧ Q o H') X.xe s
def ZmO : TO := fun _ H Q => Q none H
def ZqQ (t : TE) : TO := fun σ H Q => t σ H fun x H1 => ∃ i, x = .int i ∧ Q (some i) H1
section
variable {X : Cx} {e : Expr} {te : TE} {lo hi : Option Expr} {tl th : TO} {pos p2 : Pos}
theorem ZmP : PO X none ZmO := by
  intro pins s σ H Q I h
  rw [evalPart_none]
  exact wpAny_pure ⟨none, H, I, .none, h⟩
theorem ZmQ (h : PE X e te) : PO X (some e) (ZqQ te) := by
  intro pins s σ H Q I hw
  rw [evalPart_some]
  refine thn (h pins s σ H _ I hw) fun u s1 z84_ => ?_
  obtain ⟨x, H1, I1, r1, q1⟩ := z84_
  obtain ⟨i, rfl, q⟩ := q1
  obtain ⟨t, rfl⟩ := r1
  exact ⟨some i, H1, I1, .int i t, q⟩
def SlR (X : Cx) (r : V → Option Int → Option Int → Hp → VK → Prop) : Prop :=
  ∀ (pins : List (Addr × Obj)) (s : Shared) (σ : St) (H : Hp) (x : V) (v vl vu : Value) (lo hi : Option Int) (sl : Addr) (Q : VK), Inv X pins σ H s → RelV x v → s.heap.IsSliceOf sl vl vu .none → IsPart vl lo → IsPart vu hi → r x lo hi H Q →
    ∃ T id, typeLookup (.type T) "__getitem__" = pure (some (.builtin id)) ∧ s.TypeIs v T ∧ wpAny (model X.prog X.w) X.A (getItem v (.ref sl)) (EP X pins σ Q) X.xe s
theorem SlR.or {r r' : V → Option Int → Option Int → Hp → VK → Prop} (h : SlR X r) (h' : SlR X r') : SlR X (fun x lo hi H Q => r x lo hi H Q ∨ r' x lo hi H Q) := by
  intro pins s σ H x v vl vu lo hi sl Q I rx hs pl pu q
  rcases q with q | q
  · exact h pins s σ H x v vl vu lo hi sl Q I rx hs pl pu q
  · exact h' pins s σ H x v vl vu lo hi sl Q I rx hs pl pu q
def tSl (r : V → Option Int → Option Int → Hp → VK → Prop) (te : TE) (tl th : TO) : TE := fun σ H Q => te σ H fun x H1 => tl σ H1 fun l H2 => th σ H2 fun u H3 => r x l u H3 Q
theorem Zlc {r : V → Option Int → Option Int → Hp → VK → Prop} (hr : SlR X r) (he : PE X e te) (hl : PO X lo tl) (hu : PO X hi th) : PE X (.Subscript e (.Slice lo hi none p2) pos) (tSl r te tl th) := by
  intro pins s σ H Q I h
  refine Subscript_ (thn (he pins s σ H _ I h) fun v s1 z85_ => ?_)
  obtain ⟨x, H1, I1, r1, q1⟩ := z85_
  refine wpAny_Slice (thn (hl pins s1 σ H1 _ I1 q1) ?_)
  rintro vl s2 ⟨l, H2, I2, pl, q2⟩
  refine thn (hu pins s2 σ H2 _ I2 q2) fun vu s3 z87_ => ?_
  obtain ⟨u, H3, I3, pu, q3⟩ := z87_
  rw [evalPart_none]
  refine wpAny_pure ?_
  have I4 : Inv X pins σ H3 { s3 with heap := s3.heap.push { cls := .type "slice", data := .fields #[vl, vu, .none] } } := I3.kept (t' := s3.toks) fun b ob q => Heap.get?_push_of_some _ q
  obtain ⟨T, id, hT, ht, hg⟩ := hr pins { s3 with heap := s3.heap.push { cls := .type "slice", data := .fields #[vl, vu, .none] } } σ H3 x v vl vu l u s3.heap.objs.size Q I4 r1 (Heap.IsSliceOf.new ..) pl pu q3
  show wpAny (model X.prog X.w) X.A (subscriptTail e (.Slice lo hi none p2) v (.ref s3.heap.objs.size)) (EP X pins σ Q) X.xe { s3 with heap := s3.heap.push { cls := .type "slice", data := .fields #[vl, vu, .none] } }
  exact tail_any (ops := [.ref s3.heap.objs.size, v]) ht hT hg (by with_unfolding_all rfl)
def Zn1 (xs : List V) (lo hi : Option Int) : List V := (xs.drop (HT.sIx xs.length 0 lo)).take (HT.sIx xs.length xs.length hi - HT.sIx xs.length 0 lo)
theorem Zhn (xs : List V) (lo hi : Option Int) : (Zn1 xs lo hi).length ≤ xs.length := by
  unfold Zn1
  rw [List.length_take, List.length_drop]
  omega
def ZtA (K : PySem.W.Frag) : V → Option Int → Option Int → Hp → VK → Prop := fun x lo hi H Q => ∃ a xs, x = .ref a ∧ SqT K H a xs ∧
  ¬ (HT.sIx xs.length 0 lo = 0 ∧ HT.sIx xs.length xs.length hi = xs.length) ∧ ∀ p, H p = none → Q (.ref p) (upd H p (.tup (Zn1 xs lo hi)))
theorem ZoJ : SlR X (ZtA X.K) := by
  intro pins s σ H x v vl vu lo hi sl Q I rx hs pl pu h
  obtain ⟨a, xs, rfl, hx, hw, q⟩ := h
  cases rx
  obtain ⟨its, r, ht, hz⟩ := I.tuple hx
  have hlen : its.toArray.size = xs.length := by rw [List.size_toArray]; exact r.length.symm
  refine ⟨"tuple", _, PyProof.Rows.slot_tuple_getitem.lookup, ht.typeIs, ?_⟩
  refine HT.getItem_tuple_cut ht hs pl pu (by rw [hlen]; exact hw) ?_ (by rw [hlen]; exact hz)
  rw [hlen]
  refine ⟨.ref s.heap.objs.size, _, I.laid (t' := s.toks) (o := .tup (Zn1 xs lo hi)) (fun b ob q => Heap.get?_push_of_some _ q) (Nat.le_refl _) ?_, rfl, q _ (I.hok.fresh (Nat.le_refl _))⟩
  exact ⟨Nat.le_trans (Zhn xs lo hi) hz, _, (r.drop (HT.sIx xs.length 0 lo)).take (HT.sIx xs.length xs.length hi - HT.sIx xs.length 0 lo), IsTup.new _ _, NoDict.new⟩
def ZqR (K : PySem.W.Frag) : R2 := fun x y H Q => ∃ a b xs ys, x = .ref a ∧ y = .ref b ∧ SqT K H a xs ∧ SqT K H b ys ∧ xs ≠ [] ∧ xs.length + ys.length ≤ sizeLine ∧
  (ys = [] → Q (.ref a) H) ∧ (ys ≠ [] → ∀ p, H p = none → Q (.ref p) (upd H p (.tup (xs ++ ys))))
theorem Vals.nil_iff {xs : List V} {us : List Value} (r : Vals xs us) : us = [] ↔ xs = [] := by
  cases r with
  | nil => simp
  | cons _ _ => simp
theorem op_catT : OpR X (binaryOp .Add) (ZqR X.K) := by
  intro pins s σ H x y v u Q I rx ry h
  obtain ⟨a, b, xs, ys, rfl, rfl, ha, hb, hx, hz, q1, q2⟩ := h
  cases rx
  cases ry
  obtain ⟨its, r1, p1, _⟩ := I.tuple ha
  obtain ⟨its2, r2, p2, _⟩ := I.tuple hb
  refine HT.cat_tup p1 p2 (fun z => hx (r1.nil_iff.mp z)) (fun z => ⟨.ref a, H, I, rfl, q1 (r2.nil_iff.mp z)⟩) (fun z => ?_) (by rw [← r1.length, ← r2.length]; exact hz)
  refine ⟨.ref s.heap.objs.size, _, I.laid (t' := s.toks) (o := .tup (xs ++ ys)) (fun b ob q => Heap.get?_push_of_some _ q) (Nat.le_refl _) ?_, rfl, q2 (fun w => z (r2.nil_iff.mpr w)) _ (I.hok.fresh (Nat.le_refl _))⟩
  exact ⟨by rw [List.length_append]; exact hz, _, r1.append r2, IsTup.new _ _, NoDict.new⟩
end
end L2
namespace L2
open PySem PySem.Spec PyProof.Rows
def ixN (n : Nat) (i : Int) : Option Nat := if 0 ≤ i then (if i < n then some i.toNat else none) else if -(n : Int) ≤ i then some (i + n).toNat else none
def atI {α : Type} (xs : List α) (i : Int) : Option α := (ixN xs.length i).bind fun j => xs[j]?
theorem Zjw {n : Nat} {i : Int} {j : Nat} (h : ixN n i = some j) : seqIndex? i n = some j ∧ j < n ∧ -(n : Int) ≤ i ∧ i < n := by
  unfold ixN at h
  by_cases h0 : 0 ≤ i
  · rw [if_pos h0] at h
    by_cases h1 : i < n
    · rw [if_pos h1] at h
      have e : i.toNat = j := Option.some.inj h
      exact ⟨by rw [seqIndex_of h0 h1, e], by omega, by omega, h1⟩
    · rw [if_neg h1] at h; cases h
  · rw [if_neg h0] at h
    by_cases h1 : -(n : Int) ≤ i
    · rw [if_pos h1] at h
      have e : (i + n).toNat = j := Option.some.inj h
      exact ⟨by rw [seqIndex_neg (by omega) h1, e], by omega, h1, by omega⟩
    · rw [if_neg h1] at h; cases h
theorem Zjx {α : Type} {xs : List α} {i : Int} {v : α} (h : atI xs i = some v) : ∃ j, seqIndex? i xs.length = some j ∧ xs[j]? = some v ∧ j < xs.length ∧ -(xs.length : Int) ≤ i ∧ i < xs.length := by
  unfold atI at h
  cases e : ixN xs.length i with
  | none => rw [e] at h; cases h
  | some j =>
    rw [e] at h
    obtain ⟨h1, h2, h3, h4⟩ := Zjw e
    exact ⟨j, h1, h, h2, h3, h4⟩
def Zjy (b : Expr) : Prop := ∀ o i, subscripted b false o i = operate [o, i] (getItem o i)
def IxR (X : Cx) (r : R2) : Prop :=
  ∀ (value slice : Expr) (pins : List (Addr × Obj)) (s : Shared) (σ : St) (H : Hp) (x y : V) (v u : Value) (Q : VK), Inv X pins σ H s → RelV x v → RelV y u → r x y H Q →
    subscripted slice false v u = operate [v, u] (getItem v u) → wpAny (model X.prog X.w) X.A (subscriptTail value slice v u) (EP X pins σ Q) X.xe s
def MtR (X : Cx) (id : String) (r : V → List V → Hp → VK → Prop) : Prop :=
  ∀ (pins : List (Addr × Obj)) (s : Shared) (σ : St) (H : Hp) (x : V) (xs : List V) (v : Value) (us : List Value) (Q : VK), Inv X pins σ H s → RelV x v → Vals xs us → r x xs H Q →
    wpAny (model X.prog X.w) X.A (call (.builtin id) (v :: us)) (EP X pins σ Q) X.xe s
section
variable {X : Cx} {a b : Expr} {ta tb : TE} {pos : Pos}
theorem IxR.or {r r' : R2} (h : IxR X r) (h' : IxR X r') : IxR X (fun x y H Q => r x y H Q ∨ r' x y H Q) := by
  intro value slice pins s σ H x y v u Q I rx ry q hs
  rcases q with q | q
  · exact h value slice pins s σ H x y v u Q I rx ry q hs
  · exact h' value slice pins s σ H x y v u Q I rx ry q hs
theorem ZqS {r : R2} (hr : IxR X r) (ha : PE X a ta) (hb : PE X b tb) (hs : Zjy b) : PE X (.Subscript a b pos) (tOp r ta tb) := by
  intro pins s σ H Q I h
  exact Subscript_ (ZqF ha hb I h fun v u s2 x y H2 I2 rx ry q => hr a b pins s2 σ H2 x y v u Q I2 rx ry q (hs _ _))
def ZtB (K : PySem.W.Frag) : R2 := fun x y H Q => ∃ p xs i v, x = .ref p ∧ y = .int i ∧ SqL K H p xs ∧ atI xs i = some v ∧ Q v H
def ZtC (K : PySem.W.Frag) : R2 := fun x y H Q => ∃ p xs i v, x = .ref p ∧ y = .int i ∧ SqT K H p xs ∧ atI xs i = some v ∧ Q v H
theorem ix_list : IxR X (ZtB X.K) := by
  intro value slice pins s σ H x y v u Q I rx ry h hs
  obtain ⟨p, xs, i, z, rfl, rfl, hq, he, q⟩ := h
  cases rx
  obtain ⟨t, rfl⟩ := ry
  obtain ⟨its, r, pl, hz⟩ := I.list hq
  obtain ⟨j, h1, h2, h3, h4, h5⟩ := Zjx he
  obtain ⟨w, ew, rw'⟩ := r.get h2
  have hl := r.length
  have hn := ZfC
  have fin : EP X pins σ Q w s := ⟨z, H, I, rw', q⟩
  by_cases h0 : 0 ≤ i
  · have hj : i.toNat = j := by
      rw [seqIndex_of h0 h5] at h1
      exact Option.some.inj h1
    exact item_listR pl.isList h0 (by omega) (by rw [hj]; simpa using ew) fin hs
  · have hj : (i + (its.toArray.size : Int)).toNat = j := by
      rw [seqIndex_neg (by omega) h4] at h1
      rw [List.size_toArray, ← hl]
      exact Option.some.inj h1
    exact subscriptTail_builtinR (x := w) pl.isList.typeIs slot_list_getitem.lookup
      (wpAny_getItem_list_neg (Q := fun r s' => r = w ∧ EP X pins σ Q r s') pl.isList (by omega) (by rw [List.size_toArray] <;> omega) (by omega) (by rw [hj]; simpa using ew) ⟨rfl, fin⟩) hs
theorem ix_tup : IxR X (ZtC X.K) := by
  intro value slice pins s σ H x y v u Q I rx ry h hs
  obtain ⟨p, xs, i, z, rfl, rfl, hq, he, q⟩ := h
  cases rx
  obtain ⟨t, rfl⟩ := ry
  obtain ⟨its, r, pl, hz⟩ := I.tuple hq
  obtain ⟨j, h1, h2, h3, h4, h5⟩ := Zjx he
  obtain ⟨w, ew, rw'⟩ := r.get h2
  have hl := r.length
  have hn := ZfC
  have fin : EP X pins σ Q w s := ⟨z, H, I, rw', q⟩
  exact subscriptTail_builtinR (x := w) pl.typeIs slot_tuple_getitem.lookup
    (getItem_tuple (j := j) (Q := fun r s' => r = w ∧ EP X pins σ Q r s') pl (by omega) (by omega) (by rw [List.size_toArray, ← hl]; exact h1) (by simpa using ew) ⟨rfl, fin⟩) hs
theorem ZiG (its : List Value) (n j : Nat) (u : Value) : Obj.mapSeq (·.setIfInBounds j u) { cls := .type "list", data := .seq its.toArray n } = { cls := .type "list", data := .seq (its.set j u).toArray n } := by
  simp [Obj.mapSeq]
theorem Inv.lst {pins : List (Addr × Obj)} {σ : St} {H : Hp} {s : Shared} {p : Addr} {xs : List V} (I : Inv X pins σ H s) (h : H p = some (.lst xs)) :
    ∃ (its : List Value) (n : Nat), Vals xs its ∧ s.heap.get? p = some { cls := .type "list", data := .seq its.toArray n } ∧ xs.length ≤ sizeLine := by
  obtain ⟨z, its, n, r, e⟩ := I.hok p _ h
  exact ⟨its, n, r, e, z⟩
theorem Inv.lstUpd {pins : List (Addr × Obj)} {σ : St} {H : Hp} {s : Shared} {p : Addr} {xs ys : List V} {its its' : List Value} {n n' : Nat} {f : Obj → Obj} (I : Inv X pins σ H s) (h : H p = some (.lst xs))
    (ho : s.heap.get? p = some { cls := .type "list", data := .seq its.toArray n }) (hf : f { cls := .type "list", data := .seq its.toArray n } = { cls := .type "list", data := .seq its'.toArray n' }) (r : Vals ys its') (hz : ys.length ≤ sizeLine) (t : Nat) :
    Inv X pins σ (upd H p (.lst ys)) { s with heap := s.heap.update p f, toks := t } := by
  have e : (s.heap.update p f).get? p = some { cls := .type "list", data := .seq its'.toArray n' } := by
    rw [Heap.get?_update_self f ho (by rw [hf] <;> rfl), hf]
  refine I.write (x := p) (e := p) (by rw [h]; trivial) (.inl rfl) (fun b u hb q => (Heap.get?_update_other _ _ (Ne.symm hb)).trans q) ⟨_, e⟩ ?_
  exact ⟨hz, its', n', r, e⟩
def ZqT : V → V → V → Hp → (Hp → Prop) → Prop := fun o i v H Q => ∃ p xs k j, o = .ref p ∧ i = .int k ∧ H p = some (.lst xs) ∧ ixN xs.length k = some j ∧ Q (upd H p (.lst (xs.set j v)))
theorem Zld : Zsf X ZqT := by
  intro pins s σ H o i v ov iv u Q I ro ri rv h
  obtain ⟨p, xs, k, j, rfl, rfl, hp, hj, q⟩ := h
  cases ro
  obtain ⟨t, rfl⟩ := ri
  obtain ⟨its, n, r, ho, hz⟩ := I.lst hp
  obtain ⟨h1, h2, h3, h4⟩ := Zjw hj
  have hl := r.length
  have hn := ZfC
  have I' : Inv X pins σ (upd H p (.lst (xs.set j v))) { s with heap := s.heap.update p (Obj.mapSeq (·.setIfInBounds j u)) } :=
    I.lstUpd hp ho (ZiG its n j u) (r.set rv j) (by rw [List.length_set]; exact hz) s.toks
  by_cases h0 : 0 ≤ k
  · have hk : k.toNat = j := by
      rw [seqIndex_of h0 h4] at h1
      exact Option.some.inj h1
    exact PySem.W.ki_setAt ho h0 (by omega) (by rw [List.size_toArray, ← hl]; exact h4) (by rw [hk]; exact ⟨_, I', q⟩)
  · have hk : (k + (its.toArray.size : Int)).toNat = j := by
      rw [seqIndex_neg (by omega) h3] at h1
      rw [List.size_toArray, ← hl]
      exact Option.some.inj h1
    exact PySem.W.ki_setBack ho (by omega) (by rw [List.size_toArray, ← hl]; exact h3) (by omega) (by rw [hk]; exact ⟨_, I', q⟩)
def Zed : V → Bool
  | .non => true
  | .bl _ => true
  | .int _ => true
  | .str _ => true
  | _ => false
def eqV : V → V → Bool
  | .non, .non => true
  | .bl a, .bl b => a == b
  | .bl a, .int b => (if a then 1 else 0) == b
  | .int a, .bl b => a == (if b then 1 else 0)
  | .int a, .int b => a == b
  | .str a, .str b => a == b
  | _, _ => false
theorem ZoK {A : Around} {s : Shared} {y x : V} {u v : Value} (ry : RelV y u) (rx : RelV x v) (fy : Zed y = true) (fx : Zed x = true) : SeqAt.EqAt A s u v (eqV y x) := by
  cases y with
  | non =>
    cases ry
    cases x with
    | non => cases rx; exact SeqAt.EqAt.same _
    | bl b => cases rx; exact SeqAt.EqAt.none_bool b
    | int b => obtain ⟨t, rfl⟩ := rx; exact SeqAt.EqAt.none_int b t
    | str b => obtain ⟨t, rfl⟩ := rx; exact SeqAt.EqAt.none_str b t
    | _ => exact absurd (show false = true from fx) Bool.false_ne_true
  | bl a =>
    cases ry
    cases x with
    | non => cases rx; exact SeqAt.EqAt.bool_none a
    | bl b => cases rx; exact SeqAt.EqAt.bool_bool a b
    | int b => obtain ⟨t, rfl⟩ := rx; exact SeqAt.EqAt.bool_int a b t
    | str b => obtain ⟨t, rfl⟩ := rx; exact SeqAt.EqAt.bool_str a b t
    | _ => exact absurd (show false = true from fx) Bool.false_ne_true
  | int a =>
    obtain ⟨t', rfl⟩ := ry
    cases x with
    | non => cases rx; exact SeqAt.EqAt.int_none a t'
    | bl b => cases rx; exact SeqAt.EqAt.int_bool a t' b
    | int b => obtain ⟨t, rfl⟩ := rx; exact SeqAt.EqAt.int_int a t' b t
    | str b => obtain ⟨t, rfl⟩ := rx; exact SeqAt.EqAt.int_str a t' b t
    | _ => exact absurd (show false = true from fx) Bool.false_ne_true
  | str a =>
    obtain ⟨t', rfl⟩ := ry
    cases x with
    | non => cases rx; exact SeqAt.EqAt.str_none a t'
    | bl b => cases rx; exact SeqAt.EqAt.str_bool a t' b
    | int b => obtain ⟨t, rfl⟩ := rx; exact SeqAt.EqAt.str_int a t' b t
    | str b => obtain ⟨t, rfl⟩ := rx; exact SeqAt.EqAt.str_str a t' b t
    | _ => exact absurd (show false = true from fx) Bool.false_ne_true
  | _ => exact absurd (show false = true from fy) Bool.false_ne_true
def eqU (x : V) (u : Value) : Bool := match u with
  | .none => eqV .non x
  | .bool b => eqV (.bl b) x
  | .int i _ => eqV (.int i) x
  | .str z _ => eqV (.str z) x
  | _ => false
theorem Zh1 {x y : V} {u : Value} (r : RelV y u) (f : Zed y = true) : eqU x u = eqV y x := by
  cases y with
  | non => cases r; rfl
  | bl b => cases r; rfl
  | int i => obtain ⟨t, rfl⟩ := r; rfl
  | str z => obtain ⟨t, rfl⟩ := r; rfl
  | _ => exact absurd (show false = true from f) Bool.false_ne_true
theorem Zho {x : V} : ∀ {xs : List V} {us : List Value}, Vals xs us → xs.all Zed = true → us.any (eqU x) = xs.any fun y => eqV y x
  | _, _, .nil, _ => rfl
  | y :: xs, u :: us, .cons r t, f => by
    rw [List.all_cons, Bool.and_eq_true] at f
    rw [List.any_cons, List.any_cons, Zh1 r f.1, Zho t f.2]
theorem Zdx {A : Around} {s : Shared} {x : V} {v : Value} (rx : RelV x v) (fx : Zed x = true) : ∀ {xs : List V} {us : List Value}, Vals xs us → xs.all Zed = true → ∀ u ∈ us, SeqAt.EqAt A s u v (eqU x u)
  | _, _, .nil, _ => fun u hu => by cases hu
  | y :: xs, u :: us, .cons r t, f => fun u' hu => by
    rw [List.all_cons, Bool.and_eq_true] at f
    rcases List.mem_cons.mp hu with rfl | hu
    · rw [Zh1 r f.1]; exact ZoK r rx f.1 fx
    · exact Zdx rx fx t f.2 u' hu
def inV (x : V) (xs : List V) : Bool := xs.any fun y => eqV y x
def rIn (K : PySem.W.Frag) (neg : Bool) : R2 := fun x y H Q => ∃ p xs, y = .ref p ∧ (SqL K H p xs ∨ SqT K H p xs) ∧ Zed x = true ∧ xs.all Zed = true ∧ Q (.bl (if neg then !inV x xs else inV x xs)) H
theorem Zjz : OpR X (compareOp .In) (rIn X.K false) := by
  intro pins s σ H x y v u Q I rx ry h
  obtain ⟨p, xs, rfl, hq, fx, fs, q⟩ := h
  cases ry
  rcases hq with hq | hq
  · obtain ⟨its, r, pl, hz⟩ := I.list hq
    refine SeqAt.in_listAt (eqU x) pl.isList (fun w hw => Zdx rx fx r fs w (by simpa using hw)) ⟨.bl _, H, I, rfl, ?_⟩
    rw [show its.toArray.any (eqU x) = its.any (eqU x) by simp, Zho r fs]
    exact q
  · obtain ⟨its, r, pl, hz⟩ := I.tuple hq
    refine SeqAt.in_tupleAt (eqU x) pl (fun w hw => Zdx rx fx r fs w (by simpa using hw)) ⟨.bl _, H, I, rfl, ?_⟩
    rw [show its.toArray.any (eqU x) = its.any (eqU x) by simp, Zho r fs]
    exact q
theorem ZgB : Zec X (.builtin "len") (fun xs H Q => ∃ p ys, xs = [.ref p] ∧ (SqL X.K H p ys ∨ SqT X.K H p ys) ∧ Q (.int ys.length) H) := by
  intro pins s σ H xs us Q I r h
  obtain ⟨p, ys, rfl, hq, q⟩ := h
  obtain ⟨u, rfl, rx⟩ := ZfV r
  cases rx
  have hn := ZfC
  rcases hq with hq | hq
  · obtain ⟨its, r', pl, hz⟩ := I.list hq
    have hlen := r'.length
    exact Calls.call_len_list pl.isList (by simp only [List.size_toArray] <;> omega) ⟨.int ys.length, H, I.tok _, ⟨s.toks + 1, by rw [List.size_toArray, hlen]⟩, q⟩
  · obtain ⟨its, r', pl, hz⟩ := I.tuple hq
    have hlen := r'.length
    exact len_tuple pl (by simp only [List.size_toArray] <;> omega) ⟨.int ys.length, H, I.tok _, ⟨s.toks + 1, by rw [List.size_toArray, hlen]⟩, q⟩
theorem ZgC : Zec X (.type "list") (fun xs H Q => ∃ p ys, xs = [.ref p] ∧ (SqL X.K H p ys ∨ SqT X.K H p ys) ∧ ∀ l, H l = none → Q (.ref l) (upd H l (.lst ys))) := by
  intro pins s σ H xs us Q I r h
  obtain ⟨p, ys, rfl, hq, q⟩ := h
  obtain ⟨u, rfl, rx⟩ := ZfV r
  cases rx
  have fin : ∀ (its : List Value), Vals ys its → ys.length ≤ sizeLine → ∀ (h' : Heap) (c' : Nat), (∀ b o', s.heap.get? b = some o' → h'.get? b = some o') →
      h'.get? s.heap.objs.size = some { cls := .type "list", dict := none, data := .seq its.toArray c', slots := #[] } → EP X pins σ Q (.ref s.heap.objs.size) { s with heap := h' } := fun its r' hz h' c' kp e =>
    ⟨.ref s.heap.objs.size, _, I.laid (t' := s.toks) kp (Nat.le_refl _) (show ObjOk X.prog X.w _ h' _ (.lst ys) from ⟨hz, its, c', r', e⟩), rfl, q _ (I.hok.fresh (Nat.le_refl _))⟩
  rcases hq with hq | hq
  · obtain ⟨its, r', pl, hz⟩ := I.list hq
    have hlen := r'.length
    obtain ⟨o, ho, hc, n, hd⟩ := pl.isList
    exact call_list_seq p (.inl rfl) ho hc hd (fun h' c' kp e => fin its r' hz h' c' kp e) (by simp only [List.size_toArray] <;> omega)
  · obtain ⟨its, r', pl, hz⟩ := I.tuple hq
    have hlen := r'.length
    obtain ⟨o, ho, hc, n, hd⟩ := pl
    exact call_list_seq p (.inr rfl) ho hc hd (fun h' c' kp e => fin its r' hz h' c' kp e) (by simp only [List.size_toArray] <;> omega)
theorem ZfW : Zec X (.type "tuple") (fun xs H Q => ∃ p ys, xs = [.ref p] ∧ ((SqL X.K H p ys ∧ ∀ l, H l = none → Q (.ref l) (upd H l (.tup ys))) ∨ (SqT X.K H p ys ∧ Q (.ref p) H))) := by
  intro pins s σ H xs us Q I r h
  obtain ⟨p, ys, rfl, h⟩ := h
  obtain ⟨u, rfl, rx⟩ := ZfV r
  cases rx
  rcases h with ⟨hq, q⟩ | ⟨hq, q⟩
  · obtain ⟨its, r', pl, hz⟩ := I.list hq
    have hlen := r'.length
    refine call_tuple_list pl.isList (fun h' kp => ?_) (by simp only [List.size_toArray] <;> omega)
    have I1 : Inv X pins σ H { s with heap := h' } := I.kept (t' := s.toks) kp
    have I2 : Inv X pins σ (upd H h'.objs.size (.tup ys)) { s with heap := h'.push { cls := .type "tuple", data := .seq its.toArray } } :=
      I1.laid (t' := s.toks) (fun b o e => Heap.get?_push_of_some _ e) (Nat.le_refl _) (show ObjOk X.prog X.w _ _ _ (.tup ys) from ⟨hz, its, r', IsTup.new _ _, NoDict.new⟩)
    exact ⟨.ref h'.objs.size, _, I2, rfl, q _ (I1.hok.fresh (Nat.le_refl _))⟩
  · obtain ⟨its, r', pl, hz⟩ := I.tuple hq
    exact call_tuple_same pl ⟨.ref p, H, I, rfl, q⟩
def tyV (K : PySem.W.Frag) (T : String) (x : V) (H : Hp) : Prop := match x with
  | .str _ => T = "str"
  | .int _ => T = "int"
  | .ref p => (T = "list" ∧ ∃ xs, SqL K H p xs) ∨ (T = "tuple" ∧ ∃ o, K.lookup p = some o ∧ o.cls = .type "tuple" ∧ o.dict = none)
  | _ => False
theorem Zmd {pins : List (Addr × Obj)} {σ : St} {H : Hp} {s : Shared} {T : String} {x : V} {v : Value} (I : Inv X pins σ H s) (r : RelV x v) (ty : tyV X.K T x H) :
    s.TypeIs v T ∧ ∀ a, v = .ref a → ∃ ob, s.heap.get? a = some ob ∧ ob.dict = none := by
  cases x with
  | str z =>
    obtain ⟨t, rfl⟩ := r
    cases (show T = "str" from ty)
    exact ⟨typeIs_str s z t, fun _ e => nomatch e⟩
  | int i =>
    obtain ⟨t, rfl⟩ := r
    cases (show T = "int" from ty)
    exact ⟨typeIs_int s i t, fun _ e => nomatch e⟩
  | ref p =>
    cases r
    rcases ty with ⟨rfl, xs, hq⟩ | ⟨rfl, o, hk, hc, hd⟩
    · obtain ⟨its, _, pl, _⟩ := I.list hq
      refine ⟨pl.isList.typeIs, fun a e => ?_⟩
      cases e
      obtain ⟨o, n, e, c, hd, _⟩ := pl
      exact ⟨o, e, hd⟩
    · refine ⟨⟨o, I.kIn p o hk, hc⟩, fun a e => ?_⟩
      cases e
      exact ⟨o, I.kIn _ o hk, hd⟩
  | _ => exact False.elim ty
def tBM (K : PySem.W.Frag) (T : String) (r : V → List V → Hp → VK → Prop) (to : TE) (t : TA) : TE := fun σ H Q => to σ H fun x H1 => tyV K T x H1 ∧ t σ H1 fun xs H2 => r x xs H2 Q
variable {o e : Expr} {es : List Expr} {to : TE} {t : TA} {name : Str} {apos cpos : Pos} {T id : String} {r : V → List V → Hp → VK → Prop}
theorem ZqU (pa : PlainAttrs T) (slot : Slot T name id) (hty : typeOf (.builtin id) = pure (.type "method_descriptor")) (hm : MtR X id r) (ho : PE X o to) (ha : PA X (e :: es) t)
    (hbase : attributeBase o name X.env (eval o X.env) = eval o X.env := by rfl)
    (hfew : ((backTo cpos (starEach (e :: es) X.env)).all (fun x => !x.1) && (backToKw cpos (keywordEach [] X.env)).all (fun x => x.1.isSome)
      && decide ((e :: es).length + ([] : List Keyword).length + (if ([] : List Keyword).isEmpty then 0 else 1) < 30)) = true := by rfl)
    (hline : (apos.endLine == cpos.line) = true := by rfl) (hs : starEach (e :: es) X.env = (false, eval e X.env) :: starEach es X.env := by rfl) (hplain : (backTo cpos (starEach es X.env)).any (·.1) = false := by rfl) :
    PE X (.Call (.Attribute o name apos) (e :: es) [] cpos) (tBM X.K T r to t) := by
  intro pins s σ H Q I h
  refine wpAny_Call_method_late hbase hfew hline rfl (thn (ho pins s σ H _ I h) fun v s1 z89_ => ?_)
  obtain ⟨x, H1, I1, r1, ty, q1⟩ := z89_
  obtain ⟨h1, h2⟩ := Zmd I1 r1 ty
  refine ⟨T, id, pa, slot, hty, h1, h2, ?_⟩
  have hA := ha cpos pins s1 σ H1 _ I1 q1
  rw [hs] at hA ⊢
  refine Calls.callWith_builtin (by show (false || (backTo cpos (starEach es X.env)).any (·.1)) = false; rw [hplain] <;> rfl) (Calls.evalArgs_plain ?_)
  exact thn hA fun us s2 z90_ => by obtain ⟨vs, H2, I2, r2, q2⟩ := z90_; exact (hm pins s2 σ H2 x vs v us Q I2 r1 r2 q2)
end
end L2
namespace L2
open PySem PySem.Spec PyProof.Rows
def MtM (X : Cx) (id : String) (r : V → List V → Hp → VK → Prop) : Prop :=
  ∀ (pins : List (Addr × Obj)) (s : Shared) (σ : St) (H : Hp) (x : V) (xs : List V) (v : Value) (us : List Value) (Q : VK), Inv X pins σ H s → RelV x v → Vals xs us → r x xs H Q →
    wpAny (model X.prog X.w) X.A (call (.builtin id) (v :: us)) (EP X pins σ Q) X.xe s
theorem Vals.one {x : V} {us : List Value} (h : Vals [x] us) : ∃ u, us = [u] ∧ RelV x u := by
  cases h with
  | cons r t => cases t; exact ⟨_, rfl, r⟩
theorem Vals.reverse {xs : List V} {us : List Value} (h : Vals xs us) : Vals xs.reverse us.reverse := by
  induction h with
  | nil => exact .nil
  | cons r t ih => rw [List.reverse_cons, List.reverse_cons]; exact Vals.append ih (.cons r .nil)
theorem Vals.rep {xs : List V} {us : List Value} (h : Vals xs us) : ∀ k : Nat, Vals (List.replicate k xs).flatten (List.replicate k us).flatten
  | 0 => .nil
  | k + 1 => by
    rw [List.replicate_succ, List.replicate_succ, List.flatten_cons, List.flatten_cons]
    exact Vals.append h (Vals.rep h k)
theorem Zdy (its : List Value) : ∀ (k : Nat) (acc : List Value),
    List.foldl (fun x1 x2 => x1 ++ x2) acc.toArray (List.replicate k its.toArray) = (acc ++ (List.replicate k its).flatten).toArray
  | 0, acc => by simp
  | k + 1, acc => by
    have e : acc.toArray ++ its.toArray = (acc ++ its).toArray := by simp
    have e2 : (acc ++ its) ++ (List.replicate k its).flatten = acc ++ (List.replicate (k + 1) its).flatten := by
      rw [List.replicate_succ, List.flatten_cons, List.append_assoc]
    rw [← e2, ← Zdy its k (acc ++ its), ← e, List.replicate_succ, List.foldl_cons]
section
variable {X : Cx} {pins : List (Addr × Obj)} {σ : St} {H : Hp} {s : Shared} {l b : Addr} {xs ys zs : List V}
theorem Inv.lset {its its' : List Value} {n : Nat} {f : Array Value → Array Value} {t' : Nat} (I : Inv X pins σ H s) (hH : H l = some (.lst xs))
    (e : s.heap.get? l = some { cls := .type "list", data := .seq its.toArray n }) (hf : f its.toArray = its'.toArray) (hv : Vals ys its') (hz : ys.length ≤ sizeLine) :
    Inv X pins σ (upd H l (.lst ys)) { s with heap := s.heap.update l (Obj.mapSeq f), toks := t' } := by
  have q := PySem.IsL.update e f
  rw [hf] at q
  refine I.write (x := l) (e := l) (by rw [hH]; exact trivial) (.inl rfl) (fun b' u hb hu => (Heap.get?_update_other s.heap (Obj.mapSeq f) (Ne.symm hb)).trans hu) ⟨_, q⟩ ?_
  exact ⟨hz, its', _, hv, q⟩
theorem Inv.lnew {its : List Value} {t' : Nat} (I : Inv X pins σ H s) (hv : Vals ys its) (hz : ys.length ≤ sizeLine) :
    Inv X pins σ (upd H s.heap.objs.size (.lst ys)) { s with heap := s.heap.push { cls := .type "list", data := .seq its.toArray }, toks := t' } :=
  I.laid (fun _ _ q => Heap.get?_push_of_some _ q) (Nat.le_refl _) ⟨hz, its, 0, hv, Heap.get?_push_size _ rfl⟩
theorem Inv.fresh (I : Inv X pins σ H s) : H s.heap.objs.size = none := I.hok.fresh (Nat.le_refl _)
theorem Inv.lstM (I : Inv X pins σ H s) (hH : H l = some (.lst xs)) : xs.length ≤ sizeLine ∧ ∃ (its : List Value) (n : Nat), Vals xs its ∧ xs.length = its.length ∧ s.heap.get? l = some { cls := .type "list", data := .seq its.toArray n } := by
  obtain ⟨z, its, n, r, e⟩ := I.hok l _ hH
  exact ⟨z, its, n, r, r.length, e⟩
theorem Zle {n : Nat} (h : n ≤ sizeLine) : Builtin.List.listTooLong n = false := by
  unfold Builtin.List.listTooLong
  exact decide_eq_false (by omega)
end
section
variable {X : Cx}
def ZmR : V → List V → Hp → VK → Prop := fun x vs H Q => ∃ l xs y, x = .ref l ∧ vs = [y] ∧ H l = some (.lst xs) ∧ xs.length < sizeLine ∧ Q .non (upd H l (.lst (xs ++ [y])))
theorem ZjA : MtM X "list.append" ZmR := by
  intro pins s σ H x vs v us Q I rx rv h
  obtain ⟨l, xs, y, rfl, rfl, hH, hz, q⟩ := h
  cases rx
  obtain ⟨u, rfl, ru⟩ := rv.one
  obtain ⟨z, its, n, r, hl, e⟩ := I.lstM hH
  refine call_meets F.slot_list_append ⟨_, e, rfl⟩ F.entry_list_append (F.args_list_append_2 _ _) (PySem.list_append l its.toArray n u (by rw [List.size_toArray]; omega)) ⟨e, ?_⟩
  refine ⟨.non, _, I.lset (its' := its ++ [u]) hH e (by simp) (r.append (.cons ru .nil)) ?_, rfl, q⟩
  rw [List.length_append, List.length_singleton]
  omega
def ZtD : R2 := fun x y H Q => ∃ l b xs zs, x = .ref l ∧ y = .ref b ∧ H l = some (.lst xs) ∧ H b = some (.lst zs) ∧ xs.length + zs.length ≤ sizeLine ∧ ∀ p, H p = none → Q (.ref p) (upd H p (.lst (xs ++ zs)))
theorem op_cat : OpR X (binaryOp .Add) ZtD := by
  intro pins s σ H x y v u Q I rx ry h
  obtain ⟨l, b, xs, zs, rfl, rfl, hH, hB, hz, q⟩ := h
  cases rx
  cases ry
  obtain ⟨z, its, n, r, hl, e⟩ := I.lstM hH
  obtain ⟨z2, its2, n2, r2, hl2, e2⟩ := I.lstM hB
  refine PySem.P.add_list e e2 ?_ (by rw [List.size_toArray, List.size_toArray]; omega)
  have ea : its.toArray ++ its2.toArray = (its ++ its2).toArray := by simp
  rw [ea]
  exact ⟨.ref _, _, I.lnew (t' := s.toks) (r.append r2) (by rw [List.length_append]; omega), rfl, q _ I.fresh⟩
def ZtE : R2 := fun x y H Q => ∃ l k xs, x = .ref l ∧ y = .int k ∧ H l = some (.lst xs) ∧ -(2 ^ 63) ≤ k ∧ k < 2 ^ 63 ∧ xs.length * k.toNat ≤ sizeLine ∧
  ∀ p, H p = none → Q (.ref p) (upd H p (.lst (List.replicate k.toNat xs).flatten))
theorem ZfX {α : Type} (xs : List α) (k : Nat) : (List.replicate k xs).flatten.length = k * xs.length := by
  induction k with
  | zero => simp
  | succ k ih => rw [List.replicate_succ, List.flatten_cons, List.length_append, ih, Nat.succ_mul, Nat.add_comm]
theorem ZoL : OpR X (binaryOp .Mult) ZtE := by
  intro pins s σ H x y v u Q I rx ry h
  obtain ⟨l, k, xs, rfl, rfl, hH, h1, h2, hz, q⟩ := h
  cases rx
  obtain ⟨t, rfl⟩ := ry
  obtain ⟨z, its, n, r, hl, e⟩ := I.lstM hH
  have hlen : its.toArray.size * k.toNat ≤ sizeLine := by rw [List.size_toArray, ← hl]; exact hz
  have hcap : ¬ its.toArray.size * k.toNat > (2 ^ 63 - 1) / 8 := by
    have : (sizeLine : Nat) ≤ (2 ^ 63 - 1) / 8 := by decide
    omega
  have hfit : ¬ (!Builtin.List.listFitsIndex k) = true := by
    rw [fitsIndex_both h1 h2]
    exact Bool.false_ne_true
  have hlong : ¬ Builtin.List.listTooLong (its.toArray.size * k.toNat) = true := by
    rw [Zle hlen]
    exact Bool.false_ne_true
  have hnew : List.foldl (fun x1 x2 => x1 ++ x2) #[] (List.replicate (if its.toArray.isEmpty = true then 0 else k.toNat) its.toArray) = (List.replicate k.toNat its).flatten.toArray := by
    have f0 : ∀ m : Nat, List.foldl (fun x1 x2 => x1 ++ x2) #[] (List.replicate m its.toArray) = (List.replicate m its).flatten.toArray := fun m => by
      have := Zdy its m []
      rw [List.nil_append] at this
      exact this
    rw [f0]
    cases its with
    | nil => simp
    | cons a r' => rw [if_neg (by simp)]
  refine wpAny_binaryOp_repeat_ref (T := "list") (U := "int") (by decide) ⟨_, e, rfl⟩ (fun s' => typeIs_int s' k t) noFill_list_mul F.fills_int_mul F.slot_int_rmul repeat_list F.slot_int_index.lookup
    (call_meets F.slot_int_rmul (typeIs_int s k t) F.entry_int_rmul (F.args_int_rmul_2 _ _) (int___rmul___int_list k t l its.toArray n)
      ⟨e, rfl, ⟨_, e, rfl⟩, call_meets F.slot_list_mul ⟨_, e, rfl⟩ F.entry_list_mul (F.args_list_mul_2 _ _) (AutoListH.list___mul___list_int_3 l its.toArray n k t hfit hcap hlong) ⟨e, ?_⟩⟩)
  rw [hnew]
  exact ⟨.ref _, _, I.lnew (t' := s.toks) (r.rep k.toNat) (by rw [ZfX, Nat.mul_comm]; exact hz), rfl, q _ I.fresh⟩
end
section
variable {prog : Program} {w : World} {A : Around} {E : Value → Shared → Prop} {s : Shared}
end
section
variable {X : Cx}
end
end L2
namespace Att
open PySem PySem.W PySem.Calls PyProof.Rows
theorem ZeF {P : Params} {h : Heap} : ∀ (ns : List Int) (vs : List Value), WellAll P h vs (ns.map WData.int) → IntsAre vs ns := by
  intro ns
  induction ns with
  | nil =>
    intro vs w
    rw [List.map_nil] at w
    cases w
    exact .nil
  | cons n ns ih =>
    intro vs w
    rw [List.map_cons] at w
    cases w with
    | cons a b =>
      cases a
      exact .cons _ _ (ih _ b)
theorem ZjB {l : OpenLaw} {n : Nat} (hn : l.most = some n) {P : Params} {h : Heap} {args : List WData} {vals : List Value}
    (hpre : l.row.toRowW.claim.pre args = true) (hwl : WellAll P h vals args) :
    ∃ a vs ns, vals = [Value.ref a] ∧ args = [WData.list (ns.map WData.int)] ∧ h.get? a = some { cls := .type "list", data := .seq vs.toArray } ∧ IntsAre vs ns ∧ ns.length ≤ n := by
  have hsh : WShape.hasAll [] args [.list .int] = true := (pre_splitW hpre).1
  have hc : l.pre.holds [] { args := args } = true := (pre_splitW hpre).2
  obtain ⟨d, r, rfl, h1, h2⟩ := hasAllW_cons hsh
  obtain rfl := hasAllW_nil h2
  obtain ⟨xs, rfl, h3⟩ := hasW_list h1
  obtain ⟨ns, rfl⟩ := items_int h3
  have hlen : ns.length ≤ n := by
    unfold OpenLaw.pre at hc
    have h4 : (WTm.not (.lt (.lit (.int (n : Int))) (.len (.arg 0)))).holds [] { args := [.list (ns.map .int)] } = true := by
      have h4 := (holds_andW hc).1
      rw [hn] at h4
      exact h4
    have h5 := condW_of h4 (w_not (w_lt w_lit (w_len_list (w_arg rfl))))
    rw [List.length_map] at h5
    refine Nat.le_of_not_lt fun q => ?_
    have q' : (n : Int) < ((ns.length : Nat) : Int) := by omega
    first
      | (rw [decide_eq_true q'] at h5; exact absurd h5 (by decide))
      | (simp at h5; omega)
  cases hwl with
  | cons w1 w2 =>
    cases w2
    cases w1 with
    | list ho hall => exact ⟨_, _, ns, rfl, rfl, ho, ZeF ns _ hall, hlen⟩
theorem ZjC (l : OpenLaw) (args : List WData) : l.row.toRowW.claim.post args (.bool true) args = true :=
  postW_of (r := l.row.toRowW) (X := (true == true))
    (show WShape.has [] (.bool true) .bool = true by first | rfl | decide | simp [WShape.has, WShape.arms, WShape.armsAll])
    (show (WTm.eq .res (.lit (.bool true))).value [] { args := args, res := some (.bool true), after := args } = some (.bool (true == true)) from w_eq_bool (w_res rfl) w_lit) rfl
section
variable {prog : Program} {w : World} {A : Around} {E : Value → Shared → Prop} {s : Shared} {K : Frag}
end
end Att
namespace L2
open PySem PySem.Spec PyProof.Rows
theorem vals_ints : ∀ {vs : List Value} {ns : List Int}, IntsAre vs ns → Vals (ns.map V.int) vs
  | _, _, .nil => .nil
  | _, _, .cons n t h => .cons ⟨t, rfl⟩ (vals_ints h)
end L2
namespace L2
open PySem PySem.Spec PyProof.Rows
end L2
namespace L2
open PySem PySem.Spec PyProof.Rows
def defArgs (s : Stmt) : Arguments := match s with
  | .FunctionDef _ a _ _ _ _ _ _ _ _ => a
  | _ => { posonlyargs := [], args := [], vararg := none, kwonlyargs := [], kw_defaults := [], kwarg := none, defaults := [] }
def defBody (s : Stmt) : List Stmt := match s with
  | .FunctionDef _ _ b _ _ _ _ _ _ _ => b
  | _ => []
def defScope (s : Stmt) : Scope := match s with
  | .FunctionDef _ _ _ _ _ _ sc _ _ _ => sc
  | _ => { kind := .function, names := [], isGenerator := false, isCoroutine := false }
abbrev CX0 : CXT := fun _ _ _ _ _ _ => False
abbrev E0 : XK := fun _ _ _ => False
inductive ZoM (K : PySem.W.Frag) (x qual : Str) (st : Stmt) (f : Addr) (fd : FuncData) : Prop where
  | mk (oc : Value) (od : Option Addr) (kV doc pm : Value) (an : Option Addr) (cdv ct : Value) (osl : Array (Option Value)) (f1 : fd = PySem.W.fnOf x qual (defArgs st) (defBody st) (defScope st) .none kV doc pm an cdv ct) (f2 : K.lookup f = some ⟨oc, od, .func fd, osl⟩) (f3 : PySem.W.codeIn K cdv qual = true) : ZoM K x qual st f fd
structure Fun (K : PySem.W.Frag) (x qual : Str) (st : Stmt) (f : Addr) (fd : FuncData) : Prop where
  ex : ZoM K x qual st f fd
  kp : PySem.W.keepIn K (.ref f) = true
section
variable {P : Program} {w : World} {K : PySem.W.Frag} {mg : Str → Option Value} {base : Heap}
theorem Fun.binds {x qual : Str} {st : Stmt} {f : Addr} {fd : FuncData} {ps : List Str} (F : Fun K x qual st f fd)
    (h : ∀ (kV doc pm : Value) (an : Option Addr) (cdv ct : Value) (us : List Value), us.length = ps.length → bindArgs (PySem.W.fnOf x qual (defArgs st) (defBody st) (defScope st) .none kV doc pm an cdv ct) ⟨us, []⟩ = pure (ps.zip us)) : Binds K fd ps [] := by
  obtain ⟨oc, od, kV, doc, pm, an, cdv, ct, osl, rfl, lk, hcd⟩ := F.ex
  exact .all (h kV doc pm an cdv ct)
theorem ZfE {x qual : Str} {st : Stmt} {f : Addr} {oc : Value} {od an : Option Addr} {osl : Array (Option Value)} {kV doc pm cdv ct : Value} (l : K.lookup f = some ⟨oc, od, .func (PySem.W.fnOf x qual (defArgs st) (defBody st) (defScope st) .none kV doc pm an cdv ct), osl⟩)
    (c : PySem.W.codeIn K cdv qual = true) (k : PySem.W.keepIn K (.ref f) = true) : Fun K x qual st f (PySem.W.fnOf x qual (defArgs st) (defBody st) (defScope st) .none kV doc pm an cdv ct) := ⟨⟨oc, od, kV, doc, pm, an, cdv, ct, osl, rfl, l, c⟩, k⟩
end
section
variable {X : Cx}
theorem pv (i : Nat) {x : Str} {pos : Pos} (hN : X.N[i]? = some x := by rfl) (hv : Vis X.env.scope x := by first | exact Or.inl rfl | exact Or.inr (Or.inl rfl) | exact Or.inr (Or.inr rfl)) (hd : (x == ("__debug__" : Str)) = false := by decide)
    (hcd : (x == ("__classdict__" : Str)) = false := by decide) : PE X (.Name x pos) (Zqv i) := Zji hN hv hd hcd
end
end L2
namespace LS
open PySem PySem.Spec PyProof.Rows L2
inductive D where
  | non | bl (b : Bool) | int (i : Int) | str (x : Str) | tup (ds : List D) | loc (l : Nat) | scr (ns : List Int) | adr (a : Addr) | ty (n : String) | exc (n : Str) (fs : List (Str × Int)) | edic | glo (n : Str) | clo (a : Addr) (vs : List V) (ds : List D)
inductive Zh2 where
  | lst (ds : List D) | tab
abbrev HD := List Zh2
abbrev Rho := List (Option D)
inductive Out (α : Type) where
  | ok (a : α) (h : HD) | err (C : Value) (fs : List (Str × D)) (h : HD) | stuck
def Out.bind {α β : Type} (o : Out α) (k : α → HD → Out β) : Out β := match o with
  | .ok a h => k a h
  | .err C fs h => .err C fs h
  | .stuck => .stuck
@[simp] theorem Out.bind_ok {α β : Type} (a : α) (h : HD) (k : α → HD → Out β) : (Out.ok a h).bind k = k a h := rfl
@[simp] theorem Out.bind_err {α β : Type} (C : Value) (fs : List (Str × D)) (h : HD) (k : α → HD → Out β) : (Out.err C fs h : Out α).bind k = .err C fs h := rfl
@[simp] theorem Out.bind_stuck {α β : Type} (k : α → HD → Out β) : (Out.stuck : Out α).bind k = .stuck := rfl
def imm : HO → Bool
  | .tup _ => true
  | .frz _ _ => true
  | .ext _ => true
  | .xd _ => true
  | _ => false
def Kp (H H' : Hp) : Prop := ∀ b o, H b = some o → imm o = true → H' b = some o
theorem Kp.refl (H : Hp) : Kp H H := fun _ _ e _ => e
theorem Kp.trans {H H1 H2 : Hp} (a : Kp H H1) (b : Kp H1 H2) : Kp H H2 := fun c o e i => b c o (a c o e i) i
theorem Kp.new {H : Hp} {p : Addr} {o : HO} (h : H p = none) : Kp H (upd H p o) := fun b u e _ => by rw [Zaq (Zau e h)]; exact e
theorem Kp.set {H : Hp} {p : Addr} {o u : HO} (h : H p = some o) (i : imm o = false) : Kp H (upd H p u) := fun b w e iw => by
  rw [Zaq]
  · exact e
  · intro z
    rw [z, h] at e; cases e; rw [i] at iw; cases iw
def FzL (K : PySem.W.Frag) (H : Hp) (a : Addr) (xs : List V) : Prop := (∃ o, H a = some (.frz o (.lst xs))) ∨ SqL K (fun _ => none) a xs
theorem Kp.fzL {K : PySem.W.Frag} {H H' : Hp} {a : Addr} {xs : List V} (k : Kp H H') (h : FzL K H a xs) : FzL K H' a xs := by
  rcases h with ⟨o, h⟩ | h
  · exact .inl ⟨o, k _ _ h rfl⟩
  · exact .inr h
theorem FzL.sq {K : PySem.W.Frag} {H : Hp} {a : Addr} {xs : List V} (h : FzL K H a xs) : SqL K H a xs := by
  rcases h with ⟨o, h⟩ | (h | ⟨o, h⟩) | h
  · exact .inl (.inr ⟨o, h⟩)
  · cases h
  · cases h
  · exact .inr h
def ZgD (C : Addr) (da : Option Addr) (a : Addr) (h : Heap) : Prop := ∃ o vs, h.get? a = some o ∧ o.cls = .ref C ∧ (∀ d, da = some d → o.dict = some d) ∧ o.data = .fields vs
def ZmS (a : Addr) (h : Heap) : Prop := a ≠ sysModules ∧ ∃ o ep, h.get? a = some o ∧ o.ExactDict ∧ o.data = .dict #[] ep
mutual
def DV (K : PySem.W.Frag) (m : List Addr) (H : Hp) : D → V → Prop
  | .non, v => v = .non
  | .bl b, v => v = .bl b
  | .int i, v => v = .int i
  | .str x, v => v = .str x
  | .tup ds, v => ∃ a vs, v = .ref a ∧ H a = some (.tup vs) ∧ DVs K m H ds vs
  | .loc l, v => ∃ a, v = .ref a ∧ m[l]? = some a
  | .scr ns, v => ∃ a, v = .ref a ∧ FzL K H a (ns.map V.int)
  | .adr a, v => v = .ref a
  | .ty n, v => v = .ty n
  | .exc n fs, v => ∃ a C da, v = .ref a ∧ PySem.W.nsIn K mainGlobals n = some (some (.ref C)) ∧ H a = some (.ext (ZgD C da a)) ∧ ∀ f i, fs.lookup f = some i → ∃ d fv, da = some d ∧ H d = some (.xd fv) ∧ fv.lookup f = some (.int i)
  | .edic, v => ∃ a, v = .ref a ∧ H a = some (.ext (ZmS a))
  | .glo n, v => ∃ a, v = .ref a ∧ PySem.W.nsIn K mainGlobals n = some (some (.ref a))
  | .clo a vs ds, v => v = .ref a ∧ DVs K m H ds vs
def DVs (K : PySem.W.Frag) (m : List Addr) (H : Hp) : List D → List V → Prop
  | [], vs => vs = []
  | d :: ds, vs => ∃ v r, vs = v :: r ∧ DV K m H d v ∧ DVs K m H ds r
end
section
variable {K : PySem.W.Frag} {m m' : List Addr} {H H' : Hp}
theorem ZeG {l : Nat} {a : Addr} (p : m <+: m') (h : m[l]? = some a) : m'[l]? = some a := by
  obtain ⟨t, rfl⟩ := p
  have hl : l < m.length := (List.getElem?_eq_some_iff.mp h).1
  rw [List.getElem?_append_left hl]; exact h
mutual
theorem DV.keep (p : m <+: m') (k : Kp H H') : ∀ {d : D} {v : V}, DV K m H d v → DV K m' H' d v
  | .non, _, h => by simpa [DV] using h
  | .bl _, _, h => by simpa [DV] using h
  | .int _, _, h => by simpa [DV] using h
  | .str _, _, h => by simpa [DV] using h
  | .tup ds, _, h => by
    simp only [DV] at h ⊢
    obtain ⟨a, vs, e, q, r⟩ := h
    exact ⟨a, vs, e, k _ _ q rfl, DVs.keep p k r⟩
  | .loc l, _, h => by
    simp only [DV] at h ⊢
    obtain ⟨a, e, q⟩ := h
    exact ⟨a, e, ZeG p q⟩
  | .scr ns, _, h => by
    simp only [DV] at h ⊢
    obtain ⟨a, e, q⟩ := h
    exact ⟨a, e, k.fzL q⟩
  | .adr _, _, h => by simpa [DV] using h
  | .ty _, _, h => by simpa [DV] using h
  | .exc _ _, _, h => by
    simp only [DV] at h ⊢
    obtain ⟨a, C, da, e, q, r, t⟩ := h
    exact ⟨a, C, da, e, q, k _ _ r rfl, fun f i z => let ⟨d, fv, z1, z2, z3⟩ := t f i z; ⟨d, fv, z1, k _ _ z2 rfl, z3⟩⟩
  | .edic, _, h => by
    simp only [DV] at h ⊢
    obtain ⟨a, e, r⟩ := h
    exact ⟨a, e, k _ _ r rfl⟩
  | .glo _, _, h => by simpa [DV] using h
  | .clo _ _ ds, _, h => by
    simp only [DV] at h ⊢
    exact ⟨h.1, DVs.keep p k h.2⟩
theorem DVs.keep (p : m <+: m') (k : Kp H H') : ∀ {ds : List D} {vs : List V}, DVs K m H ds vs → DVs K m' H' ds vs
  | [], _, h => by simpa [DVs] using h
  | d :: ds, _, h => by
    simp only [DVs] at h ⊢
    obtain ⟨v, r, e, q, t⟩ := h
    exact ⟨v, r, e, DV.keep p k q, DVs.keep p k t⟩
end
theorem DVs.nil : DVs K m H [] [] := by simp [DVs]
theorem DVs.cons {d : D} {v : V} {ds : List D} {vs : List V} (h : DV K m H d v) (t : DVs K m H ds vs) : DVs K m H (d :: ds) (v :: vs) := by
  simp only [DVs]; exact ⟨v, vs, rfl, h, t⟩
theorem DVs.len : ∀ {ds : List D} {vs : List V}, DVs K m H ds vs → ds.length = vs.length
  | [], _, h => by simp only [DVs] at h; subst h; rfl
  | d :: ds, _, h => by
    simp only [DVs] at h
    obtain ⟨v, r, e, _, t⟩ := h
    subst e
    simp [DVs.len t]
theorem DVs.get : ∀ {ds : List D} {vs : List V} {i : Nat} {d : D}, DVs K m H ds vs → ds[i]? = some d → ∃ v, vs[i]? = some v ∧ DV K m H d v
  | [], _, _, _, _, e => by simp at e
  | d :: ds, _, i, x, h, e => by
    simp only [DVs] at h
    obtain ⟨v, r, rfl, q, t⟩ := h
    cases i with
    | zero => simp at e; subst e; exact ⟨v, rfl, q⟩
    | succ i =>
      obtain ⟨w, h1, h2⟩ := DVs.get (i := i) t (by simpa using e)
      exact ⟨w, by simpa using h1, h2⟩
theorem DVs.app : ∀ {ds es : List D} {vs ws : List V}, DVs K m H ds vs → DVs K m H es ws → DVs K m H (ds ++ es) (vs ++ ws)
  | [], _, _, _, h, t => by simp only [DVs] at h; subst h; exact t
  | d :: ds, _, _, _, h, t => by
    simp only [DVs] at h
    obtain ⟨v, r, rfl, q, u⟩ := h
    exact .cons q (DVs.app u t)
theorem DVs.set : ∀ {ds : List D} {vs : List V} {d : D} {v : V} (i : Nat), DVs K m H ds vs → DV K m H d v → DVs K m H (ds.set i d) (vs.set i v)
  | [], _, _, _, _, h, _ => by simp only [DVs] at h; subst h; exact .nil
  | d :: ds, _, _, _, i, h, q' => by
    simp only [DVs] at h
    obtain ⟨v, r, rfl, q, u⟩ := h
    cases i with
    | zero => exact .cons q' u
    | succ i => exact .cons q (DVs.set i u q')
theorem DVs.take : ∀ {ds : List D} {vs : List V} (n : Nat), DVs K m H ds vs → DVs K m H (ds.take n) (vs.take n)
  | _, _, 0, _ => by simpa using (DVs.nil : DVs K m H [] [])
  | [], _, n + 1, h => by simp only [DVs] at h; subst h; exact .nil
  | d :: ds, _, n + 1, h => by
    simp only [DVs] at h
    obtain ⟨v, r, rfl, q, u⟩ := h
    exact .cons q (DVs.take n u)
theorem DVs.drop : ∀ {ds : List D} {vs : List V} (n : Nat), DVs K m H ds vs → DVs K m H (ds.drop n) (vs.drop n)
  | _, _, 0, h => by simpa using h
  | [], _, n + 1, h => by simp only [DVs] at h; subst h; exact .nil
  | d :: ds, _, n + 1, h => by
    simp only [DVs] at h
    obtain ⟨v, r, rfl, q, u⟩ := h
    simpa using DVs.drop n u
theorem DVs.rep {ds : List D} {vs : List V} (h : DVs K m H ds vs) : ∀ n, DVs K m H (List.replicate n ds).flatten (List.replicate n vs).flatten
  | 0 => by simpa using (DVs.nil : DVs K m H [] [])
  | n + 1 => by
    rw [List.replicate_succ, List.flatten_cons, List.replicate_succ, List.flatten_cons]
    exact h.app (DVs.rep h n)
def ZfF (q : Str) (c : Addr) (h : Heap) : Prop := h.CodeRec (.ref c) q
def tabP (K : PySem.W.Frag) : Option (Addr × Addr) := match PySem.W.nsIn K mainGlobals "law" with
  | some (some (.ref f)) => (match K.lookup f with
    | some ⟨_, _, .func fd, _⟩ => (match fd.code with
      | .ref c => (match K.lookup c with
        | some ⟨_, _, .fields vs, _⟩ => (match (vs[11]? : Option Value) with
          | some (.ref P) => some (c, P)
          | _ => none)
        | _ => none)
      | _ => none)
    | _ => none)
  | _ => none
def TabIs (K : PySem.W.Frag) (H : Hp) (a : Addr) : Prop := (∃ c, tabP K = some (c, a)) ∧ ∃ ps, H a = some (.tbl ps) ∧ TriplesOk ps.toList ∧ ∀ pos cv, codeAmong pos ps.toList = some cv → ∃ c, cv = .ref c ∧ H c = some (.ext (ZfF "law.<locals>.<lambda>" c))
theorem TabIs.keep {K : PySem.W.Frag} {H H' : Hp} {a : Addr} (t : TabIs K H a) (k : Kp H H') (e : H' a = H a) : TabIs K H' a := by
  obtain ⟨z, ps, h1, h2, h3⟩ := t
  exact ⟨z, ps, e.trans h1, h2, fun pos cv q => let ⟨c, q1, q2⟩ := h3 pos cv q; ⟨c, q1, k _ _ q2 rfl⟩⟩
def ZpV (K : PySem.W.Frag) (m : List Addr) (H : Hp) : Zh2 → Addr → Prop
  | .lst ds, a => ∃ vs, H a = some (.lst vs) ∧ DVs K m H ds vs
  | .tab, a => TabIs K H a
structure HR (K : PySem.W.Frag) (m : List Addr) (h : HD) (H : Hp) : Prop where
  len : m.length = h.length
  nd : m.Nodup
  cells : ∀ (l : Nat) (c : Zh2) (a : Addr), h[l]? = some c → m[l]? = some a → ZpV K m H c a
theorem HR.at {h : HD} {l : Nat} {c : Zh2} (r : HR K m h H) (e : h[l]? = some c) : ∃ a, m[l]? = some a ∧ ZpV K m H c a := by
  have hl : l < h.length := (List.getElem?_eq_some_iff.mp e).1
  have : l < m.length := by rw [r.len]; exact hl
  exact ⟨m[l], List.getElem?_eq_getElem this, r.cells l c _ e (List.getElem?_eq_getElem this)⟩
theorem HR.mem {h : HD} {a : Addr} (r : HR K m h H) (ha : a ∈ m) : H a ≠ none := by
  obtain ⟨l, hl, rfl⟩ := List.getElem_of_mem ha
  have hl' : l < h.length := by rw [← r.len]; exact hl
  have := r.cells l h[l] m[l] (List.getElem?_eq_getElem hl') (List.getElem?_eq_getElem hl)
  cases hc : h[l] with
  | lst ds =>
    rw [hc] at this
    obtain ⟨vs, e, _⟩ := this
    rw [e]; simp
  | tab =>
    rw [hc] at this
    obtain ⟨_, ps, e, _⟩ := this
    rw [e]; simp
theorem HR.same {h : HD} (r : HR K m h H) (k : Kp H H') (s : ∀ a ∈ m, H' a = H a) : HR K m h H' := by
  refine ⟨r.len, r.nd, fun l c a e q => ?_⟩
  have hm : a ∈ m := List.mem_of_getElem? q
  have := r.cells l c a e q
  cases c with
  | lst ds =>
    obtain ⟨vs, e1, e2⟩ := this
    exact ⟨vs, by rw [s a hm]; exact e1, e2.keep (List.prefix_refl _) k⟩
  | tab => exact TabIs.keep this k (s a hm)
theorem HR.new {h : HD} {p : Addr} {o : HO} (r : HR K m h H) (hp : H p = none) : HR K m h (upd H p o) :=
  r.same (.new hp) fun a ha => Zaq fun z => r.mem ha (z ▸ hp)
theorem HR.newCell {h : HD} {p : Addr} {o : HO} {c : Zh2} (r : HR K m h H) (hp : H p = none) (hc : ZpV K (m ++ [p]) (upd H p o) c p) : HR K (m ++ [p]) (h ++ [c]) (upd H p o) := by
  have hpm : p ∉ m := fun z => r.mem z hp
  refine ⟨by simp [r.len], ?_, fun l c' a e q => ?_⟩
  · rw [List.nodup_append]
    refine ⟨r.nd, by simp, fun a ha b hb => ?_⟩
    rw [List.mem_singleton] at hb
    subst hb
    intro z; subst z; exact hpm ha
  · by_cases hl : l < m.length
    · rw [List.getElem?_append_left hl] at q
      rw [List.getElem?_append_left (by rw [← r.len]; exact hl)] at e
      have := r.cells l c' a e q
      have hne : a ≠ p := fun z => hpm (z ▸ List.mem_of_getElem? q)
      cases c' with
      | lst ds =>
        obtain ⟨vs, e1, e2⟩ := this
        exact ⟨vs, by rw [Zaq hne]; exact e1, e2.keep (List.prefix_append _ _) (.new hp)⟩
      | tab => exact TabIs.keep this (.new hp) (Zaq hne)
    · have h1 : m.length ≤ l := Nat.le_of_not_lt hl
      rw [List.getElem?_append_right h1] at q
      rw [List.getElem?_append_right (by rw [← r.len]; exact h1)] at e
      have e0 : l - m.length = 0 := by
        cases hz : l - m.length with
        | zero => rfl
        | succ n => rw [hz] at q; simp at q
      rw [← r.len] at e
      rw [e0] at q e
      simp at q e
      subst q e
      exact hc
theorem HR.setCell {h : HD} {p : Addr} {l : Nat} {o u : HO} {c : Zh2} (r : HR K m h H) (hl : m[l]? = some p) (ho : H p = some o) (i : imm o = false) (hc : ZpV K m (upd H p u) c p) : HR K m (h.set l c) (upd H p u) := by
  refine ⟨by simp [r.len], r.nd, fun j c' a e q => ?_⟩
  by_cases hj : j = l
  · subst hj
    rw [hl] at q; cases q
    have hlt : j < h.length := by rw [← r.len]; exact (List.getElem?_eq_some_iff.mp hl).1
    rw [List.getElem?_set_self hlt] at e
    cases e
    exact hc
  · rw [List.getElem?_set_ne (Ne.symm hj)] at e
    have := r.cells j c' a e q
    have hne : a ≠ p := by
      intro z
      subst z
      obtain ⟨h1, e1⟩ := List.getElem?_eq_some_iff.mp q
      obtain ⟨h2, e2⟩ := List.getElem?_eq_some_iff.mp hl
      exact hj ((List.getElem_inj r.nd).mp (e1.trans e2.symm))
    cases c' with
    | lst ds =>
      obtain ⟨vs, e1, e2⟩ := this
      exact ⟨vs, by rw [Zaq hne]; exact e1, e2.keep (List.prefix_refl _) (.set ho i)⟩
    | tab => exact TabIs.keep this (.set ho i) (Zaq hne)
def ER (K : PySem.W.Frag) (m : List Addr) (H : Hp) (ρ : Rho) (σ : L2.St) : Prop := ρ.length = σ.length ∧ ∀ (i : Nat) (d : D), ρ[i]? = some (some d) → ∃ v, σ[i]? = some (some v) ∧ DV K m H d v
theorem ER.keep {ρ : Rho} {σ : L2.St} (p : m <+: m') (k : Kp H H') (e : ER K m H ρ σ) : ER K m' H' ρ σ := ⟨e.1, fun i d h => let ⟨v, a, b⟩ := e.2 i d h; ⟨v, a, b.keep p k⟩⟩
theorem ER.set {ρ : Rho} {σ : L2.St} {i : Nat} {d : D} {v : V} (e : ER K m H ρ σ) (r : DV K m H d v) : ER K m H (ρ.set i (some d)) (σ.set i (some v)) := by
  refine ⟨by simp [e.1], fun j d' h => ?_⟩
  by_cases hj : i = j
  · subst hj
    by_cases hl : i < ρ.length
    · rw [List.getElem?_set_self hl] at h
      cases h
      exact ⟨v, by rw [List.getElem?_set_self (by rw [← e.1]; exact hl)], r⟩
    · rw [List.getElem?_eq_none (by simp; omega)] at h; cases h
  · rw [List.getElem?_set_ne hj] at h
    obtain ⟨w, a, b⟩ := e.2 j d' h
    exact ⟨w, by rw [List.getElem?_set_ne hj]; exact a, b⟩
theorem ER.start {N : List Str} {ds : List D} {vs : List V} (h : DVs K m H ds vs) : ER K m H (ds.map some ++ List.replicate (N.length - ds.length) none) (L2.start N vs) := by
  refine ⟨by simp [L2.start, h.len], fun i d e => ?_⟩
  by_cases hl : i < ds.length
  · rw [List.getElem?_append_left (by simpa using hl), List.getElem?_map] at e
    obtain ⟨d', e1⟩ : ∃ d', ds[i]? = some d' := ⟨ds[i], List.getElem?_eq_getElem hl⟩
    rw [e1] at e
    simp at e
    subst e
    obtain ⟨v, q, r⟩ := h.get e1
    refine ⟨v, ?_, r⟩
    unfold L2.start
    rw [List.getElem?_append_left (by simpa [← h.len] using hl), List.getElem?_map, q]
    rfl
  · rw [List.getElem?_append_right (by simpa using Nat.le_of_not_lt hl)] at e
    rw [List.getElem?_replicate] at e
    split at e <;> cases e
def XD (K : PySem.W.Frag) (m : List Addr) (H : Hp) (fs : List (Str × D)) (da : Option Addr) : Prop :=
  ∀ f d, fs.lookup f = some d → ∃ a fv v, da = some a ∧ H a = some (.xd fv) ∧ fv.lookup f = some v ∧ DV K m H d v
def Post {α β : Type} (K : PySem.W.Frag) (R : List Addr → Hp → α → β → Prop) (m : List Addr) (H : Hp) (E : XK) (Q : β → Hp → Prop) : Out α → Prop
  | .ok a h' => ∀ v m' H', m <+: m' → Kp H H' → HR K m' h' H' → R m' H' a v → Q v H'
  | .err C fs h' => ∀ da m' H', m <+: m' → Kp H H' → HR K m' h' H' → XD K m' H' fs da → E C da H'
  | .stuck => False
theorem Post.ahead {α β : Type} {R : List Addr → Hp → α → β → Prop} {E : XK} {Q : β → Hp → Prop} {o : Out α} (p : m <+: m') (k : Kp H H') (h : Post K R m H E Q o) : Post K R m' H' E Q o := by
  cases o with
  | ok a h' => exact fun v m2 H2 p2 k2 => h v m2 H2 (p.trans p2) (k.trans k2)
  | err C fs h' => exact fun da m2 H2 p2 k2 => h da m2 H2 (p.trans p2) (k.trans k2)
  | stuck => exact h
theorem Post.bind {α β γ δ : Type} {R : List Addr → Hp → α → β → Prop} {R' : List Addr → Hp → γ → δ → Prop} {E : XK} {Q : δ → Hp → Prop} {Q' : β → Hp → Prop} {o : Out α} {k : α → HD → Out γ}
    (h : Post K R' m H E Q (o.bind k)) (f : ∀ a h1 v m1 H1, o = .ok a h1 → m <+: m1 → Kp H H1 → HR K m1 h1 H1 → R m1 H1 a v → Post K R' m1 H1 E Q (k a h1) → Q' v H1) : Post K R m H E Q' o := by
  cases o with
  | ok a h1 => exact fun v m1 H1 p kk hr r => f a h1 v m1 H1 rfl p kk hr r (h.ahead p kk)
  | err C fs h1 => exact h
  | stuck => exact h
theorem Post.mono {α β : Type} {R : List Addr → Hp → α → β → Prop} {E : XK} {Q Q' : β → Hp → Prop} {o : Out α} (h : Post K R m H E Q o) (f : ∀ v H', Q v H' → Q' v H') : Post K R m H E Q' o := by
  cases o with
  | ok a h1 => exact fun v m1 H1 p k hr r => f _ _ (h v m1 H1 p k hr r)
  | err C fs h1 => exact h
  | stuck => exact h
end
abbrev ME := Rho → HD → Out D
abbrev MT := Rho → HD → Out Bool
abbrev MA := Rho → HD → Out (List D)
inductive Fl where
  | nx | bk | ct | rt (d : D)
abbrev MS := Rho → HD → Out (Fl × Rho)
def rD (K : PySem.W.Frag) : List Addr → Hp → D → V → Prop := fun m H d v => DV K m H d v
def rB : List Addr → Hp → Bool → Bool → Prop := fun _ _ a b => a = b
def rDs (K : PySem.W.Frag) : List Addr → Hp → List D → List V → Prop := fun m H d v => DVs K m H d v
inductive tM {α β : Type} (K : PySem.W.Frag) (R : List Addr → Hp → α → β → Prop) (E : XK) (f : Rho → HD → Out α) (σ : L2.St) (H : Hp) (Q : β → Hp → Prop) : Prop where
  | mk (m : List Addr) (ρ : Rho) (h : HD) (hr : HR K m h H) (er : ER K m H ρ σ) (p : Post K R m H E Q (f ρ h)) : tM K R E f σ H Q
abbrev tD (K : PySem.W.Frag) (E : XK) (f : ME) : TE := tM K (rD K) E f
abbrev tBo (K : PySem.W.Frag) (E : XK) (f : MT) : TT := tM K rB E f
abbrev tDs (K : PySem.W.Frag) (E : XK) (f : MA) : TA := tM K (rDs K) E f
def Zsj (K : PySem.W.Frag) (m : List Addr) (H : Hp) (D : Zjf) : Fl × Rho → Prop
  | (.nx, ρ) => ∀ σ, ER K m H ρ σ → D.nx σ H
  | (.bk, ρ) => ∀ σ, ER K m H ρ σ → D.bk σ H
  | (.ct, ρ) => ∀ σ, ER K m H ρ σ → D.ct σ H
  | (.rt d, _) => ∀ v, DV K m H d v → D.rt v H
def PostS (K : PySem.W.Frag) (m : List Addr) (H : Hp) (E : XK) (D : Zjf) : Out (Fl × Rho) → Prop
  | .ok a h' => ∀ m' H', m <+: m' → Kp H H' → HR K m' h' H' → Zsj K m' H' D a
  | .err C fs h' => ∀ da m' H', m <+: m' → Kp H H' → HR K m' h' H' → XD K m' H' fs da → E C da H'
  | .stuck => False
inductive tSt (K : PySem.W.Frag) (E : XK) (g : MS) (D : Zjf) (σ : L2.St) (H : Hp) : Prop where
  | mk (m : List Addr) (ρ : Rho) (h : HD) (hr : HR K m h H) (er : ER K m H ρ σ) (p : PostS K m H E D (g ρ h)) : tSt K E g D σ H
theorem PostS.ahead {K : PySem.W.Frag} {m m' : List Addr} {H H' : Hp} {E : XK} {D : Zjf} {o : Out (Fl × Rho)} (p : m <+: m') (k : Kp H H') (h : PostS K m H E D o) : PostS K m' H' E D o := by
  cases o with
  | ok a h' => exact fun m2 H2 p2 k2 => h m2 H2 (p.trans p2) (k.trans k2)
  | err C fs h' => exact fun da m2 H2 p2 k2 => h da m2 H2 (p.trans p2) (k.trans k2)
  | stuck => exact h
abbrev Ev (X : Cx) (E : XK) (e : Expr) (f : ME) : Prop := PE X e (tD X.K E f)
abbrev EvT (X : Cx) (E : XK) (e : Expr) (f : MT) : Prop := PT X e (tBo X.K E f)
abbrev EvA (X : Cx) (E : XK) (es : List Expr) (f : MA) : Prop := PA X es (tDs X.K E f)
abbrev Ex (X : Cx) (E : XK) (st : Stmt) (g : MS) : Prop := PS X st (tSt X.K E g)
abbrev Exs (X : Cx) (E : XK) (sts : List Stmt) (g : MS) : Prop := PSs X sts (tSt X.K E g)
section
variable {X : Cx}
theorem ZbQ {e : Expr} {t t' : TE} (h : PE X e t) (i : ∀ σ H Q, t' σ H Q → t σ H Q) : PE X e t' := fun pins s σ H Q I q => h pins s σ H Q I (i σ H Q q)
theorem Zh3 {e : Expr} {t t' : TT} (h : PT X e t) (i : ∀ σ H Q, t' σ H Q → t σ H Q) : PT X e t' := fun pins s σ H Q I q => h pins s σ H Q I (i σ H Q q)
theorem Zme {e : List Expr} {t t' : TA} (h : PA X e t) (i : ∀ σ H Q, t' σ H Q → t σ H Q) : PA X e t' := fun pos pins s σ H Q I q => h pos pins s σ H Q I (i σ H Q q)
theorem Zdz {e : Stmt} {t t' : TS} (h : PS X e t) (i : ∀ D σ H, t' D σ H → t D σ H) : PS X e t' := fun pins s σ H D I q => h pins s σ H D I (i D σ H q)
theorem Zhp {e : List Stmt} {t t' : TS} (h : PSs X e t) (i : ∀ D σ H, t' D σ H → t D σ H) : PSs X e t' := fun pins s σ H D I q => h pins s σ H D I (i D σ H q)
end
end LS
namespace LS
open PySem PySem.Spec PyProof.Rows L2
section
variable {X : Cx} {E : XK} {a b c : Expr} {pos : Pos} {f g k : ME}
def Zag (i : Nat) : ME := fun ρ h => match ρ[i]? with
  | some (some d) => .ok d h
  | _ => .stuck
theorem Zac {i : Nat} (h : PE X a (Zqv i)) : Ev X E a (Zag i) := ZbQ h fun σ H Q z1_ => by
  obtain ⟨m, ρ, hd, hr, er, p⟩ := z1_
  unfold Zag at p
  split at p
  · rename_i d e
    obtain ⟨v, e1, r⟩ := er.2 i d e
    exact ⟨v, e1, p v m H (List.prefix_refl _) (.refl _) hr r⟩
  · exact p.elim
def mC (d : D) : ME := fun _ h => .ok d h
theorem Zn2 {d : D} {v : V} (h : PE X a (tC v)) (r : ∀ m H, DV X.K m H d v) : Ev X E a (mC d) := ZbQ h fun σ H Q z2_ => by obtain ⟨m, ρ, hd, hr, er, p⟩ := z2_; exact (p v m H (List.prefix_refl _) (.refl _) hr (r m H))
theorem Zak {i : Int} {j : Nat} : Ev X E (.Constant (.int i) j pos) (mC (.int i)) := Zn2 Zoh fun _ _ => by simp [DV]
theorem Zc7 {i : Bool} {j : Nat} : Ev X E (.Constant (.bool i) j pos) (mC (.bl i)) := Zn2 Zqw fun _ _ => by simp [DV]
theorem ZjD {j : Nat} : Ev X E (.Constant .none j pos) (mC .non) := Zn2 Zoi fun _ _ => by simp [DV]
theorem Zca {x : Str} {j : Nat} : Ev X E (.Constant (.str x) j pos) (mC (.str x)) := Zn2 Zoj fun _ _ => by simp [DV]
theorem Zev {x : Str} {i : Int} {t : Tok} {pos : Pos} (hg : Gl X x) (hm : X.mg x = some (.int i t)) (hd : (x == ("__debug__" : Str)) = false := by decide) : Ev X E (.Name x pos) (mC (.int i)) :=
  Zn2 (ZmD (v := .int i) hg hm ⟨t, rfl⟩ hd) fun _ _ => by simp [DV]
def mOp (op : D → D → HD → Out D) (f g : ME) : ME := fun ρ h => (f ρ h).bind fun x h1 => (g ρ h1).bind fun y h2 => op x y h2
theorem ZpW {op : D → D → HD → Out D} {Q : VK} {R : V → V → Hp → Prop} {σ : L2.St} {H : Hp} (h : tD X.K E (mOp op f g) σ H Q)
    (i : ∀ m H2 h2 x y v u, HR X.K m h2 H2 → DV X.K m H2 x v → DV X.K m H2 y u → Post X.K (rD X.K) m H2 E Q (op x y h2) → R v u H2) : tD X.K E f σ H fun v H1 => tD X.K E g σ H1 fun u H2 => R v u H2 := by
  obtain ⟨m, ρ, hd, hr, er, p⟩ := h
  refine ⟨m, ρ, hd, hr, er, Post.bind p fun x h1 v m1 H1 _ p1 k1 hr1 r1 q1 => ?_⟩
  refine ⟨m1, ρ, h1, hr1, er.keep p1 k1, Post.bind q1 fun y h2 u m2 H2 _ p2 k2 hr2 r2 q2 => ?_⟩
  exact i m2 H2 h2 x y v u hr2 (DV.keep p2 k2 r1) r2 q2
def OpM (X : Cx) (f : Value → Value → Sem Value) (op : D → D → HD → Out D) : Prop :=
  ∃ r : R2, OpR X f r ∧ ∀ m H h E x y v u Q, HR X.K m h H → DV X.K m H x v → DV X.K m H y u → Post X.K (rD X.K) m H E Q (op x y h) → r v u H Q
theorem ZaB {o : Operator} {op : D → D → HD → Out D} (ho : OpM X (binaryOp o) op) (ha : Ev X E a f) (hb : Ev X E b g) : Ev X E (.BinOp a o b pos) (mOp op f g) := by
  obtain ⟨r, ho, i⟩ := ho
  exact ZbQ (ZqG ho ha hb) fun σ H Q h => ZpW h fun m H2 h2 x y v u hr rx ry q => i m H2 h2 E x y v u Q hr rx ry q
theorem ZeH {o : CmpOp} {op : D → D → HD → Out D} (ho : OpM X (compareOp o) op) (ha : Ev X E a f) (hb : Ev X E b g) (hm : behindInMarks o b = false) : Ev X E (.Compare a [o] [b] pos) (mOp op f g) := by
  obtain ⟨r, ho, i⟩ := ho
  exact ZbQ (ZmK ho ha hb hm) fun σ H Q h => ZpW h fun m H2 h2 x y v u hr rx ry q => i m H2 h2 E x y v u Q hr rx ry q
def asB : D → HD → Out Bool
  | .bl b, h => .ok b h
  | _, _ => .stuck
def mTb (f : ME) : MT := fun ρ h => (f ρ h).bind asB
theorem Zh4 {m : List Addr} {H : Hp} {x : D} {v : V} {h : HD} {Q : Bool → Hp → Prop} (hr : HR X.K m h H) (r : DV X.K m H x v) (q : Post X.K rB m H E Q (asB x h)) : ∃ k, v = .bl k ∧ Q k H := by
  cases x with
  | bl b =>
    simp only [DV] at r
    exact ⟨b, r, q b m H (List.prefix_refl _) (.refl _) hr rfl⟩
  | _ => exact q.elim
theorem ZbA {o : CmpOp} {op : D → D → HD → Out D} (ho : OpM X (compareOp o) op) (ha : Ev X E a f) (hb : Ev X E b g) (hm : behindInMarks o b = false) : EvT X E (.Compare a [o] [b] pos) (mTb (mOp op f g)) := by
  obtain ⟨r, ho, i⟩ := ho
  refine Zh3 (ZmL ho ha hb hm) fun σ H Q h => ?_
  obtain ⟨m, ρ, hd, hr, er, p⟩ := h
  have h' : tD X.K E (mOp op f g) σ H fun x H' => ∃ k, x = .bl k ∧ Q k H' :=
    ⟨m, ρ, hd, hr, er, Post.bind p fun x h1 v m1 H1 _ p1 k1 hr1 r1 q1 => Zh4 hr1 r1 q1⟩
  exact ZpW h' fun m H2 h2 x y v u hr rx ry q => i m H2 h2 E x y v u _ hr rx ry q
def Zk0 : D → HD → Out Bool
  | .non, h => .ok false h
  | .bl b, h => .ok b h
  | .int i, h => .ok (i != 0) h
  | .tup ds, h => .ok (!ds.isEmpty) h
  | .loc l, h => match h[l]? with
    | some (.lst ds) => .ok (!ds.isEmpty) h
    | _ => .stuck
  | _, _ => .stuck
def Zhq (f : ME) : MT := fun ρ h => (f ρ h).bind Zk0
theorem ZeI {α β : Type} {xs : List α} {ys : List β} (h : xs.length = ys.length) : xs.isEmpty = ys.isEmpty := by
  cases xs <;> cases ys <;> simp_all
theorem ZjE {m : List Addr} {H : Hp} {x : D} {v : V} {h : HD} {Q : Bool → Hp → Prop} (hr : HR X.K m h H) (r : DV X.K m H x v) (q : Post X.K rB m H E Q (Zk0 x h)) : ∃ k, ZqN X.K v H k ∧ Q k H := by
  have go : ∀ k, Zk0 x h = .ok k h → Q k H := fun k e => by rw [e] at q; exact q k m H (List.prefix_refl _) (.refl _) hr rfl
  cases x with
  | non => simp only [DV] at r; subst r; exact ⟨false, rfl, go _ rfl⟩
  | bl b => simp only [DV] at r; subst r; exact ⟨b, rfl, go _ rfl⟩
  | int i => simp only [DV] at r; subst r; exact ⟨_, rfl, go _ rfl⟩
  | str x => exact q.elim
  | tup ds =>
    simp only [DV] at r
    obtain ⟨p, vs, rfl, hp, dv⟩ := r
    exact ⟨_, .inr ⟨vs, SqT.of hp, rfl⟩, by rw [← ZeI dv.len]; exact go _ rfl⟩
  | loc l =>
    simp only [DV] at r
    obtain ⟨p, rfl, hp⟩ := r
    simp only [Zk0] at q
    split at q
    · rename_i ds e
      obtain ⟨vs, e1, dv⟩ := hr.cells l _ p e hp
      exact ⟨_, .inl ⟨vs, SqL.of e1, rfl⟩, by rw [← ZeI dv.len]; exact q _ m H (List.prefix_refl _) (.refl _) hr rfl⟩
    · exact q.elim
  | scr ns => exact q.elim
  | adr a => exact q.elim
  | ty a => exact q.elim
  | exc n fs => exact q.elim
  | edic => exact q.elim
  | glo n => exact q.elim
  | clo a vs ds => exact q.elim
theorem ZcC (ha : Ev X E a f) (he : ∀ Zfp, isTrue a X.env Zfp = (do let v ← Zfp; standAt a.pos; holding [v] (truthy v)) := by intro _; rfl) : EvT X E a (Zhq f) :=
  Zh3 (Zk8 ha he) fun σ H Q z3_ => by obtain ⟨m, ρ, hd, hr, er, p⟩ := z3_; exact (⟨m, ρ, hd, hr, er, Post.bind p fun x h1 v m1 H1 _ p1 k1 hr1 r1 q1 => ZjE hr1 r1 q1⟩)
variable {tf tg : MT} {rest : List Expr}
def ZpX (f g : MT) : MT := fun ρ h => (f ρ h).bind fun b h1 => if b = true then g ρ h1 else .ok false h1
def mOr (f g : MT) : MT := fun ρ h => (f ρ h).bind fun b h1 => if b = true then .ok true h1 else g ρ h1
def Zhr (f : MT) : MT := fun ρ h => (f ρ h).bind fun b h1 => .ok (!b) h1
abbrev EvW (X : Cx) (E : XK) (e : Expr) (f : MT) : Prop := PW X e (tBo X.K E f)
theorem ZoN {e : Expr} {t t' : TT} (h : PW X e t) (i : ∀ σ H Q, t' σ H Q → t σ H Q) : PW X e t' := fun wh pins s σ H Q I q => h wh pins s σ H Q I (i σ H Q q)
theorem ZfY (ha : EvT X E a tf) : EvW X E (.BoolOp .Or [a] pos) tf := Zok ha
theorem Zh5 (ha : EvT X E a tf) (hb : EvW X E (.BoolOp .Or (b :: rest) pos) tg) : EvW X E (.BoolOp .Or (a :: b :: rest) pos) (mOr tf tg) :=
  ZoN (Zqx ha hb) fun σ H Q z5_ => by obtain ⟨m, ρ, hd, hr, er, p⟩ := z5_; exact (⟨m, ρ, hd, hr, er, Post.bind p fun x h1 v m1 H1 _ p1 k1 hr1 r1 q1 => by
    cases r1
    cases x with
    | false => exact ⟨m1, ρ, h1, hr1, er.keep p1 k1, q1⟩
    | true => exact q1 true m1 H1 (List.prefix_refl _) (.refl _) hr1 rfl⟩)
theorem Zlf (h : EvW X E a tf) : EvT X E a tf := PW.pt h
theorem ZcD (ha : EvT X E a tf) : EvT X E (.UnaryOp .Not a pos) (Zhr tf) :=
  Zh3 (Zol ha) fun σ H Q z6_ => by obtain ⟨m, ρ, hd, hr, er, p⟩ := z6_; exact (⟨m, ρ, hd, hr, er, Post.bind p fun x h1 v m1 H1 _ p1 k1 hr1 r1 q1 => by
    cases r1
    exact q1 _ m1 H1 (List.prefix_refl _) (.refl _) hr1 rfl⟩)
def ZgE (f g : ME) : ME := fun ρ h => (f ρ h).bind fun x h1 => match x with
  | .bl true => g ρ h1
  | .bl false => .ok (.bl false) h1
  | _ => .stuck
def Zsk (f g : ME) : ME := fun ρ h => (f ρ h).bind fun x h1 => match x with
  | .bl true => .ok (.bl true) h1
  | .bl false => g ρ h1
  | _ => .stuck
def Zlg (f : ME) : ME := fun ρ h => (f ρ h).bind fun x h1 => match x with
  | .bl b => .ok (.bl (!b)) h1
  | _ => .stuck
theorem ZgF {o : BoolOp} (h : Ev X E a f) : Ev X E (.BoolOp o [a] pos) f := Zom h
theorem ZgG (ha : Ev X E a f) (hb : Ev X E (.BoolOp .And (b :: rest) pos) g) : Ev X E (.BoolOp .And (a :: b :: rest) pos) (ZgE f g) :=
  ZbQ (Zon ha hb) fun σ H Q ⟨m, ρ, hd, hr, er, p⟩ => ⟨m, ρ, hd, hr, er, Post.bind p fun x h1 v m1 H1 _ p1 k1 hr1 r1 q1 => by
    cases x with
    | bl b =>
      refine ⟨b, by simpa [rD, DV] using r1, ?_⟩
      cases b with
      | true => exact ⟨m1, ρ, h1, hr1, er.keep p1 k1, q1⟩
      | false => exact q1 _ m1 H1 (List.prefix_refl _) (.refl _) hr1 (by simp [rD, DV])
    | _ => exact q1.elim⟩
theorem ZoO (ha : Ev X E a f) : Ev X E (.UnaryOp .Not a pos) (Zlg f) :=
  ZbQ (Zoo ha) fun σ H Q z9_ => by obtain ⟨m, ρ, hd, hr, er, p⟩ := z9_; exact (⟨m, ρ, hd, hr, er, Post.bind p fun x h1 v m1 H1 _ p1 k1 hr1 r1 q1 => by
    cases x with
    | bl b => exact ⟨b, by simpa [rD, DV] using r1, q1 _ m1 H1 (List.prefix_refl _) (.refl _) hr1 (by simp [rD, DV])⟩
    | _ => exact q1.elim⟩)
def mIf (t : MT) (f g : ME) : ME := fun ρ h => (t ρ h).bind fun b h1 => if b = true then f ρ h1 else g ρ h1
theorem Zlh (hc : EvT X E c tf) (ha : Ev X E a f) (hb : Ev X E b g) : Ev X E (.IfExp c a b pos) (mIf tf f g) :=
  ZbQ (Zk2 hc ha hb) fun σ H Q z10_ => by obtain ⟨m, ρ, hd, hr, er, p⟩ := z10_; exact (⟨m, ρ, hd, hr, er, Post.bind p fun x h1 v m1 H1 _ p1 k1 hr1 r1 q1 => by
    cases r1
    cases x with
    | true => exact ⟨m1, ρ, h1, hr1, er.keep p1 k1, q1⟩
    | false => exact ⟨m1, ρ, h1, hr1, er.keep p1 k1, q1⟩⟩)
def Zd8 (op op' : D → D → HD → Out D) (f g k : ME) : ME := fun ρ h => (f ρ h).bind fun x h1 => (g ρ h1).bind fun y h2 => (op x y h2).bind fun z h3 => match z with
  | .bl true => (k ρ h3).bind fun w h4 => op' y w h4
  | .bl false => .ok (.bl false) h3
  | _ => .stuck
theorem Zh6 {r r' : R2} {op op' : D → D → HD → Out D} {o o' : Value → Value → Sem Value} (i : ∀ m H h E x y v u Q, HR X.K m h H → DV X.K m H x v → DV X.K m H y u → Post X.K (rD X.K) m H E Q (op x y h) → r v u H Q)
    (i' : ∀ m H h E x y v u Q, HR X.K m h H → DV X.K m H x v → DV X.K m H y u → Post X.K (rD X.K) m H E Q (op' x y h) → r' v u H Q) {σ : L2.St} {H : Hp} {Q : VK} (h : tD X.K E (Zd8 op op' f g k) σ H Q) :
    Zjp r r' (tD X.K E f) (tD X.K E g) (tD X.K E k) σ H Q := by
  obtain ⟨m, ρ, hd, hr, er, p⟩ := h
  refine ⟨m, ρ, hd, hr, er, Post.bind p fun x h1 v m1 H1 _ p1 k1 hr1 r1 q1 => ?_⟩
  refine ⟨m1, ρ, h1, hr1, er.keep p1 k1, Post.bind q1 fun y h2 u m2 H2 _ p2 k2 hr2 r2 q2 => ?_⟩
  refine i m2 H2 h2 E x y v u _ hr2 (DV.keep p2 k2 r1) r2 (Post.bind q2 fun z h3 w m3 H3 _ p3 k3 hr3 r3 q3 => ?_)
  cases z with
  | bl b =>
    refine ⟨b, by simpa [rD, DV] using r3, ?_⟩
    cases b with
    | false => exact q3 _ m3 H3 (List.prefix_refl _) (.refl _) hr3 (by simp [rD, DV])
    | true =>
      refine ⟨m3, ρ, h3, hr3, ((er.keep p1 k1).keep p2 k2).keep p3 k3, Post.bind q3 fun z h4 w' m4 H4 _ p4 k4 hr4 r4 q4 => ?_⟩
      exact i' m4 H4 h4 E y z u w' Q hr4 (DV.keep p4 k4 (DV.keep p3 k3 r2)) r4 q4
  | _ => exact q3.elim
theorem Zh7 {o o' : CmpOp} {op op' : D → D → HD → Out D} (ho : OpM X (compareOp o) op) (ho' : OpM X (compareOp o') op') (ha : Ev X E a f) (hb : Ev X E b g) (hc : Ev X E c k)
    (hm : lastMarks [o, o'] [b, c] = false := by with_unfolding_all rfl) : Ev X E (.Compare a [o, o'] [b, c] pos) (Zd8 op op' f g k) := by
  obtain ⟨r, ho, i⟩ := ho
  obtain ⟨r', ho', i'⟩ := ho'
  exact ZbQ (Zk6 ho ho' ha hb hc hm) fun σ H Q h => Zh6 (o := compareOp o) (o' := compareOp o') i i' h
theorem ZjF {o o' : CmpOp} {op op' : D → D → HD → Out D} (ho : OpM X (compareOp o) op) (ho' : OpM X (compareOp o') op') (ha : Ev X E a f) (hb : Ev X E b g) (hc : Ev X E c k)
    (hm : lastMarks [o, o'] [b, c] = false := by with_unfolding_all rfl) : EvT X E (.Compare a [o, o'] [b, c] pos) (mTb (Zd8 op op' f g k)) := by
  obtain ⟨r, ho, i⟩ := ho
  obtain ⟨r', ho', i'⟩ := ho'
  refine Zh3 (Zk7 ho ho' ha hb hc hm) fun σ H Q h => ?_
  obtain ⟨m, ρ, hd, hr, er, p⟩ := h
  exact Zh6 (o := compareOp o) (o' := compareOp o') i i' ⟨m, ρ, hd, hr, er, Post.bind p fun x h1 v m1 H1 _ p1 k1 hr1 r1 q1 => Zh4 hr1 r1 q1⟩
variable {es : List Expr} {fa : MA}
def Zal : MA := fun _ h => .ok [] h
def Zab (f : ME) (r : MA) : MA := fun ρ h => (f ρ h).bind fun x h1 => (r ρ h1).bind fun xs h2 => .ok (x :: xs) h2
theorem Zad : EvA X E [] Zal := Zme ZoD fun σ H Q z11_ => by obtain ⟨m, ρ, hd, hr, er, p⟩ := z11_; exact (p [] m H (List.prefix_refl _) (.refl _) hr .nil)
theorem Zaa (ha : Ev X E a f) (hr : EvA X E es fa) (hs : starEach (a :: es) X.env = (false, eval a X.env) :: starEach es X.env := by rfl) : EvA X E (a :: es) (Zab f fa) :=
  Zme (ZmM ha hr hs) fun σ H Q z12_ => by obtain ⟨m, ρ, hd, hr, er, p⟩ := z12_; exact (⟨m, ρ, hd, hr, er, Post.bind p fun x h1 v m1 H1 _ p1 k1 hr1 r1 q1 =>
    ⟨m1, ρ, h1, hr1, er.keep p1 k1, Post.bind q1 fun xs h2 vs m2 H2 _ p2 k2 hr2 r2 q2 => q2 _ m2 H2 (List.prefix_refl _) (.refl _) hr2 (DVs.cons (DV.keep p2 k2 r1) r2)⟩⟩)
def Zdm (fa : MA) : ME := fun ρ h => (fa ρ h).bind fun xs h1 => if xs.length ≤ sizeLine then .ok (.tup xs) h1 else .stuck
def Zhk (xs : List D) (h : HD) : Out D := if xs.length ≤ sizeLine then .ok (.loc h.length) (h ++ [.lst xs]) else .stuck
def Zee (fa : MA) : ME := fun ρ h => (fa ρ h).bind Zhk
theorem ZcK {m : List Addr} {H : Hp} {h : HD} {xs : List D} {vs : List V} {Q : VK} (hr : HR X.K m h H) (r : DVs X.K m H xs vs) (q : Post X.K (rD X.K) m H E Q (.ok (.tup xs) h)) : ∀ p, H p = none → Q (.ref p) (upd H p (.tup vs)) := fun p hp =>
  q (.ref p) m _ (List.prefix_refl _) (.new hp) (hr.new hp) (by simp only [rD, DV]; exact ⟨p, vs, rfl, Za0, r.keep (List.prefix_refl _) (.new hp)⟩)
theorem ZcL {m : List Addr} {H : Hp} {h : HD} {xs : List D} {vs : List V} {Q : VK} (hr : HR X.K m h H) (r : DVs X.K m H xs vs) (q : Post X.K (rD X.K) m H E Q (Zhk xs h)) : vs.length ≤ sizeLine ∧ ∀ p, H p = none → Q (.ref p) (upd H p (.lst vs)) := by
  unfold Zhk at q
  by_cases hz : xs.length ≤ sizeLine
  · rw [if_pos hz] at q
    refine ⟨by rw [← r.len]; exact hz, fun p hp => ?_⟩
    refine q (.ref p) (m ++ [p]) _ (List.prefix_append _ _) (.new hp) (hr.newCell hp ⟨vs, Za0, r.keep (List.prefix_append _ _) (.new hp)⟩) ?_
    simp only [rD, DV]
    exact ⟨p, rfl, by rw [← hr.len]; simp⟩
  · rw [if_neg hz] at q; exact q.elim
theorem Zcb {x1 : Nat} (h : EvA X E es fa) : Ev X E (.Tuple es x1 pos) (Zdm fa) :=
  ZbQ (ZoE h) fun σ H Q z13_ => by obtain ⟨m, ρ, hd, hr, er, p⟩ := z13_; exact (⟨m, ρ, hd, hr, er, Post.bind p fun xs h1 vs m1 H1 _ p1 k1 hr1 r1 q1 => by
    by_cases hz : xs.length ≤ sizeLine
    · rw [if_pos hz] at q1
      exact ⟨by rw [← DVs.len r1]; exact hz, ZcK hr1 r1 q1⟩
    · rw [if_neg hz] at q1; exact q1.elim⟩)
theorem ZbS (h : EvA X E es fa) : Ev X E (.List es pos) (Zee fa) :=
  ZbQ (ZoF h) fun σ H Q z14_ => by obtain ⟨m, ρ, hd, hr, er, p⟩ := z14_; exact (⟨m, ρ, hd, hr, er, Post.bind p fun xs h1 vs m1 H1 _ p1 k1 hr1 r1 q1 => ZcL hr1 r1 q1⟩)
inductive spM (K : PySem.W.Frag) (F : List D → HD → Out D) (vs : List V) (H : Hp) (Q : VK) (E : XK) : Prop where
  | mk (m : List Addr) (ds : List D) (h : HD) (hr : HR K m h H) (r : DVs K m H ds vs) (p : Post K (rD K) m H E0 Q (F ds h)) : spM K F vs H Q E
def Ar (n : Nat) (F : List D → HD → Out D) : Prop := ∀ ds h, ds.length ≠ n → F ds h = .stuck
theorem Ar.len {K : PySem.W.Frag} {n : Nat} {F : List D → HD → Out D} (ar : Ar n F) {vs : List V} {H : Hp} {Q : VK} {E' : XK} (h : spM K F vs H Q E') : vs.length = n := by
  obtain ⟨m, ds, hd, hr, r, p⟩ := h
  rw [← r.len]
  by_cases e : ds.length = n
  · exact e
  · rw [ar ds hd e] at p; exact p.elim
def ar0 (F : HD → Out D) : List D → HD → Out D := fun ds h => match ds with
  | [] => F h
  | _ => .stuck
def ar1 (F : D → HD → Out D) : List D → HD → Out D := fun ds h => match ds with
  | [a] => F a h
  | _ => .stuck
def ar2 (F : D → D → HD → Out D) : List D → HD → Out D := fun ds h => match ds with
  | [a, b] => F a b h
  | _ => .stuck
def ar3 (F : D → D → D → HD → Out D) : List D → HD → Out D := fun ds h => match ds with
  | [a, b, c] => F a b c h
  | _ => .stuck
def Zaf (F : List D → HD → Out D) (fa : MA) : ME := fun ρ h => (fa ρ h).bind F
def ZdA (X : Cx) (f : Value) (F : List D → HD → Out D) : Prop :=
  ∃ r : List V → Hp → VK → Prop, Zec X f r ∧ ∀ m H h E ds vs Q, HR X.K m h H → DVs X.K m H ds vs → Post X.K (rD X.K) m H E Q (F ds h) → r vs H Q
theorem Zan {id : String} {F : List D → HD → Out D} {x : Str} {p pos : Pos} {e : Expr} (hc : ZdA X (.builtin id) F) (hg : Gl X x) (hm : X.mg x = none) (hv : bootBuiltins x = some (.builtin id)) (ha : EvA X E (e :: es) fa) (hn : x ≠ "__name__" := by decide) (hdb : (x == ("__debug__" : Str)) = false := by decide)
    (hs : starEach (e :: es) X.env = (false, eval e X.env) :: starEach es X.env := by rfl) (hpl : (backTo pos (starEach es X.env)).any (·.1) = false := by rfl) : Ev X E (.Call (.Name x p) (e :: es) [] pos) (Zaf F fa) := by
  obtain ⟨r, hc, i⟩ := hc
  exact ZbQ (Zla hc hg hm hv ha hn hdb hs hpl) fun σ H Q z17_ => by obtain ⟨m, ρ, hd, hr, er, p⟩ := z17_; exact (⟨m, ρ, hd, hr, er, Post.bind p fun xs h1 vs m1 H1 e1 p1 k1 hr1 r1 q1 => i m1 H1 h1 E xs vs Q hr1 r1 q1⟩)
theorem Zbe {id : String} {F : List D → HD → Out D} {x : Str} {p pos : Pos} {e : Expr} (hc : ZdA X (.type id) F) (hg : Gl X x) (hm : X.mg x = none) (hv : bootBuiltins x = some (.type id)) (ha : EvA X E (e :: es) fa) (hn : x ≠ "__name__" := by decide) (hdb : (x == ("__debug__" : Str)) = false := by decide)
    (hs : starEach (e :: es) X.env = (false, eval e X.env) :: starEach es X.env := by rfl) (hpl : (backTo pos (starEach es X.env)).any (·.1) = false := by rfl) : Ev X E (.Call (.Name x p) (e :: es) [] pos) (Zaf F fa) := by
  obtain ⟨r, hc, i⟩ := hc
  exact ZbQ (Zju hc hg hm hv ha hn hdb hs hpl) fun σ H Q z18_ => by obtain ⟨m, ρ, hd, hr, er, p⟩ := z18_; exact (⟨m, ρ, hd, hr, er, Post.bind p fun xs h1 vs m1 H1 e1 p1 k1 hr1 r1 q1 => i m1 H1 h1 E xs vs Q hr1 r1 q1⟩)
end
end LS
namespace LS
open PySem PySem.Spec PyProof.Rows L2
section
variable {X : Cx} {E : XK}
theorem okq {K : PySem.W.Frag} {m : List Addr} {H : Hp} {h : HD} {d : D} {v : V} {Q : VK} (hr : HR K m h H) (q : Post K (rD K) m H E Q (.ok d h)) (r : DV K m H d v) : Q v H := q v m H (List.prefix_refl _) (.refl _) hr r
theorem op_catT0 : OpR X (binaryOp .Add) (fun x y H Q => ∃ a b ys, x = .ref a ∧ y = .ref b ∧ SqT X.K H a [] ∧ SqT X.K H b ys ∧ Q (.ref b) H) := by
  intro pins s σ H x y v u Q I rx ry h
  obtain ⟨a, b, ys, rfl, rfl, ha, hb, q⟩ := h
  cases rx
  cases ry
  obtain ⟨its, r1, p1, _⟩ := I.tuple ha
  obtain ⟨its2, r2, p2, _⟩ := I.tuple hb
  cases r1
  obtain ⟨⟨cls, dd, data, sl⟩, ho, hc, n, hd⟩ := id p1
  obtain ⟨⟨cls2, dd2, data2, sl2⟩, ho2, hc2, n2, hd2⟩ := id p2
  simp only at hc hd hc2 hd2
  subst hc hd hc2 hd2
  exact concat_meets ⟨_, ho, rfl⟩ ⟨_, ho2, rfl⟩ noFill_tuple_add seq_tuple_add PySem.F.slot_tuple_add PySem.F.entry_tuple_add (PySem.F.args_tuple_add_2 _ _)
      (tuple_addW0 a b _ its2.toArray n n2 dd dd2 sl sl2 (by simp)) ⟨ho, ho2, ⟨.ref b, H, I, rfl, q⟩⟩
def ZbD : D → D → HD → Out D
  | .int i, .int j, h => .ok (.int (i + j)) h
  | .str x, .str y, h => if x.length + y.length ≤ sizeLine then .ok (.str (x ++ y)) h else .stuck
  | .tup xs, .tup ys, h => if xs.length + ys.length ≤ sizeLine then .ok (.tup (xs ++ ys)) h else .stuck
  | .loc l, .loc k, h => match h[l]?, h[k]? with
    | some (.lst xs), some (.lst ys) => Zhk (xs ++ ys) h
    | _, _ => .stuck
  | _, _, _ => .stuck
theorem Zc4 : OpM X (binaryOp .Add) ZbD := by
  refine ⟨_, op_add.or (op_catT0.or (op_catT.or (op_cat.or ZiD))), fun m H h E x y v u Q hr rx ry q => ?_⟩
  unfold ZbD at q
  split at q
  · simp only [DV] at rx ry
    subst rx ry
    exact .inl ⟨_, _, rfl, rfl, okq hr q (by simp [DV])⟩
  · simp only [DV] at rx ry
    subst rx ry
    split at q
    · rename_i hz
      exact .inr (.inr (.inr (.inr ⟨_, _, rfl, rfl, hz, okq hr q (by simp [DV])⟩)))
    · exact q.elim
  · rename_i xs ys
    simp only [DV] at rx ry
    obtain ⟨a, vs, rfl, ha, dx⟩ := rx
    obtain ⟨b, ws, rfl, hb, dy⟩ := ry
    split at q
    · rename_i hz
      cases xs with
      | nil =>
        simp only [DVs] at dx
        subst dx
        exact .inr (.inl ⟨a, b, ws, rfl, rfl, SqT.of ha, SqT.of hb, okq hr q (by simp only [DV]; exact ⟨b, ws, rfl, hb, dy⟩)⟩)
      | cons x xs =>
        refine .inr (.inr (.inl ⟨a, b, vs, ws, rfl, rfl, SqT.of ha, SqT.of hb, ?_, by rw [← dx.len, ← dy.len]; exact hz, fun e => ?_, fun e => ?_⟩))
        · intro e; have := dx.len; rw [e] at this; simp at this
        · subst e
          have : ys = [] := by have := dy.len; simpa using this
          subst this
          exact okq hr q (by simp only [DV]; exact ⟨a, vs, rfl, ha, by simpa using dx⟩)
        · exact ZcK hr (dx.app dy) q
    · exact q.elim
  · simp only [DV] at rx ry
    obtain ⟨a, rfl, ha⟩ := rx
    obtain ⟨b, rfl, hb⟩ := ry
    split at q
    · rename_i xs ys e1 e2
      obtain ⟨vs, h1, d1⟩ := hr.cells _ _ a e1 ha
      obtain ⟨ws, h2, d2⟩ := hr.cells _ _ b e2 hb
      obtain ⟨z, q'⟩ := ZcL hr (d1.app d2) q
      exact .inr (.inr (.inr (.inl ⟨a, b, vs, ws, rfl, rfl, h1, h2, by simpa using z, q'⟩)))
    · exact q.elim
  · exact q.elim
def intD (f : Int → Int → D) (c : Int → Int → Prop) [∀ i j, Decidable (c i j)] : D → D → HD → Out D
  | .int i, .int j, h => if c i j then .ok (f i j) h else .stuck
  | _, _, _ => .stuck
theorem ZoP {o : Value → Value → Sem Value} {f : Int → Int → V} {g : Int → Int → D} {c c' : Int → Int → Prop} [∀ i j, Decidable (c' i j)] (h : OpR X o (rI c f)) (hc : ∀ i j, c' i j → c i j) (hg : ∀ m H i j, DV X.K m H (g i j) (f i j)) : OpM X o (intD g c') := by
  refine ⟨_, h, fun m H h E x y v u Q hr rx ry q => ?_⟩
  unfold intD at q
  split at q
  · simp only [DV] at rx ry
    subst rx ry
    split at q
    · rename_i hc'
      exact ⟨_, _, rfl, rfl, hc _ _ hc', okq hr q (hg _ _ _ _)⟩
    · exact q.elim
  · exact q.elim
def ZgH (f : Int → Int → D) : D → D → HD → Out D
  | .int i, .int j, h => .ok (f i j) h
  | _, _, _ => .stuck
theorem ZjG {o : Value → Value → Sem Value} {f : Int → Int → V} {g : Int → Int → D} (h : OpR X o (rI0 f)) (hg : ∀ m H i j, DV X.K m H (g i j) (f i j)) : OpM X o (ZgH g) := by
  refine ⟨_, h, fun m H h E x y v u Q hr rx ry q => ?_⟩
  unfold ZgH at q
  split at q
  · simp only [DV] at rx ry
    subst rx ry
    exact ⟨_, _, rfl, rfl, okq hr q (hg _ _ _ _)⟩
  · exact q.elim
abbrev Zli := ZgH fun i j => .int (i - j)
theorem ZpY : OpM X (binaryOp .Sub) Zli := ZjG Zou fun _ _ _ _ => by simp [DV]
abbrev ltD := ZgH fun i j => .bl (decide (i < j))
abbrev leD := ZgH fun i j => .bl (decide (i ≤ j))
abbrev gtD := ZgH fun i j => .bl (decide (j < i))
theorem ltM : OpM X (compareOp .Lt) ltD := ZjG ZqK fun _ _ _ _ => by simp [DV]
theorem leM : OpM X (compareOp .LtE) leD := ZjG ZqL fun _ _ _ _ => by simp [DV]
theorem gtM : OpM X (compareOp .Gt) gtD := ZjG ZqM fun _ _ _ _ => by simp [DV]
instance (i j : Int) : Decidable (CMul i j) := by unfold CMul; infer_instance
instance (i j : Int) : Decidable (Zsh i j) := by unfold Zsh; infer_instance
instance (i j : Int) : Decidable (Zn0 i j) := by unfold Zn0; infer_instance
abbrev ZjH := intD (fun i j => .int (i % j)) fun _ j => 0 < j
theorem ZmT : OpM X (binaryOp .Mod) ZjH := ZoP Zov (fun _ _ h => h) fun _ _ _ _ => by simp [DV]
abbrev ZpZ := intD (fun i j => .int (i ^ j.toNat)) Zn0
theorem ZtF : OpM X (binaryOp .Pow) ZpZ := ZoP Zow (fun _ _ h => h) fun _ _ _ _ => by simp [DV]
abbrev Zh8 := intD (fun i j => .int (i * 2 ^ j.toNat)) Zn0
theorem Zn3 : OpM X (binaryOp .LShift) Zh8 := ZoP Zox (fun _ _ h => h) fun _ _ _ _ => by simp [DV]
def Zuj : D → D → HD → Out D
  | .int i, .int j, h => if CMul i j then .ok (.int (i * j)) h else .stuck
  | .loc l, .int k, h => match h[l]? with
    | some (.lst xs) => if -(2 ^ 63) ≤ k ∧ k < 2 ^ 63 then Zhk (List.replicate k.toNat xs).flatten h else .stuck
    | _ => .stuck
  | _, _, _ => .stuck
theorem op_isnotB : OpR X (compareOp .IsNot) (fun x y H Q => ∃ b c, x = .bl b ∧ y = .bl c ∧ Q (.bl (!(b == c))) H) := by
  intro pins s σ H x y v u Q I rx ry h
  obtain ⟨b, c, rfl, rfl, q⟩ := h
  cases rx
  cases ry
  exact wpAny_isNot_plain rfl ⟨.bl _, H, I, by cases b <;> cases c <;> rfl, q⟩
def ZjI : D → Bool
  | .non => true
  | _ => false
def isD : D → D → HD → Out D
  | .bl b, .bl c, h => .ok (.bl (b == c)) h
  | x, .non, h => .ok (.bl (ZjI x)) h
  | _, _, _ => .stuck
def ZeJ : D → D → HD → Out D
  | .bl b, .bl c, h => .ok (.bl (!(b == c))) h
  | x, .non, h => .ok (.bl (!ZjI x)) h
  | _, _, _ => .stuck
theorem Zlj {m : List Addr} {H : Hp} {x : D} {v : V} (r : DV X.K m H x v) : decide (v = .non) = ZjI x := by
  cases x <;> simp only [DV] at r <;> first | (subst r; rfl) | (obtain ⟨_, rfl, _⟩ := r; rfl) | (obtain ⟨_, _, rfl, _⟩ := r; rfl) | (obtain ⟨_, _, _, rfl, _⟩ := r; rfl) | (obtain ⟨rfl, _⟩ := r; rfl)
theorem Zmf : OpM X (compareOp .IsNot) ZeJ := by
  refine ⟨_, op_isnotB.or ZmJ, fun m H h E x y v u Q hr rx ry q => ?_⟩
  unfold ZeJ at q
  split at q
  · simp only [DV] at rx ry
    subst rx ry
    exact .inl ⟨_, _, rfl, rfl, okq hr q (by simp [DV])⟩
  · simp only [DV] at ry
    subst ry
    exact .inr ⟨rfl, okq hr q (by simp [DV, Zlj rx])⟩
  · exact q.elim
end
end LS
namespace LS
open PySem PySem.Spec PyProof.Rows L2
def Zay {α : Type} : List (Option α) → Option (List α)
  | [] => some []
  | none :: _ => none
  | some a :: r => (Zay r).map (a :: ·)
def dPy (h : HD) : Nat → D → Option PyData
  | _, .non => some .none
  | _, .bl b => some (.bool b)
  | _, .int i => some (.int i)
  | _, .str x => some (.str x)
  | n + 1, .tup ds => (Zay (ds.map (dPy h n))).map .tuple
  | n + 1, .loc l => match h[l]? with
    | some (.lst ds) => (Zay (ds.map (dPy h n))).map .list
    | _ => none
  | _, _ => none
section
variable {X : Cx} {E : XK} {pins : List (Addr × Obj)} {σ : L2.St} {H : Hp} {s : Shared} {m : List Addr} {h : HD}
theorem ZeK {n : Nat} (ih : ∀ (d : D) (v : V) (u : Value) (p : PyData), DV X.K m H d v → RelV v u → dPy h n d = some p → ∃ as, Reads s.heap u p as) :
    ∀ (ds : List D) (vs : List V) (us : List Value) (ps : List PyData), DVs X.K m H ds vs → Vals vs us → Zay (ds.map (dPy h n)) = some ps → ∃ as, ReadsAll s.heap us ps as
  | [], vs, us, ps, r, q, e => by
    simp only [DVs] at r
    subst r
    cases q
    simp [Zay] at e
    subst e
    exact ⟨[], .nil⟩
  | d :: ds, vs, us, ps, r, q, e => by
    simp only [DVs] at r
    obtain ⟨v, w, rfl, rv, rw'⟩ := r
    cases q with
    | cons q1 q2 =>
      rw [List.map_cons] at e
      cases ed : dPy h n d with
      | none => rw [ed] at e; simp [Zay] at e
      | some p =>
        rw [ed] at e
        simp only [Zay, Option.map_eq_some_iff] at e
        obtain ⟨ps', e1, rfl⟩ := e
        obtain ⟨as, h1⟩ := ih d v _ p rv q1 ed
        obtain ⟨bs, h2⟩ := ZeK ih ds w _ ps' rw' q2 e1
        exact ⟨as ++ bs, .cons h1 h2⟩
theorem ZfZ (hok : HOk X.prog X.w H s.heap) (hr : HR X.K m h H) : ∀ (n : Nat) (d : D) (v : V) (u : Value) (p : PyData), DV X.K m H d v → RelV v u → dPy h n d = some p → ∃ as, Reads s.heap u p as := by
  intro n
  induction n with
  | zero =>
    intro d v u p r q e
    cases d <;> simp only [dPy, DV, Option.some.injEq] at e r <;> try (cases e; done)
    · subst e r; cases q; exact ⟨[], .none⟩
    · subst e r; cases q; exact ⟨[], .bool _⟩
    · subst e r; obtain ⟨t, rfl⟩ := q; exact ⟨[], .int _ _⟩
    · subst e r; obtain ⟨t, rfl⟩ := q; exact ⟨[], .str _ _⟩
  | succ n ih =>
    intro d v u p r q e
    cases d with
    | non => simp only [dPy, DV, Option.some.injEq] at e r; subst e r; cases q; exact ⟨[], .none⟩
    | bl b => simp only [dPy, DV, Option.some.injEq] at e r; subst e r; cases q; exact ⟨[], .bool _⟩
    | int i => simp only [dPy, DV, Option.some.injEq] at e r; subst e r; obtain ⟨t, rfl⟩ := q; exact ⟨[], .int _ _⟩
    | str x => simp only [dPy, DV, Option.some.injEq] at e r; subst e r; obtain ⟨t, rfl⟩ := q; exact ⟨[], .str _ _⟩
    | tup ds =>
      simp only [dPy, DV, Option.map_eq_some_iff] at e r
      obtain ⟨a, vs, rfl, ha, dv⟩ := r
      obtain ⟨ps, e1, rfl⟩ := e
      cases q
      obtain ⟨_, its, rv, ⟨o, ho, hc, k, hd⟩, _⟩ := hok a _ ha
      obtain ⟨as, h1⟩ := ZeK ih ds vs its ps dv rv e1
      exact ⟨as, .tuple ho hc hd (by simpa using h1)⟩
    | loc l =>
      simp only [DV] at r
      obtain ⟨a, rfl, ha⟩ := r
      cases q
      simp only [dPy] at e
      split at e
      · rename_i ds el
        simp only [Option.map_eq_some_iff] at e
        obtain ⟨ps, e1, rfl⟩ := e
        obtain ⟨vs, hv, dv⟩ := hr.cells l _ a el ha
        obtain ⟨_, its, k, rv, ho⟩ := hok a _ hv
        obtain ⟨as, h1⟩ := ZeK ih ds vs its ps dv rv e1
        exact ⟨_, .list ho rfl rfl (by simpa using h1)⟩
      · cases e
    | scr ns => simp [dPy] at e
    | adr a => simp [dPy] at e
    | ty a => simp [dPy] at e
    | exc n fs => simp [dPy] at e
    | edic => simp [dPy] at e
    | glo n => simp [dPy] at e
    | clo a vs ds => simp [dPy] at e
def ZfG (f : PyData → PyData → Bool) : D → D → HD → Out D := fun x y h => match dPy h 8 x, dPy h 8 y with
  | some p, some q => if SeqAt.shaped p = true ∧ SeqAt.shaped q = true then .ok (.bl (f p q)) h else .stuck
  | _, _ => .stuck
abbrev eqD := ZfG PyData.eqv
abbrev neD := ZfG fun p q => !PyData.eqv p q
theorem Zsl {o : CmpOp} {f : PyData → PyData → Bool}
    (rule : ∀ {s : Shared} {a b : Value} {p q : PyData} {as bs : List Addr} {Q : Value → Shared → Prop}, Reads s.heap a p as → Reads s.heap b q bs → SeqAt.shaped p = true → SeqAt.shaped q = true → Q (.bool (f p q)) s → wpAny (model X.prog X.w) X.A (compareOp o a b) Q X.xe s) :
    OpM X (compareOp o) (ZfG f) := by
  refine ⟨fun v u H Q => ∃ m h x y, HR X.K m h H ∧ DV X.K m H x v ∧ DV X.K m H y u ∧ Post X.K (rD X.K) m H E0 Q (ZfG f x y h), ?_, fun m H h E x y v u Q hr rx ry q => ⟨m, h, x, y, hr, rx, ry, ?_⟩⟩
  · intro pins s σ H x y v u Q I rx ry hq
    obtain ⟨m, h, dx, dy, hr, r1, r2, q⟩ := hq
    unfold ZfG at q
    split at q
    · rename_i p p' e1 e2
      split at q
      · rename_i hs
        obtain ⟨as, h1⟩ := ZfZ I.hok hr 8 dx x v p r1 rx e1
        obtain ⟨bs, h2⟩ := ZfZ I.hok hr 8 dy y u p' r2 ry e2
        exact rule h1 h2 hs.1 hs.2 ⟨.bl _, H, I, rfl, okq hr q (by simp [DV])⟩
      · exact q.elim
    · exact q.elim
  · unfold ZfG at q ⊢
    split
    · split
      · rename_i e1 e2 hs
        rw [e1, e2] at q
        simp only [hs] at q
        exact q
      · rename_i e1 e2 hs
        rw [e1, e2] at q
        simp only [hs] at q
        exact q.elim
    · rename_i hn
      split at q
      · rename_i e1 e2
        exact (hn _ _ e1 e2).elim
      · exact q.elim
theorem eqM (hu : X.A.units + 64 < cLine) : OpM X (compareOp .Eq) eqD := Zsl fun ra rb ha hb h => eq_dataH ra rb ha hb hu h
theorem neM (hu : X.A.units + 64 < cLine) : OpM X (compareOp .NotEq) neD := Zsl fun ra rb ha hb h => ne_dataH ra rb ha hb hu h
def Zc9 : D → Option V
  | .non => some .non
  | .bl b => some (.bl b)
  | .int i => some (.int i)
  | .str x => some (.str x)
  | _ => none
theorem Zf0 {d : D} {v w : V} (r : DV X.K m H d v) (e : Zc9 d = some w) : v = w ∧ Zed v = true := by
  cases d <;> simp only [Zc9, Option.some.injEq, DV] at e r <;> first | (subst e r; exact ⟨rfl, rfl⟩) | cases e
theorem Zew : ∀ {ds : List D} {vs ws : List V}, DVs X.K m H ds vs → Zay (ds.map Zc9) = some ws → vs = ws ∧ vs.all Zed = true
  | [], vs, ws, r, e => by
    simp only [DVs] at r
    simp [Zay] at e
    subst r e
    exact ⟨rfl, rfl⟩
  | d :: ds, vs, ws, r, e => by
    simp only [DVs] at r
    obtain ⟨v, w, rfl, rv, rw'⟩ := r
    rw [List.map_cons] at e
    cases ed : Zc9 d with
    | none => rw [ed] at e; simp [Zay] at e
    | some p =>
      rw [ed] at e
      simp only [Zay, Option.map_eq_some_iff] at e
      obtain ⟨ps', e1, rfl⟩ := e
      obtain ⟨h1, h2⟩ := Zf0 rv ed
      obtain ⟨h3, h4⟩ := Zew rw' e1
      subst h1 h3
      exact ⟨rfl, by simp [h2, h4]⟩
def Zbl : D → HD → Option (List D)
  | .tup ds, _ => some ds
  | .loc l, h => match h[l]? with
    | some (.lst ds) => some ds
    | _ => none
  | .scr ns, _ => some (ns.map .int)
  | _, _ => none
theorem ZjJ {ns : List Int} : DVs X.K m H (ns.map .int) (ns.map V.int) := by
  induction ns with
  | nil => exact .nil
  | cons n ns ih => exact .cons (by simp [DV]) ih
theorem ZdB {d : D} {v : V} {ds : List D} (hr : HR X.K m h H) (r : DV X.K m H d v) (e : Zbl d h = some ds) : ∃ p vs, v = .ref p ∧ (SqL X.K H p vs ∨ SqT X.K H p vs) ∧ DVs X.K m H ds vs := by
  cases d with
  | tup xs =>
    simp only [DV, Zbl, Option.some.injEq] at r e
    subst e
    obtain ⟨a, vs, rfl, ha, dv⟩ := r
    exact ⟨a, vs, rfl, .inr (SqT.of ha), dv⟩
  | loc l =>
    simp only [DV] at r
    obtain ⟨a, rfl, ha⟩ := r
    simp only [Zbl] at e
    split at e
    · rename_i xs el
      cases e
      obtain ⟨vs, hv, dv⟩ := hr.cells l _ a el ha
      exact ⟨a, vs, rfl, .inl (SqL.of hv), dv⟩
    · cases e
  | scr ns =>
    simp only [DV, Zbl, Option.some.injEq] at r e
    subst e
    obtain ⟨a, rfl, ha⟩ := r
    exact ⟨a, _, rfl, .inl ha.sq, ZjJ⟩
  | _ => simp [Zbl] at e
def inD (neg : Bool) : D → D → HD → Out D := fun x y h => match Zbl y h with
  | none => .stuck
  | some ds => match Zc9 x, Zay (ds.map Zc9) with
    | some v, some vs => .ok (.bl (if neg then !inV v vs else inV v vs)) h
    | _, _ => .stuck
theorem ZqV {neg : Bool} : ∀ m H h E x y v u Q, HR X.K m h H → DV X.K m H x v → DV X.K m H y u → Post X.K (rD X.K) m H E Q (inD neg x y h) → rIn X.K neg v u H Q := fun m H h E x y v u Q hr rx ry q => by
  unfold inD at q
  split at q
  · exact q.elim
  · rename_i ds e
    split at q
    · rename_i w ws e1 e2
      obtain ⟨p, vs, rfl, hs, dv⟩ := ZdB hr ry e
      obtain ⟨h1, h2⟩ := Zf0 rx e1
      obtain ⟨h3, h4⟩ := Zew dv e2
      subst h1 h3
      exact ⟨p, vs, rfl, hs, h2, h4, okq hr q (by simp [DV])⟩
    · exact q.elim
theorem inM : OpM X (compareOp .In) (inD false) := ⟨_, Zjz, ZqV⟩
def ixD : D → D → HD → Out D := fun x y h => match Zbl x h, y with
  | some ds, .int i => match atI ds i with
    | some d => .ok d h
    | none => .stuck
  | _, _ => .stuck
theorem ZoQ {ds : List D} {vs : List V} {i : Int} {d : D} (r : DVs X.K m H ds vs) (e : atI ds i = some d) : ∃ v, atI vs i = some v ∧ DV X.K m H d v := by
  unfold atI at e ⊢
  rw [r.len] at e
  cases k : ixN vs.length i with
  | none => rw [k] at e; cases e
  | some j =>
    rw [k] at e
    exact r.get e
theorem Zcc {a b : Expr} {pos : Pos} {f g : ME} (ha : Ev X E a f) (hb : Ev X E b g) (hs : Zjy b) : Ev X E (.Subscript a b pos) (mOp ixD f g) :=
  ZbQ (ZqS (ix_list.or ix_tup) ha hb hs) fun σ H Q hq => ZpW hq fun m H2 h2 x y v u hr rx ry q => by
    unfold ixD at q
    split at q
    · rename_i ds i e
      split at q
      · rename_i d ed
        simp only [DV] at ry
        subst ry
        obtain ⟨p, vs, rfl, hsq, dv⟩ := ZdB hr rx e
        obtain ⟨w, e1, r1⟩ := ZoQ dv ed
        rcases hsq with hsq | hsq
        · exact .inl ⟨p, vs, i, w, rfl, rfl, hsq, e1, okq hr q r1⟩
        · exact .inr ⟨p, vs, i, w, rfl, rfl, hsq, e1, okq hr q r1⟩
      · exact q.elim
    · exact q.elim
def Zcl : D → HD → Out D := fun x h => match Zbl x h with
  | some ds => .ok (.int ds.length) h
  | none => .stuck
theorem ZeL {F : D → HD → Out D} {ds : List D} {vs : List V} {Q : VK} {C : Prop} (r : DVs X.K m H ds vs) (q : Post X.K (rD X.K) m H E Q (ar1 F ds h)) (k : ∀ d v, vs = [v] → DV X.K m H d v → Post X.K (rD X.K) m H E Q (F d h) → C) : C := by
  unfold ar1 at q
  split at q
  · simp only [DVs] at r
    obtain ⟨v, w, rfl, rv, rfl⟩ := r
    exact k _ v rfl rv q
  · exact q.elim
theorem Zh9 {F : D → D → HD → Out D} {ds : List D} {vs : List V} {Q : VK} {C : Prop} (r : DVs X.K m H ds vs) (q : Post X.K (rD X.K) m H E Q (ar2 F ds h)) (k : ∀ d d' v v', vs = [v, v'] → DV X.K m H d v → DV X.K m H d' v' → Post X.K (rD X.K) m H E Q (F d d' h) → C) : C := by
  unfold ar2 at q
  split at q
  · simp only [DVs] at r
    obtain ⟨v, w, rfl, rv, v', w', rfl, rv', rfl⟩ := r
    exact k _ _ v v' rfl rv rv' q
  · exact q.elim
theorem Zfl : ZdA X (.builtin "len") (ar1 Zcl) := by
  refine ⟨_, ZgB, fun m H h E ds vs Q hr r q => ZeL r q fun d v ev rv q => ?_⟩
  unfold Zcl at q
  split at q
  · rename_i xs e
    obtain ⟨p, ws, rfl, hs, dv⟩ := ZdB hr rv e
    exact ⟨p, ws, ev, hs, by rw [← dv.len]; exact okq hr q (by simp [DV])⟩
  · exact q.elim
def CDv (i j : Int) : Prop := 0 < j ∧ j < 18446744073709551616
instance (i j : Int) : Decidable (CDv i j) := by unfold CDv; infer_instance
theorem CDv.no {i j : Int} (h : CDv i j) : Builtin.divisionGoesByPylong i j = false := by
  refine PyProof.noPylong_of_log2 ?_
  have h0 : j.natAbs ≠ 0 := by have := h.1; omega
  have h1 : j.natAbs < 2 ^ 64 := by have := h.2; have := h.1; omega
  exact Nat.lt_trans ((Nat.log2_lt h0).mpr h1) (by decide)
theorem ZgI : Zec X (.builtin "divmod") (fun xs H Q => ∃ i j, xs = [.int i, .int j] ∧ CDv i j ∧ ∀ p, H p = none → Q (.ref p) (upd H p (.tup [.int (i / j), .int (i % j)]))) := by
  intro pins s σ H xs us Q I r h
  obtain ⟨i, j, rfl, hc, q⟩ := h
  obtain ⟨u, w', rfl, ⟨t, rfl⟩, ⟨t', rfl⟩⟩ := Zk9 r
  have h1 := hc.1
  refine divmod_int (by omega) ?_ (.inl hc.no)
  rw [Int.fdiv_eq_ediv_of_nonneg i (by omega), Int.fmod_eq_emod_of_nonneg i (by omega)]
  have hn : H s.heap.objs.size = none := I.hok.fresh (Nat.le_refl _)
  refine ⟨.ref s.heap.objs.size, _, ?_, rfl, q _ hn⟩
  refine I.laid (fun b o e => Heap.get?_push_of_some _ e) (Nat.le_refl _) ⟨by simp only [List.length_cons, List.length_nil]; rw [sizeLine_eq]; decide, [.int (i / j) s.toks, .int (i % j) (s.toks + 1)], .cons ⟨_, rfl⟩ (.cons ⟨_, rfl⟩ .nil), ?_, NoDict.new⟩
  exact ⟨_, Heap.get?_push_size s.heap rfl, rfl, 0, rfl⟩
def ZeM : D → D → HD → Out D
  | .int i, .int j, h => if CDv i j then .ok (.tup [.int (i / j), .int (i % j)]) h else .stuck
  | _, _, _ => .stuck
theorem ZmU : ZdA X (.builtin "divmod") (ar2 ZeM) := by
  refine ⟨_, ZgI, fun m H h E ds vs Q hr r q => Zh9 r q fun d d' v v' ev rv rv' q => ?_⟩
  unfold ZeM at q
  split at q
  · split at q
    · rename_i i j hc
      simp only [DV] at rv rv'
      subst rv rv'
      exact ⟨i, j, ev, hc, ZcK hr (.cons (by simp [DV]) (.cons (by simp [DV]) .nil)) q⟩
    · exact q.elim
  · exact q.elim
theorem Zlk : OpR X (binaryOp .FloorDiv) (rI CDv fun i j => .int (i / j)) := opI fun i j _ _ _ _ _ hc q => by
  have h1 := hc.1
  exact floordiv_int (by omega) (by rw [Int.fdiv_eq_ediv_of_nonneg i (by omega)]; exact q) (.inl hc.no)
abbrev Zia := intD (fun i j => .int (i / j)) CDv
theorem ZoR : OpM X (binaryOp .FloorDiv) Zia := ZoP Zlk (fun _ _ h => h) fun _ _ _ _ => by simp [DV]
def Zmg : D → D → HD → Out D
  | .int i, .int j, h => .ok (.int (if j > i then j else i)) h
  | _, _, _ => .stuck
def ZoS : D → D → HD → Out D
  | .int i, .int j, h => .ok (.int (if j < i then j else i)) h
  | _, _, _ => .stuck
theorem Zsm (hc : X.calm = true) : ZdA X (.builtin "max") (ar2 Zmg) := by
  refine ⟨_, Zjq hc, fun m H h E ds vs Q hr r q => Zh9 r q fun d d' v v' ev rv rv' q => ?_⟩
  unfold Zmg at q
  split at q
  · simp only [DV] at rv rv'
    subst rv rv'
    exact ⟨_, _, ev, okq hr q (by simp [DV])⟩
  · exact q.elim
theorem ZtG (hc : X.calm = true) : ZdA X (.builtin "min") (ar2 ZoS) := by
  refine ⟨_, Zjr hc, fun m H h E ds vs Q hr r q => Zh9 r q fun d d' v v' ev rv rv' q => ?_⟩
  unfold ZoS at q
  split at q
  · simp only [DV] at rv rv'
    subst rv rv'
    exact ⟨_, _, ev, okq hr q (by simp [DV])⟩
  · exact q.elim
def ZeN : D → HD → Out D
  | .int i, h => .ok (.int i) h
  | .bl b, h => .ok (.int (if b then 1 else 0)) h
  | _, _ => .stuck
theorem ZjK : ZdA X (.type "int") (ar1 ZeN) := by
  refine ⟨_, Zjs, fun m H h E ds vs Q hr r q => ZeL r q fun d v ev rv q => ?_⟩
  unfold ZeN at q
  split at q
  · simp only [DV] at rv; subst rv
    exact .inl ⟨_, ev, okq hr q (by simp [DV])⟩
  · simp only [DV] at rv; subst rv
    exact .inr ⟨_, ev, okq hr q (by simp [DV])⟩
  · exact q.elim
def Zbg : D → HD → Out D := fun x h => match x with
  | .tup ds => .ok (.tup ds) h
  | .loc l => match h[l]? with
    | some (.lst ds) => .ok (.tup ds) h
    | _ => .stuck
  | _ => .stuck
theorem Zda : ZdA X (.type "tuple") (ar1 Zbg) := by
  refine ⟨_, ZfW, fun m H h E ds vs Q hr r q => ZeL r q fun d v ev rv q => ?_⟩
  unfold Zbg at q
  split at q
  · simp only [DV] at rv
    obtain ⟨a, ws, rfl, ha, dv⟩ := rv
    exact ⟨a, ws, ev, .inr ⟨SqT.of ha, okq hr q (by simp only [DV]; exact ⟨a, ws, rfl, ha, dv⟩)⟩⟩
  · split at q
    · rename_i ds' el
      simp only [DV] at rv
      obtain ⟨a, rfl, ha⟩ := rv
      obtain ⟨ws, hv, dv⟩ := hr.cells _ _ a el ha
      exact ⟨a, ws, ev, .inl ⟨SqL.of hv, ZcK hr dv q⟩⟩
    · exact q.elim
  · exact q.elim
end
end LS
namespace LS
open PySem PySem.Spec PyProof.Rows L2
theorem PostS.bind {α β : Type} {K : PySem.W.Frag} {m : List Addr} {H : Hp} {R : List Addr → Hp → α → β → Prop} {E : XK} {Q' : β → Hp → Prop} {Dn : Zjf} {o : Out α} {k : α → HD → Out (Fl × Rho)}
    (h : PostS K m H E Dn (o.bind k)) (f : ∀ a h1 v m1 H1, o = .ok a h1 → m <+: m1 → Kp H H1 → HR K m1 h1 H1 → R m1 H1 a v → PostS K m1 H1 E Dn (k a h1) → Q' v H1) : Post K R m H E Q' o := by
  cases o with
  | ok a h1 => exact fun v m1 H1 p kk hr r => f a h1 v m1 H1 rfl p kk hr r (h.ahead p kk)
  | err C fs h1 => exact h
  | stuck => exact h
theorem PostS.here {K : PySem.W.Frag} {m : List Addr} {H : Hp} {E : XK} {Dn : Zjf} {a : Fl × Rho} {h : HD} (hr : HR K m h H) (p : PostS K m H E Dn (.ok a h)) : Zsj K m H Dn a := p m H (List.prefix_refl _) (.refl _) hr
section
variable {X : Cx} {E : XK} {st : Stmt} {sts b1 b2 : List Stmt} {g g1 g2 : MS} {e : Expr} {f : ME} {pos : Pos} {t : MT}
def ZbY : MS := fun ρ h => .ok (.nx, ρ) h
def ZaR (g1 g2 : MS) : MS := fun ρ h => (g1 ρ h).bind fun x h1 => match x with
  | (.nx, ρ1) => g2 ρ1 h1
  | y => .ok y h1
theorem Zbm : Exs X E [] ZbY := Zhp ZmF fun Dn σ H z1_ => by obtain ⟨m, ρ, h, hr, er, p⟩ := z1_; exact ((p.here hr) σ er)
theorem Zam (h : Ex X E st g) : Exs X E [st] g := ZmG h
theorem Zah (h1 : Ex X E st g1) (h2 : Exs X E sts g2) : Exs X E (st :: sts) (ZaR g1 g2) :=
  Zhp (Zk3 h1 h2) fun Dn σ H z2_ => by
    obtain ⟨m, ρ, h, hr, er, p⟩ := z2_
    refine ⟨m, ρ, h, hr, er, ?_⟩
    unfold ZaR at p
    cases o : g1 ρ h with
    | stuck => rw [o] at p; exact p
    | err C fs h1 => rw [o] at p; exact p
    | ok x h1 =>
      rw [o] at p
      obtain ⟨fl, ρ1⟩ := x
      intro m1 H1 p1 k1 hr1
      cases fl with
      | nx => exact fun σ1 er1 => ⟨m1, ρ1, h1, hr1, er1, PostS.ahead p1 k1 p⟩
      | bk => exact p m1 H1 p1 k1 hr1
      | ct => exact p m1 H1 p1 k1 hr1
      | rt d => exact p m1 H1 p1 k1 hr1
def Zc8 (f : ME) : MS := fun ρ h => (f ρ h).bind fun _ h1 => .ok (.nx, ρ) h1
theorem ZcR (he : Ev X E e f) (hs : swapsWith e none pos.line X.env = pure false := by rfl) : Ex X E (.Expr e pos) (Zc8 f) :=
  Zdz (ZmH he hs) fun Dn σ H z3_ => by obtain ⟨m, ρ, h, hr, er, p⟩ := z3_; exact (⟨m, ρ, h, hr, er, PostS.bind p fun x h1 v m1 H1 _ p1 k1 hr1 r1 q1 => (q1.here hr1) σ (er.keep p1 k1)⟩)
def Zce (f : ME) : MS := fun ρ h => (f ρ h).bind fun d h1 => .ok (.rt d, ρ) h1
theorem ZaK (he : Ev X E e f) : Ex X E (.Return (some e) pos) (Zce f) :=
  Zdz (Zop he) fun Dn σ H z4_ => by obtain ⟨m, ρ, h, hr, er, p⟩ := z4_; exact (⟨m, ρ, h, hr, er, PostS.bind p fun x h1 v m1 H1 _ p1 k1 hr1 r1 q1 => (q1.here hr1) v r1⟩)
def ZdC (t : MT) (g1 g2 : MS) : MS := fun ρ h => (t ρ h).bind fun b h1 => if b = true then g1 ρ h1 else g2 ρ h1
theorem ZcS {c : Expr} (hc : EvT X E c t) (ha : Exs X E b1 g1) (hb : Exs X E b2 g2) : Ex X E (.If c b1 b2 pos) (ZdC t g1 g2) :=
  Zdz (ZqC hc ha hb) fun Dn σ H z5_ => by obtain ⟨m, ρ, h, hr, er, p⟩ := z5_; exact (⟨m, ρ, h, hr, er, PostS.bind p fun x h1 v m1 H1 _ p1 k1 hr1 r1 q1 => by
    cases r1
    cases x with
    | true => exact ⟨m1, ρ, h1, hr1, er.keep p1 k1, q1⟩
    | false => exact ⟨m1, ρ, h1, hr1, er.keep p1 k1, q1⟩⟩)
def ZgJ : MS := fun _ _ => .stuck
theorem Zll : Ex X E st ZgJ := Zdz Zk4 fun Dn σ H z6_ => by obtain ⟨m, ρ, h, hr, er, p⟩ := z6_; exact (p)
theorem ZjL : Exs X E sts ZgJ := Zhp Zjj fun Dn σ H z7_ => by obtain ⟨m, ρ, h, hr, er, p⟩ := z7_; exact (p)
def ZbG (i : Nat) (f : ME) : MS := fun ρ h => (f ρ h).bind fun d h1 => .ok (.nx, ρ.set i (some d)) h1
theorem ZaN {i : Nat} {x : Str} {pos' : Pos} (hN : X.N.Nodup) (hi : X.N[i]? = some x) (hx : Loc X.env.scope x) (he : Ev X E e f) (hs : swapsWith e (some (.Name x pos')) pos.line X.env = pure false := by rfl) (hf : X.fn x = true ∨ X.env.scope.names.lookup x = some .local := by first | exact .inl rfl | exact .inr rfl | assumption) :
    Ex X E (.Assign [.Name x pos'] e pos) (ZbG i f) :=
  Zdz (Zor hN hi hx he hs hf) fun Dn σ H z9_ => by obtain ⟨m, ρ, h, hr, er, p⟩ := z9_; exact (⟨m, ρ, h, hr, er, PostS.bind p fun x h1 v m1 H1 _ p1 k1 hr1 r1 q1 => (q1.here hr1) _ ((er.keep p1 k1).set r1)⟩)
def Zn4 (i j : Nat) (fa : MA) : MS := fun ρ h => (fa ρ h).bind fun ds h1 => match ds with
  | [x, y] => .ok (.nx, (ρ.set i (some x)).set j (some y)) h1
  | _ => .stuck
theorem Zmh {i j : Nat} {x y : Str} {a b : Expr} {fa : MA} {px py pt : Pos} {kt k2 : Nat} {pt2 : Pos} (hc : X.calm = true) (hN : X.N.Nodup) (hi : X.N[i]? = some x) (hj : X.N[j]? = some y) (hij : i ≠ j)
    (hx : X.env.scope.names.lookup x = some .local) (hy : X.env.scope.names.lookup y = some .local) (ha : EvA X E [a, b] fa)
    (hw : swappedStores [.Tuple [.Name x px, .Name y py] kt pt] (.Tuple [a, b] k2 pt2) X.env = pure (some [x, y]))
    (hs : swapsWithSole [.Tuple [.Name x px, .Name y py] kt pt] (.Tuple [a, b] k2 pt2) pos.line X.env = pure false := by rfl) :
    Ex X E (.Assign [.Tuple [.Name x px, .Name y py] kt pt] (.Tuple [a, b] k2 pt2) pos) (Zn4 i j fa) :=
  Zdz (Zos hc hN hi hj hij hx hy ha hw hs) fun Dn σ H z10_ => by obtain ⟨m, ρ, h, hr, er, p⟩ := z10_; exact (⟨m, ρ, h, hr, er, PostS.bind p fun x h1 v m1 H1 _ p1 k1 hr1 r1 q1 => by
    split at q1
    · simp only [rDs, DVs] at r1
      obtain ⟨v, w, rfl, rv, v', w', rfl, rv', rfl⟩ := r1
      exact ⟨v, v', rfl, (q1.here hr1) _ (((er.keep p1 k1).set rv).set rv')⟩
    · exact q1.elim⟩)
abbrev MG := D → Rho → Option Rho
def EvG (X : Cx) (tg : Expr) (sg : MG) : Prop :=
  ∃ gg : TG, PG X tg gg ∧ ∀ m H d v ρ σ ρ' Q, DV X.K m H d v → ER X.K m H ρ σ → sg d ρ = some ρ' → (∀ σ', ER X.K m H ρ' σ' → Q σ' H) → gg v σ H Q
def Zbq (i : Nat) : MG := fun d ρ => some (ρ.set i (some d))
def Zdi (i j : Nat) : MG := fun d ρ => match d with
  | .tup [x, y] => some ((ρ.set i (some x)).set j (some y))
  | _ => none
theorem Zcm {i : Nat} {x : Str} (h : PG X (.Name x pos) (ZcQ i)) : EvG X (.Name x pos) (Zbq i) := ⟨_, h, fun m H d v ρ σ ρ' Q r er e q => by
  simp only [Zbq, Option.some.injEq] at e
  subst e
  exact q _ (er.set r)⟩
theorem Zex {i j : Nat} {x y : Str} {px py : Pos} {kt : Nat} (h : PG X (.Tuple [.Name x px, .Name y py] kt pos) (Zl7 X.K 2 (Zdw (ZcQ i) (Zdw (ZcQ j) Zl6)))) : EvG X (.Tuple [.Name x px, .Name y py] kt pos) (Zdi i j) := ⟨_, h, fun m H d v ρ σ ρ' Q r er e q => by
  unfold Zdi at e
  split at e
  · rename_i a b
    cases e
    simp only [DV, DVs] at r
    obtain ⟨p, vs, rfl, hp, v1, w1, rfl, r1, v2, w2, rfl, r2, rfl⟩ := r
    exact ⟨p, _, rfl, SqT.of hp, rfl, v1, _, rfl, v2, _, rfl, rfl, q _ ((er.set r1).set r2)⟩
  · cases e⟩
def Zn5 (sg : MG) (f : ME) : MS := fun ρ h => (f ρ h).bind fun d h1 => match sg d ρ with
  | some ρ1 => .ok (.nx, ρ1) h1
  | none => .stuck
theorem ZjM {tg : Expr} {sg : MG} (he : Ev X E e f) (hg : EvG X tg sg) (hs : swapsWithSole [tg] e pos.line X.env = pure false := by rfl) (hw : swappedStores [tg] e X.env = pure none := by rfl)
    (h1 : (assignEach [tg] X.env).map (·.2) = [assign tg X.env] := by rfl) : Ex X E (.Assign [tg] e pos) (Zn5 sg f) := by
  obtain ⟨gg, hg, i⟩ := hg
  exact Zdz (Zl9 he hg hs hw h1) fun Dn σ H z11_ => by obtain ⟨m, ρ, h, hr, er, p⟩ := z11_; exact (⟨m, ρ, h, hr, er, PostS.bind p fun x h1 v m1 H1 _ p1 k1 hr1 r1 q1 => by
    split at q1
    · rename_i ρ1 es
      exact i m1 H1 x v ρ σ ρ1 _ r1 (er.keep p1 k1) es fun σ' er' => (q1.here hr1) σ' er'
    · exact q1.elim⟩)
abbrev Src := List (Nat × List D)
def Zbw (src : Src) (items : List D) (h : HD) : Prop := ∀ p ∈ src, h[p.1]? = some (.lst p.2)
theorem Zlm {items : List D} {h : HD} : Zbw [] items h := fun p z => nomatch z
theorem Zsn {items ds : List D} {h : HD} {l : Nat} (e : h[l]? = some (.lst ds)) : Zbw [(l, ds)] items h := fun p z => by
  rw [List.mem_singleton] at z
  subst z
  exact e
def rIt (K : PySem.W.Frag) : List Addr → Hp → (List D × Src) → It → Prop := fun m1 H1 x J =>
  ∀ i m2 h2 H2, m1 <+: m2 → Kp H1 H2 → HR K m2 h2 H2 → Zbw x.2 x.1 h2 →
    (i < x.1.length → J.go i H2 ∧ ∀ y H3, J.yld i H2 y H3 → Kp H2 H3 ∧ HR K m2 h2 H3 ∧ ∃ d, x.1[i]? = some d ∧ DV K m2 H3 d y) ∧ (i = x.1.length → J.stop i H2)
abbrev MI := Rho → HD → Out (List D × Src)
abbrev EvI (X : Cx) (E : XK) (tg iter : Expr) (it : MI) : Prop := PI X tg iter (tM X.K (rIt X.K) E it)
theorem Zib {tg iter : Expr} {w w' : TI} (h : PI X tg iter w) (i : ∀ σ H R, w' σ H R → w σ H R) : PI X tg iter w' := fun pins s σ H R I q => h pins s σ H R I (i σ H R q)
theorem ZoT {tg l : Expr} {tl : TE} (hl : PE X l tl) : PI X tg l (fun σ H R => tl σ H fun x H1 => ∃ a, x = .ref a ∧ (((∃ xs, SqL X.K H1 a xs) ∧ R (Itl X.K a) H1) ∨ ((∃ xs, SqT X.K H1 a xs) ∧ R (Itt X.K a) H1))) := by
  intro pins s σ H R I h
  refine thn (hl pins s σ H _ I h) fun v s1 z12_ => ?_
  obtain ⟨x, H1, I1, r1, q1⟩ := z12_
  obtain ⟨a, e, q⟩ := q1
  subst e
  cases r1
  rcases q with ⟨⟨xs, hq⟩, q⟩ | ⟨⟨xs, hq⟩, q⟩
  · obtain ⟨its, rv, p, hz⟩ := I1.list hq
    refine wpAny_pyIter_list p.isList ?_
    refine ⟨s1.heap.objs.size, [s1.heap.objs.size], _, _, H1, rfl, I1.kept (t' := s1.toks) fun b o e => Heap.get?_push_of_some _ e, Zjl a _, ⟨_, Heap.get?_push_size _ rfl, rfl, rfl⟩, fun b hb => ?_, q⟩
    have e : b = s1.heap.objs.size := by simpa using hb
    subst e
    exact I1.fpOk (Nat.le_refl _) (I1.hok.fresh (Nat.le_refl _))
  · obtain ⟨its, rv, p, hz⟩ := I1.tuple hq
    refine wpAny_pyIter_tuple (show s1.heap.IsTuple a its.toArray from p) ?_
    refine ⟨s1.heap.objs.size, [s1.heap.objs.size], _, _, H1, rfl, I1.kept (t' := s1.toks) fun b o e => Heap.get?_push_of_some _ e, ZiA a _, ⟨_, Heap.get?_push_size _ rfl, rfl, rfl⟩, fun b hb => ?_, q⟩
    have e : b = s1.heap.objs.size := by simpa using hb
    subst e
    exact I1.fpOk (Nat.le_refl _) (I1.hok.fresh (Nat.le_refl _))
def Zso : D → List D → Src
  | .loc l, ds => [(l, ds)]
  | _, _ => []
def ZiH (d : D) (h : HD) : Out (List D × Src) := match Zbl d h with
  | some ds => .ok (ds, Zso d ds) h
  | none => .stuck
def Zco (f : ME) : MI := fun ρ h => (f ρ h).bind ZiH
theorem Kp.lget {H H' : Hp} {a : Addr} {K : PySem.W.Frag} {xs : List V} (k : Kp H H') (h : FzL K H a xs) : SqL K H' a xs := (k.fzL h).sq
theorem ZjN {K : PySem.W.Frag} {a : Addr} {m : List Addr} {H : Hp} {h : HD} {i : Nat} {items : List D} {vs : List V} (hr : HR K m h H) (hs : SqL K H a vs) (dv : DVs K m H items vs) (uniq : ∀ ys, SqL K H a ys → ys = vs ∨ True) :
    (i < items.length → (Itl K a).go i H ∧ ∀ y H3, (Itl K a).yld i H y H3 → Kp H H3 ∧ HR K m h H3 ∧ ∃ d, items[i]? = some d ∧ DV K m H3 d y) ∧ (i = items.length → (Itl K a).stop i H) := by
  refine ⟨fun hi => ?_, fun hi => ⟨vs, hs, by rw [← dv.len]; exact Nat.le_of_eq hi.symm⟩⟩
  have hd : items[i]? = some items[i] := List.getElem?_eq_getElem hi
  obtain ⟨v, e1, r1⟩ := dv.get hd
  refine ⟨⟨vs, v, hs, e1⟩, fun y H3 z13_ => ?_⟩
  obtain ⟨e3, hy⟩ := z13_
  subst e3
  have := hy vs hs
  rw [e1] at this
  cases this
  exact ⟨.refl _, hr, _, hd, r1⟩
theorem ZoU {K : PySem.W.Frag} {a : Addr} {m : List Addr} {H : Hp} {h : HD} {i : Nat} {items : List D} {vs : List V} (hr : HR K m h H) (hs : SqT K H a vs) (dv : DVs K m H items vs) :
    (i < items.length → (Itt K a).go i H ∧ ∀ y H3, (Itt K a).yld i H y H3 → Kp H H3 ∧ HR K m h H3 ∧ ∃ d, items[i]? = some d ∧ DV K m H3 d y) ∧ (i = items.length → (Itt K a).stop i H) := by
  refine ⟨fun hi => ?_, fun hi => ⟨vs, hs, by rw [← dv.len]; exact Nat.le_of_eq hi.symm⟩⟩
  have hd : items[i]? = some items[i] := List.getElem?_eq_getElem hi
  obtain ⟨v, e1, r1⟩ := dv.get hd
  refine ⟨⟨vs, v, hs, e1⟩, fun y H3 z14_ => ?_⟩
  obtain ⟨e3, hy⟩ := z14_
  subst e3
  have := hy vs hs
  rw [e1] at this
  cases this
  exact ⟨.refl _, hr, _, hd, r1⟩
theorem Zcf {tg a : Expr} (ha : Ev X E a f) : EvI X E tg a (Zco f) :=
  Zib (ZoT ha) fun σ H R ⟨m, ρ, h, hr, er, p⟩ => ⟨m, ρ, h, hr, er, Post.bind p fun x h1 v m1 H1 _ p1 k1 hr1 r1 q1 => by
    unfold ZiH at q1
    split at q1
    · rename_i ds eds
      cases x with
      | tup xs =>
        simp only [Zbl, Option.some.injEq] at eds
        subst eds
        simp only [rD, DV] at r1
        obtain ⟨a, vs, rfl, ha, dv⟩ := r1
        refine ⟨a, rfl, .inr ⟨⟨vs, SqT.of ha⟩, q1 _ m1 H1 (List.prefix_refl _) (.refl _) hr1 fun i m2 h2 H2 p2 k2 hr2 _ => ?_⟩⟩
        exact ZoU hr2 (SqT.of (k2 _ _ ha rfl)) (dv.keep p2 k2)
      | loc l =>
        simp only [rD, DV] at r1
        obtain ⟨a, rfl, ha⟩ := r1
        simp only [Zbl] at eds
        split at eds
        · rename_i xs el
          cases eds
          obtain ⟨vs, hv, dv⟩ := hr1.cells l _ a el ha
          refine ⟨a, rfl, .inl ⟨⟨vs, SqL.of hv⟩, q1 _ m1 H1 (List.prefix_refl _) (.refl _) hr1 fun i m2 h2 H2 p2 k2 hr2 hs => ?_⟩⟩
          obtain ⟨ws, hw, dw⟩ := hr2.cells l _ a (hs _ List.mem_cons_self) (ZeG p2 ha)
          exact ZjN hr2 (SqL.of hw) dw fun _ _ => .inr trivial
        · cases eds
      | scr ns =>
        simp only [Zbl, Option.some.injEq] at eds
        subst eds
        simp only [rD, DV] at r1
        obtain ⟨a, rfl, ha⟩ := r1
        refine ⟨a, rfl, .inl ⟨⟨_, ha.sq⟩, q1 _ m1 H1 (List.prefix_refl _) (.refl _) hr1 fun i m2 h2 H2 p2 k2 hr2 _ => ?_⟩⟩
        exact ZjN hr2 (k2.lget ha) ZjJ fun _ _ => .inr trivial
      | _ => simp [Zbl] at eds
    · exact q1.elim⟩
def ZmV (lo : Int) (n : Nat) : List D := (List.range n).map fun k => .int (lo + (k : Nat))
theorem ZoV {K : PySem.W.Frag} {m1 : List Addr} {H1 : Hp} (lo : Int) (n : Nat) : rIt K m1 H1 (ZmV lo n, []) (Itr lo n) := fun i m2 h2 H2 p2 k2 hr2 _ => by
  refine ⟨fun hi => ?_, fun hi => ?_⟩
  · have hi' : i < n := by simpa [ZmV] using hi
    refine ⟨hi', fun y H3 z16_ => ?_⟩
    obtain ⟨e3, ey⟩ := z16_
    subst e3 ey
    refine ⟨.refl _, hr2, .int (lo + i), ?_, by simp [DV]⟩
    simp [ZmV, List.getElem?_range, hi']
  · show n ≤ i
    have hi' : i = n := by simpa [ZmV] using hi
    omega
@[irreducible] noncomputable def ZiI : List D → HD → Out (List D × Src) := fun ds h => match ds with
  | [.int j] => @ite _ (-(2 ^ 62) ≤ j ∧ j < 2 ^ 62) (Classical.propDecidable _) (.ok (ZmV 0 j.toNat, []) h) .stuck
  | _ => .stuck
@[irreducible] noncomputable def ZoW : List D → HD → Out (List D × Src) := fun ds h => match ds with
  | [.int i, .int j] => @ite _ ((-(2 ^ 62) ≤ i ∧ i < 2 ^ 62) ∧ -(2 ^ 62) ≤ j ∧ j < 2 ^ 62) (Classical.propDecidable _) (.ok (ZmV i (j - i).toNat, []) h) .stuck
  | _ => .stuck
noncomputable def Zcp (fa : MA) : MI := fun ρ h => (fa ρ h).bind ZiI
noncomputable def Zmi (fa : MA) : MI := fun ρ h => (fa ρ h).bind ZoW
theorem Zbh {tg a : Expr} {fa : MA} {p pos : Pos} (hg : Gl X "range") (hm : X.mg "range" = none) (ha : EvA X E [a] fa) (hs : starEach [a] X.env = [(false, eval a X.env)] := by rfl) : EvI X E tg (.Call (.Name "range" p) [a] [] pos) (Zcp fa) :=
  Zib (Zjm hg hm ha hs) fun σ H R z17_ => by obtain ⟨m, ρ, h, hr, er, p⟩ := z17_; exact (⟨m, ρ, h, hr, er, Post.bind p fun x h1 v m1 H1 _ p1 k1 hr1 r1 q1 => by
    unfold ZiI at q1
    split at q1
    · split at q1
      · rename_i hj
        simp only [rDs, DVs, DV] at r1
        obtain ⟨v, w, rfl, rfl, rfl⟩ := r1
        exact ⟨_, rfl, hj.1, hj.2, q1 _ m1 H1 (List.prefix_refl _) (.refl _) hr1 (ZoV 0 _)⟩
      · exact q1.elim
    · exact q1.elim⟩)
open Classical in
noncomputable def Zfm (src : Src) (items : List D) (sg : MG) (body : MS) : List D → MS
  | [] => fun ρ h => if Zbw src items h then .ok (.nx, ρ) h else .stuck
  | d :: ds => fun ρ h => if Zbw src items h then match sg d ρ with
      | none => .stuck
      | some ρ1 => (body ρ1 h).bind fun x h2 => match x with
        | (.nx, ρ2) => Zfm src items sg body ds ρ2 h2
        | (.ct, ρ2) => Zfm src items sg body ds ρ2 h2
        | (.bk, ρ2) => .ok (.nx, ρ2) h2
        | (.rt d, ρ2) => .ok (.rt d, ρ2) h2
    else .stuck
noncomputable def Zf1 (it : MI) (sg : MG) (body : MS) : MS := fun ρ h => (it ρ h).bind fun x h1 => Zfm x.2 x.1 sg body x.1 ρ h1
inductive FoI (K : PySem.W.Frag) (E : XK) (Dn : Zjf) (src : Src) (items : List D) (sg : MG) (g : MS) (m1 : List Addr) (H1 : Hp) (i n : Nat) (σ2 : L2.St) (H2 : Hp) : Prop where
  | mk (e : n = items.length - i) (l : i ≤ items.length) (m2 : List Addr) (ρ2 : Rho) (h2 : HD) (p : m1 <+: m2) (k : Kp H1 H2) (hr : HR K m2 h2 H2) (er : ER K m2 H2 ρ2 σ2) (q : PostS K m2 H2 E Dn (Zfm src items sg g (items.drop i) ρ2 h2)) : FoI K E Dn src items sg g m1 H1 i n σ2 H2
inductive FoJ (K : PySem.W.Frag) (E : XK) (Dn : Zjf) (src : Src) (items : List D) (sg : MG) (g : MS) (m1 : List Addr) (H1 : Hp) (i : Nat) (σ2 : L2.St) (H2 : Hp) : Prop where
  | mk (m2 : List Addr) (ρ2 : Rho) (h2 : HD) (p : m1 <+: m2) (k : Kp H1 H2) (hr : HR K m2 h2 H2) (er : ER K m2 H2 ρ2 σ2) (q : PostS K m2 H2 E Dn (Zfm src items sg g (items.drop i) ρ2 h2)) : FoJ K E Dn src items sg g m1 H1 i σ2 H2
theorem Zdb {tg iter : Expr} {body : List Stmt} {it : MI} {sg : MG} {g : MS} (hp : PassesOwn (model X.prog X.w) X.A X.env X.xe) (hc : X.calm = true) (hi : EvI X E tg iter it) (hg : EvG X tg sg) (hb : Exs X E body g)
    (hs : ∀ x, foldedSetIterable iter X.env x = pure x := by intro _; rfl) : Ex X E (.For tg iter body [] pos) (Zf1 it sg g) := by
  obtain ⟨gg, hg, ig⟩ := hg
  refine Zdz (Zot hp hc hi hg hb hs) ?_
  rintro Dn σ H ⟨m, ρ, h, hr, er, p⟩
  refine ⟨m, ρ, h, hr, er, PostS.bind p fun x h1 J m1 H1 _ p1 k1 hr1 r1 q1 => ?_⟩
  obtain ⟨items, src⟩ := x
  refine ⟨FoI X.K E Dn src items sg g m1 H1, ⟨items.length, rfl, Nat.zero_le _, m1, ρ, h1, List.prefix_refl _, .refl _, hr1, er.keep p1 k1, by simpa using q1⟩, ?_⟩
  rintro i n σ2 H2 ⟨rfl, hi, m2, ρ2, h2, p2, k2, hr2, er2, q2⟩
  by_cases hlt : i < items.length
  · rw [List.drop_eq_getElem_cons hlt] at q2
    unfold Zfm at q2
    split at q2
    · rename_i hs
      obtain ⟨hgo, hy⟩ := (r1 i m2 h2 H2 p2 k2 hr2 hs).1 hlt
      refine .inr ⟨hgo, FoJ X.K E Dn src items sg g m1 H1 (i + 1), fun σ5 H5 z20_ => by obtain ⟨m5, ρ5, h5, a1, a2, a3, a4, a5⟩ := z20_; exact (⟨items.length - (i + 1), by omega, rfl, hlt, m5, ρ5, h5, a1, a2, a3, a4, a5⟩), fun y H3 hyl => ?_⟩
      obtain ⟨k3, hr3, d, ed, rd⟩ := hy y H3 hyl
      have ed' : d = items[i] := by rw [List.getElem?_eq_getElem hlt] at ed; exact (Option.some.inj ed).symm
      subst ed'
      split at q2
      · exact q2.elim
      · rename_i ρ3 es
        refine ig m2 H3 _ y ρ2 σ2 ρ3 _ rd (er2.keep (List.prefix_refl _) k3) es fun σ4 er4 => ?_
        refine ⟨m2, ρ3, h2, hr3, er4, ?_⟩
        have q3 := PostS.ahead (List.prefix_refl _) k3 q2
        cases o : g ρ3 h2 with
        | stuck => rw [o] at q3; exact q3
        | err C fs h5 => rw [o] at q3; exact q3
        | ok z h5 =>
          rw [o] at q3
          obtain ⟨fl, ρ5⟩ := z
          intro m5 H5 p5 k5 hr5
          have pk : m1 <+: m5 := p2.trans p5
          have kk : Kp H1 H5 := (k2.trans k3).trans k5
          cases fl with
          | nx => exact fun σ5 er5 => ⟨m5, ρ5, h5, pk, kk, hr5, er5, PostS.ahead p5 k5 q3⟩
          | ct => exact fun σ5 er5 => ⟨m5, ρ5, h5, pk, kk, hr5, er5, PostS.ahead p5 k5 q3⟩
          | bk => exact fun σ5 er5 => q3 m5 H5 p5 k5 hr5 σ5 er5
          | rt d => exact fun v rv => q3 m5 H5 p5 k5 hr5 v rv
    · exact q2.elim
  · have he : i = items.length := Nat.le_antisymm hi (Nat.le_of_not_lt hlt)
    subst he
    rw [List.drop_length] at q2
    unfold Zfm at q2
    split at q2
    · rename_i hs
      exact .inl ⟨(r1 _ m2 h2 H2 p2 k2 hr2 hs).2 rfl, (q2.here hr2) σ2 er2⟩
    · exact q2.elim
end
end LS
namespace LS
open PySem PySem.Spec PyProof.Rows L2
section
variable {M : Model} {A : Around} {E : Value → Shared → Prop} {s : Shared}
theorem Zdc {env : Env} : ∀ (names : List (Str × NameKind)) (acc : List (Str × Addr)), (∀ y ∈ names, y.2 = .free → ∃ c, env.cells.lookup y.1 = some c) →
    ∃ cl : List (Str × Addr), (forIn names acc (fun (x : Str × NameKind) (cs : List (Str × Addr)) => match x with
      | (name, kind) => if (kind == NameKind.free) = true then do let y ← cellOf env name; pure (ForInStep.yield ((name, y) :: cs)) else pure (ForInStep.yield cs)) : Sem (List (Str × Addr))) = pure cl ∧
      (∀ x c, (x, c) ∈ cl → (x, c) ∈ acc ∨ (env.cells.lookup x = some c ∧ (x, NameKind.free) ∈ names)) ∧ (∀ y ∈ names, y.2 = .free → ∃ c, (y.1, c) ∈ cl) ∧ (∀ p ∈ acc, p ∈ cl)
  | [], acc, _ => ⟨acc, rfl, fun x c h => .inl h, fun y hy => absurd hy (by simp), fun p h => h⟩
  | (name, kind) :: r, acc, h => by
    rw [List.forIn_cons]
    by_cases hk : kind = .free
    · subst hk
      obtain ⟨c, hc⟩ := h (name, .free) List.mem_cons_self rfl
      obtain ⟨cl, e, h1, h2, h3⟩ := Zdc (env := env) r ((name, c) :: acc) (fun y hy => h y (List.mem_cons_of_mem _ hy))
      refine ⟨cl, ?_, fun x c' hm => ?_, fun y hy hf => ?_, fun p hp => h3 p (List.mem_cons_of_mem _ hp)⟩
      · rw [← e]
        have : cellOf env name = pure c := by unfold cellOf; rw [hc]
        simp only [this, beq_self_eq_true, if_true, pure_bind]
      · rcases h1 x c' hm with q | ⟨q1, q2⟩
        · rcases List.mem_cons.mp q with q | q
          · cases q; exact .inr ⟨hc, List.mem_cons_self⟩
          · exact .inl q
        · exact .inr ⟨q1, List.mem_cons_of_mem _ q2⟩
      · rcases List.mem_cons.mp hy with q | q
        · subst q; exact ⟨c, h3 _ List.mem_cons_self⟩
        · exact h2 y q hf
    · obtain ⟨cl, e, h1, h2, h3⟩ := Zdc (env := env) r acc (fun y hy => h y (List.mem_cons_of_mem _ hy))
      refine ⟨cl, ?_, fun x c' hm => ?_, fun y hy hf => ?_, h3⟩
      · rw [← e]
        have hk' : (kind == NameKind.free) = false := by simpa using hk
        simp only [hk', Bool.false_eq_true, if_false, pure_bind]
      · rcases h1 x c' hm with q | ⟨q1, q2⟩
        · exact .inl q
        · exact .inr ⟨q1, List.mem_cons_of_mem _ q2⟩
      · rcases List.mem_cons.mp hy with q | q
        · subst q; exact absurd hf hk
        · exact h2 y q hf
theorem Zcq {scope : Scope} {env : Env} (h : ∀ y ∈ scope.names, y.2 = .free → ∃ c, env.cells.lookup y.1 = some c) :
    ∃ cl : List (Str × Addr), closureFor scope env = pure cl ∧ (∀ x c, (x, c) ∈ cl → env.cells.lookup x = some c ∧ (x, NameKind.free) ∈ scope.names) ∧ (∀ y ∈ scope.names, y.2 = .free → ∃ c, (y.1, c) ∈ cl) := by
  obtain ⟨cl, e, h1, h2, h3⟩ := Zdc (env := env) scope.names [] h
  refine ⟨cl, ?_, fun x c hm => ?_, h2⟩
  · unfold closureFor
    simp only [bind_pure]
    exact e
  · rcases h1 x c hm with q | q
    · exact nomatch q
    · exact q
theorem ZeO {scope : Scope} {globals : Addr} {cl : List (Str × Addr)} {qual : Str} {around : Env} {Q : Env → Shared → Prop}
    (h : Q (newEnv scope s.heap.objs.size globals (cellsFrom (s.heap.objs.size + 1) scope.names cl) qual none .none (some around) builtinsNs) { s with heap := pushCells (s.heap.push { cls := .type "dict", data := .dict #[] }) scope.names }) :
    wpAny M A (newFunctionEnv scope globals cl [] qual none .none (some around)) Q E s := by
  simp only [newFunctionEnv, Option.isSome_some, if_true]
  refine wpAny_bind (wpAny_alloc ?_)
  refine wpAny_bind (wpAny_layCells _ (fun name kind cells => by cases hkc : kind == NameKind.cell <;> simp [hkc]) _ _ _ _ ?_)
  simp only [List.forIn_nil, pure_bind]
  refine wpAny_pure ?_
  rw [show ({ s with heap := s.heap.push { cls := .type "dict", data := .dict #[] } } : Shared).heap.objs.size = s.heap.objs.size + 1 from Heap.size_push ..]
  exact h
end
section
variable {prog : Program} {w : World} {A : Around} {R : Result → Shared → Prop} {s : Shared}
theorem Zhs {elt target iter : Expr} {ifs : List Expr} {scope : Scope} {pos : Pos} {it acc : Value} {env : Env} (I : Nat → Shared → Prop)
    (turn : ∀ n s, I n s → wpAny (model prog w) A (pyNext it) (fun r s₁ => match r with
      | none => R (.ok .next) s₁
      | some v => wpAny (model prog w) A (letOwnedTupleGo target it v) (fun _ s₁' => wpAny (model prog w) A (assign target env v) (fun _ s₂ =>
          wpAny (model prog w) A (forIn ifs true fun c r => if r = true then do let ok ← isTrue c env (eval c env); pure (ForInStep.yield ok) else pure (ForInStep.yield r)) (fun ok s₃ =>
            if ok = true then wpAny (model prog w) A (eval elt env) (fun x s₄ =>
              wpAny (model prog w) A (call (.builtin "list.append") [acc, x]) (fun _ s₅ => ∃ m, m < n ∧ I m s₅) (notedBy (model prog w) A env fun e s' => R (.error e) s') s₄) (notedBy (model prog w) A env fun e s' => R (.error e) s') s₃
            else ∃ m, m < n ∧ I m s₃) (notedBy (model prog w) A env fun e s' => R (.error e) s') s₂) (notedBy (model prog w) A env fun e s' => R (.error e) s') s₁') (notedBy (model prog w) A env fun e s' => R (.error e) s') s₁) (notedBy (model prog w) A env fun e s' => R (.error e) s') s)
    (n : Nat) (h : I n s) :
    codeAny (model prog w) A (.compLoop (.ListComp elt [⟨target, iter, ifs, 0⟩] scope pos) 0 it acc env) R s := by
  refine codeAny_loop rfl I (fun n s hI => ?_) n h
  show wpAny _ A ((compTurn (.ListComp elt [⟨target, iter, ifs, 0⟩] scope pos) 0 it acc env).onRaise (fun x => do noteFrame x env; theTreesLotGoes x)) _ _ s
  refine wpAny_noted ?_
  rw [compTurn_list]
  refine wpAny_bind (wpAny_standAt (wpAny_bind (wpAny_mono (turn n s hI) (fun r s₁ h₁ => ?_) fun _ _ h' => h')))
  cases r with
  | none => exact wpAny_pure h₁
  | some v =>
    refine wpAny_bind (wpAny_mono h₁ (fun _ s₁' h₁' => ?_) fun _ _ h' => h')
    refine wpAny_bind (wpAny_mono h₁' (fun _ s₂ h₂ => wpAny_bind (wpAny_mono h₂ (fun ok s₃ h₃ => ?_) fun _ _ h' => h')) fun _ _ h' => h')
    cases ok with
    | false => exact wpAny_pure ⟨rfl, h₃⟩
    | true =>
      exact wpAny_bind (wpAny_bind (wpAny_mono h₃ (fun x s₄ h₄ => wpAny_bind (wpAny_mono h₄ (fun _ s₅ h₅ => wpAny_pure (wpAny_pure ⟨rfl, h₅⟩)) fun _ _ h' => h')) fun _ _ h' => h'))
end
def PTs (X : Cx) (ifs : List Expr) (t : TT) : Prop := ∀ (pins : List (Addr × Obj)) (s : Shared) (σ : L2.St) (H : Hp) (Q : Bool → Hp → Prop), Inv X pins σ H s → t σ H Q →
  wpAny (model X.prog X.w) X.A (forIn ifs true fun c r => if r = true then do let ok ← isTrue c X.env (eval c X.env); pure (ForInStep.yield ok) else pure (ForInStep.yield r)) (TP X pins σ Q) X.xe s
theorem ZmW {X : Cx} : PTs X [] (fun _ H Q => Q true H) := fun _ _ _ H _ I h => wpAny_tests_nil ⟨H, I, h⟩
theorem ZmX {X : Cx} {c : Expr} {t : TT} (h : PT X c t) : PTs X [c] t := fun pins s σ H Q I q => wpAny_tests_one (h pins s σ H Q I q)
def Zsp (env : Env) (scope : Scope) (C : Addr) (cells : List (Str × Addr)) : Env :=
  { scope := relabel scope env, locals := C, globals := env.globals, cells := cells, qual := env.qual, func := none, code := env.code, frame := env.frame, builtins := env.builtins }
def cCx (X : Cx) (Nc : List Str) (scope : Scope) (C D : Addr) (cells : List (Str × Addr)) (fp : List Addr) (s₀ : Shared) (H₀ : Hp) (pins : List (Addr × Obj)) : Cx :=
  { X with N := Nc, s₀ := s₀, H₀ := H₀, env := Zsp X.env scope C cells, outer := X.stack, stack := X.stack, ex := D :: fp, fn := fun x => scope.names.lookup x == some .cell, pn := X.pn ++ pins, xe := fun _ _ => False }
def cSt (cs : List (Option Nat)) (σ : L2.St) : L2.St := cs.map fun o => o.bind fun j => (σ[j]?).join
def Sub (σ σ' : L2.St) : Prop := σ.length = σ'.length ∧ ∀ (i : Nat) v, σ[i]? = some (some v) → σ'[i]? = some (some v)
def Zln (cs : List (Option Nat)) (wi : TI) (g : TG) (tc : TT) (te : TE) : TE := fun σ H Q => wi σ H fun J H1 => ∃ W : Nat → Nat → List V → Hp → Prop, (∃ n, W 0 n [] H1) ∧ ∀ i n acc H, W i n acc H →
  (J.stop i H ∧ acc.length ≤ sizeLine ∧ ∀ p, H p = none → Q (.ref p) (upd H p (.lst acc))) ∨
  (J.go i H ∧ acc.length < sizeLine ∧ ∀ x H', J.yld i H x H' → g x (cSt cs σ) H' fun σ2 H2 => Sub (cSt cs σ) σ2 ∧ tc σ2 H2 fun b H3 => if b = true then te σ2 H3 fun y H4 => ∃ n', n' < n ∧ W (i + 1) n' (acc ++ [y]) H4 else ∃ n', n' < n ∧ W (i + 1) n' acc H3)
end LS
namespace LS
open PySem PySem.Spec PyProof.Rows L2
theorem ZeP : ∀ (names : List (Str × NameKind)) (h : Heap) (acc : List (Str × Addr)) (x : Str) (c : Addr), (x, c) ∈ cellsFrom h.objs.size names acc → (x, c) ∈ acc ∨ (h.objs.size ≤ c ∧ (x, NameKind.cell) ∈ names ∧ (pushCells h names).IsCell c none)
  | [], _, _, _, _, m => .inl m
  | (name, kind) :: r, h, acc, x, c, m => by
    unfold cellsFrom at m
    unfold pushCells
    split at m
    · rename_i hk
      rw [if_pos hk]
      have hk' : kind = .cell := by simpa using hk
      have e : h.objs.size + 1 = (h.push { cls := .type "cell", data := .cell none }).objs.size := (Heap.size_push ..).symm
      rw [e] at m
      rcases ZeP r _ _ x c m with q | ⟨q1, q2, q3⟩
      · rcases List.mem_cons.mp q with q | q
        · cases q
          refine .inr ⟨Nat.le_refl _, by rw [hk']; exact List.mem_cons_self, ?_⟩
          exact (show (h.push { cls := .type "cell", data := .cell none }).IsCell h.objs.size none from ⟨_, Heap.get?_push_size _ rfl, rfl⟩).keeps fun b o e => pushCells_keeps _ _ b o e
        · exact .inl q
      · exact .inr ⟨by rw [← e] at q1; exact Nat.le_of_succ_le q1, List.mem_cons_of_mem _ q2, q3⟩
    · rename_i hk
      rw [if_neg hk]
      rcases ZeP r h acc x c m with q | ⟨q1, q2, q3⟩
      · exact .inl q
      · exact .inr ⟨q1, List.mem_cons_of_mem _ q2, q3⟩
theorem ZeQ : ∀ (names : List (Str × NameKind)) (h : Heap) (acc : List (Str × Addr)), (∀ x c, (x, c) ∈ acc → c < h.objs.size) → (∀ x y c, (x, c) ∈ acc → (y, c) ∈ acc → x = y) →
    ∀ x y c, (x, c) ∈ cellsFrom h.objs.size names acc → (y, c) ∈ cellsFrom h.objs.size names acc → x = y
  | [], _, _, _, i => i
  | (name, kind) :: r, h, acc, lt, i => by
    unfold cellsFrom
    split
    · have e : h.objs.size + 1 = (h.push { cls := .type "cell", data := .cell none }).objs.size := (Heap.size_push ..).symm
      rw [e]
      refine ZeQ r _ _ (fun x c m => ?_) (fun x y c m m' => ?_)
      · rw [← e]
        rcases List.mem_cons.mp m with q | q
        · cases q; exact Nat.lt_succ_self _
        · exact Nat.lt_succ_of_lt (lt x c q)
      · rcases List.mem_cons.mp m with q | q <;> rcases List.mem_cons.mp m' with q' | q'
        · cases q; cases q'; rfl
        · cases q; exact absurd (lt y _ q') (Nat.lt_irrefl _)
        · cases q'; exact absurd (lt x _ q) (Nat.lt_irrefl _)
        · exact i x y c q q'
    · exact ZeQ r h acc lt i
theorem lookup_mem {α : Type} {l : List (Str × α)} {x : Str} {k : α} (nd : (l.map (·.1)).Nodup) (h : (x, k) ∈ l) : l.lookup x = some k := by
  induction l with
  | nil => cases h
  | cons p r ih =>
    obtain ⟨y, j⟩ := p
    rw [List.map_cons, List.nodup_cons] at nd
    rw [List.lookup_cons]
    rcases List.mem_cons.mp h with e | e
    · cases e; simp
    · have : x ≠ y := by
        rintro rfl
        exact nd.1 (List.mem_map.mpr ⟨(x, k), e, rfl⟩)
      have hb : (x == y) = false := by simpa using this
      rw [hb]
      exact ih nd.2 e
theorem Zht {env : Env} {x n : Str} {j : NameKind} {r : List (Str × NameKind)} {k : NameKind} (h : List.lookup x ((if (j == NameKind.free && env.scope.kind == .function && env.kindOf n == some .cell) = true then (n, NameKind.cell) else (n, j)) :: r) = some k) :
    (x = n ∧ (k = j ∨ (j = .free ∧ k = .cell))) ∨ (x ≠ n ∧ List.lookup x r = some k) := by
  by_cases hx : x = n
  · subst hx
    refine .inl ⟨rfl, ?_⟩
    split at h
    · rename_i hc
      rw [List.lookup_cons] at h
      simp only [beq_self_eq_true] at h
      cases h
      simp only [Bool.and_eq_true] at hc
      exact .inr ⟨by simpa using hc.1.1, rfl⟩
    · rw [List.lookup_cons] at h
      simp only [beq_self_eq_true] at h
      cases h
      exact .inl rfl
  · have hb : (x == n) = false := by simpa using hx
    refine .inr ⟨hx, ?_⟩
    split at h <;> (rw [List.lookup_cons] at h; simp only [hb] at h; exact h)
theorem Zd9 {scope : Scope} {env : Env} {x : Str} {k : NameKind} : (relabel scope env).names.lookup x = some k → ∃ k0, scope.names.lookup x = some k0 ∧ (k = k0 ∨ (k0 = .free ∧ k = .cell)) := by
  show (scope.names.map _).lookup x = some k → _
  induction scope.names with
  | nil => intro h; cases h
  | cons p r ih =>
    obtain ⟨n, j⟩ := p
    intro h
    rw [List.map_cons] at h
    rw [List.lookup_cons]
    rcases Zht h with ⟨hx, hk⟩ | ⟨hx, hr⟩
    · subst hx
      simp only [beq_self_eq_true]
      exact ⟨j, rfl, hk⟩
    · have hb : (x == n) = false := by simpa using hx
      rw [hb]
      exact ih hr
structure ZdD (X : Cx) (scope : Scope) (Nc : List Str) (cs : List (Option Nat)) : Prop where
  kind : scope.kind = .function
  loc : ∀ y ∈ scope.names, y.2 = .local → scope.names.lookup y.1 = some .local
  free : ∀ y ∈ scope.names, y.2 = .free → X.env.kindOf y.1 = some .cell ∨ X.env.kindOf y.1 = some .free
  nd : (scope.names.map (·.1)).Nodup
  len : cs.length = Nc.length
  out : ∀ (i : Nat) (x : Str) (j : Nat), Nc[i]? = some x → cs[i]? = some (some j) → X.N[j]? = some x ∧ scope.names.lookup x = some .free
theorem nlt {a b : Addr} (h : a < b) : @LT.lt Nat instLTNat a b := h
theorem nne {a b : Addr} (h : @LT.lt Nat instLTNat a b) : a ≠ b := Nat.ne_of_lt h
theorem Zlo {a b : Addr} (h : @LT.lt Nat instLTNat a b) : b ≠ a := Ne.symm (Nat.ne_of_lt h)
section
variable {X : Cx} {pins : List (Addr × Obj)} {σ : L2.St} {H : Hp} {s : Shared}
theorem ZgK {scope : Scope} {Nc : List Str} {cs : List (Option Nat)} {fp : List Addr} {cl : List (Str × Addr)} (S : ZdD X scope Nc cs) (I : Inv X pins σ H s) (f : ∀ b ∈ fp, Zhm X pins H b) (ob : ∀ b ∈ fp, ∃ o, s.heap.get? b = some o)
    (hcl : ∀ x c, (x, c) ∈ cl → X.env.cells.lookup x = some c ∧ (x, NameKind.free) ∈ scope.names) (hcl2 : ∀ y ∈ scope.names, y.2 = .free → ∃ c, (y.1, c) ∈ cl) {s3 : Shared} (e3 : s3 = { s with heap := s.heap.push { cls := .type "list", data := .seq ([] : List Value).toArray } }) :
    Inv (cCx X Nc scope s3.heap.objs.size s.heap.objs.size (cellsFrom (s3.heap.objs.size + 1) scope.names cl) fp s3 H pins) [] (cSt cs σ) H
      { s3 with heap := pushCells (s3.heap.push { cls := .type "dict", data := .dict #[] }) scope.names } := by
  have k3 : ∀ b o, s.heap.get? b = some o → s3.heap.get? b = some o := fun b o e => by subst e3; exact Heap.get?_push_of_some _ e
  have sz3 : s3.heap.objs.size = s.heap.objs.size + 1 := by subst e3; exact Heap.size_push ..
  have szd : (s3.heap.push { cls := .type "dict", data := .dict #[] }).objs.size = s3.heap.objs.size + 1 := Heap.size_push ..
  have k34 : ∀ b o, s3.heap.get? b = some o → (pushCells (s3.heap.push { cls := .type "dict", data := .dict #[] }) scope.names).get? b = some o := fun b o e => pushCells_keeps _ _ b o (Heap.get?_push_of_some _ e)
  have k4 : ∀ b o, s.heap.get? b = some o → (pushCells (s3.heap.push { cls := .type "dict", data := .dict #[] }) scope.names).get? b = some o := fun b o e => k34 b o (k3 b o e)
  have cllt : ∀ x c, (x, c) ∈ cl → c < s.heap.objs.size := fun x c m => by
    obtain ⟨v, q⟩ := I.cell x c (hcl x c m).1
    exact q.lt
  have cm : ∀ x c, (cellsFrom (s3.heap.objs.size + 1) scope.names cl).lookup x = some c → (x, c) ∈ cl ∨ (s3.heap.objs.size + 1 ≤ c ∧ (x, NameKind.cell) ∈ scope.names ∧ (pushCells (s3.heap.push { cls := .type "dict", data := .dict #[] }) scope.names).IsCell c none) := fun x c e => by
    have m := mem_of_lookup e
    rw [← szd] at m
    have := ZeP scope.names _ cl x c m
    rw [szd] at this
    exact this
  have frs_lt : ∀ b ∈ frs X.stack, b < s.heap.objs.size := fun b hb => by
    obtain ⟨_, o, ho, _⟩ := I.stack.mem hb
    exact Heap.lt_size ho
  have nfs : ∀ b, b ≠ X.env.locals → b ∉ X.fs → b ∉ frs X.stack := fun b h1 h2 hb => by
    rcases List.mem_cons.mp (I.stkSub b hb) with q | q
    · exact h1 q
    · exact h2 q
  have ok : (cCx X Nc scope s3.heap.objs.size s.heap.objs.size (cellsFrom (s3.heap.objs.size + 1) scope.names cl) fp s3 H pins).Ok := by
    refine ⟨I.ok.mod, S.kind, I.ok.glob, I.ok.blt, Nat.le_refl _, fun x y c e1 e2 => ?_, fun x hx => ?_, fun x c hf e => ?_, I.ok.hd, I.ok.frames, .inl rfl, fun b hb => ?_, fun b o e => ?_, ?_, fun b o e hb => ?_, fun b hb => ?_, ?_, I.stkFree⟩
    · have m1 := mem_of_lookup e1
      have m2 := mem_of_lookup e2
      have m1' : (x, c) ∈ cellsFrom (s3.heap.push { cls := .type "dict", data := .dict #[] }).objs.size scope.names cl := by rw [szd]; exact m1
      have m2' : (y, c) ∈ cellsFrom (s3.heap.push { cls := .type "dict", data := .dict #[] }).objs.size scope.names cl := by rw [szd]; exact m2
      exact ZeQ scope.names (s3.heap.push { cls := .type "dict", data := .dict #[] }) cl (fun x c m => by rw [szd, sz3]; exact Nat.lt_of_lt_of_le (cllt x c m) (by omega))
        (fun x y c a b => I.ok.inj x y c (hcl x c a).1 (hcl y c b).1) x y c m1' m2'
    · have : ∃ k, (relabel scope X.env).names.lookup x = some k ∧ (k = .cell ∨ k = .free) := by
        rcases hx with q | q
        · exact ⟨_, q, .inl rfl⟩
        · exact ⟨_, q, .inr rfl⟩
      obtain ⟨k, e1, hk⟩ := this
      obtain ⟨k0, e0, hk0⟩ := Zd9 e1
      refine Option.isSome_iff_exists.mp (PySem.W.cellsFrom_some _ _ _ ?_)
      have : k0 = .cell ∨ k0 = .free := by
        rcases hk0 with q | ⟨q, _⟩
        · rw [← q]; exact hk
        · exact .inr q
      rcases this with q | q
      · subst q; exact .inl e0
      · subst q
        obtain ⟨c, hc⟩ := hcl2 _ (mem_of_lookup e0) rfl
        refine .inr ?_
        cases hl : cl.lookup x with
        | some c' => rfl
        | none =>
          exfalso
          have : ∀ p ∈ cl, p.1 ≠ x := fun p hp e => by
            have h2 := List.lookup_eq_none_iff.mp hl p hp
            rw [e] at h2
            simp at h2
          exact this _ hc rfl
    · have hk : scope.names.lookup x = some .cell := by
        have : (scope.names.lookup x == some NameKind.cell) = true := hf
        simpa using this
      rcases cm x c e with q | ⟨q1, _, _⟩
      · have := lookup_mem S.nd (hcl x c q).2
        rw [hk] at this
        cases this
      · exact Nat.le_of_succ_le q1
    · rcases List.mem_cons.mp hb with q | q
      · subst q
        refine ⟨nne (show _ < s3.heap.objs.size by omega), fun x c e => ?_⟩
        rcases cm x c e with q | ⟨q1, _, _⟩
        · exact Nat.ne_of_lt (cllt x c q)
        · exact Zlo (Nat.lt_of_lt_of_le (by omega) q1)
      · obtain ⟨o, ho⟩ := ob b q
        have hlt := nlt (Heap.lt_size ho)
        refine ⟨nne (show _ < s3.heap.objs.size by omega), fun x c e => ?_⟩
        rcases cm x c e with q2 | ⟨q1, _, _⟩
        · exact (f b q).2.2.2.2.1 x c (hcl x c q2).1
        · exact Zlo (Nat.lt_of_lt_of_le (by omega) q1)
    · obtain ⟨h1, h2⟩ := I.bs b o e
      exact ⟨k3 b o h1, h2⟩
    · show X.base.objs.size ≤ s3.heap.objs.size
      have := Nat.le_trans I.ok.bsz I.sz
      omega
    · obtain ⟨h1, h2⟩ := I.bs b o e
      rcases List.mem_cons.mp hb with q | q
      · exact absurd q (nne (Heap.lt_size h1))
      · rcases (f b q).2.2.2.1 with z | z
        · exact I.ok.noex b o e z
        · exact absurd (Nat.lt_of_lt_of_le (Heap.lt_size (I.ok.bs b o e).1) z) (Nat.lt_irrefl _)
    · rcases List.mem_cons.mp hb with q | q
      · subst q
        intro z
        exact absurd (frs_lt _ z) (Nat.lt_irrefl _)
      · exact nfs b (f b q).2.1 (f b q).2.2.1
    · exact I.stack.of_keeps fun b o e _ => ⟨o, k3 b o e, rfl⟩
  refine ⟨ok, rfl, ?_, ?_, ?_, fun x c e => ?_, ?_, fun x c e => ?_, fun p hp => ?_, I.hok.kept k4, ?_⟩
  · show AllBare s3.gens
    subst e3; exact I.bare
  · exact Un.kept k34
  · refine ⟨fun _ => none, (Heap.Ns.new s3.heap (.type "dict")).keeps (pushCells_keeps _ _), fun i x v e1 e2 e3' => ?_⟩
    unfold cSt at e2
    rw [List.getElem?_map] at e2
    cases ec : cs[i]? with
    | none => rw [ec] at e2; cases e2
    | some o =>
      rw [ec] at e2
      cases o with
      | none => cases e2
      | some j =>
        simp only [Option.map_some, Option.bind_some, Option.some.injEq] at e2
        have e2' : σ[j]? = some (some v) := by
          cases ej : σ[j]? with
          | none => rw [ej] at e2; cases e2
          | some w => rw [ej] at e2; simp at e2; rw [e2]
        obtain ⟨hN, hfr⟩ := S.out i x j e1 ec
        have hfm := mem_of_lookup hfr
        have hkind := S.free _ hfm rfl
        obtain ⟨m, hn, hl⟩ := I.loc
        obtain ⟨u, r, look⟩ := hl j x v hN e2' (by
          rcases hkind with q | q
          · exact .inr (.inl q)
          · exact .inr (.inr q))
        refine ⟨u, r, .inr ?_⟩
        rcases look with ⟨q, _⟩ | ⟨_, c, ec', hc⟩
        · rcases hkind with z | z <;> (rw [q] at z; cases z)
        · obtain ⟨c', hc'⟩ := hcl2 _ hfm rfl
          have hv : (cCx X Nc scope s3.heap.objs.size s.heap.objs.size (cellsFrom (s3.heap.objs.size + 1) scope.names cl) fp s3 H pins).env.kindOf x = some .cell ∨ (cCx X Nc scope s3.heap.objs.size s.heap.objs.size (cellsFrom (s3.heap.objs.size + 1) scope.names cl) fp s3 H pins).env.kindOf x = some .free := by
            rcases e3' with z | z | z
            · obtain ⟨k0, a1, a2⟩ := Zd9 z
              rw [hfr] at a1
              cases a1
              rcases a2 with a2 | ⟨_, a2⟩ <;> cases a2
            · exact .inl z
            · exact .inr z
          refine ⟨hv, c, ?_, hc.keeps k4⟩
          obtain ⟨c2, h2⟩ := ok.has x hv
          rw [h2]
          rcases cm x c2 h2 with q | ⟨_, q, _⟩
          · rw [← ec', (hcl x c2 q).1]
          · have := lookup_mem S.nd q
            rw [hfr] at this
            cases this
  · rcases cm x c e with q | ⟨_, _, q⟩
    · obtain ⟨v, z⟩ := I.cell x c (hcl x c q).1
      exact ⟨v, z.keeps k4⟩
    · exact ⟨none, q⟩
  · exact I.hok.fresh (show s.heap.objs.size ≤ s3.heap.objs.size by omega)
  · rcases cm x c e with q | ⟨q, _, _⟩
    · exact I.freeC x c (hcl x c q).1
    · exact I.hok.fresh (by omega)
  · have hp' : p ∈ X.pn ++ pins := by
      rcases List.mem_append.mp hp with q | q
      · exact q
      · exact absurd q (by simp)
    obtain ⟨a1, a2, a3, a4, a5⟩ := I.pin p hp'
    refine ⟨k4 _ _ a1, a2, ?_, nfs p.1 a3 a4, a5⟩
    show p.1 ≠ s3.heap.objs.size
    exact nne (Nat.lt_of_lt_of_le (Heap.lt_size a1) (by omega))
  · show (cSt cs σ).length = Nc.length
    simp [cSt, S.len]
end
end LS
namespace LS
open PySem PySem.Spec PyProof.Rows L2
section
variable {X : Cx} {elt tg iter : Expr} {ifs : List Expr} {scope : Scope} {pos : Pos} {Nc : List Str} {cs : List (Option Nat)} {wi : TI} {g : TG} {tc : TT} {te : TE}
theorem ZgL {pins : List (Addr × Obj)} {σ : L2.St} {H H' : Hp} {s s3 s' : Shared} {fp : List Addr} {C : Addr} {cells : List (Str × Addr)} {po : List (Addr × Obj)} {σc : L2.St} {acc : List V} {its : List Value} {n : Nat}
    (I : Inv X pins σ H s) (f : ∀ b ∈ fp, Zhm X pins H b) (e3 : s3 = { s with heap := s.heap.push { cls := .type "list", data := .seq ([] : List Value).toArray } }) (hC : C = s3.heap.objs.size)
    (I' : Inv (cCx X Nc scope C s.heap.objs.size cells fp s3 H pins) po σc H' s') (hD : H' s.heap.objs.size = none) (hl : acc.length ≤ sizeLine) (rv : Vals acc its) (ho : s'.heap.get? s.heap.objs.size = some { cls := .type "list", data := .seq its.toArray n })
    {h' : Heap} (sb : Heap.SameBut C s'.heap h') : Inv X pins σ (upd H' s.heap.objs.size (.lst acc)) { s' with heap := h' } := by
  have k3 : ∀ b o, s.heap.get? b = some o → s3.heap.get? b = some o := fun b o e => by subst e3; exact Heap.get?_push_of_some _ e
  have sz3 : s3.heap.objs.size = s.heap.objs.size + 1 := by subst e3; exact Heap.size_push ..
  have neD : ∀ b o, s.heap.get? b = some o → b ≠ s.heap.objs.size := fun b o e => nne (Heap.lt_size e)
  have neC : ∀ b o, s.heap.get? b = some o → b ≠ C := fun b o e => by rw [hC]; exact nne (Nat.lt_of_lt_of_le (Heap.lt_size e) (by omega))
  have DC : s.heap.objs.size ≠ C := by rw [hC]; exact nne (by omega)
  have U : Un (frs X.stack) (s.heap.objs.size :: fp) H H' s3.heap s'.heap := I'.base
  have exn : ∀ b o, s.heap.get? b = some o → b ∉ fp → b ∉ s.heap.objs.size :: fp := fun b o e hx hb => by
    rcases List.mem_cons.mp hb with z | z
    · exact neD b o e z
    · exact hx z
  have neT : ∀ b u, H' b = some u → b ≠ s.heap.objs.size := fun b u e => Zau e hD
  have hCn : H' C = none := I'.free
  refine I.call' (s' := { s' with heap := h' }) (ch := fp) ?_ ?_ ?_ I'.bare ?_
  · show s'.os = s.os
    have := I'.os
    rw [this]
    show s3.os = s.os
    subst e3; rfl
  · refine ⟨fun b o e nn hb hx => ?_, fun b o e nn hb hx => ?_, fun b o e nn hx => ?_, fun b o e hx => ?_, fun b xs e => ?_, fun b o u e => ?_, fun b ps e => ?_⟩
    · exact (sb.2 b (neC b o e)).trans (U.keep b o (k3 b o e) nn hb (exn b o e hx))
    · obtain ⟨sl, z⟩ := U.slot b o (k3 b o e) nn hb (exn b o e hx)
      exact ⟨sl, (sb.2 b (neC b o e)).trans z⟩
    · rw [Zaq (neD b o e)]
      exact U.free b o (k3 b o e) nn (exn b o e hx)
    · obtain ⟨o', z⟩ := U.there b o (k3 b o e) (exn b o e hx)
      exact ⟨o', (sb.2 b (neC b o e)).trans z⟩
    · have z := U.tups b xs e
      rw [Zaq (neT b _ z)]
      exact z
    · have z := U.frzs b o u e
      rw [Zaq (neT b _ z)]
      exact z
    · obtain ⟨more, z⟩ := U.tbls b ps e
      exact ⟨more, by rw [Zaq (neT b _ z)]; exact z⟩
  · intro b u e
    by_cases hb : b = s.heap.objs.size
    · subst hb
      rw [Za0] at e
      cases e
      exact ⟨hl, its, n, rv, (sb.2 _ DC).trans ho⟩
    · rw [Zaq hb] at e
      refine (I'.hok b u e).stay (fun c v hc z => (sb.2 c ?_).trans z) (fun c z => by rw [Zaq (neT c _ z)]; exact z) fun c xs z => by rw [Zaq (neT c _ z)]; exact z
      rcases hc with rfl | hc
      · exact Zau e hCn
      · exact Zau hc hCn
  · intro b hb
    obtain ⟨_, f1, _, f3, f4, f5⟩ := f b hb
    exact ⟨f3, f1, f4, f5⟩
inductive CLI (W : Nat → Nat → List V → Hp → Prop) (Xc : Cx) (σc : L2.St) (tn : Nat → Heap → Prop) (fp : List Addr) (Da : Addr) (n : Nat) (s' : Shared) : Prop where
  | mk (i : Nat) (acc : List V) (H' : Hp) (its : List Value) (k : Nat) (w : W i n acc H') (ii : Inv Xc [] σc H' s') (st : tn i s'.heap) (fr : ∀ b ∈ fp, H' b = none) (hD : H' Da = none) (rv : Vals acc its) (ho : s'.heap.get? Da = some { cls := .type "list", data := .seq its.toArray k }) : CLI W Xc σc tn fp Da n s'
theorem ZgM {use : Option (Value → Sem Unit)} {QQ : Value → Shared → Prop} {ppos : Pos} {pins : List (Addr × Obj)} {s : Shared} {σ : L2.St} {H : Hp} {Q : VK} (hcalm : X.calm = true) (S : ZdD X scope Nc cs) (hi : PI X tg iter wi)
    (hb : ∀ (C D : Addr) (cells : List (Str × Addr)) (fp : List Addr) (s₀ : Shared) (H₀ : Hp) (pins : List (Addr × Obj)), PG (cCx X Nc scope C D cells fp s₀ H₀ pins) tg g ∧ PTs (cCx X Nc scope C D cells fp s₀ H₀ pins) ifs tc ∧ PE (cCx X Nc scope C D cells fp s₀ H₀ pins) elt te)
    (hsf : ∀ x, foldedSetIterable iter X.env x = pure x) (I : Inv X pins σ H s) (h : Zln cs wi g tc te σ H Q)
    (fin : ∀ (s6 : Shared) (C D : Addr) (H7 : Hp) (m6 : Str → Option Value), s6.heap.Ns C m6 → H7 C = none → X.s₀.heap.objs.size ≤ C → C ≠ X.env.locals → (∀ x c, X.env.cells.lookup x = some c → c ≠ C) → (∀ p ∈ X.pn ++ pins, p.1 ≠ C) →
      (∀ h', Heap.SameBut C s6.heap h' → Inv X pins σ H7 { s6 with heap := h' }) → Q (.ref D) H7 → compPost (model X.prog X.w) X.A X.xe use QQ (.ref D) C (.ok .next) s6) :
    wpAny (model X.prog X.w) X.A (comprehension (.ListComp elt [⟨tg, iter, ifs, 0⟩] scope pos) scope X.env ppos (newList []) false (eval iter X.env) use) QQ X.xe s := by
  obtain ⟨cl, hclos, hcl, hcl2⟩ := Zcq (scope := scope) (env := X.env) fun y hy hf => I.ok.has y.1 (S.free y hy hf)
  refine wpAny_comprehension_free (use := use) rfl hsf hclos S.kind S.loc (thn (hi pins s σ H _ I h) fun xv s1 h1 => thn h1 fun itv s2 h2 => ?_)
  obtain ⟨it, fp, tn, J, H2, e, I2, T, st2, f2, W, ⟨n0, w0⟩, turn⟩ := h2
  subst e
  refine wpAny_newObj_type ?_
  generalize e3 : ({ s2 with heap := s2.heap.push { cls := .type "list", data := .seq ([] : List Value).toArray } } : Shared) = s3
  refine ZeO ?_
  have ob2 : ∀ b ∈ fp, ∃ o, s2.heap.get? b = some o := fun b hb => let ⟨o, e, _⟩ := T.obj _ _ st2 b hb; ⟨o, e⟩
  have I4 := ZgK (fp := fp) (cl := cl) S I2 f2 ob2 hcl hcl2 e3.symm
  generalize e4 : ({ s3 with heap := pushCells (s3.heap.push { cls := .type "dict", data := .dict #[] }) scope.names } : Shared) = s4 at I4
  generalize ecl : cellsFrom (s3.heap.objs.size + 1) scope.names cl = cells at I4
  obtain ⟨pg, pt, pe⟩ := hb s3.heap.objs.size s2.heap.objs.size cells fp s3 H2 pins
  generalize eX : cCx X Nc scope s3.heap.objs.size s2.heap.objs.size cells fp s3 H2 pins = Xc at I4 pg pt pe
  have xP : Xc.prog = X.prog := by subst eX; rfl
  have xw : Xc.w = X.w := by subst eX; rfl
  have xK : Xc.K = X.K := by subst eX; rfl
  have xA : Xc.A = X.A := by subst eX; rfl
  have xE : Xc.env = Zsp X.env scope s3.heap.objs.size cells := by subst eX; rfl
  have xL : Xc.env.locals = s3.heap.objs.size := by subst eX; rfl
  have xe : Xc.xe = fun _ _ => False := by subst eX; rfl
  have xc : Xc.calm = true := by subst eX; exact hcalm
  have xex : Xc.ex = s2.heap.objs.size :: fp := by subst eX; rfl
  have okc := I4.ok
  have k3 : ∀ b o, s2.heap.get? b = some o → s3.heap.get? b = some o := fun b o e => by subst e3; exact Heap.get?_push_of_some _ e
  have sz3 : s3.heap.objs.size = s2.heap.objs.size + 1 := by subst e3; exact Heap.size_push ..
  have k34 : ∀ b o, s3.heap.get? b = some o → s4.heap.get? b = some o := fun b o e => by subst e4; exact pushCells_keeps _ _ b o (Heap.get?_push_of_some _ e)
  have hDC : s2.heap.objs.size ≠ Xc.env.locals := by rw [xL]; exact nne (by omega)
  have hDcell : ∀ x c, Xc.env.cells.lookup x = some c → c ≠ s2.heap.objs.size := fun x c e => (okc.exf _ (by rw [xex]; exact List.mem_cons_self)).2 x c e
  have hDpin : ∀ p ∈ Xc.pn, p.1 ≠ s2.heap.objs.size := fun p hp => by
    have hp' : p ∈ X.pn ++ pins := by subst eX; exact hp
    exact nne (Heap.lt_size (I2.pin p hp').1)
  have hDfp : s2.heap.objs.size ∉ fp := fun hm => by
    obtain ⟨o, e⟩ := ob2 _ hm
    exact absurd (Heap.lt_size e) (Nat.lt_irrefl _)
  have hDex : s2.heap.objs.size ∈ Xc.ex := by rw [xex]; exact List.mem_cons_self
  have hDfs : s2.heap.objs.size ∉ Xc.fs := okc.exfs _ hDex
  have fpC : ∀ {po : List (Addr × Obj)} {H' : Hp}, (∀ b ∈ fp, H' b = none) → (∀ p ∈ po, p.1 = s2.heap.objs.size) → ∀ b ∈ fp, Zhm Xc po H' b := fun {po H'} hn hp b hb => by
    have hbx : b ∈ Xc.ex := by rw [xex]; exact List.mem_cons_of_mem _ hb
    refine ⟨hn b hb, (okc.exf b hbx).1, okc.exfs b hbx, .inl hbx, (okc.exf b hbx).2, fun p hpp => ?_⟩
    rcases List.mem_append.mp hpp with z | z
    · have hp' : p ∈ X.pn ++ pins := by subst eX; exact z
      exact (f2 b hb).2.2.2.2.2 p hp'
    · rw [hp p z]
      intro e
      exact hDfp (e ▸ hb)
  have loop : ∀ sx, sx = s4 → codeAny (model X.prog X.w) X.A (.compLoop (.ListComp elt [⟨tg, iter, ifs, 0⟩] scope pos) 0 (.ref it) (.ref s2.heap.objs.size) Xc.env)
      (compPost (model X.prog X.w) X.A X.xe use QQ (.ref s2.heap.objs.size) s3.heap.objs.size) sx := by
    rintro sx rfl
    refine Zhs (CLI W Xc (cSt cs σ) tn fp s2.heap.objs.size) ?_ n0
      ⟨0, [], H2, [], 0, w0, I4, ?_, fun b hb => (f2 b hb).1, I2.hok.fresh (Nat.le_refl _), .nil, ?_⟩
    · rintro n s5 ⟨i, acc, H5, its, k, w5, I5, st5, fr5, hD5, rv5, ho5⟩
      have pin1 : Inv Xc [(s2.heap.objs.size, { cls := .type "list", data := .seq its.toArray k })] (cSt cs σ) H5 s5 := I5.pins_of fun p hp => by
        rw [List.mem_singleton] at hp
        subst hp
        exact ⟨ho5, hD5, hDC, hDfs, fun v z => by cases z⟩
      have pone : ∀ p ∈ [((s2.heap.objs.size : Addr), ({ cls := .type "list", data := .seq its.toArray k } : Obj))], p.1 = s2.heap.objs.size := fun p hp => by
        rw [List.mem_singleton] at hp; subst hp; rfl
      rcases turn i n acc H5 w5 with ⟨stop, hlen, qn⟩ | ⟨go, hlen, step⟩
      · have z1 := T.done Xc xP xw xK xc i _ s5 (cSt cs σ) H5 (fun _ _ => False) pin1 (fpC fr5 pone) st5 stop
        rw [xA] at z1
        refine wpAny_mono z1 (fun r s6 z1_ => ?_) fun _ _ z => False.elim z
        obtain ⟨hr, I6⟩ := z1_
        subst hr
        obtain ⟨m6, hn6, _⟩ := I6.loc
        obtain ⟨ho6, hD6, _⟩ := I6.pin _ (List.mem_append_right _ List.mem_cons_self)
        rw [xL] at hn6
        have lt2 : ∀ b, b < s2.heap.objs.size → b ≠ s3.heap.objs.size := fun b hb => nne (Nat.lt_of_lt_of_le hb (by omega))
        refine fin s6 s3.heap.objs.size s2.heap.objs.size (upd H5 s2.heap.objs.size (.lst acc)) m6 hn6 ?_ (Nat.le_trans I2.sz (by omega)) ?_ ?_ ?_ ?_ (qn _ hD6)
        · rw [Zaq (Zlo (by omega))]
          have := I6.free
          rw [xL] at this
          exact this
        · obtain ⟨m2, hn2, _⟩ := I2.loc
          exact Ne.symm (lt2 _ hn2.lt)
        · intro x c hx
          obtain ⟨v, hv⟩ := I2.cell x c hx
          obtain ⟨o, ho, _⟩ := hv
          exact lt2 _ (Heap.lt_size ho)
        · intro p hp
          exact lt2 _ (Heap.lt_size (I2.pin p hp).1)
        · intro h' sb
          subst eX
          exact ZgL I2 f2 e3.symm rfl I6 hD6 hlen rv5 ho6 sb
      · have z1 := T.item Xc xP xw xK xc i _ s5 (cSt cs σ) H5 (fun _ _ => False) pin1 (fpC fr5 pone) st5 go
        rw [xA] at z1
        refine wpAny_mono z1 (fun r s6 z2_ => ?_) fun _ _ z => False.elim z
        obtain ⟨u, hr, h6⟩ := z2_
        subst hr
        refine wpAny_mono h6 (fun _ s7 z3_ => ?_) fun _ _ z => False.elim z
        obtain ⟨x, H7, I7, r7, y7, st7, fr7⟩ := z3_
        have I7' := I7.pinned (fp := fp) (fpC fr7 pone) (T.obj _ _ st7)
        have z2 := pg _ s7 (cSt cs σ) H7 x u _ I7' r7 (step x H7 y7)
        rw [xP, xw, xA, xe] at z2
        refine wpAny_mono z2 (fun _ s8 z4_ => ?_) fun _ _ z => False.elim z
        obtain ⟨σ8, H8, I8, sub8, q8⟩ := z4_
        have z3 := pt _ s8 σ8 H8 _ I8 q8
        rw [xP, xw, xA, xe] at z3
        refine wpAny_mono z3 (fun ok s9 z5_ => ?_) fun _ _ z => False.elim z
        obtain ⟨H9, I9, q9⟩ := z5_
        have back : ∀ {sy : Shared} {Hy : Hp}, Inv Xc ([(s2.heap.objs.size, { cls := .type "list", data := .seq its.toArray k })] ++ Zd7 fp s7.heap) σ8 Hy sy →
            Inv Xc [] (cSt cs σ) Hy sy ∧ tn (i + 1) sy.heap ∧ (∀ b ∈ fp, Hy b = none) ∧ Hy s2.heap.objs.size = none ∧ sy.heap.get? s2.heap.objs.size = some { cls := .type "list", data := .seq its.toArray k } := fun {sy Hy} Iy => by
          obtain ⟨ho, hD, _⟩ := Iy.pin _ (List.mem_append_right _ (List.mem_append_left _ List.mem_cons_self))
          refine ⟨(Iy.pins_of fun p hp => absurd hp (by simp)).weak (sub8.1) (fun j v z => sub8.2 j v z), T.keep _ _ _ st7 fun b hb o e => (Iy.pin (b, o) (List.mem_append_right _ (List.mem_append_right _ (ZcJ hb e)))).1, fun b hb => ?_, hD, ho⟩
          obtain ⟨o, e, _⟩ := T.obj _ _ st7 b hb
          exact (Iy.pin (b, o) (List.mem_append_right _ (List.mem_append_right _ (ZcJ hb e)))).2.1
        cases ok with
        | false =>
          simp only [Bool.false_eq_true, if_false] at q9 ⊢
          obtain ⟨n', hn', w'⟩ := q9
          obtain ⟨a1, a2, a3, a4, a5⟩ := back I9
          exact ⟨n', hn', i + 1, acc, H9, its, k, w', a1, a2, a3, a4, rv5, a5⟩
        | true =>
          simp only [if_true] at q9 ⊢
          have z4 := pe _ s9 σ8 H9 _ I9 q9
          rw [xP, xw, xA, xe] at z4
          refine wpAny_mono z4 (fun y s10 z6_ => ?_) fun _ _ z => False.elim z
          obtain ⟨yv, H10, I10, r10, n', hn', w'⟩ := z6_
          obtain ⟨a1, a2, a3, a4, a5⟩ := back I10
          have hlen' := rv5.length
          refine wpAny_list_append_plain ⟨k, a5⟩ (fun h' ⟨k', hl'⟩ sb => ?_) (by rw [List.size_toArray]; omega)
          have tu : Inv Xc [] (cSt cs σ) H10 { s10 with heap := h' } := a1.turned (t' := s10.toks) (it := s2.heap.objs.size) (fun b o hb e => (sb.2 b hb).trans e) a4 hDC (.inl hDex) hDcell (fun p hp => by
            rcases List.mem_append.mp hp with z | z
            · exact hDpin p z
            · exact absurd z (by simp))
          refine ⟨n', hn', i + 1, acc ++ [yv], H10, its ++ [y], k', w', tu, T.keep _ _ _ a2 (fun b hb o e => (sb.2 b (fun z => hDfp (z ▸ hb))).trans e), a3, a4, rv5.append (.cons r10 .nil), ?_⟩
          rw [hl']
          simp
    · exact T.keep _ _ _ st2 fun b hb o e => k34 b o (k3 b o e)
    · refine k34 _ _ ?_
      subst e3
      exact Heap.get?_push_size _ rfl
  have fin := loop s4 rfl
  have hst4 : tn 0 s4.heap := T.keep _ _ _ st2 fun b hb o e => k34 b o (k3 b o e)
  rw [xE] at fin
  have := codeAny_compStart_list fin (T.self X.A 0 s4 _ _ hst4 fin)
  exact this
theorem ZmY (hcalm : X.calm = true) (S : ZdD X scope Nc cs) (hi : PI X tg iter wi)
    (hb : ∀ (C D : Addr) (cells : List (Str × Addr)) (fp : List Addr) (s₀ : Shared) (H₀ : Hp) (pins : List (Addr × Obj)), PG (cCx X Nc scope C D cells fp s₀ H₀ pins) tg g ∧ PTs (cCx X Nc scope C D cells fp s₀ H₀ pins) ifs tc ∧ PE (cCx X Nc scope C D cells fp s₀ H₀ pins) elt te)
    (hsf : ∀ x, foldedSetIterable iter X.env x = pure x := by intro _; rfl) : PE X (.ListComp elt [⟨tg, iter, ifs, 0⟩] scope pos) (Zln cs wi g tc te) := by
  intro pins s σ H Q I h
  rw [eval_ListComp]
  exact ZgM (use := none) hcalm S hi hb hsf I h fun s6 C D H7 m6 hn _ _ _ _ _ inv q => ⟨m6, hn, fun h' sb => ⟨.ref D, H7, inv h' sb, rfl, q⟩⟩
end
end LS
namespace LS
open PySem PySem.Spec PyProof.Rows L2
def noErr {α : Type} : Out α → Out α
  | .ok a h => .ok a h
  | _ => .stuck
@[simp] theorem Zp0 {α : Type} (a : α) (h : HD) : noErr (.ok a h) = .ok a h := rfl
theorem Zcn {α β γ δ : Type} {K : PySem.W.Frag} {R : List Addr → Hp → α → β → Prop} {R' : List Addr → Hp → γ → δ → Prop} {m : List Addr} {H : Hp} {E : XK} {Q : δ → Hp → Prop} {Q' : β → Hp → Prop} {o : Out α} {k : α → HD → Out γ}
    (h : Post K R' m H E Q ((noErr o).bind k)) (f : ∀ a h1 v m1 H1, o = .ok a h1 → m <+: m1 → Kp H H1 → HR K m1 h1 H1 → R m1 H1 a v → Post K R' m1 H1 E Q (k a h1) → Q' v H1) : Post K R m H E0 Q' o := by
  cases o with
  | ok a h1 => exact fun v m1 H1 p kk hr r => f a h1 v m1 H1 rfl p kk hr r (Post.ahead p kk h)
  | err C fs h1 => exact False.elim h
  | stuck => exact False.elim h
def ZfH (cs : List (Option Nat)) (ρ : Rho) : Rho := cs.map fun o => o.bind fun j => (ρ[j]?).join
theorem join_some {α : Type} {l : List (Option α)} {j : Nat} {a : α} : (l[j]?).join = some a ↔ l[j]? = some (some a) := by
  cases h : l[j]? with
  | none => simp
  | some o => simp
theorem ER.comp {K : PySem.W.Frag} {m : List Addr} {H : Hp} {ρ : Rho} {σ : L2.St} (cs : List (Option Nat)) (er : ER K m H ρ σ) : ER K m H (ZfH cs ρ) (cSt cs σ) := by
  refine ⟨by simp [ZfH, cSt], fun i d e => ?_⟩
  unfold ZfH at e
  rw [List.getElem?_map] at e
  cases ec : cs[i]? with
  | none => rw [ec] at e; cases e
  | some o =>
    rw [ec] at e
    cases o with
    | none => cases e
    | some j =>
      simp only [Option.map_some, Option.bind_some, Option.some.injEq] at e
      obtain ⟨v, e1, r⟩ := er.2 j d (join_some.mp e)
      refine ⟨v, ?_, r⟩
      unfold cSt
      rw [List.getElem?_map, ec]
      simp only [Option.map_some, Option.bind_some, Option.some.injEq]
      exact join_some.mpr e1
theorem Sub.set {cs : List (Option Nat)} {σ : L2.St} {σ' : L2.St} {i : Nat} {v : V} (h : cs[i]? = some none) (s : Sub (cSt cs σ) σ') : Sub (cSt cs σ) (σ'.set i (some v)) := by
  refine ⟨by rw [s.1]; simp, fun j w e => ?_⟩
  have hj : i ≠ j := by
    rintro rfl
    unfold cSt at e
    rw [List.getElem?_map, h] at e
    cases e
  rw [List.getElem?_set_ne hj]
  exact s.2 j w e
theorem Sub.refl (σ : L2.St) : Sub σ σ := ⟨rfl, fun _ _ h => h⟩
def ZoX (K : PySem.W.Frag) (cs : List (Option Nat)) (gg : TG) (sg : MG) : Prop :=
  ∀ m H d v ρ σ0 ρ' Q, DV K m H d v → ER K m H ρ (cSt cs σ0) → sg d ρ = some ρ' → (∀ σ', Sub (cSt cs σ0) σ' → ER K m H ρ' σ' → Q σ' H) → gg v (cSt cs σ0) H Q
theorem ZbT {K : PySem.W.Frag} {cs : List (Option Nat)} {i : Nat} (h : cs[i]? = some none) : ZoX K cs (ZcQ i) (Zbq i) := fun m H d v ρ σ0 ρ' Q r er e q => by
  simp only [Zbq, Option.some.injEq] at e
  subst e
  exact q _ ((Sub.refl _).set h) (er.set r)
theorem ZdE {K : PySem.W.Frag} {cs : List (Option Nat)} {i j : Nat} (h : cs[i]? = some none) (h' : cs[j]? = some none) : ZoX K cs (Zl7 K 2 (Zdw (ZcQ i) (Zdw (ZcQ j) Zl6))) (Zdi i j) := fun m H d v ρ σ0 ρ' Q r er e q => by
  unfold Zdi at e
  split at e
  · rename_i a b
    cases e
    simp only [DV, DVs] at r
    obtain ⟨p, vs, rfl, hp, v1, w1, rfl, r1, v2, w2, rfl, r2, rfl⟩ := r
    exact ⟨p, _, rfl, SqT.of hp, rfl, v1, _, rfl, v2, _, rfl, rfl, q _ (((Sub.refl _).set h).set h') ((er.set r1).set r2)⟩
  · cases e
abbrev Zn6 (X : Cx) (E : XK) (ifs : List Expr) (t : MT) : Prop := PTs X ifs (tBo X.K E t)
def ZbB : MT := fun _ h => .ok true h
theorem Zbf {X : Cx} {E : XK} : Zn6 X E [] ZbB := fun pins s σ H Q I z1_ => by obtain ⟨m, ρ, h, hr, er, p⟩ := z1_; exact (ZmW pins s σ H Q I (p true m H (List.prefix_refl _) (.refl _) hr rfl))
theorem Zf2 {X : Cx} {E : XK} {c : Expr} {t : MT} (h : EvT X E c t) : Zn6 X E [c] t := ZmX h
open Classical in
noncomputable def ZdO (src : Src) (items : List D) (sg : MG) (t : MT) (f : ME) (ρc : Rho) : List D → HD → Out (List D)
  | [], h => if Zbw src items h then .ok [] h else .stuck
  | d :: ds, h => if Zbw src items h then match sg d ρc with
      | none => .stuck
      | some ρ1 => (noErr (t ρ1 h)).bind fun b h1 => if b = true then (noErr (f ρ1 h1)).bind fun y h2 => (ZdO src items sg t f ρc ds h2).bind fun ys h3 => .ok (y :: ys) h3 else ZdO src items sg t f ρc ds h1
    else .stuck
noncomputable def ZbC (cs : List (Option Nat)) (it : MI) (sg : MG) (t : MT) (f : ME) : ME := fun ρ h => (it ρ h).bind fun x h1 => if x.1.length ≤ sizeLine then (ZdO x.2 x.1 sg t f (ZfH cs ρ) x.1 h1).bind Zhk else .stuck
theorem Out.bind_assoc {α β γ : Type} (o : Out α) (k : α → HD → Out β) (l : β → HD → Out γ) : (o.bind k).bind l = o.bind fun a h => (k a h).bind l := by cases o <;> rfl
section
variable {X : Cx} {E : XK} {elt tg iter : Expr} {ifs : List Expr} {scope : Scope} {pos : Pos} {Nc : List Str} {cs : List (Option Nat)} {it : MI} {gg : TG} {sg : MG} {t : MT} {f : ME}
inductive CmI (K : PySem.W.Frag) (E : XK) (Q : VK) (src : Src) (items : List D) (sg : MG) (t : MT) (f : ME) (ρc : Rho) (m1 : List Addr) (H1 : Hp) (i n : Nat) (acc : List V) (H2 : Hp) : Prop where
  | mk (e : n = items.length - i) (l : i ≤ items.length) (a : acc.length ≤ i) (m2 : List Addr) (h2 : HD) (dacc : List D) (p : m1 <+: m2) (k : Kp H1 H2) (hr : HR K m2 h2 H2) (da : DVs K m2 H2 dacc acc) (q : Post K (rD K) m2 H2 E Q ((ZdO src items sg t f ρc (items.drop i) h2).bind fun ys h3 => Zhk (dacc ++ ys) h3)) : CmI K E Q src items sg t f ρc m1 H1 i n acc H2
theorem ZjO (hg : ZoX X.K cs gg sg) : ∀ σ H Q, tD X.K E (ZbC cs it sg t f) σ H Q → Zln cs (tM X.K (rIt X.K) E it) gg (tBo X.K E0 t) (tD X.K E0 f) σ H Q := by
  refine ?_
  rintro σ H Q ⟨m, ρ, h, hr, er, p⟩
  refine ⟨m, ρ, h, hr, er, Post.bind p fun x h1 J m1 H1 _ p1 k1 hr1 r1 q1 => ?_⟩
  obtain ⟨items, src⟩ := x
  dsimp only at q1
  split at q1
  · rename_i hz
    have er1 : ER X.K m1 H1 (ZfH cs ρ) (cSt cs σ) := (er.keep p1 k1).comp cs
    refine ⟨CmI X.K E Q src items sg t f (ZfH cs ρ) m1 H1,
      ⟨items.length, rfl, Nat.zero_le _, Nat.le_refl _, m1, h1, [], List.prefix_refl _, .refl _, hr1, .nil, by simpa using q1⟩, ?_⟩
    rintro i n acc H2 ⟨rfl, hi', ha, m2, h2, dacc, p2, k2, hr2, da, q2⟩
    by_cases hlt : i < items.length
    · rw [List.drop_eq_getElem_cons hlt] at q2
      unfold ZdO at q2
      split at q2
      · rename_i hs
        obtain ⟨hgo, hy⟩ := (r1 i m2 h2 H2 p2 k2 hr2 hs).1 hlt
        refine .inr ⟨hgo, by omega, fun y H3 hyl => ?_⟩
        obtain ⟨k3, hr3, d, ed, rd⟩ := hy y H3 hyl
        have ed' : d = items[i] := by rw [List.getElem?_eq_getElem hlt] at ed; exact (Option.some.inj ed).symm
        subst ed'
        split at q2
        · exact q2.elim
        · rename_i ρ3 es
          have er3 : ER X.K m2 H3 (ZfH cs ρ) (cSt cs σ) := er1.keep p2 (k2.trans k3)
          refine hg m2 H3 _ y (ZfH cs ρ) σ ρ3 _ rd er3 es fun σ4 sub4 er4 => ⟨sub4, m2, ρ3, h2, hr3, er4, ?_⟩
          rw [Out.bind_assoc] at q2
          refine Zcn (Post.ahead (List.prefix_refl _) k3 q2) fun b h5 v m5 H5 _ p5 k5 hr5 r5 q5 => ?_
          cases r5
          cases b with
          | false =>
            simp only [Bool.false_eq_true, if_false] at q5 ⊢
            exact ⟨items.length - (i + 1), by omega, rfl, hlt, by omega, m5, h5, dacc, p2.trans p5, (k2.trans k3).trans k5, hr5, DVs.keep p5 (k3.trans k5) da, q5⟩
          | true =>
            simp only [if_true] at q5 ⊢
            rw [Out.bind_assoc] at q5
            refine ⟨m5, ρ3, h5, hr5, er4.keep p5 k5, Zcn q5 fun z h6 w m6 H6 _ p6 k6 hr6 r6 q6 => ?_⟩
            refine ⟨items.length - (i + 1), by omega, rfl, hlt, by simp; omega, m6, h6, dacc ++ [z], (p2.trans p5).trans p6, ((k2.trans k3).trans k5).trans k6, hr6, (DVs.keep (p5.trans p6) ((k3.trans k5).trans k6) da).app (.cons r6 .nil), ?_⟩
            rw [Out.bind_assoc] at q6
            simp only [Out.bind_ok] at q6
            simpa using q6
      · exact q2.elim
    · have he : i = items.length := Nat.le_antisymm hi' (Nat.le_of_not_lt hlt)
      subst he
      rw [List.drop_length] at q2
      unfold ZdO at q2
      split at q2
      · rename_i hs
        simp only [Out.bind_ok, List.append_nil] at q2
        obtain ⟨z1, z2⟩ := ZcL hr2 da q2
        exact .inl ⟨(r1 _ m2 h2 H2 p2 k2 hr2 hs).2 rfl, z1, z2⟩
      · exact q2.elim
  · exact q1.elim
theorem Zcg (hcalm : X.calm = true) (S : ZdD X scope Nc cs) (hi : EvI X E tg iter it) (hg : ZoX X.K cs gg sg)
    (hb : ∀ (C D : Addr) (cells : List (Str × Addr)) (fp : List Addr) (s₀ : Shared) (H₀ : Hp) (pins : List (Addr × Obj)), PG (cCx X Nc scope C D cells fp s₀ H₀ pins) tg gg ∧ Zn6 (cCx X Nc scope C D cells fp s₀ H₀ pins) E0 ifs t ∧ Ev (cCx X Nc scope C D cells fp s₀ H₀ pins) E0 elt f)
    (hsf : ∀ x, foldedSetIterable iter X.env x = pure x := by intro _; rfl) : Ev X E (.ListComp elt [⟨tg, iter, ifs, 0⟩] scope pos) (ZbC cs it sg t f) := by
  exact ZbQ (ZmY (g := gg) (tc := tBo X.K E0 t) (te := tD X.K E0 f) hcalm S hi hb hsf) (ZjO hg)
theorem ZmZ {i : Nat} {x : Str} {pos' pos2 : Pos} (hcalm : X.calm = true) (hN : X.N.Nodup) (hix : X.N[i]? = some x) (hx : Loc X.env.scope x) (S : ZdD X scope Nc cs) (hi : EvI X E tg iter it) (hg : ZoX X.K cs gg sg)
    (hb : ∀ (C D : Addr) (cells : List (Str × Addr)) (fp : List Addr) (s₀ : Shared) (H₀ : Hp) (pins : List (Addr × Obj)), PG (cCx X Nc scope C D cells fp s₀ H₀ pins) tg gg ∧ Zn6 (cCx X Nc scope C D cells fp s₀ H₀ pins) E0 ifs t ∧ Ev (cCx X Nc scope C D cells fp s₀ H₀ pins) E0 elt f)
    (hsf : ∀ x, foldedSetIterable iter X.env x = pure x := by intro _; rfl) (hsw : swapsWith (.ListComp elt [⟨tg, iter, ifs, 0⟩] scope pos) (some (.Name x pos')) pos2.line X.env = pure true := by rfl)
    (hf : X.fn x = true ∨ X.env.scope.names.lookup x = some .local := by first | exact .inl rfl | exact .inr rfl | assumption) : Ex X E (.Assign [.Name x pos'] (.ListComp elt [⟨tg, iter, ifs, 0⟩] scope pos) pos2) (ZbG i (ZbC cs it sg t f)) := by
  rintro pins s σ H D I ⟨m, ρ, h, hr, er, p⟩
  have hq : Zln cs (tM X.K (rIt X.K) E it) gg (tBo X.K E0 t) (tD X.K E0 f) σ H (fun v H1 => D.nx (σ.set i (some v)) H1) := ZjO hg σ H _ ⟨m, ρ, h, hr, er, PostS.bind p fun y h1 v m1 H1 _ p1 k1 hr1 r1 q1 => (q1.here hr1) _ ((er.keep p1 k1).set r1)⟩
  rw [exec_Assign_Name_used _ _ _ _ hsw]
  refine wpAny_bind (wpAny_standAt (wpAny_bind ?_))
  show wpAny _ X.A (do let _ ← comprehension (.ListComp elt [⟨tg, iter, ifs, 0⟩] scope pos) scope X.env _ (newList []) false (eval iter X.env) (some (assign (.Name x pos') X.env))) _ _ s
  refine wpAny_bind (wpAny_mono (ZgM (QQ := fun _ s' => SP X pins D .next s') hcalm S hi hb hsf I hq fun s6 C Dd H7 m6 hn hC h0 hL hc hp inv q => ?_) (fun _ s' z => wpAny_pure (wpAny_pure z)) fun _ _ z => z)
  have I6 : Inv X pins σ H7 s6 := inv s6.heap ⟨rfl, fun _ _ => rfl⟩
  refine wpAny_assign_Name (Zdv I6 hN hix hx (v := .ref Dd) rfl (fun s7 I7 z3_ => ?_) hf)
  obtain ⟨a, sb7, ha⟩ := z3_
  have nCa : C ≠ a := by
    rcases ha with z | z
    · rw [z]; exact hL
    · exact Ne.symm (hc x a z)
  obtain ⟨o, es, ep, e1, e2⟩ := hn
  refine ⟨m6, ⟨o, es, ep, (sb7.2 C nCa).trans e1, e2⟩, fun h' sb => ?_⟩
  exact ⟨_, H7, I7.turned (t' := s7.toks) (it := C) (fun b o hb e => (sb.2 b hb).trans e) hC hL (.inr h0) hc hp, q⟩
end
end LS
namespace LS
open PySem PySem.Spec PyProof.Rows L2
section
variable {X : Cx} {E : XK}
def tyD : D → HD → Option String
  | .non, _ => some "NoneType"
  | .bl _, _ => some "bool"
  | .int _, _ => some "int"
  | .str _, _ => some "str"
  | .tup _, _ => some "tuple"
  | .loc l, h => match h[l]? with
    | some (.lst _) => some "list"
    | _ => none
  | _, _ => none
theorem ZqW {m : List Addr} {H : Hp} {h : HD} {d : D} {v : V} {t : String} (hr : HR X.K m h H) (r : DV X.K m H d v) (e : tyD d h = some t) : ZkZ X.K H v (.type t) := by
  cases d with
  | non => simp only [tyD, Option.some.injEq, DV] at e r; subst e r; exact .non
  | bl b => simp only [tyD, Option.some.injEq, DV] at e r; subst e r; exact .bl _
  | int i => simp only [tyD, Option.some.injEq, DV] at e r; subst e r; exact .int _
  | str x => simp only [tyD, Option.some.injEq, DV] at e r; subst e r; exact .str _
  | tup ds => simp only [tyD, Option.some.injEq, DV] at e r; subst e; obtain ⟨a, vs, rfl, ha, _⟩ := r; exact .tup ha
  | loc l =>
    simp only [DV] at r
    obtain ⟨a, rfl, ha⟩ := r
    simp only [tyD] at e
    split at e
    · rename_i ds el
      cases e
      obtain ⟨vs, hv, _⟩ := hr.cells l _ a el ha
      exact .lst hv
    · cases e
  | _ => simp [tyD] at e
def subL : List (String × String × Bool) := [("NoneType", "int", false), ("bool", "int", true), ("int", "int", true), ("str", "int", false), ("tuple", "int", false), ("list", "int", false), ("NoneType", "bool", false), ("bool", "bool", true), ("int", "bool", false), ("str", "bool", false), ("tuple", "bool", false), ("list", "bool", false), ("NoneType", "tuple", false), ("bool", "tuple", false), ("int", "tuple", false), ("str", "tuple", false), ("tuple", "tuple", true), ("list", "tuple", false), ("NoneType", "str", false), ("bool", "str", false), ("int", "str", false), ("str", "str", true), ("tuple", "str", false), ("list", "str", false), ("NoneType", "list", false), ("bool", "list", false), ("int", "list", false), ("str", "list", false), ("tuple", "list", false), ("list", "list", true), ("dict", "int", false), ("dict", "bool", false), ("dict", "tuple", false), ("dict", "str", false), ("dict", "list", false)]
def Zp1 (t c : String) : Option Bool := (subL.find? fun p => p.1 == t && p.2.1 == c).map fun p => p.2.2
theorem Zm0 {K : PySem.W.Frag} : ∀ p ∈ subL, PySem.W.kitOne K (.type p.1) (.type p.2.1) = some p.2.2 := by
  unfold subL
  simp only [List.forall_mem_cons]
  exact ⟨rfl, rfl, rfl, rfl, rfl, rfl, rfl, rfl, rfl, rfl, rfl, rfl, rfl, rfl, rfl, rfl, rfl, rfl, rfl, rfl, rfl, rfl, rfl, rfl, rfl, rfl, rfl, rfl, rfl, rfl, rfl, rfl, rfl, rfl, rfl, fun _ h => nomatch h⟩
theorem ZjP {K : PySem.W.Frag} {t c : String} {b : Bool} (h : Zp1 t c = some b) : PySem.W.kitOne K (.type t) (.type c) = some b := by
  unfold Zp1 at h
  rw [Option.map_eq_some_iff] at h
  obtain ⟨p, hp, rfl⟩ := h
  have e := List.find?_some hp
  rw [Bool.and_eq_true, beq_iff_eq, beq_iff_eq] at e
  rw [← e.1, ← e.2]
  exact Zm0 p (List.mem_of_find?_eq_some hp)
def Zcd : D → D → HD → Out D := fun x y h => match y, tyD x h with
  | .ty T, some t => match Zp1 t T with
    | some b => .ok (.bl b) h
    | none => .stuck
  | _, _ => .stuck
theorem ZiJ {x : Str} {T : String} {pos : Pos} (hg : Gl X x) (hm : X.mg x = none) (hv : bootBuiltins x = some (.type T)) (hn : x ≠ "__name__" := by decide) (hd : (x == ("__debug__" : Str)) = false := by decide) : Ev X E (.Name x pos) (mC (.ty T)) :=
  Zn2 (ZmE (v := .ty T) hg hm hv rfl hn hd) fun _ _ => by simp [DV]
theorem Zdn (ns : List Int) : ∀ j, j ≤ ns.length → preSum (fun i => ns.getD i 0) j = (ns.take j).sum
  | 0, _ => by simp [preSum]
  | j + 1, h => by
    rw [preSum, Zdn ns j (by omega), List.take_succ_eq_append_getElem (by omega), List.sum_append]
    simp [List.getD_eq_getElem?_getD, List.getElem?_eq_getElem (show j < ns.length by omega)]
theorem ZeR {h h2 h' : Heap} {it : Addr} (k : ∀ b o, h.get? b = some o → h2.get? b = some o) (hit : h.objs.size ≤ it) (hk : ∀ b o, b ∉ [it] → h2.get? b = some o → h'.get? b = some o) : ∀ b o, h.get? b = some o → h'.get? b = some o := fun b o e =>
  hk b o (by rw [List.mem_singleton]; exact nne (Nat.lt_of_lt_of_le (Heap.lt_size e) hit)) (k b o e)
theorem Zea {ns : List Int} {its : List Value} (r : Vals (ns.map V.int) its) {i : Nat} {v : Value} (e : its.toArray[i]? = some v) : ∃ t, v = .int (ns.getD i 0) t := by
  have e' : its[i]? = some v := by simpa using e
  have hi : i < its.length := (List.getElem?_eq_some_iff.mp e').1
  have hl : ns.length = its.length := by have := r.length; simpa using this
  have hn : (ns.map V.int)[i]? = some (V.int (ns.getD i 0)) := by
    rw [List.getElem?_map, List.getElem?_eq_getElem (by omega)]
    simp [List.getD_eq_getElem?_getD, List.getElem?_eq_getElem (show i < ns.length by omega)]
  obtain ⟨u, h1, t, h2⟩ := r.get hn
  rw [e'] at h1
  cases h1
  exact ⟨t, h2⟩
theorem Zlp (hc : X.calm = true) : Zec X (.builtin "sum") (fun xs H Q => ∃ (p : Addr) (ns : List Int), xs = [.ref p] ∧ (SqL X.K H p (ns.map V.int) ∨ SqT X.K H p (ns.map V.int)) ∧ Q (.int ns.sum) H) := by
  intro pins s σ H xs us Q I r h
  obtain ⟨p, ns, rfl, hs, q⟩ := h
  obtain ⟨u, rfl, rx⟩ := ZfV r
  cases rx
  have hh : X.A.in1.handled = none := I.ok.hd hc
  rcases hs with hs | hs
  · obtain ⟨its, rv, pl, hz⟩ := I.list hs
    have hl := rv.length
    rw [List.length_map] at hl
    have hlt : p < s.heap.objs.size := by obtain ⟨_, e, _⟩ := pl.isList; exact Heap.lt_size e
    refine call_sum_walkG (wpAny_pyIter_list pl.isList ?_)
    refine ⟨s.heap.objs.size, [s.heap.objs.size, p], [s.heap.objs.size], its.toArray.size, _, _, fun i => ns.getD i 0, rfl, Walks.list (A := X.A.in1) hh _ p (nne hlt) its.toArray, ⟨⟨_, Heap.get?_push_size _ rfl, rfl, rfl⟩, pl.isList.push _⟩, fun b hb => ?_, fun i v e => Zea rv e, fun h' tk t' hk => ?_⟩
    · show b < (s.heap.push _).objs.size
      rw [Heap.size_push]
      rcases List.mem_cons.mp hb with z | z
      · rw [z]; exact Nat.lt_succ_self _
      · rw [List.mem_singleton.mp z]; exact Nat.lt_succ_of_lt hlt
    · have e : preSum (fun i => ns.getD i 0) its.toArray.size = ns.sum := by
        rw [List.size_toArray, ← hl, Zdn ns _ (Nat.le_refl _), List.take_length]
      rw [e]
      exact ⟨.int ns.sum, H, I.kept (ZeR (fun b o e => Heap.get?_push_of_some _ e) (Nat.le_refl _) hk), ⟨t', rfl⟩, q⟩
  · obtain ⟨its, rv, pl, hz⟩ := I.tuple hs
    have hl := rv.length
    rw [List.length_map] at hl
    have hT : s.heap.IsTuple p its.toArray := pl
    have hlt : p < s.heap.objs.size := pl.lt
    refine call_sum_walkG (wpAny_pyIter_tuple hT ?_)
    refine ⟨s.heap.objs.size, [s.heap.objs.size, p], [s.heap.objs.size], its.toArray.size, _, _, fun i => ns.getD i 0, rfl, Walks.tuple (A := X.A.in1) hh _ p (nne hlt) its.toArray, ⟨⟨_, Heap.get?_push_size _ rfl, rfl, rfl⟩, hT.push _⟩, fun b hb => ?_, fun i v e => Zea rv e, fun h' tk t' hk => ?_⟩
    · show b < (s.heap.push _).objs.size
      rw [Heap.size_push]
      rcases List.mem_cons.mp hb with z | z
      · rw [z]; exact Nat.lt_succ_self _
      · rw [List.mem_singleton.mp z]; exact Nat.lt_succ_of_lt hlt
    · have e : preSum (fun i => ns.getD i 0) its.toArray.size = ns.sum := by
        rw [List.size_toArray, ← hl, Zdn ns _ (Nat.le_refl _), List.take_length]
      rw [e]
      exact ⟨.int ns.sum, H, I.kept (ZeR (fun b o e => Heap.get?_push_of_some _ e) (Nat.le_refl _) hk), ⟨t', rfl⟩, q⟩
def Zhu : D → Option Int
  | .int i => some i
  | _ => none
def Zn7 : D → HD → Out D := fun x h => match Zbl x h with
  | some ds => match Zay (ds.map Zhu) with
    | some ns => .ok (.int ns.sum) h
    | none => .stuck
  | none => .stuck
theorem ZgN {m : List Addr} {H : Hp} : ∀ {ds : List D} {vs : List V} {ns : List Int}, DVs X.K m H ds vs → Zay (ds.map Zhu) = some ns → vs = ns.map V.int
  | [], vs, ns, r, e => by
    simp only [DVs] at r
    simp [Zay] at e
    subst r e
    rfl
  | d :: ds, vs, ns, r, e => by
    simp only [DVs] at r
    obtain ⟨v, w, rfl, rv, rw'⟩ := r
    rw [List.map_cons] at e
    cases d with
    | int i =>
      simp only [Zhu, Zay, Option.map_eq_some_iff] at e
      obtain ⟨ns', e1, rfl⟩ := e
      simp only [DV] at rv
      subst rv
      rw [ZgN rw' e1]
      rfl
    | _ => simp [Zhu, Zay] at e
theorem ZtH (hc : X.calm = true) : ZdA X (.builtin "sum") (ar1 Zn7) := by
  refine ⟨_, Zlp hc, fun m H h E ds vs Q hr r q => ZeL r q fun d v ev rv q => ?_⟩
  unfold Zn7 at q
  split at q
  · rename_i xs e
    split at q
    · rename_i ns en
      obtain ⟨p, ws, rfl, hs, dv⟩ := ZdB hr rv e
      have := ZgN dv en
      subst this
      exact ⟨p, ns, ev, hs, okq hr q (by simp [DV])⟩
    · exact q.elim
  · exact q.elim
theorem Zlq (hc : X.calm = true) : Zec X (.builtin "all") (fun xs H Q => ∃ (p : Addr) (bs : List Bool), xs = [.ref p] ∧ SqL X.K H p (bs.map V.bl) ∧ Q (.bl (bs.all id)) H) := by
  intro pins s σ H xs us Q I r h
  obtain ⟨p, bs, rfl, hs, q⟩ := h
  obtain ⟨u, rfl, rx⟩ := ZfV r
  cases rx
  have hh : X.A.in1.handled = none := I.ok.hd hc
  obtain ⟨its, rv, pl, hz⟩ := I.list hs
  have hl := rv.length
  rw [List.length_map] at hl
  have hlt : p < s.heap.objs.size := by obtain ⟨_, e, _⟩ := pl.isList; exact Heap.lt_size e
  have item : ∀ (i : Nat) (v : Value), its.toArray[i]? = some v → v = .bool (bs.getD i true) := fun i v e => by
    have e' : its[i]? = some v := by simpa using e
    have hi : i < its.length := (List.getElem?_eq_some_iff.mp e').1
    have hn : (bs.map V.bl)[i]? = some (V.bl (bs.getD i true)) := by
      rw [List.getElem?_map, List.getElem?_eq_getElem (by omega)]
      simp [List.getD_eq_getElem?_getD, List.getElem?_eq_getElem (show i < bs.length by omega)]
    obtain ⟨u, h1, h2⟩ := rv.get hn
    rw [e'] at h1
    cases h1
    exact h2
  refine call_all_walk (wpAny_pyIter_list pl.isList ?_)
  refine ⟨s.heap.objs.size, [s.heap.objs.size, p], [s.heap.objs.size], its.toArray.size, _, _, fun i => bs.getD i true, rfl, Walks.list (A := X.A.in1) hh _ p (nne hlt) its.toArray, ⟨⟨_, Heap.get?_push_size _ rfl, rfl, rfl⟩, pl.isList.push _⟩, fun i v s' Q' E' e hQ => ?_, fun h' tk hk => ?_⟩
  · rw [item i v e]
    exact wpAny_truthy_bool hQ
  · have e : (List.range its.toArray.size).all (fun i => bs.getD i true) = bs.all id := by
      rw [List.size_toArray, ← hl]
      apply Bool.eq_iff_iff.mpr
      simp only [List.all_eq_true, List.mem_range, id]
      constructor
      · intro h b hb
        obtain ⟨i, hi, rfl⟩ := List.getElem_of_mem hb
        have := h i hi
        simpa [List.getD_eq_getElem?_getD, List.getElem?_eq_getElem hi] using this
      · intro h i hi
        have := h bs[i] (List.getElem_mem hi)
        simpa [List.getD_eq_getElem?_getD, List.getElem?_eq_getElem hi] using this
    rw [e]
    exact ⟨.bl _, H, I.kept (ZeR (fun b o e => Heap.get?_push_of_some _ e) (Nat.le_refl _) hk), rfl, q⟩
def Zm1 : D → Option Bool
  | .bl b => some b
  | _ => none
def ZiK : D → HD → Out D := fun x h => match x with
  | .loc l => match h[l]? with
    | some (.lst ds) => match Zay (ds.map Zm1) with
      | some bs => .ok (.bl (bs.all id)) h
      | none => .stuck
    | _ => .stuck
  | _ => .stuck
theorem Zic {m : List Addr} {H : Hp} : ∀ {ds : List D} {vs : List V} {bs : List Bool}, DVs X.K m H ds vs → Zay (ds.map Zm1) = some bs → vs = bs.map V.bl
  | [], vs, ns, r, e => by
    simp only [DVs] at r
    simp [Zay] at e
    subst r e
    rfl
  | d :: ds, vs, ns, r, e => by
    simp only [DVs] at r
    obtain ⟨v, w, rfl, rv, rw'⟩ := r
    rw [List.map_cons] at e
    cases d with
    | bl i =>
      simp only [Zm1, Zay, Option.map_eq_some_iff] at e
      obtain ⟨ns', e1, rfl⟩ := e
      simp only [DV] at rv
      subst rv
      rw [Zic rw' e1]
      rfl
    | _ => simp [Zm1, Zay] at e
theorem Zp2 (hc : X.calm = true) : ZdA X (.builtin "all") (ar1 ZiK) := by
  refine ⟨_, Zlq hc, fun m H h E ds vs Q hr r q => ZeL r q fun d v ev rv q => ?_⟩
  unfold ZiK at q
  split at q
  · rename_i l
    split at q
    · rename_i xs el
      split at q
      · rename_i bs eb
        simp only [DV] at rv
        obtain ⟨a, rfl, ha⟩ := rv
        obtain ⟨ws, hv, dv⟩ := hr.cells _ _ a el ha
        have := Zic dv eb
        subst this
        exact ⟨a, bs, ev, SqL.of hv, okq hr q (by simp [DV])⟩
      · exact q.elim
    · exact q.elim
  · exact q.elim
def Zn8 : D → D → HD → Out D := fun x y h => match x with
  | .loc l => match h[l]? with
    | some (.lst ds) => if ds.length < sizeLine then .ok .non (h.set l (.lst (ds ++ [y]))) else .stuck
    | _ => .stuck
  | _ => .stuck
def Zdj : D → HD → Out D := fun x h => match x with
  | .loc l => match h[l]? with
    | some (.lst _) => .ok x h
    | _ => .stuck
  | _ => .stuck
def Zm2 (f g : ME) : ME := fun ρ h => ((f ρ h).bind Zdj).bind fun x h1 => (g ρ h1).bind fun y h2 => Zn8 x y h2
theorem ZeS {o e : Expr} {f g : ME} {apos cpos : Pos} (ho : Ev X E o f) (he : Ev X E e g)
    (hbase : attributeBase o "append" X.env (eval o X.env) = eval o X.env := by rfl)
    (hfew : ((backTo cpos (starEach [e] X.env)).all (fun x => !x.1) && (backToKw cpos (keywordEach [] X.env)).all (fun x => x.1.isSome)
      && decide ([e].length + ([] : List Keyword).length + (if ([] : List Keyword).isEmpty then 0 else 1) < 30)) = true := by rfl)
    (hline : (apos.endLine == cpos.line) = true := by rfl) (hs : starEach [e] X.env = (false, eval e X.env) :: starEach [] X.env := by rfl) (hplain : (backTo cpos (starEach [] X.env)).any (·.1) = false := by rfl) :
    Ev X E (.Call (.Attribute o "append" apos) [e] [] cpos) (Zm2 f g) :=
  ZbQ (ZqU PySem.F.plainAttrs_list PySem.F.slot_list_append PySem.F.type_list_append ZjA ho (Zaa he Zad hs) hbase hfew hline hs hplain) fun σ H Q z1_ => by
    obtain ⟨m, ρ, h, hr, er, p⟩ := z1_
    refine ⟨m, ρ, h, hr, er, ?_⟩
    unfold Zm2 at p
    rw [Out.bind_assoc] at p
    refine Post.bind p fun x h1 v m1 H1 eo p1 k1 hr1 r1 q1 => ?_
    clear eo
    unfold Zdj at q1
    split at q1
    · rename_i l
      split at q1
      · rename_i ds el
        simp only [Out.bind_ok] at q1
        have r1' := r1
        simp only [rD, DV] at r1'
        obtain ⟨a, rfl, ha⟩ := r1'
        obtain ⟨ws, hv, dv⟩ := hr1.cells l _ a el ha
        refine ⟨.inl ⟨rfl, ws, SqL.of hv⟩, m1, ρ, h1, hr1, er.keep p1 k1, ?_⟩
        have q2 : Post X.K (rD X.K) m1 H1 E Q ((Zab g Zal ρ h1).bind fun ys h2 => match ys with
          | [y] => Zn8 (.loc l) y h2
          | _ => .stuck) := by
          unfold Zab Zal
          rw [Out.bind_assoc]
          exact q1
        refine Post.bind q2 fun ys h2 vs m2 H2 eo p2 k2 hr2 r2 q3 => ?_
        clear eo
        split at q3
        · rename_i y
          simp only [rDs, DVs] at r2
          obtain ⟨yv, w, rfl, ry, rfl⟩ := r2
          unfold Zn8 at q3
          simp only at q3
          split at q3
          · rename_i ds2 el2
            split at q3
            · rename_i hz
              have ha2 := ZeG p2 ha
              obtain ⟨ws2, hv2, dv2⟩ := hr2.cells l _ a el2 ha2
              refine ⟨a, ws2, yv, rfl, rfl, hv2, by rw [← dv2.len]; exact hz, ?_⟩
              refine q3 .non m2 _ (List.prefix_refl _) (.set hv2 rfl) (hr2.setCell ha2 hv2 rfl ⟨_, Za0, ?_⟩) (by simp [rD, DV])
              exact (dv2.app (.cons ry .nil)).keep (List.prefix_refl _) (.set hv2 rfl)
            · exact q3.elim
          · exact q3.elim
        · exact q3.elim
      · exact q1.elim
    · exact q1.elim
def Zn9 : D → D → D → HD → Out (Fl × Rho) → Out (Fl × Rho) := fun o i v h k => match o, i with
  | .loc l, .int n => match h[l]? with
    | some (.lst ds) => match ixN ds.length n with
      | some j => match k with
        | .ok a _ => .ok a (h.set l (.lst (ds.set j v)))
        | _ => .stuck
      | none => .stuck
    | _ => .stuck
  | _, _ => .stuck
def Zid (fo fi fv : ME) : MS := fun ρ h => (fv ρ h).bind fun v h1 => (fo ρ h1).bind fun o h2 => (fi ρ h2).bind fun i h3 => Zn9 o i v h3 (.ok (.nx, ρ) h3)
theorem Zlr {o i e : Expr} {fo fi fv : ME} {pos pos' : Pos} (ho : Ev X E o fo) (hi : Ev X E i fi) (he : Ev X E e fv)
    (ha : ∀ v, assign (.Subscript o i pos') X.env v = (do
      let ov ← holding [v] (eval o X.env)
      let iv ← holding [v, ov] (eval i X.env)
      standAt pos'
      holding [v, ov, iv] (setItem ov iv v)
      release [v, ov, iv] []) := by intro _; rfl)
    (hs : swapsWithSole [.Subscript o i pos'] e pos.line X.env = pure false := by rfl) (hw : swappedStores [.Subscript o i pos'] e X.env = pure none := by rfl)
    (h1 : (assignEach [.Subscript o i pos'] X.env).map (·.2) = [assign (.Subscript o i pos') X.env] := by rfl) : Ex X E (.Assign [.Subscript o i pos'] e pos) (Zid fo fi fv) :=
  Zdz (Zl9 he (Zoq ho hi Zld ha) hs hw h1) fun Dn σ H ⟨m, ρ, h, hr, er, p⟩ => ⟨m, ρ, h, hr, er, PostS.bind p fun v h1 vv m1 H1 eo1 p1 k1 hr1 r1 q1 => by
    refine ⟨m1, ρ, h1, hr1, er.keep p1 k1, PostS.bind q1 fun ov h2 vo m2 H2 eo2 p2 k2 hr2 r2 q2 => ?_⟩
    refine ⟨m2, ρ, h2, hr2, (er.keep p1 k1).keep p2 k2, PostS.bind q2 fun iv h3 vi m3 H3 eo3 p3 k3 hr3 r3 q3 => ?_⟩
    clear eo1 eo2 eo3
    unfold Zn9 at q3
    split at q3
    · rename_i l n
      split at q3
      · rename_i ds el
        split at q3
        · rename_i j ej
          have ro := DV.keep p3 k3 r2
          simp only [DV] at ro
          obtain ⟨a, rfl, ha⟩ := ro
          have ri := r3
          simp only [rD, DV] at ri
          subst ri
          obtain ⟨ws, hv, dv⟩ := hr3.cells l _ a el ha
          refine ⟨a, ws, n, j, rfl, rfl, hv, by rw [← dv.len]; exact ej, ?_⟩
          have rvv := DV.keep p3 k3 (DV.keep p2 k2 r1)
          have hr4 : HR X.K m3 (h3.set l (.lst (ds.set j v))) (upd H3 a (.lst (ws.set j vv))) := hr3.setCell ha hv rfl ⟨_, Za0, (dv.set j rvv).keep (List.prefix_refl _) (.set hv rfl)⟩
          exact q3 m3 _ (List.prefix_refl _) (.set hv rfl) hr4 σ ((((er.keep p1 k1).keep p2 k2).keep p3 k3).keep (List.prefix_refl _) (.set hv rfl))
        · exact q3.elim
      · exact q3.elim
    · exact q3.elim⟩
end
def ZaE (n : Nat) (g : MS) : List D → HD → Out D := fun ds h => (g (ds.map some ++ List.replicate (n - ds.length) none) h).bind fun x h1 => match x with
  | (.nx, _) => .ok .non h1
  | (.rt d, _) => .ok d h1
  | _ => .stuck
end LS
namespace LS
open PySem PySem.Spec PyProof.Rows L2
open AutoSeq1 (wpAny_loadPart')
section
variable {prog : Program} {w : World} {A : Around} {E : Value → Shared → Prop} {s : Shared}
theorem ZdP {it l : Addr} {i : Nat} {items : Array Value} {x : Value} {Q : Value → Shared → Prop} (hit : s.heap.IsTupleIter it l i)
    (hl : s.heap.IsTuple l items) (hx : items[i]? = some x)
    (hQ : ∀ h', h'.IsTupleIter it l (i + 1) → Heap.SameBut it s.heap h' → Q x { s with heap := h' }) :
    wpAny (model prog w) A (Builtin.SmallTypes.nextOf (.ref it)) Q E s := by
  obtain ⟨o, ho, hc, hd⟩ := id hit
  obtain ⟨ol, hol, _, nl, hdl⟩ := hl
  unfold Builtin.SmallTypes.nextOf
  refine wpAny_bind (wpAny_callSpecial?_slot (name := Str.ofString "__next__") hit.typeIs F.slot_tuple_iterator_next
    (wpAny_call_entry F.slot_tuple_iterator_next hit.typeIs F.entry_tuple_iterator_next ?_ (F.args_tuple_iterator_next_1 _)))
  show wpAny _ _ (field (.ref it) 0 >>= _) _ _ s
  refine wpAny_bind (wpAny_field ho hd (x := .ref l) rfl ?_)
  show wpAny _ _ (if (Value.ref l == Value.none) = true then _ else _) _ _ s
  rw [if_neg (show ¬ ((Value.ref l == Value.none) = true) from Bool.false_ne_true)]
  show wpAny _ _ (field (.ref it) 1 >>= _) _ _ s
  refine wpAny_bind (wpAny_field ho hd (x := .int i 0) rfl ?_)
  show wpAny _ _ (seqItems? (.ref l) >>= _) _ _ s
  refine wpAny_bind (wpAny_seqItems hol hdl ?_)
  simp only [Int.toNat_natCast, hx]
  refine wpAny_bind (wpAny_setField ho hd (by simp) (wpAny_pure ⟨x, rfl, wpAny_pure (hQ _ ?_ (Heap.SameBut.update ..))⟩))
  exact ⟨_, Heap.get?_update_self _ ho (Obj.isFreed_of_fields (Obj.data_mapFields hd _)), (Obj.cls_mapFields ..).trans hc, by
    rw [Obj.data_mapFields hd]; simp [rawInt]⟩
theorem Zef {it l : Addr} {i : Nat} {items : Array Value} {Q : Value → Shared → Prop} (hh : A.handled = none)
    (hit : s.heap.IsTupleIter it l i) (hl : s.heap.IsTuple l items) (hx : items[i]? = none)
    (hE : ∀ h' e, Heap.ExtBut it s.heap h' → (∃ o, h'.get? e = some o ∧ o.cls = .type "StopIteration") → E (.ref e) { s with heap := h' }) :
    wpAny (model prog w) A (Builtin.SmallTypes.nextOf (.ref it)) Q E s := by
  obtain ⟨o, ho, hc, hd⟩ := id hit
  obtain ⟨ol, hol, _, nl, hdl⟩ := hl
  unfold Builtin.SmallTypes.nextOf
  refine wpAny_bind (wpAny_callSpecial?_slot (name := Str.ofString "__next__") hit.typeIs F.slot_tuple_iterator_next
    (wpAny_call_entry F.slot_tuple_iterator_next hit.typeIs F.entry_tuple_iterator_next ?_ (F.args_tuple_iterator_next_1 _)))
  show wpAny _ _ (field (.ref it) 0 >>= _) _ _ s
  refine wpAny_bind (wpAny_field ho hd (x := .ref l) rfl ?_)
  show wpAny _ _ (if (Value.ref l == Value.none) = true then _ else _) _ _ s
  rw [if_neg (show ¬ ((Value.ref l == Value.none) = true) from Bool.false_ne_true)]
  show wpAny _ _ (field (.ref it) 1 >>= _) _ _ s
  refine wpAny_bind (wpAny_field ho hd (x := .int i 0) rfl ?_)
  show wpAny _ _ (seqItems? (.ref l) >>= _) _ _ s
  refine wpAny_bind (wpAny_seqItems hol hdl ?_)
  simp only [Int.toNat_natCast, hx]
  refine wpAny_bind (wpAny_rule (wpAny_bind (wpAny_setField ho hd (by simp) ?_)))
  show wpAny _ _ (newExc (.type "StopIteration") [] >>= _) _ _ _
  refine wpAny_bind ?_
  simp only [newExc, newTuple]
  refine wpAny_bind (wpAny_newObj_type ?_ (by size_fits))
  refine wpAny_bind (m := firstArgMember _ _) (wpAny_of_eq (a := Value.none) (by first | rfl | (simp only [firstArgMember]; rfl)) ?_)
  refine wpAny_newObj_type ?_ (by size_fits)
  simp only [raiseNew]
  refine wpAny_bind (wpAny_handled ?_)
  first | rw [show A.in1.handled = none from hh] | rw [hh]
  refine wpAny_bind (wpAny_pure (wpAny_throw ?_))
  exact hE _ _ (((Heap.SameBut.update ..).extBut.push _).push _) ⟨_, Heap.get?_push_size _ rfl, rfl⟩
end
theorem Zdo {prog : Program} {w : World} {A : Around} (hh : A.handled = none) (it l : Addr) (hne : l ≠ it) (items : Array Value) :
    Draws prog w A it [it, l] items.size (fun i v => items[i]? = some v) (fun i h => h.IsTupleIter it l i ∧ h.IsTuple l items) where
  live := fun _ _ st => let ⟨o, ho, _⟩ := st.1; ⟨o, ho⟩
  frame := fun _ _ _ st hk => ⟨st.1.at fun o e => hk it (by simp) o e, st.2.at fun o e => hk l (by simp) o e⟩
  item := fun i s Q E hi st hQ => by
    refine ZdP st.1 st.2 (x := items[i]) (by simp [hi]) fun h' hit' hs' => ?_
    exact hQ _ h' s.toks (by simp [hi]) ⟨hit', st.2.extBut hs'.extBut hne⟩ hs'
  done := fun s Q E st hE => Zef hh st.1 st.2 (by simp) hE
theorem ZeT (l : Addr) (items : Array Value) (n : Nat) (dct : Option Addr) (sl : Array (Option Value)) :
    Meets (Builtin.«enumerate.__new__» ⟨[.type "enumerate", .ref l], []⟩) (fun _ R s => s.heap.get? l = some { cls := .type "tuple", dict := dct, data := .seq items n, slots := sl } ∧
      R (.ok (.ret (.ref (s.heap.push { cls := .type "tuple_iterator", data := .fields #[.ref l, .int 0 0] }).objs.size)))
        { s with heap := (s.heap.push { cls := .type "tuple_iterator", data := .fields #[.ref l, .int 0 0] }).push { cls := .type "enumerate", data := .fields #[.none, .bool false, .ref s.heap.objs.size, rawInt 0, .none, .none] } }) :=
  .of_wp fun prog w A R s h => by
    obtain ⟨hp, g, d, tk, os⟩ := s; obtain ⟨hl, h⟩ := h
    have hsub := sub_enumerate
    have hL : Heap.IsTuple (Shared.heap ⟨hp, g, d, tk, os⟩) l items := ⟨_, hl, rfl, n, rfl⟩
    wp_walk using wpAny_loadPart' hl
    refine wpAny_stack_any fun st => wpAny_pure ?_
    split
    · rename_i c _ _ _ _ _
      cases (c == Value.type "enumerate")
      · wp_walk using wpAny_loadPart' hl, wpAny_pyIter_tuple hL
        exact ⟨_, rfl, h⟩
      · wp_walk using wpAny_loadPart' hl, wpAny_pyIter_tuple hL
        exact ⟨_, rfl, h⟩
    · wp_walk using wpAny_loadPart' hl, wpAny_pyIter_tuple hL
      exact ⟨_, rfl, h⟩
section
variable {prog : Program} {w : World} {A : Around} {E : Value → Shared → Prop} {s : Shared}
theorem ZeU {l : Addr} {items : Array Value} {Q : Value → Shared → Prop} (hL : s.heap.IsTuple l items)
    (h : ∀ h', IsEnum h' (s.heap.objs.size + 1) s.heap.objs.size 0 .none → h'.IsTupleIter s.heap.objs.size l 0 → h'.objs.size = s.heap.objs.size + 2 →
      (∀ b o, s.heap.get? b = some o → h'.get? b = some o) → Q (.ref (s.heap.objs.size + 1)) { s with heap := h' }) :
    wpAny (model prog w) A (call (.type "enumerate") [.ref l]) Q E s := by
  obtain ⟨⟨c, dct, dt, sl⟩, hl, hc, n, hd⟩ := hL
  replace hc : c = .type "tuple" := hc
  replace hd : dt = .seq items n := hd
  subst hc hd
  refine callType_new F.called_enumerate (by decide) (F.typeCall_enumerate_1 _) (F.newCall_enumerate_1 _) (fun obj => F.args_object_init_2 obj _) F.entry_enumerate_new
    (ZeT l items n dct sl) ⟨hl, ?_⟩
  have hz : (s.heap.push { cls := .type "tuple_iterator", data := .fields #[.ref l, .int 0 0] }).objs.size = s.heap.objs.size + 1 := Heap.size_push ..
  show _ ∧ _
  rw [hz]
  have he : IsEnum ((s.heap.push { cls := .type "tuple_iterator", data := .fields #[.ref l, .int 0 0] }).push
      { cls := .type "enumerate", data := .fields #[.none, .bool false, .ref s.heap.objs.size, rawInt 0, .none, .none] }) (s.heap.objs.size + 1) s.heap.objs.size 0 .none := by
    have := Heap.get?_push_size (s.heap.push { cls := .type "tuple_iterator", data := .fields #[.ref l, .int 0 0] })
      (o := { cls := .type "enumerate", data := .fields #[.none, .bool false, .ref s.heap.objs.size, rawInt 0, .none, .none] }) rfl
    rw [hz] at this; exact this
  refine ⟨⟨_, he, rfl⟩, h _ he ⟨_, Heap.get?_push_of_some _ (Heap.get?_push_size _ rfl), rfl, rfl⟩ (by rw [Heap.size_push, hz]) fun b o x => Heap.get?_push_of_some _ (Heap.get?_push_of_some _ x)⟩
end
def Ite (K : PySem.W.Frag) (t : Addr) (xs : List V) : It := ⟨fun i H => i < xs.length ∧ SqT K H t xs, fun i H x H' => ∃ p v, H p = none ∧ x = .ref p ∧ xs[i]? = some v ∧ H' = upd H p (.tup [.int i, v]), fun i H => i = xs.length ∧ SqT K H t xs⟩
theorem ZjQ {P : Program} {w : World} {K : PySem.W.Frag} {elts : List Expr} {kt : Nat} {tpos : Pos} (e it t : Addr) (hei : e ≠ it) (hte : t ≠ e) (hti : t ≠ it) (xs : List V) :
    Zma P w K (.Tuple elts kt tpos) (Ite K t xs) [e, it] e (fun i h => (∃ old, IsEnum h e it i old) ∧ h.IsTupleIter it t i) where
  mem := by simp
  obj := fun i h st b hb => by
    obtain ⟨⟨old, h1⟩, o, h2, hc, hd⟩ := st
    rcases List.mem_cons.mp hb with z | z
    · subst z; exact ⟨_, h1, fun v z => by cases z⟩
    · rw [List.mem_singleton] at z
      subst z
      exact ⟨o, h2, fun v z => by rw [hd] at z; cases z⟩
  keep := fun i h h' st k => by
    obtain ⟨⟨old, h1⟩, h2⟩ := st
    exact ⟨⟨old, k e (by simp) _ h1⟩, h2.at fun o z => k it (by simp) o z⟩
  item := by
    intro X hP hw hK hc i pins s σ H E I hf st hg
    subst hP hw hK
    obtain ⟨⟨old, he⟩, hit⟩ := st
    obtain ⟨hi, hq⟩ := hg
    obtain ⟨its, rv, p, hz⟩ := I.tuple hq
    have hT : s.heap.IsTuple t its.toArray := p
    have hl := rv.length
    obtain ⟨e0, e1, e2, e3, e4, e5⟩ := hf e (by simp)
    obtain ⟨i0, i1, i2, i3, i4, i5⟩ := hf it (by simp)
    have hx : xs[i]? = some xs[i] := List.getElem?_eq_getElem hi
    refine wpAny_pyNext_enum_itemD (Zdo (A := X.A.in1) (I.ok.hd hc) it t hti its.toArray) he ⟨hit, hT⟩ (by rw [List.size_toArray]; omega) hei (by simp [hei, Ne.symm hte]) fun x h1 tk hPx ho hs1 hTup hsz hk => ?_
    obtain ⟨u, hu, ru⟩ := rv.get hx
    have hux : u = x := by
      have : its[i]? = some x := by simpa using hPx
      rw [hu] at this
      exact Option.some.inj this
    subst hux
    refine ⟨.ref s.heap.objs.size, rfl, wpAny_letOwnedTupleGo_enum ho fun h2 he2 sb => ?_⟩
    have hfr : H s.heap.objs.size = none := I.hok.fresh (Nat.le_refl _)
    have kk : ∀ b o, b ∉ [e, it] → s.heap.get? b = some o → h2.get? b = some o := fun b o hb z => by
      have n1 : b ≠ e := fun q => hb (by simp [q])
      have n2 : b ≠ it := fun q => hb (by simp [q])
      exact (sb.2 b n1).trans (hk b o n1 n2 z)
    have na : s.heap.objs.size ≠ e := Zlo (Heap.lt_size he)
    have hnew : h2.get? s.heap.objs.size = some { cls := .type "tuple", data := .seq #[.int i tk, u] } := (sb.2 _ na).trans hTup
    have ntr : ∀ b w, H b = some w → b ∉ [e, it] := fun b w z hb => by
      rcases List.mem_cons.mp hb with q | q
      · rw [q, e0] at z; cases z
      · rw [List.mem_singleton.mp q, i0] at z; cases z
    have nal : ∀ b o, s.heap.get? b = some o → b ≠ s.heap.objs.size := fun b o z => nne (Heap.lt_size z)
    have it2 : h2.IsTupleIter it t (i + 1) := by
      obtain ⟨o, q, r⟩ := hs1.1
      exact ⟨o, (sb.2 it (Ne.symm hei)).trans q, r⟩
    refine ⟨.ref s.heap.objs.size, upd H s.heap.objs.size (.tup [.int i, xs[i]]), ?_, rfl, ⟨s.heap.objs.size, xs[i], hfr, rfl, hx, rfl⟩, ⟨⟨u, he2⟩, it2⟩, fun b hb => ?_⟩
    · show Inv X pins σ _ { s with heap := h2, gens := s.gens, drawn := s.drawn, toks := tk + 1 }
      refine I.step (g' := s.gens) (d' := s.drawn) (t' := tk + 1) (h' := h2) (ch := [e, it]) (fun b hb => ?_) (fun b o _ _ hc z _ => kk b o hc z) (fun b o _ _ hc z _ => ⟨o.slots, kk b o hc z⟩) (fun b o _ z n => by rw [Zaq (nal b o z)]; exact n)
        (fun b o hc z => ⟨o, kk b o hc z⟩) (fun b ys z => by rw [Zaq (Zau z hfr)]; exact z) (fun b o u z => by rw [Zaq (Zau z hfr)]; exact z) (fun b ps z => ⟨#[], by rw [Zaq (Zau z hfr), z]; simp⟩) (fun m hm => ?_) (fun b w z => ?_) I.bare
      · rcases List.mem_cons.mp hb with q | q
        · subst q; exact ⟨e3, e1, e4, e5⟩
        · rw [List.mem_singleton] at q; subst q; exact ⟨i3, i1, i4, i5⟩
      · obtain ⟨o, es, ep, q, r⟩ := hm
        exact ⟨o, es, ep, kk _ o (by simp [Ne.symm e1, Ne.symm i1]) q, r⟩
      · by_cases hb : b = s.heap.objs.size
        · subst hb
          rw [Za0] at z
          cases z
          exact ⟨by simp only [List.length_cons, List.length_nil]; rw [sizeLine_eq]; decide, [.int i tk, u], .cons ⟨tk, rfl⟩ (.cons ru .nil), ⟨_, hnew, rfl, 0, rfl⟩, fun o e => by rw [hnew] at e; cases e; rfl⟩
        · rw [Zaq hb] at z
          refine (I.hok b w z).stay (fun c v hc q => kk c v ?_ q) (fun c q => by rw [Zaq (Zau q hfr)]; exact q) fun c ys q => by rw [Zaq (Zau q hfr)]; exact q
          rcases hc with rfl | hc
          · exact ntr c _ z
          · exact ntr c _ hc
    · have nb : b ≠ s.heap.objs.size := by
        rcases List.mem_cons.mp hb with q | q
        · rw [q]; exact na.symm
        · rw [List.mem_singleton.mp q]
          obtain ⟨o, z, _⟩ := hit
          exact nal _ _ z
      rw [Zaq nb]
      exact (hf b hb).1
  done := by
    intro X hP hw hK hc i pins s σ H E I hf st hg
    subst hP hw hK
    obtain ⟨⟨old, he⟩, hit⟩ := st
    obtain ⟨hi, hq⟩ := hg
    obtain ⟨its, rv, p, hz⟩ := I.tuple hq
    have hT : s.heap.IsTuple t its.toArray := p
    have hl := rv.length
    obtain ⟨i0, i1, i2, i3, i4, i5⟩ := hf it (by simp)
    have hin : i = its.toArray.size := by rw [List.size_toArray]; omega
    refine wpAny_pyNext_enum_endD (Zdo (A := X.A.in1) (I.ok.hd hc) it t hti its.toArray) he (hin ▸ ⟨hit, hT⟩) fun h' eb => ⟨rfl, I.turned (t' := s.toks) (fun b o hb z => eb b o hb z) i0 i1 i3 i4 i5⟩
  self := fun A i s Q E st h => by
    obtain ⟨⟨old, he⟩, _⟩ := st
    exact wpAny_pyIter_enum he h
section
variable {X : Cx} {E : XK}
def ZeV (ds : List D) : List D := ds.mapIdx fun i d => .tup [.int (i : Nat), d]
def ZoY : List D → HD → Out (List D × Src) := fun ds h => match ds with
  | [.tup xs] => .ok (ZeV xs, []) h
  | _ => .stuck
def Zmj (fa : MA) : MI := fun ρ h => (fa ρ h).bind ZoY
end
end LS
namespace LS
open PySem PySem.Spec PyProof.Rows L2
section
variable {prog : Program} {w : World} {A : Around} {E : Value → Shared → Prop} {s : Shared}
end
section
variable {X : Cx} {E : XK} {e : Expr} {f : ME}
def Zm3 : D → HD → Out D := fun x h => match x with
  | .tup [a, b] => .ok (.tup [b, a]) h
  | _ => .stuck
def ZoZ (f : ME) : ME := fun ρ h => (f ρ h).bind Zm3
end
end LS
namespace LS
open PySem PySem.Spec PyProof.Rows L2
structure CSc (X : Cx) (scope : Scope) (Nc : List Str) (cs : List (Option Nat)) : Prop where
  kind : scope.kind = .function
  loc : (scope.names.all fun y => y.2 != .local || scope.names.lookup y.1 == some .local) = true
  free : (scope.names.all fun y => y.2 != .free || (X.env.kindOf y.1 == some .cell || X.env.kindOf y.1 == some .free)) = true
  nd : (scope.names.map (·.1)).Nodup
  len : cs.length = Nc.length
  out : ((Nc.zip cs).all fun p => match p.2 with
    | none => true
    | some j => X.N[j]? == some p.1 && scope.names.lookup p.1 == some .free) = true
theorem CSc.ok {X : Cx} {scope : Scope} {Nc : List Str} {cs : List (Option Nat)} (S : CSc X scope Nc cs) : ZdD X scope Nc cs := by
  refine ⟨S.kind, fun y hy e => ?_, fun y hy e => ?_, S.nd, S.len, fun i x j h1 h2 => ?_⟩
  · have := List.all_eq_true.mp S.loc y hy
    rw [e] at this
    simpa using this
  · have := List.all_eq_true.mp S.free y hy
    rw [e] at this
    simpa using this
  · have hz : (Nc.zip cs)[i]? = some (x, some j) := by
      rw [List.getElem?_zip_eq_some]
      exact ⟨h1, h2⟩
    have := List.all_eq_true.mp S.out (x, some j) (List.mem_of_getElem? hz)
    simpa using this
structure Dn (K : PySem.W.Frag) (mg : Str → Option Value) (x : Str) (ps : List Str) (st : Stmt) (f : Addr) (fd : FuncData) : Prop where
  fn : Fun K x x st f fd
  bd : Binds K fd ps []
  mg : mg x = some (.ref f)
end LS
namespace LS
open PySem PySem.Spec PyProof.Rows L2
section
variable {X : Cx} {E : XK}
theorem ZjR {a : Expr} {f : ME} {pos : Pos} (ha : Ev X E a f) : Ev X E (.UnaryOp .USub a pos) (fun ρ h => (f ρ h).bind fun x h1 => match x with
    | .int i => .ok (.int (-i)) h1
    | _ => .stuck) :=
  ZbQ (ZqH ZoA ha) fun σ H Q z1_ => by obtain ⟨m, ρ, h, hr, er, p⟩ := z1_; exact (⟨m, ρ, h, hr, er, Post.bind p fun x h1 v m1 H1 eo p1 k1 hr1 r1 q1 => by
    clear eo
    split at q1
    · simp only [rD, DV] at r1
      subst r1
      exact ⟨_, rfl, okq hr1 q1 (by simp [DV])⟩
    · exact q1.elim⟩)
def Zo0 (f : ME) : ME := fun ρ h => (f ρ h).bind fun x h1 => match x with
    | .int i => .ok (.int (-i)) h1
    | _ => .stuck
theorem ZcT {i j : Nat} {x y : Str} {px py tp : Pos} {kt : Nat} (hc : X.calm = true) (h1 : PG X (.Name x px) (ZcQ i)) (h2 : PG X (.Name y py) (ZcQ j)) : PG X (.Tuple [.Name x px, .Name y py] kt tp) (Zl7 X.K 2 (Zdw (ZcQ i) (Zdw (ZcQ j) Zl6))) :=
  Zl8 hc (Zet h1 (Zet h2 Zjk))
end
end LS
namespace LS
open PySem PySem.Spec PyProof.Rows L2
def CMl (i j : Int) : Prop := CMul i j ∨ (Builtin.Int.intBits i ≤ 16777216 ∧ Builtin.Int.intBits j ≤ 16777216)
instance (i j : Int) : Decidable (CMl i j) := by unfold CMl; infer_instance
theorem CMl.ok {i j : Int} (h : CMl i j) : IntMulOk i j := by
  rcases h with h | ⟨h1, h2⟩
  · exact h.ok
  · unfold IntMulOk
    intro z
    simp only [Bool.and_eq_true, decide_eq_true_eq] at z
    have := z.2
    unfold Builtin.Int.intTooBig at this
    simp only [decide_eq_true_eq] at this
    have hb : (bitsLine : Int) = 134217728 := by first | rfl | decide
    omega
variable {X : Cx}
theorem op_mul' : OpR X (binaryOp .Mult) (rI CMl fun i j => .int (i * j)) := opI fun _ _ _ _ _ _ _ hc q => mul_int q hc.ok
def ZdQ : D → D → HD → Out D
  | .int i, .int j, h => if CMl i j then .ok (.int (i * j)) h else .stuck
  | .loc l, .int k, h => match h[l]? with
    | some (.lst xs) => if -(2 ^ 63) ≤ k ∧ k < 2 ^ 63 then Zhk (List.replicate k.toNat xs).flatten h else .stuck
    | _ => .stuck
  | _, _, _ => .stuck
theorem ZqX : OpM X (binaryOp .Mult) ZdQ := by
  refine ⟨_, op_mul'.or ZoL, fun m H h E x y v u Q hr rx ry q => ?_⟩
  unfold ZdQ at q
  split at q
  · simp only [DV] at rx ry
    subst rx ry
    split at q
    · rename_i hc
      exact .inl ⟨_, _, rfl, rfl, hc, okq hr q (by simp [DV])⟩
    · exact q.elim
  · simp only [DV] at rx ry
    obtain ⟨a, rfl, ha⟩ := rx
    subst ry
    split at q
    · rename_i k _ xs e
      split at q
      · rename_i hk
        obtain ⟨vs, h1, d1⟩ := hr.cells _ _ a e ha
        obtain ⟨z, q'⟩ := ZcL hr (d1.rep k.toNat) q
        refine .inr ⟨a, k, vs, rfl, rfl, h1, hk.1, hk.2, ?_, q'⟩
        rw [ZfX] at z
        rw [Nat.mul_comm]; exact z
      · exact q.elim
    · exact q.elim
  · exact q.elim
end LS
namespace Att
open PySem PySem.W PySem.Calls PyProof.Rows
theorem ZiL {ns : List Int} (h : WData.layable (.list (ns.map WData.int)) = true) : ∀ n ∈ ns, Builtin.Int.intBits n ≤ 2 ^ 20 := by
  have hw : WData.weight (.list (ns.map WData.int)) ≤ 2 ^ 20 := (layableW_iff.mp h).2.2
  have key : ∀ (ns : List Int) (b : Nat), WData.weightAll (ns.map WData.int) ≤ b → ∀ n ∈ ns, Builtin.Int.intBits n ≤ b := by
    intro ns
    induction ns with
    | nil => intro b _ n hn; cases hn
    | cons m r ih =>
      intro b hb n hn
      have e : WData.weightAll ((m :: r).map WData.int) = Builtin.Int.intBits m + 1 + WData.weightAll (r.map WData.int) := by
        simp only [List.map_cons, WData.weightAll, WData.weight]
        rfl
      rw [e] at hb
      rcases List.mem_cons.mp hn with z | z
      · subst z; omega
      · exact ih b (by omega) n z
  exact key ns _ (by simpa only [WData.weight] using hw)
theorem attach_bits {l : OpenLaw} {n : Nat} {q : Program} {loose : List Str} {XP : (Str → Option Value) → Heap → Prop} {YP : World → Heap → Prop} {d : DefRec}
    (hn : l.most = some n) (hdf : d.params.defaults = [])
    (call : ∀ (w : World) (s₀ s₁ : Shared) (mg mb : Str → Option Value) (fa : Addr) (o : Obj) (pm cd doc : Value) (a : Addr) (vs : List Value) (ns : List Int), (∀ n ∈ ns, Builtin.Int.intBits n ≤ 2 ^ 20) →
      Ground q loose [] XP w s₀ mg mb s₁.heap → YP w s₁.heap →
      s₁.heap.get? fa = some o → o.data = .func (docDef d.name d.params d.body d.scope pm cd doc) → s₁.heap.CodeRec cd d.name → mg d.name = some (.ref fa) →
      s₁.heap.get? a = some { cls := .type "list", data := .seq vs.toArray } → IntsAre vs ns → ns.length ≤ n → s₁.gens = #[] →
      codeAny (model l.prog w) callerA (.call (.ref fa) ⟨[.ref a], []⟩) (fun r s' => r = .ok (.ret (.bool true)) ∧ OldK s₁.heap s'.heap ∧ s'.os = s₁.os ∧ AllBare s'.gens) s₁) :
    WalkO q loose XP YP l.row.toRowW d [] (fun f vs => PySem.call f vs) := by
  intro w s₀ s₁ mg mb G Y fa o pm cd doc dV kV ho hd hcd hD hmg hg args vals as hpre hlay hrd hwl hlo
  obtain rfl : dV = .none := Dflts.none hD hdf
  obtain rfl : kV = .none := Dflts.noKw hD
  obtain ⟨a, vs, ns, rfl, rfl, hobj, hints, hlen⟩ := ZjB hn hpre hwl
  have hb := ZiL (layableW_arg hlay _ List.mem_cons_self)
  refine enter_call (codeAny_mono (call w s₀ s₁ mg mb fa o pm cd doc a vs ns hb G Y ho (fd_plain hd) hcd hmg hobj hints hlen hg) fun r s' hq => ?_)
  obtain ⟨rfl, h2, h3, h4⟩ := hq
  exact ⟨.inl ⟨.bool true, .bool true, [], rfl, fun _ => rfl, .bool true, ZjC l _, fun _ => ⟨List.Pairwise.nil, fun _ hm => (nomatch hm)⟩⟩, h2, h3, h4⟩
end Att
namespace LS
open PySem PySem.Spec PyProof.Rows L2
end LS
namespace LS
open PySem PySem.Spec PyProof.Rows L2
def Wp {α : Type} (o : Out α) (Q : α → HD → Prop) : Prop := match o with
  | .ok a h => Q a h
  | _ => False
section
variable {α β : Type} {o : Out α} {Q Q' : α → HD → Prop}
@[simp] theorem ZbZ (a : α) (h : HD) : Wp (.ok a h) Q = Q a h := rfl
@[simp] theorem Zp3 : Wp .stuck Q = False := rfl
theorem wpe {o' : Out α} (e : o = o') (h : Wp o' Q) : Wp o Q := e ▸ h
theorem Zao {k : α → HD → Out β} {Q : β → HD → Prop} : Wp (o.bind k) Q = Wp o fun a h => Wp (k a h) Q := by cases o <;> rfl
theorem Wp.mono (h : Wp o Q) (f : ∀ a h, Q a h → Q' a h) : Wp o Q' := by
  cases o with
  | ok a h' => exact f _ _ h
  | _ => exact h.elim
theorem Wp.ex (h : Wp o Q) : ∃ a h', o = .ok a h' ∧ Q a h' := by
  cases o with
  | ok a h' => exact ⟨a, h', rfl, h⟩
  | _ => exact h.elim
end
def Sm (h h' : HD) : Prop := ∀ (l : Nat) (c : Zh2), h[l]? = some c → h'[l]? = some c
theorem Sm.refl (h : HD) : Sm h h := fun _ _ e => e
theorem Sm.trans {h h1 h2 : HD} (a : Sm h h1) (b : Sm h1 h2) : Sm h h2 := fun l c e => b l c (a l c e)
theorem Sm.app (h t : HD) : Sm h (h ++ t) := fun l c e => by
  rw [List.getElem?_append_left (List.getElem?_eq_some_iff.mp e).1]; exact e
def Pu {α : Type} (o : Out α) (h : HD) (a : α) : Prop := Wp o fun x h' => x = a ∧ Sm h h'
section
variable {α β : Type} {o : Out α} {h : HD} {a : α}
theorem Pu.wp {Q : α → HD → Prop} (p : Pu o h a) (k : ∀ h', Sm h h' → Q a h') : Wp o Q := Wp.mono p fun x h' z1_ => by obtain ⟨e, s⟩ := z1_; subst e; exact k h' s
theorem Pu.ok : Pu (.ok a h) h a := ⟨rfl, .refl _⟩
theorem Pu.bind {k : α → HD → Out β} {b : β} (p : Pu o h a) (q : ∀ h', Sm h h' → Pu (k a h') h' b) : Pu (o.bind k) h b := by
  unfold Pu
  rw [Zao]
  exact p.wp fun h' s => Wp.mono (q h' s) fun x h2 z2_ => by obtain ⟨e, s2⟩ := z2_; exact (⟨e, s.trans s2⟩)
theorem Pu.noErr (p : Pu o h a) : Pu (noErr o) h a := by
  obtain ⟨x, h', e, q⟩ := Wp.ex p
  rw [e]; exact q
end
def Zsq (i j : Nat) (ρ : Rho) (ds : List D) (h : HD) : Out (Fl × Rho) := match ds with
  | [x, y] => .ok (.nx, (ρ.set i (some x)).set j (some y)) h
  | _ => .stuck
def Zsr (o : Option Rho) (h : HD) : Out (Fl × Rho) := match o with
  | some ρ1 => .ok (.nx, ρ1) h
  | none => .stuck
def Zp4 (g : HD → Out D) (x : D) (h : HD) : Out D := match x with
  | .bl true => g h
  | .bl false => .ok (.bl false) h
  | _ => .stuck
def orK (g : HD → Out D) (x : D) (h : HD) : Out D := match x with
  | .bl true => .ok (.bl true) h
  | .bl false => g h
  | _ => .stuck
def Zss (x : D) (h : HD) : Out D := match x with
  | .bl b => .ok (.bl (!b)) h
  | _ => .stuck
def Zst (x : D) (h : HD) : Out D := match x with
  | .int i => .ok (.int (-i)) h
  | _ => .stuck
@[simp] theorem ZqY {i j : Nat} {ρ : Rho} {x y : D} {h : HD} {Q : Fl × Rho → HD → Prop} : Wp (Zsq i j ρ [x, y] h) Q = Q (.nx, (ρ.set i (some x)).set j (some y)) h := rfl
@[simp] theorem ZqZ {ρ : Rho} {h : HD} {Q : Fl × Rho → HD → Prop} : Wp (Zsr (some ρ) h) Q = Q (.nx, ρ) h := rfl
@[simp] theorem Zsu {g : HD → Out D} {h : HD} : Zp4 g (.bl true) h = g h := rfl
@[simp] theorem Zsv {g : HD → Out D} {h : HD} : Zp4 g (.bl false) h = .ok (.bl false) h := rfl
@[simp] theorem ZtI {g : HD → Out D} {h : HD} : orK g (.bl true) h = .ok (.bl true) h := rfl
@[simp] theorem ZtJ {g : HD → Out D} {h : HD} : orK g (.bl false) h = g h := rfl
@[simp] theorem Zsw {b : Bool} {h : HD} : Zss (.bl b) h = .ok (.bl (!b)) h := rfl
@[simp] theorem Zsx {i : Int} {h : HD} : Zst (.int i) h = .ok (.int (-i)) h := rfl
def Zq0 (g : MS) (Q : Fl × Rho → HD → Prop) : Fl × Rho → HD → Prop
  | (.nx, ρ), h => Wp (g ρ h) Q
  | y, h => Q y h
def ZjS (Q : D → HD → Prop) : Fl × Rho → HD → Prop
  | (.nx, _), h => Q .non h
  | (.rt d, _), h => Q d h
  | _, _ => False
section
variable {ρ : Rho} {h : HD} {Q : Fl × Rho → HD → Prop} {QB : D → HD → Prop} {g g1 g2 : MS} {f : ME} {t : MT}
@[simp] theorem Zai : Zq0 g Q (.nx, ρ) h = Wp (g ρ h) Q := rfl
@[simp] theorem Zq1 {d : D} : Zq0 g Q (.rt d, ρ) h = Q (.rt d, ρ) h := rfl
@[simp] theorem Zp5 : ZjS QB (.nx, ρ) h = QB .non h := rfl
@[simp] theorem Zp6 {d : D} : ZjS QB (.rt d, ρ) h = QB d h := rfl
@[simp] theorem ZbU : Wp (ZaR g1 g2 ρ h) Q = Wp (g1 ρ h) (Zq0 g2 Q) := by
  unfold ZaR
  rw [Zao]
  congr 1
  funext x h'
  obtain ⟨fl, ρ1⟩ := x
  cases fl <;> rfl
theorem Zas {n : Nat} {ds : List D} : Wp (ZaE n g ds h) QB = Wp (g (ds.map some ++ List.replicate (n - ds.length) none) h) (ZjS QB) := by
  unfold ZaE
  rw [Zao]
  congr 1
  funext x h'
  obtain ⟨fl, ρ1⟩ := x
  cases fl <;> rfl
@[simp] theorem Zq2 : Wp (ZbY ρ h) Q = Q (.nx, ρ) h := rfl
@[simp] theorem Zq3 : Wp (Zc8 f ρ h) Q = Wp (f ρ h) fun _ h1 => Q (.nx, ρ) h1 := by unfold Zc8; rw [Zao]; rfl
@[simp] theorem Zsy : Wp (Zce f ρ h) Q = Wp (f ρ h) fun d h1 => Q (.rt d, ρ) h1 := by unfold Zce; rw [Zao]; rfl
@[simp] theorem Zsz {i : Nat} : Wp (ZbG i f ρ h) Q = Wp (f ρ h) fun d h1 => Q (.nx, ρ.set i (some d)) h1 := by unfold ZbG; rw [Zao]; rfl
@[simp] theorem ZsA : Wp (ZdC t g1 g2 ρ h) Q = Wp (t ρ h) fun b h1 => Wp (if b = true then g1 ρ h1 else g2 ρ h1) Q := by unfold ZdC; rw [Zao]
@[simp] theorem ZsB {i j : Nat} {fa : MA} : Wp (Zn4 i j fa ρ h) Q = Wp (fa ρ h) fun ds h1 => Wp (Zsq i j ρ ds h1) Q := by unfold Zn4; rw [Zao]; rfl
@[simp] theorem ZsC {sg : MG} : Wp (Zn5 sg f ρ h) Q = Wp (f ρ h) fun d h1 => Wp (Zsr (sg d ρ) h1) Q := by unfold Zn5; rw [Zao]; rfl
@[simp] theorem Zp7 {fo fi fv : ME} : Wp (Zid fo fi fv ρ h) Q = Wp (fv ρ h) fun v h1 => Wp (fo ρ h1) fun o h2 => Wp (fi ρ h2) fun i h3 => Wp (Zn9 o i v h3 (.ok (.nx, ρ) h3)) Q := by
  unfold Zid; simp only [Zao]
end
section
variable {ρ : Rho} {h : HD} {Q : D → HD → Prop} {QB : Bool → HD → Prop} {QA : List D → HD → Prop} {f g k : ME} {t u : MT} {fa : MA} {op op' : D → D → HD → Out D} {F : List D → HD → Out D}
@[simp] theorem Zm4 {d : D} {r : Rho} : Wp (Zag 0 (some d :: r) h) Q = Q d h := rfl
@[simp] theorem Zm5 {i : Nat} {x : Option D} {r : Rho} : Wp (Zag (i + 1) (x :: r) h) Q = Wp (Zag i r h) Q := rfl
@[simp] theorem Zuk {d : D} : Wp (mC d ρ h) Q = Q d h := rfl
@[simp] theorem Zq4 : Wp (mOp op f g ρ h) Q = Wp (f ρ h) fun x h1 => Wp (g ρ h1) fun y h2 => Wp (op x y h2) Q := by unfold mOp; simp only [Zao]
@[simp] theorem ZdR : Wp (Zaf F fa ρ h) Q = Wp (fa ρ h) fun ds h1 => Wp (F ds h1) Q := by unfold Zaf; rw [Zao]
@[simp] theorem ZeW : Wp (Zal ρ h) QA = QA [] h := rfl
@[simp] theorem ZdS : Wp (Zab f fa ρ h) QA = Wp (f ρ h) fun x h1 => Wp (fa ρ h1) fun xs h2 => QA (x :: xs) h2 := by unfold Zab; simp only [Zao]; rfl
@[simp] theorem ZsD : Wp (Zdm fa ρ h) Q = Wp (fa ρ h) fun xs h1 => Wp (if xs.length ≤ sizeLine then .ok (.tup xs) h1 else .stuck) Q := by unfold Zdm; simp only [Zao]
@[simp] theorem ZsE : Wp (Zee fa ρ h) Q = Wp (fa ρ h) fun xs h1 => Wp (Zhk xs h1) Q := by unfold Zee; simp only [Zao]
@[simp] theorem ZtK : Wp (mTb f ρ h) QB = Wp (f ρ h) fun x h1 => Wp (asB x h1) QB := by unfold mTb; rw [Zao]
@[simp] theorem ZsF : Wp (Zhq f ρ h) QB = Wp (f ρ h) fun x h1 => Wp (Zk0 x h1) QB := by unfold Zhq; rw [Zao]
@[simp] theorem ZsG : Wp (Zhr t ρ h) QB = Wp (t ρ h) fun b h1 => QB (!b) h1 := by unfold Zhr; rw [Zao]; rfl
@[simp] theorem ZsH : Wp (ZpX t u ρ h) QB = Wp (t ρ h) fun b h1 => Wp (if b = true then u ρ h1 else .ok false h1) QB := by unfold ZpX; rw [Zao]
@[simp] theorem ZtL : Wp (mOr t u ρ h) QB = Wp (t ρ h) fun b h1 => Wp (if b = true then .ok true h1 else u ρ h1) QB := by unfold mOr; rw [Zao]
@[simp] theorem Zq5 : Wp (ZgE f g ρ h) Q = Wp (f ρ h) fun x h1 => Wp (Zp4 (g ρ) x h1) Q := by unfold ZgE; rw [Zao]; rfl
@[simp] theorem ZsI : Wp (Zsk f g ρ h) Q = Wp (f ρ h) fun x h1 => Wp (orK (g ρ) x h1) Q := by unfold Zsk; rw [Zao]; rfl
@[simp] theorem Zq6 : Wp (Zlg f ρ h) Q = Wp (f ρ h) fun x h1 => Wp (Zss x h1) Q := by unfold Zlg; rw [Zao]; rfl
@[simp] theorem ZsJ : Wp (Zo0 f ρ h) Q = Wp (f ρ h) fun x h1 => Wp (Zst x h1) Q := by unfold Zo0; rw [Zao]; rfl
@[simp] theorem ZtM : Wp (mIf t f g ρ h) Q = Wp (t ρ h) fun b h1 => Wp (if b = true then f ρ h1 else g ρ h1) Q := by unfold mIf; rw [Zao]
@[simp] theorem Zp8 : Wp (Zd8 op op' f g k ρ h) Q = Wp (f ρ h) fun x h1 => Wp (g ρ h1) fun y h2 => Wp (op x y h2) fun z h3 => Wp (Zp4 (fun h => (k ρ h).bind fun w h4 => op' y w h4) z h3) Q := by unfold Zd8; simp only [Zao]; rfl
@[simp] theorem Zq7 : Wp (ZoZ f ρ h) Q = Wp (f ρ h) fun x h1 => Wp (Zm3 x h1) Q := by unfold ZoZ; rw [Zao]
@[simp] theorem ZsK : Wp (Zm2 f g ρ h) Q = Wp (f ρ h) fun x h1 => Wp (Zdj x h1) fun x h1 => Wp (g ρ h1) fun y h2 => Wp (Zn8 x y h2) Q := by unfold Zm2; simp only [Zao]
@[simp] theorem Zq8 : Wp (ZbB ρ h) QB = QB true h := rfl
theorem ZaS {xs : List D} (hn : xs.length ≤ sizeLine) (q : ∀ l h', Sm h h' → h'[l]? = some (.lst xs) → l = h.length → h' = h ++ [.lst xs] → Q (.loc l) h') : Wp (Zhk xs h) Q := by
  unfold Zhk
  rw [if_pos hn]
  exact q h.length _ (.app _ _) (by simp) rfl rfl
end
section
variable {ρ : Rho} {h : HD} {QI : (List D × Src) → HD → Prop} {f : ME} {fa : MA}
@[simp] theorem Zq9 : Wp (Zco f ρ h) QI = Wp (f ρ h) fun d h1 => Wp (ZiH d h1) QI := by unfold Zco; rw [Zao]
@[simp] theorem Zp9 : Wp (Zcp fa ρ h) QI = Wp (fa ρ h) fun d h1 => Wp (ZiI d h1) QI := by unfold Zcp; rw [Zao]
@[simp] theorem Zqa : Wp (Zmi fa ρ h) QI = Wp (fa ρ h) fun d h1 => Wp (ZoW d h1) QI := by unfold Zmi; rw [Zao]
@[simp] theorem Zqb : Wp (Zmj fa ρ h) QI = Wp (fa ρ h) fun d h1 => Wp (ZoY d h1) QI := by unfold Zmj; rw [Zao]
theorem ZcE {n : Nat} (hn : n ≤ 1000) : ZiI [.int (n : Int)] h = .ok ((List.range n).map fun k => D.int ((k : Nat) : Int), []) h := by
  have : (-(2 ^ 62) : Int) ≤ (n : Int) ∧ (n : Int) < 2 ^ 62 := by omega
  unfold ZiI
  simp only
  rw [if_pos this]
  simp [ZmV]
end
theorem Zie {α : Type} {src : Src} {items : List D} {sg : MG} {t : MT} {f : ME} {ρc : Rho} (φ : α → D) (g : α → Bool) (e : α → D) (ρ1 : α → Rho) :
    ∀ (xs : List α) (h : HD), (∀ h', Sm h h' → Zbw src items h') → (∀ x ∈ xs, sg (φ x) ρc = some (ρ1 x)) → (∀ x ∈ xs, ∀ h', Sm h h' → Pu (t (ρ1 x) h') h' (g x)) → (∀ x ∈ xs, g x = true → ∀ h', Sm h h' → Pu (f (ρ1 x) h') h' (e x)) →
      Pu (ZdO src items sg t f ρc (xs.map φ) h) h ((xs.filter g).map e)
  | [], h, hs, _, _, _ => by
    simp only [List.map_nil, List.filter_nil, ZdO]
    rw [if_pos (hs h (.refl _))]
    exact .ok
  | x :: xs, h, hs, hg, ht, hf => by
    simp only [List.map_cons, ZdO]
    rw [if_pos (hs h (.refl _)), hg x List.mem_cons_self]
    simp only
    refine Pu.bind (ht x List.mem_cons_self h (.refl _)).noErr fun h1 s1 => ?_
    have ih : ∀ h2, Sm h h2 → Pu (ZdO src items sg t f ρc (xs.map φ) h2) h2 ((xs.filter g).map e) := fun h2 s2 => Zie φ g e ρ1 xs h2 (fun h' s' => hs h' (s2.trans s'))
      (fun y hy => hg y (List.mem_cons_of_mem _ hy)) (fun y hy h' s' => ht y (List.mem_cons_of_mem _ hy) h' (s2.trans s')) (fun y hy gy h' s' => hf y (List.mem_cons_of_mem _ hy) gy h' (s2.trans s'))
    cases hgx : g x with
    | false =>
      rw [if_neg Bool.false_ne_true, List.filter_cons_of_neg (by simp [hgx])]
      exact ih h1 s1
    | true =>
      rw [if_pos rfl, List.filter_cons_of_pos hgx]
      refine Pu.bind (hf x List.mem_cons_self hgx h1 s1).noErr fun h2 s2 => ?_
      exact Pu.bind (ih h2 (s1.trans s2)) fun h3 _ => .ok
theorem ZbE {α : Type} {xs : List α} : xs.filter (fun _ => true) = xs := List.filter_eq_self.mpr fun _ _ => rfl
section
variable {α : Type} {cs : List (Option Nat)} {it : MI} {sg : MG} {t : MT} {f : ME} {ρ : Rho} {h : HD} {src : Src} {xs : List α} {φ : α → D}
theorem ZdT {Q : D → HD → Prop} (g : α → Bool) (e : α → D) (ρ1 : α → Rho) (hi : Wp (it ρ h) fun x h' => x = (xs.map φ, src) ∧ Sm h h' ∧ ∀ h2, Sm h' h2 → Zbw src (xs.map φ) h2) (hn : xs.length ≤ sizeLine)
    (hg : ∀ x ∈ xs, sg (φ x) (ZfH cs ρ) = some (ρ1 x)) (ht : ∀ x ∈ xs, ∀ h', Sm h h' → Pu (t (ρ1 x) h') h' (g x)) (hf : ∀ x ∈ xs, g x = true → ∀ h', Sm h h' → Pu (f (ρ1 x) h') h' (e x))
    (q : ∀ l h', Sm h h' → h'[l]? = some (.lst ((xs.filter g).map e)) → Q (.loc l) h') : Wp (ZbC cs it sg t f ρ h) Q := by
  unfold ZbC
  rw [Zao]
  refine Wp.mono hi fun x h1 z4_ => ?_
  obtain ⟨ex, s1, hs⟩ := z4_
  subst ex
  rw [if_pos (by simpa using hn), Zao]
  refine (Zie φ g e ρ1 xs h1 hs hg (fun x hx h' s' => ht x hx h' (s1.trans s')) (fun x hx gx h' s' => hf x hx gx h' (s1.trans s'))).wp fun h2 s2 => ?_
  refine ZaS ?_ fun l h3 s3 e3 _ _ => q l h3 ((s1.trans s2).trans s3) e3
  rw [List.length_map]
  exact Nat.le_trans (List.length_filter_le _ _) hn
theorem Zls (g : α → Bool) (e : α → D) (ρ1 : α → Rho) (hi : Wp (it ρ h) fun x h' => x = (xs.map φ, src) ∧ Sm h h' ∧ ∀ h2, Sm h' h2 → Zbw src (xs.map φ) h2) (hn : xs.length ≤ sizeLine)
    (hg : ∀ x ∈ xs, sg (φ x) (ZfH cs ρ) = some (ρ1 x)) (ht : ∀ x ∈ xs, ∀ h', Sm h h' → Pu (t (ρ1 x) h') h' (g x)) (hf : ∀ x ∈ xs, g x = true → ∀ h', Sm h h' → Pu (f (ρ1 x) h') h' (e x)) :
    Pu (Zaf (ar1 Zbg) (Zab (ZbC cs it sg t f) Zal) ρ h) h (.tup ((xs.filter g).map e)) := by
  unfold Pu
  rw [ZdR, ZdS]
  refine ZdT g e ρ1 hi hn hg ht hf fun l h' s' e' => ?_
  rw [ZeW]
  simp only [ar1, Zbg, e']
  exact ⟨rfl, s'⟩
theorem ZjT (e : α → D) (ρ1 : α → Rho) (hi : Wp (it ρ h) fun x h' => x = (xs.map φ, src) ∧ Sm h h' ∧ ∀ h2, Sm h' h2 → Zbw src (xs.map φ) h2) (hn : xs.length ≤ sizeLine)
    (hg : ∀ x ∈ xs, sg (φ x) (ZfH cs ρ) = some (ρ1 x)) (hf : ∀ x ∈ xs, ∀ h', Sm h h' → Pu (f (ρ1 x) h') h' (e x)) :
    Pu (Zaf (ar1 Zbg) (Zab (ZbC cs it sg ZbB f) Zal) ρ h) h (.tup (xs.map e)) := by
  have := Zls (t := ZbB) (f := f) (fun _ => true) e ρ1 hi hn hg (fun x hx h' s' => (.ok : Pu (.ok true h') h' true)) (fun x hx _ h' s' => hf x hx h' s')
  rw [ZbE] at this
  exact this
theorem Zcr {β γ : Type} {f : β → Option γ} {g : β → γ} : ∀ {xs : List β}, (∀ x ∈ xs, f x = some (g x)) → Zay (xs.map f) = some (xs.map g)
  | [], _ => rfl
  | x :: xs, hf => by
    simp only [List.map_cons, hf x List.mem_cons_self, Zay, Zcr (fun y hy => hf y (List.mem_cons_of_mem _ hy)), Option.map_some]
theorem Zlt (b : α → Bool) (ρ1 : α → Rho) (hi : Wp (it ρ h) fun x h' => x = (xs.map φ, src) ∧ Sm h h' ∧ ∀ h2, Sm h' h2 → Zbw src (xs.map φ) h2) (hn : xs.length ≤ sizeLine)
    (hg : ∀ x ∈ xs, sg (φ x) (ZfH cs ρ) = some (ρ1 x)) (hf : ∀ x ∈ xs, ∀ h', Sm h h' → Pu (f (ρ1 x) h') h' (.bl (b x))) :
    Pu (Zaf (ar1 ZiK) (Zab (ZbC cs it sg ZbB f) Zal) ρ h) h (.bl (xs.all b)) := by
  unfold Pu
  rw [ZdR, ZdS]
  refine ZdT (fun _ => true) (fun x => .bl (b x)) ρ1 hi hn hg (fun x hx h' s' => (.ok : Pu (.ok true h') h' true)) (fun x hx _ h' s' => hf x hx h' s') fun l h' s' e' => ?_
  rw [ZeW]
  rw [ZbE] at e'
  simp only [ar1, ZiK, e', List.map_map]
  rw [Zcr (f := Zm1 ∘ fun x => D.bl (b x)) (g := b) (fun x _ => rfl)]
  refine ⟨?_, s'⟩
  simp [List.all_map]
end
def Zdp (I : Rho → HD → Prop) (Q : Fl × Rho → HD → Prop) : Fl × Rho → HD → Prop
  | (.nx, ρ), h => I ρ h
  | (.ct, ρ), h => I ρ h
  | (.bk, ρ), h => Q (.nx, ρ) h
  | (.rt d, ρ), h => Q (.rt d, ρ) h
theorem Zf3 {α : Type} {src : Src} {items : List D} {sg : MG} {body : MS} {Q : Fl × Rho → HD → Prop} (φ : α → D) (I : List α → Rho → HD → Prop) (ho : ∀ xs ρ h, I xs ρ h → Zbw src items h)
    (step : ∀ x xs ρ h, I (x :: xs) ρ h → ∃ ρ1, sg (φ x) ρ = some ρ1 ∧ Wp (body ρ1 h) (Zdp (I xs) Q)) (done : ∀ ρ h, I [] ρ h → Q (.nx, ρ) h) : ∀ (xs : List α) (ρ : Rho) (h : HD), I xs ρ h → Wp (Zfm src items sg body (xs.map φ) ρ h) Q
  | [], ρ, h, i => by
    simp only [List.map_nil, Zfm]
    rw [if_pos (ho _ _ _ i)]
    exact done ρ h i
  | x :: xs, ρ, h, i => by
    simp only [List.map_cons, Zfm]
    rw [if_pos (ho _ _ _ i)]
    obtain ⟨ρ1, e, w⟩ := step x xs ρ h i
    rw [e]
    simp only
    rw [Zao]
    refine Wp.mono w fun y h' k => ?_
    obtain ⟨fl, ρ2⟩ := y
    cases fl with
    | nx => exact Zf3 φ I ho step done xs ρ2 h' k
    | ct => exact Zf3 φ I ho step done xs ρ2 h' k
    | bk => exact k
    | rt d => exact k
theorem ZeX {α : Type} {src : Src} {it : MI} {sg : MG} {body : MS} {Q : Fl × Rho → HD → Prop} {ρ : Rho} {h : HD} {xs : List α} (φ : α → D) (I : List α → Rho → HD → Prop) (hi : Wp (it ρ h) fun x h' => x = (xs.map φ, src) ∧ I xs ρ h') (ho : ∀ ys ρ h, I ys ρ h → Zbw src (xs.map φ) h)
    (step : ∀ x xs ρ h, I (x :: xs) ρ h → ∃ ρ1, sg (φ x) ρ = some ρ1 ∧ Wp (body ρ1 h) (Zdp (I xs) Q)) (done : ∀ ρ h, I [] ρ h → Q (.nx, ρ) h) : Wp (Zf1 it sg body ρ h) Q := by
  unfold Zf1
  rw [Zao]
  refine Wp.mono hi fun x h1 z5_ => ?_
  obtain ⟨e, i⟩ := z5_
  subst e
  exact Zf3 φ I ho step done xs ρ h1 i
def Py (d : D) (p : PyData) : Prop := dPy [] 8 d = some p ∧ SeqAt.shaped p = true
end LS
namespace LS
open PySem PySem.Spec PyProof.Rows L2
@[simp] theorem sz0 : (0 ≤ sizeLine) = True := eq_true (Nat.zero_le _)
@[simp] theorem sz1 : (1 ≤ sizeLine) = True := eq_true (by unfold sizeLine; omega)
@[simp] theorem sz2 : (2 ≤ sizeLine) = True := eq_true (by unfold sizeLine; omega)
@[simp] theorem sz3 : (3 ≤ sizeLine) = True := eq_true (by unfold sizeLine; omega)
@[simp] theorem sz4 : (4 ≤ sizeLine) = True := eq_true (by unfold sizeLine; omega)
@[simp] theorem sz5 : (5 ≤ sizeLine) = True := eq_true (by unfold sizeLine; omega)
section
variable {h : HD} {a b c : D} {ds es : List D} {i j : Int} {F1 : D → HD → Out D} {F2 : D → D → HD → Out D} {F3 : D → D → D → HD → Out D}
@[simp] theorem Zo1 : ar1 F1 [a] h = F1 a h := rfl
@[simp] theorem ZsL : ar2 F2 [a, b] h = F2 a b h := rfl
@[simp] theorem ZsM : ar3 F3 [a, b, c] h = F3 a b c h := rfl
@[simp] theorem ZsN {b : Bool} : asB (.bl b) h = .ok b h := rfl
@[simp] theorem ZsO {b : Bool} : Zk0 (.bl b) h = .ok b h := rfl
@[simp] theorem Zra : Zk0 .non h = .ok false h := rfl
@[simp] theorem Zrb : Zk0 (.int i) h = .ok (i != 0) h := rfl
@[simp] theorem Zrc : Zk0 (.tup ds) h = .ok (!ds.isEmpty) h := rfl
@[simp] theorem Zrd : Zcd (.int i) (.ty "int") h = .ok (.bl true) h := rfl
@[simp] theorem Zre : Zcd (.int i) (.ty "bool") h = .ok (.bl false) h := rfl
@[simp] theorem Zrf : Zcd (.int i) (.ty "tuple") h = .ok (.bl false) h := rfl
@[simp] theorem Zrg : Zcd (.tup ds) (.ty "tuple") h = .ok (.bl true) h := rfl
@[simp] theorem Zrh : Zcd (.tup ds) (.ty "int") h = .ok (.bl false) h := rfl
@[simp] theorem ZsP : ZbD (.int i) (.int j) h = .ok (.int (i + j)) h := rfl
@[simp] theorem Zm6 {f : Int → Int → D} : ZgH f (.int i) (.int j) h = .ok (f i j) h := rfl
@[simp] theorem ZtN {b c : Bool} : isD (.bl b) (.bl c) h = .ok (.bl (b == c)) h := rfl
@[simp] theorem Zqc {b c : Bool} : ZeJ (.bl b) (.bl c) h = .ok (.bl (!(b == c))) h := rfl
@[simp] theorem Zri : Zcl (.tup ds) h = .ok (.int ds.length) h := rfl
@[simp] theorem Zrj {ns : List Int} : Zcl (.scr ns) h = .ok (.int ns.length) h := by simp [Zcl, Zbl]
@[simp] theorem Zqd : ZiH (.tup ds) h = .ok (ds, []) h := rfl
@[simp] theorem Zo2 : Zbg (.tup ds) h = .ok (.tup ds) h := rfl
@[simp] theorem Zrk : Zm3 (.tup [a, b]) h = .ok (.tup [b, a]) h := rfl
@[simp] theorem ZsQ : Zmg (.int i) (.int j) h = .ok (.int (if j > i then j else i)) h := rfl
@[simp] theorem ZsR : ZoS (.int i) (.int j) h = .ok (.int (if j < i then j else i)) h := rfl
@[simp] theorem Zlu {b : Bool} : ZeN (.bl b) h = .ok (.int (if b then 1 else 0)) h := rfl
@[simp] theorem Zo3 : ZeN (.int i) h = .ok (.int i) h := rfl
@[simp] theorem Zqe {ρ : Rho} {k : Nat} : Zbq k a ρ = some (ρ.set k (some a)) := rfl
@[simp] theorem Zqf {ρ : Rho} {k l : Nat} : Zdi k l (.tup [a, b]) ρ = some ((ρ.set k (some a)).set l (some b)) := rfl
@[simp] theorem ZtO {b c : Bool} : eqD (.bl b) (.bl c) h = .ok (.bl (b == c)) h := rfl
@[simp] theorem ZtP {b c : Bool} : neD (.bl b) (.bl c) h = .ok (.bl (!(b == c))) h := rfl
@[simp] theorem ZtQ : eqD (.int i) (.int j) h = .ok (.bl (i == j)) h := rfl
@[simp] theorem ZtR : neD (.int i) (.int j) h = .ok (.bl (!(i == j))) h := rfl
theorem ZjU {l : Nat} (e : h[l]? = some (.lst ds)) : Zbg (.loc l) h = .ok (.tup ds) h := by simp only [Zbg, e]
theorem ZeY {l : Nat} (e : h[l]? = some (.lst ds)) : Zdj (.loc l) h = .ok (.loc l) h := by simp only [Zdj, e]
theorem Zm7 {l : Nat} (e : h[l]? = some (.lst ds)) (hn : ds.length < sizeLine) : Zn8 (.loc l) a h = .ok .non (h.set l (.lst (ds ++ [a]))) := by simp only [Zn8, e]; rw [if_pos hn]
theorem ix_tup {k : Nat} (e : ds[k]? = some a) : ixD (.tup ds) (.int (k : Nat)) h = .ok a h := by
  have hk : k < ds.length := (List.getElem?_eq_some_iff.mp e).1
  have e1 : atI ds ((k : Nat) : Int) = some a := by
    unfold atI ixN
    rw [if_pos (by omega), if_pos (by omega)]
    simpa using e
  simp only [ixD, Zbl, e1]
theorem ZjV {n k : Nat} {e : Nat → D} (hk : k < n) : ixD (.tup ((List.range n).map e)) (.int (k : Nat)) h = .ok (e k) h := ix_tup (by simp [List.getElem?_range, hk])
theorem Zhv {n : Nat} {e : Nat → D} (hk : 0 < n) : ixD (.tup ((List.range n).map e)) (.int 0) h = .ok (e 0) h := ZjV (k := 0) hk
@[simp] theorem Zqg : ixD (.tup [a, b]) (.int 0) h = .ok a h := rfl
@[simp] theorem Zqh : ixD (.tup [a, b]) (.int 1) h = .ok b h := rfl
theorem Zmk {ns : List Int} {k : Nat} (e : ns[k]? = some i) : ixD (.scr ns) (.int (k : Nat)) h = .ok (.int i) h := by
  have hk : k < ns.length := (List.getElem?_eq_some_iff.mp e).1
  have e1 : atI (ns.map D.int) ((k : Nat) : Int) = some (.int i) := by
    unfold atI ixN
    rw [if_pos (by omega), if_pos (by simpa using hk)]
    simp [e]
  simp only [ixD, Zbl, e1]
theorem ZdF {l k : Nat} (el : h[l]? = some (.lst ds)) (e : ds[k]? = some a) : ixD (.loc l) (.int (k : Nat)) h = .ok a h := by
  have hk : k < ds.length := (List.getElem?_eq_some_iff.mp e).1
  have e1 : atI ds ((k : Nat) : Int) = some a := by
    unfold atI ixN
    rw [if_pos (by omega), if_pos (by omega)]
    simpa using e
  simp only [ixD, Zbl, el, e1]
theorem ZjW {l k : Nat} {ρ : Rho} (el : h[l]? = some (.lst ds)) (hk : k < ds.length) : Zn9 (.loc l) (.int (k : Nat)) a h (.ok (.nx, ρ) h) = .ok (.nx, ρ) (h.set l (.lst (ds.set k a))) := by
  have : ixN ds.length ((k : Nat) : Int) = some k := by
    unfold ixN
    rw [if_pos (by omega), if_pos (by omega)]
    simp
  simp only [Zn9, el, this]
theorem Zm8 {neg : Bool} {k : Nat} {ks : List Nat} : inD neg (.int (k : Nat)) (.tup (ks.map fun i => .int ((i : Nat) : Int))) h = .ok (.bl (if neg then !ks.contains k else ks.contains k)) h := by
  have e : Zay ((ks.map fun i => D.int ((i : Nat) : Int)).map Zc9) = some (ks.map fun i => V.int ((i : Nat) : Int)) := by
    rw [List.map_map]
    exact Zcr (f := Zc9 ∘ fun i => D.int ((i : Nat) : Int)) (fun x _ => rfl)
  have e2 : inV (V.int ((k : Nat) : Int)) (ks.map fun i => V.int ((i : Nat) : Int)) = ks.contains k := by
    unfold inV
    rw [List.any_map, List.contains_eq_any_beq]
    congr 1
    funext i
    change (((i : Nat) : Int) == ((k : Nat) : Int)) = _
    rw [Bool.eq_iff_iff]
    simp
    omega
  simp only [inD, Zbl, e, Zc9, e2]
end
noncomputable def Zqi (cs : List (Option Nat)) (it : MI) (sg : MG) (t : MT) (f : ME) : ME := Zaf (ar1 Zbg) (Zab (ZbC cs it sg t f) Zal)
noncomputable def ZsS (cs : List (Option Nat)) (it : MI) (sg : MG) (t : MT) (f : ME) : ME := Zaf (ar1 ZiK) (Zab (ZbC cs it sg t f) Zal)
section
variable {α : Type} {cs : List (Option Nat)} {it : MI} {sg : MG} {t : MT} {f : ME} {ρ : Rho} {h : HD} {src : Src} {xs : List α} {φ : α → D}
@[simp] theorem Zo4 : Zaf (ar1 Zbg) (Zab (ZbC cs it sg t f) Zal) ρ h = Zqi cs it sg t f ρ h := rfl
@[simp] theorem Zo5 : Zaf (ar1 ZiK) (Zab (ZbC cs it sg t f) Zal) ρ h = ZsS cs it sg t f ρ h := rfl
def It0 (o : Out (List D × Src)) (h : HD) (ds : List D) (src : Src) : Prop := Wp o fun x h' => x = (ds, src) ∧ Sm h h' ∧ ∀ h2, Sm h' h2 → Zbw src ds h2
theorem Zf4 (e : α → D) (ρ1 : α → Rho) (hi : It0 (it ρ h) h (xs.map φ) src) (hg : ∀ x ∈ xs, sg (φ x) (ZfH cs ρ) = some (ρ1 x)) (hf : ∀ x ∈ xs, ∀ h', Sm h h' → Pu (f (ρ1 x) h') h' (e x)) (hn : xs.length ≤ sizeLine) :
    Pu (Zqi cs it sg ZbB f ρ h) h (.tup (xs.map e)) := ZjT e ρ1 hi hn hg hf
theorem ZjX (b : α → Bool) (ρ1 : α → Rho) (hi : It0 (it ρ h) h (xs.map φ) src) (hg : ∀ x ∈ xs, sg (φ x) (ZfH cs ρ) = some (ρ1 x)) (hf : ∀ x ∈ xs, ∀ h', Sm h h' → Pu (f (ρ1 x) h') h' (.bl (b x))) (hn : xs.length ≤ sizeLine) :
    Pu (ZsS cs it sg ZbB f ρ h) h (.bl (xs.all b)) := Zlt b ρ1 hi hn hg hf
theorem Zhw {ds : List D} : It0 (Zco (Zag 0) (some (.tup ds) :: ρ) h) h ds [] := by
  simp [It0, Sm.refl, Zbw]
end
end LS
namespace LS
open PySem PySem.Spec PyProof.Rows L2
section
variable {h : HD} {i j : Int}
theorem Zlv (h1 : -18446744073709551616 < j) (h2 : j < 18446744073709551616) : ZdQ (.int i) (.int j) h = .ok (.int (i * j)) h := by
  have : CMl i j := .inl (.inr ⟨by omega, by omega⟩)
  simp only [ZdQ]; rw [if_pos this]
theorem ZgO (h1 : -18446744073709551616 < i) (h2 : i < 18446744073709551616) : ZdQ (.int i) (.int j) h = .ok (.int (i * j)) h := by
  have : CMl i j := .inl (.inl ⟨by omega, by omega⟩)
  simp only [ZdQ]; rw [if_pos this]
theorem Zrl (h1 : Builtin.Int.intBits i ≤ 16777216) (h2 : Builtin.Int.intBits j ≤ 16777216) : ZdQ (.int i) (.int j) h = .ok (.int (i * j)) h := by
  have : CMl i j := .inr ⟨h1, h2⟩
  simp only [ZdQ]; rw [if_pos this]
theorem ZiM (h1 : 0 < j) : ZjH (.int i) (.int j) h = .ok (.int (i % j)) h := by
  simp only [ZjH, intD]; rw [if_pos h1]
theorem Zo6 (h1 : 0 < j) (h2 : j < 18446744073709551616) : Zia (.int i) (.int j) h = .ok (.int (i / j)) h := by
  have : CDv i j := ⟨h1, h2⟩
  simp only [Zia, intD]; rw [if_pos this]
theorem Zif (h1 : 0 < j) (h2 : j < 18446744073709551616) : ZeM (.int i) (.int j) h = .ok (.tup [.int (i / j), .int (i % j)]) h := by
  have : CDv i j := ⟨h1, h2⟩
  simp only [ZeM]; rw [if_pos this]
end
theorem Zig {α : Type} {o : Out α} {Q : α → HD → Prop} : Wp (noErr o) Q = Wp o Q := by cases o <;> rfl
theorem Zih {src : Src} {items : List D} {sg : MG} {t : MT} {f : ME} {ρc : Rho} (φ : Nat → D) (I : HD → Prop) (T : Nat → Bool → Prop) (R : Nat → D → Prop) (ρ1 : Nat → Rho) (hs : ∀ h, I h → Zbw src items h) :
    ∀ (xs : List Nat) (h : HD), xs.Nodup → I h → (∀ x ∈ xs, sg (φ x) ρc = some (ρ1 x)) → (∀ x ∈ xs, ∀ h, I h → Wp (t (ρ1 x) h) fun b h1 => T x b ∧ if b = true then Wp (f (ρ1 x) h1) (fun y h2 => I h2 ∧ R x y) else I h1) →
      Wp (ZdO src items sg t f ρc (xs.map φ) h) fun ys h' => I h' ∧ ∃ (g : Nat → Bool) (e : Nat → D), ys = (xs.filter g).map e ∧ (∀ x ∈ xs, g x = true → R x (e x)) ∧ ∀ x ∈ xs, T x (g x)
  | [], h, _, i, _, _ => by
    simp only [List.map_nil, ZdO]
    rw [if_pos (hs h i)]
    exact ⟨i, fun _ => true, fun _ => .non, rfl, by simp, by simp⟩
  | x :: xs, h, hd, i, hg, ht => by
    simp only [List.map_cons, ZdO]
    rw [if_pos (hs h i), hg x List.mem_cons_self]
    simp only
    rw [Zao, Zig]
    rw [List.nodup_cons] at hd
    refine Wp.mono (ht x List.mem_cons_self h i) fun b h1 z1_ => ?_
    obtain ⟨tb, w⟩ := z1_
    have ih : ∀ h2, I h2 → _ := fun h2 i2 => Zih φ I T R ρ1 hs xs h2 hd.2 i2 (fun y hy => hg y (List.mem_cons_of_mem _ hy)) (fun y hy => ht y (List.mem_cons_of_mem _ hy))
    cases b with
    | false =>
      rw [if_neg Bool.false_ne_true] at w ⊢
      refine Wp.mono (ih h1 w) ?_
      rintro ys h' ⟨i', g, e, ey, hr, tr⟩
      refine ⟨i', fun y => if y = x then false else g y, e, ?_, ?_, ?_⟩
      · rw [List.filter_cons_of_neg (by simp), ey]
        congr 1
        refine List.filter_congr fun y hy => ?_
        rw [if_neg]
        intro z; subst z; exact hd.1 hy
      · intro y hy gy
        rcases List.mem_cons.mp hy with z | z
        · subst z; simp at gy
        · refine hr y z ?_
          by_cases hz : y = x
          · subst hz; exact absurd z hd.1
          · simpa [hz] using gy
      · intro y hy
        by_cases hz : y = x
        · subst hz; simpa using tb
        · simp only [if_neg hz]
          exact tr y (by rcases List.mem_cons.mp hy with z | z; exact absurd z hz; exact z)
    | true =>
      rw [if_pos rfl] at w ⊢
      rw [Zao, Zig]
      refine Wp.mono w fun y h2 z3_ => ?_
      obtain ⟨i2, ry⟩ := z3_
      rw [Zao]
      refine Wp.mono (ih h2 i2) ?_
      rintro ys h' ⟨i', g, e, ey, hr, tr⟩
      refine ⟨i', fun z => if z = x then true else g z, fun z => if z = x then y else e z, ?_, ?_, ?_⟩
      · rw [List.filter_cons_of_pos (by simp), List.map_cons, if_pos rfl, ey]
        congr 1
        rw [show xs.filter (fun z => if z = x then true else g z) = xs.filter g from List.filter_congr fun z hz => by
          rw [if_neg]
          intro q; subst q; exact hd.1 hz]
        refine List.map_congr_left fun z hz => ?_
        rw [if_neg]
        intro q; subst q; exact hd.1 (List.mem_filter.mp hz).1
      · intro z hz gz
        by_cases q : z = x
        · subst q; simpa using ry
        · rcases List.mem_cons.mp hz with w | w
          · exact absurd w q
          · simp only [if_neg q] at gz ⊢
            exact hr z w gz
      · intro z hz
        by_cases q : z = x
        · subst q; simpa using tb
        · simp only [if_neg q]
          exact tr z (by rcases List.mem_cons.mp hz with w | w; exact absurd w q; exact w)
theorem ZgP {cs : List (Option Nat)} {it : MI} {sg : MG} {t : MT} {f : ME} {ρ : Rho} {h : HD} {src : Src} {xs : List Nat} {Q : D → HD → Prop} (φ : Nat → D) (I : HD → Prop) (T : Nat → Bool → Prop) (R : Nat → D → Prop) (ρ1 : Nat → Rho) (hi : Wp (it ρ h) fun x h' => x = (xs.map φ, src) ∧ I h') (hs : ∀ h, I h → Zbw src (xs.map φ) h)
    (hnew : ∀ h c, I h → I (h ++ [c])) (hd : xs.Nodup) (hn : xs.length ≤ sizeLine) (hg : ∀ x ∈ xs, sg (φ x) (ZfH cs ρ) = some (ρ1 x)) (ht : ∀ x ∈ xs, ∀ h, I h → Wp (t (ρ1 x) h) fun b h1 => T x b ∧ if b = true then Wp (f (ρ1 x) h1) (fun y h2 => I h2 ∧ R x y) else I h1)
    (q : ∀ h' (g : Nat → Bool) (e : Nat → D), I h' → (∀ x ∈ xs, g x = true → R x (e x)) → (∀ x ∈ xs, T x (g x)) → Q (.tup ((xs.filter g).map e)) h') : Wp (Zqi cs it sg t f ρ h) Q := by
  unfold Zqi
  rw [ZdR, ZdS]
  unfold ZbC
  rw [Zao]
  refine Wp.mono hi fun x h1 z5_ => ?_
  obtain ⟨ex, i1⟩ := z5_
  subst ex
  rw [if_pos (by simpa using hn), Zao]
  refine Wp.mono (Zih φ I T R ρ1 hs xs h1 hd i1 hg ht) fun ys h2 z6_ => ?_
  obtain ⟨i2, g, e, ey, hr, tr⟩ := z6_
  subst ey
  refine ZaS ?_ fun l h3 s3 e3 _ eh => ?_
  · rw [List.length_map]
    exact Nat.le_trans (List.length_filter_le _ _) hn
  · rw [ZeW]
    simp only [ar1, Zbg, e3]
    refine q h3 g e ?_ hr tr
    rw [eh]
    exact hnew _ _ i2
structure PyN (n : Nat) (d : D) (p : PyData) : Prop where
  rd : ∀ k, n ≤ k → dPy [] k d = some p
  ly : p.canLay0 = true
  dp : p.depth ≤ n
theorem PyN.py {n : Nat} {d : D} {p : PyData} (h : PyN n d p) (hn : n ≤ 8) : Py d p := ⟨h.rd 8 hn, by
  unfold SeqAt.shaped
  rw [h.ly]
  have := h.dp
  simp
  omega⟩
end LS
namespace LS
open PySem PySem.Spec PyProof.Rows L2
open Classical in
noncomputable def blank (p : Addr → Prop) (h : Heap) : Heap := ⟨h.objs.mapIdx fun i o => if p i then { o with data := .freed } else o, h.life⟩
theorem Zb0 {p : Addr → Prop} {h : Heap} {b : Addr} (hp : p b) : (blank p h).get? b = none := by
  unfold blank Heap.get?
  simp only [Array.getElem?_mapIdx]
  cases e : h.objs[b]? with
  | none => rfl
  | some o => simp [hp]
theorem Zb1 {p : Addr → Prop} {h : Heap} {b : Addr} (hp : ¬ p b) : (blank p h).get? b = h.get? b := by
  unfold blank Heap.get?
  simp only [Array.getElem?_mapIdx]
  cases e : h.objs[b]? with
  | none => rfl
  | some o => simp [hp]
theorem Zdq {p : Addr → Prop} {h : Heap} : (blank p h).StaysIn h := fun b o e => by
  by_cases hp : p b
  · rw [Zb0 hp] at e; cases e
  · rw [Zb1 hp] at e; exact e
inductive Fly (h0 h : Heap) (H : Hp) (a : Addr) (C : Value) : Prop where
  | mk (new : h0.get? a = none) (no : H a = none) (oe : Obj) (vs : Array Value) (a0 : Value) (T : Addr) (oT : Obj) (ts : Array Value) (e1 : h.get? a = some oe) (e2 : oe.cls = C ∧ vs[0]? = some a0) (e3 : oe.data = .fields vs) (e4 : vs[1]? = some (.ref T)) (e5 : h0.get? T = none) (e6 : H T = none) (e7 : T ≠ a) (e8 : h.get? T = some oT) (e9 : oT.data = .fields ts) (e10 : ts[3]? = some .none) : Fly h0 h H a C
abbrev Zml (n : Str) : Value := .str n 0
inductive CXE (P : Program) (w : World) (K : PySem.W.Frag) (outer : List Env) (H : Hp) (s : Shared) (E : XK) (e : Value) (s' : Shared) : Prop where
  | mk (a C : Addr) (n : Str) (H' : Hp) (ee : e = .ref a) (os : s'.os = s.os) (bare : AllBare s'.gens) (un : Un (frs outer) [] H H' s.heap s'.heap) (hok : HOk P w H' s'.heap) (fly : Fly s.heap s'.heap H' a (.ref C)) (nm : PySem.W.nsIn K mainGlobals n = some (some (.ref C))) (q : E (Zml n) none H') : CXE P w K outer H s E e s'
theorem Zcy {h base : Heap} {p : Addr → Prop} : ∀ {l : List Env}, h.FunFrames base l → (∀ b ∈ frs l, p b) → h.FunFrames (blank p h) l
  | [], _, _ => trivial
  | env :: rest, ⟨k, ⟨L, o, hf, _, ho, hd⟩, r⟩, hp => ⟨k, ⟨L, o, hf, Zb0 (hp L (by unfold frs; rw [List.filterMap_cons, hf]; exact List.mem_cons_self)), ho, hd⟩,
    Zcy r fun b hb => hp b (by
      unfold frs at hb ⊢
      rw [List.filterMap_cons, hf]
      exact List.mem_cons_of_mem _ hb)⟩
theorem ZjY {P : Program} {w : World} {H : Hp} {h : Heap} {a : Addr} {o : HO} (x : ObjOk P w H h a o) : ∃ ob, h.get? a = some ob := by
  cases o with
  | lst xs => obtain ⟨_, _, _, _, e⟩ := x; exact ⟨_, e⟩
  | tup xs => obtain ⟨_, _, _, ⟨_, e, _⟩, _⟩ := x; exact ⟨_, e⟩
  | own y => exact x
  | xd fs => obtain ⟨_, ⟨_, _, _, e, _⟩, _⟩ := x; exact ⟨_, e⟩
  | frz ob u => obtain ⟨e, _⟩ := x; exact ⟨_, e⟩
  | tbl ps => exact ⟨_, x⟩
  | ext φ => exact x.2.1
structure Lv (X : Cx) (E : XK) : Prop where
  xe : ∀ e s', wpAny (model X.prog X.w) X.A (leaving X.env e) (fun _ s'' => CXE X.prog X.w X.K X.outer X.H₀ X.s₀ E e s'') (fun e' s'' => CXE X.prog X.w X.K X.outer X.H₀ X.s₀ E e' s'') s' → X.xe e s'
  stk : X.stack = X.env :: X.outer
  fr : X.env.frame = some X.env.locals
  ex : X.ex = []
theorem lvE {P : Program} {w : World} {K : PySem.W.Frag} {mg : Str → Option Value} {base : Heap} {N : List Str} {qual : Str} {scope : Scope} {f : Addr} {cd : Value} {A : Around} {outer : List Env} {s : Shared} {H : Hp} {E : XK} : Lv (Zcj (CXE P w K) P w K mg base N qual scope f cd A outer s H E) E :=
  ⟨fun _ _ h => h, rfl, rfl, rfl⟩
section
variable {X : Cx} {E : XK}
theorem Lv.frs (lv : Lv X E) : L2.frs X.stack = X.env.locals :: X.fs := by
  rw [lv.stk]; unfold L2.frs; rw [List.filterMap_cons, lv.fr]; rfl
theorem Zii {pins : List (Addr × Obj)} {σ : L2.St} {H' : Hp} {s' : Shared} {h' : Heap} {a T : Addr} {C : Value} (lv : Lv X E)
    (I : Inv X pins σ H' s')
    (na : X.s₀.heap.get? a = none) (nT : X.s₀.heap.get? T = none) (ha : H' a = none) (hT : H' T = none) {a0 : Value}
    (L : Heap.LeftW (blank (fun b => b = a ∨ b = T ∨ b ∈ frs X.stack) s'.heap) X.stack a C a0 s'.heap h') :
    Un X.fs [] X.H₀ H' X.s₀.heap h' ∧ HOk X.prog X.w H' h' ∧ Fly X.s₀.heap h' H' a C := by
  obtain ⟨stay, ff, ⟨oe, vs, T2, oT, ts, e1, e2, e3, e4, e5, e6, e7, e8, e9⟩, ups⟩ := L
  have B : Un X.fs [] X.H₀ H' X.s₀.heap s'.heap := by have := I.base; rw [lv.ex] at this; exact this
  have stk := I.stack
  have frNone : ∀ b ∈ frs X.stack, H' b = none := fun b hb => I.stkFree b hb
  have keepOf : ∀ b o, ¬ (b = a ∨ b = T ∨ b ∈ frs X.stack) → s'.heap.get? b = some o → h'.get? b = some o := fun b o hb e => stay b o (by rw [Zb1 hb]; exact e)
  have notL : ∀ b o, X.s₀.heap.get? b = some o → b ∉ X.fs → b ∉ frs X.stack := fun b o e hb z => by
    rw [lv.frs] at z
    rcases List.mem_cons.mp z with z | z
    · have := Heap.lt_size e
      rw [z] at this
      exact absurd (Nat.lt_of_lt_of_le this I.ok.above) (Nat.lt_irrefl _)
    · exact hb z
  have old : ∀ b o, X.s₀.heap.get? b = some o → b ≠ a ∧ b ≠ T := fun b o e => ⟨fun z => (by rw [z, na] at e; cases e), fun z => (by rw [z, nT] at e; cases e)⟩
  have noFields : ∀ b, b ∈ frs X.stack → ∃ o, s'.heap.get? b = some o ∧ ∀ vs, o.data ≠ .fields vs := fun b hb => (stk.mem hb).2
  have any : ∀ b o, X.s₀.heap.get? b = some o → s'.heap.get? b ≠ none → ∃ o', h'.get? b = some o' := fun b o e hn => by
    cases e' : s'.heap.get? b with
    | none => exact absurd e' hn
    | some o' =>
      by_cases hb : b ∈ frs X.stack
      · obtain ⟨o2, h2, d2⟩ := noFields b hb
        obtain ⟨sl, h3⟩ := ups b o2 h2 d2
        exact ⟨_, h3⟩
      · exact ⟨o', keepOf b o' (fun z => by rcases z with z | z | z; exact (old b o e).1 z; exact (old b o e).2 z; exact hb z) e'⟩
  refine ⟨⟨fun b o e n hb hx => ?_, fun b o e n hb hx => ?_, B.free, fun b o e hx => ?_, B.tups, B.frzs, B.tbls⟩, fun b o e => ?_, na, ha, oe, vs, a0, T2, oT, ts, e1, e2, e3, e4, ?_, ?_, e6, e7, e8, e9⟩
  · exact keepOf b o (fun z => by rcases z with z | z | z; exact (old b o e).1 z; exact (old b o e).2 z; exact notL b o e hb z) (B.keep b o e n hb hx)
  · obtain ⟨sl, h1⟩ := B.slot b o e n hb hx
    have hb' : b ∈ frs X.stack := by rw [lv.frs]; exact List.mem_cons_of_mem _ hb
    obtain ⟨o2, h2, d2⟩ := noFields b hb'
    rw [h1] at h2
    cases h2
    obtain ⟨sl2, h3⟩ := ups b _ h1 d2
    exact ⟨sl2, h3⟩
  · obtain ⟨o', h1⟩ := B.there b o e hx
    exact any b o e (by rw [h1]; simp)
  · refine (I.hok b o e).stay (fun c u hc q => keepOf c u (fun z => ?_) q) (fun _ q => q) fun _ _ q => q
    have hc' : H' c ≠ none := by
      rcases hc with rfl | hc
      · rw [e]; simp
      · rw [hc]; simp
    rcases z with z | z | z
    · exact hc' (z ▸ ha)
    · exact hc' (z ▸ hT)
    · exact hc' (frNone c z)
  · cases q : X.s₀.heap.get? T2 with
    | none => rfl
    | some o =>
      exfalso
      obtain ⟨o', h1⟩ := B.there T2 o q (by simp)
      by_cases hb : T2 ∈ frs X.stack
      · obtain ⟨o2, h2, d2⟩ := noFields T2 hb
        obtain ⟨sl, h3⟩ := ups T2 o2 h2 d2
        rw [h3] at e7
        cases e7
        exact d2 _ e8
      · rw [Zb1 (fun z => by rcases z with z | z | z; exact (old T2 o q).1 z; exact (old T2 o q).2 z; exact hb z), h1] at e5
        cases e5
  · cases q : H' T2 with
    | none => rfl
    | some o =>
      exfalso
      by_cases hb : T2 = a ∨ T2 = T ∨ T2 ∈ frs X.stack
      · rcases hb with z | z | z
        · rw [z, ha] at q; cases q
        · rw [z, hT] at q; cases q
        · rw [frNone T2 z] at q; cases q
      · rw [Zb1 hb] at e5
        obtain ⟨ob, eb⟩ := ZjY (I.hok T2 o q)
        rw [eb] at e5
        cases e5
theorem Lv.older (lv : Lv X E) {pins : List (Addr × Obj)} {σ : L2.St} {H1 : Hp} {s1 : Shared} (I : Inv X pins σ H1 s1) : ∀ b, s1.heap.get? b = none → X.s₀.heap.get? b = none := fun b hb => by
  cases q : X.s₀.heap.get? b with
  | none => rfl
  | some o =>
    obtain ⟨o', h1⟩ := I.base.there b o q (by rw [lv.ex]; simp)
    rw [hb] at h1; cases h1
theorem Zm9 (lv : Lv X E) : ZeC (CXE X.prog X.w X.K) X E := by
  rintro pins σ H1 s1 e s' I ⟨a, C, n, H', ee, os, bare, un, hok, fly, nm, q⟩
  subst ee
  have I' : Inv X pins σ H' s' := I.call' os un hok bare (fun b hb => absurd hb (by simp))
  obtain ⟨fnew, fno, oe, vs, a0, T, oT, ts, e1, e2, e3, e4, e5, e6, e7, e8, e9, e10⟩ := fly
  have fro : X.A.frames = some (X.env :: X.outer) := by rw [← lv.stk]; exact I'.ok.frames
  have stk : s'.heap.FunFrames X.base (X.env :: X.outer) := by have := I'.stack; rw [lv.stk] at this; exact this
  refine lv.xe _ _ (wpAny_leaving_nextW (base := blank (fun b => b = a ∨ b = T ∨ b ∈ frs X.stack) s'.heap) (cls := .ref C) (a0 := a0) fro (Zcy stk fun b hb => .inr (.inr (by rw [lv.stk]; exact hb))) lv.fr
    ⟨oe, vs, T, oT, ts, e1, e2, e3, e4, Zb0 (.inr (.inl rfl)), e7, e8, e9, e10⟩ Zdq (Zb0 (.inl rfl)) fun h' L => ?_)
  obtain ⟨u1, u2, u3⟩ := Zii lv I' (lv.older I a fnew) (lv.older I T e5) fno e6 (by rw [lv.stk] at *; exact L)
  exact ⟨a, C, n, H', rfl, I'.os, bare, u1, u2, u3, nm, q⟩
theorem Zrm (lv : Lv X E) {pins : List (Addr × Obj)} {σ : L2.St} {H1 : Hp} {s1 : Shared} {h' : Heap} {a C : Addr} {n : Str} {vs : List Value} (I : Inv X pins σ H1 s1)
    (m : Heap.MadeExcOf s1.heap h' a (.ref C) vs) (nm : PySem.W.nsIn X.K mainGlobals n = some (some (.ref C))) (q : E (Zml n) none H1) : X.xe (.ref a) { s1 with heap := h' } := by
  have I' : Inv X pins σ H1 { s1 with heap := h' } := I.kept m.keeps
  obtain ⟨t, e1, e2, e3⟩ := m.there
  have fresh : H1 a = none := by
    cases q : H1 a with
    | none => rfl
    | some o =>
      obtain ⟨ob, eb⟩ := ZjY (I.hok a o q)
      rw [m.new] at eb; cases eb
  have fro : X.A.frames = some (X.env :: X.outer) := by rw [← lv.stk]; exact I'.ok.frames
  have stk : h'.FunFrames X.base (X.env :: X.outer) := by have := I'.stack; rw [lv.stk] at this; exact this
  refine lv.xe _ _ (wpAny_leaving_firstW (base := blank (fun b => b = a ∨ b = a ∨ b ∈ frs X.stack) h') (a0 := .ref t) fro (Zcy stk fun b hb => .inr (.inr (by rw [lv.stk]; exact hb))) lv.fr
    e1 Zdq (Zb0 (.inl rfl)) rfl rfl rfl fun h2 L => ?_)
  obtain ⟨u1, u2, u3⟩ := Zii lv I' (lv.older I a m.new) (lv.older I a m.new) fresh fresh (by rw [lv.stk] at *; exact L)
  exact ⟨a, C, n, H1, rfl, I'.os, I'.bare, u1, u2, u3, nm, q⟩
end
section
variable {P : Program} {w : World} {K : PySem.W.Frag} {mg : Str → Option Value} {base : Heap} {N : List Str} {qual : Str} {scope : Scope} {f : Addr} {cd : Value} {A : Around} {outer : List Env} {s : Shared} {H : Hp} {E : XK}
theorem Za1 : ZeC (CXE P w K) (Zcj (CXE P w K) P w K mg base N qual scope f cd A outer s H E) E := Zm9 lvE
theorem Zrn {pins : List (Addr × Obj)} {σ : L2.St} {H1 : Hp} {s1 : Shared} {h' : Heap} {a C : Addr} {n : Str} {vs : List Value} (I : Inv (Zcj (CXE P w K) P w K mg base N qual scope f cd A outer s H E) pins σ H1 s1)
    (m : Heap.MadeExcOf s1.heap h' a (.ref C) vs) (nm : PySem.W.nsIn K mainGlobals n = some (some (.ref C))) (q : E (Zml n) none H1) : (Zcj (CXE P w K) P w K mg base N qual scope f cd A outer s H E).xe (.ref a) { s1 with heap := h' } := Zrm lvE I m nm q
end
end LS
namespace LS
open PySem PySem.Spec PyProof.Rows L2
inductive Zo7 (h : Heap) (C : Addr) (bmB : List Value) (newId : String) : Prop where
  | mk (bm : List Value) (N : Addr) (nm q : Str) (bs : List Value) (hdct : Bool) (sn : List Str) (sub : List Value) (ab : Bool) (col : Option Bool) (dd : Option Addr) (k0 k1 k2 k3 k5 : Option Value) (mN : Str → Option Value)
      (hC : h.get? C = some (excClassObj nm q C N bs bm hdct sn sub ab col dd k0 k1 k2 k3 k5 newId)) (hN : h.Ns N mN) (hni : mN "__init__" = none) (T : OwnTail h bmB bm) : Zo7 h C bmB newId
def Zna (K : PySem.W.Frag) (C : Addr) (bmB : List Value) (newId : String) : Prop := ∀ h : Heap, K.In h → Zo7 h C bmB newId
def Zlw : Data → Option ClassData
  | .cls c => some c
  | _ => none
theorem ZiN {d : Data} {c : ClassData} (h : Zlw d = some c) : d = .cls c := by
  cases d <;> first | (cases h; rfl) | cases h
inductive Six {α : Type} (l : List α) : Prop where
  | mk (a b c d e f : α) (q : l = [a, b, c, d, e, f]) : Six l
theorem six {α : Type} {l : List α} (h : l.length = 6) : Six l := by
  cases l with
  | nil => cases h
  | cons a l => cases l with
    | nil => cases h
    | cons b l => cases l with
      | nil => cases h
      | cons c l => cases l with
        | nil => cases h
        | cons d l => cases l with
          | nil => cases h
          | cons e l => cases l with
            | nil => cases h
            | cons f l => cases l with
              | nil => exact ⟨a, b, c, d, e, f, rfl⟩
              | cons g l => cases h
def Zqj (K : PySem.W.Frag) (C : Addr) (bmB : List Value) (newId : String) (o : Obj) (cd : ClassData) : Bool :=
  decide (o.cls = .type "type") && (decide (cd.mro = .ref C :: cd.mro.tail) && (!cd.hasDel && (PySem.W.tailIn K bmB cd.mro.tail && (PySem.W.nsOkIn K cd.ns && (PySem.W.nsIn K cd.ns "__init__" == some none && (decide (o.slots.toList.length = 6) && decide (o.slots.toList[4]? = some (some (.builtin newId)))))))))
def Zro (K : PySem.W.Frag) (C : Addr) (bmB : List Value) (newId : String) : Bool := match K.lookup C with
  | some o => (match Zlw o.data with
    | some cd => Zqj K C bmB newId o cd
    | none => false)
  | none => false
theorem Zo8 {K : PySem.W.Frag} {C : Addr} {bmB : List Value} {newId : String} (q : Zro K C bmB newId = true) : Zna K C bmB newId := by
  intro h X
  unfold Zro at q
  cases lk : K.lookup C with
  | none => rw [lk] at q; cases q
  | some o =>
    rw [lk] at q
    replace q : (match Zlw o.data with | some cd => Zqj K C bmB newId o cd | none => false) = true := q
    cases ec : Zlw o.data with
    | none => rw [ec] at q; cases q
    | some cd =>
      rw [ec] at q
      replace q : Zqj K C bmB newId o cd = true := q
      unfold Zqj at q
      simp only [Bool.and_eq_true, decide_eq_true_eq, Bool.not_eq_true', beq_iff_eq] at q
      obtain ⟨e1, e2, e3, e4, e5, e6, e7, e8⟩ := q
      obtain ⟨cls, od, dt, ⟨sl⟩⟩ := o
      obtain ⟨nm, bs, mro, ns, qn, hd, sn, sub, ab, col, del⟩ := cd
      replace ec := ZiN ec
      simp only at ec e1 e2 e3 e4 e5 e6 e7 e8
      obtain ⟨k0, k1, k2, k3, k4, k5, rfl⟩ := six e7
      cases mro with
      | nil => cases e2
      | cons c bm =>
        cases e2
        cases Option.some.inj e8
        subst ec e1 e3
        exact ⟨_, _, _, _, _, _, _, _, _, _, _, _, _, _, _, _, h.nsMap ns, X _ _ lk, .of_isNs (PySem.W.isNs_of_in X e5), PySem.W.nsMap_none_of_in X e5 e6, PySem.W.tail_of_in X e4⟩
abbrev veM : List Value := [.type "ValueError", .type "Exception", .type "BaseException", .type "object"]
def ZjZ (X : Cx) (E : XK) : Prop := ∀ (pins : List (Addr × Obj)) (σ : L2.St) (H1 : Hp) (s1 : Shared) (h' : Heap) (a C : Addr) (n : Str) (vs : List Value), Inv X pins σ H1 s1 → Heap.MadeExcOf s1.heap h' a (.ref C) vs → PySem.W.nsIn X.K mainGlobals n = some (some (.ref C)) → E (Zml n) none H1 → X.xe (.ref a) { s1 with heap := h' }
theorem Zhx {P : Program} {w : World} {K : PySem.W.Frag} {mg : Str → Option Value} {base : Heap} {N : List Str} {qual : Str} {scope : Scope} {f : Addr} {cd : Value} {A : Around} {outer : List Env} {s : Shared} {H : Hp} {E : XK} :
    ZjZ (Zcj (CXE P w K) P w K mg base N qual scope f cd A outer s H E) E := fun pins σ H1 s1 h' a C n vs I m nm q => Zrn I m nm q
section
variable {X : Cx} {E : XK}
def ZeZ (n : Str) (fa : MA) : MS := fun ρ h => (fa ρ h).bind fun xs h1 => if xs.length ≤ sizeLine then .err (Zml n) [] h1 else .stuck
theorem Zlx {x : Str} {C : Addr} {e : Expr} {es : List Expr} {fa : MA} {np cpos pos : Pos} (O : Zna X.K C veM "ValueError.__new__") (nmC : PySem.W.nsIn X.K mainGlobals x = some (some (.ref C))) (hg : Gl X x) (hc : X.calm = true) (th : ZjZ X E) (ha : EvA X E (e :: es) fa)
    (hdb : (x == ("__debug__" : Str)) = false := by decide) (he : starEach (e :: es) X.env = (false, eval e X.env) :: starEach es X.env := by rfl) (hpl : (backTo cpos (starEach (e :: es) X.env)).any (·.1) = false := by rfl) :
    Ex X E (.Raise (some (.Call (.Name x np) (e :: es) [] cpos)) none pos) (ZeZ x fa) := by
  rintro pins s σ H D I ⟨m, ρ, h, hr, er, p⟩
  have hm : X.mg x = some (.ref C) := PySem.W.mg_of I.mod.kin I.mod.glob nmC
  obtain ⟨bm, NN, nm, q, bs, hdct, sn, sub, ab, col, dd, k0, k1, k2, k3, k5, mN, hC, hN, hni, T⟩ := O X.base I.mod.kin
  refine wpAny_Raise_call_subT (C := C) (nm := nm) (q := q) (N := NN) (bs := bs) (bm := bm) (hdct := hdct) (sn := sn) (sub := sub) (ab := ab) (col := col) (dd := dd) (k0 := k0) (k1 := k1) (k2 := k2) (k3 := k3) (k5 := k5)
    PySem.F.excBase_ValueError (mN := mN) (T.hasType PySem.F.excBase_ValueError.hasBase) (I.ok.hd hc) hpl hni (ZdN I hg hm ⟨rfl, ?_⟩ hdb)
  have hh := ha cpos pins s σ H (fun vs H1 => vs.length ≤ sizeLine ∧ E (Zml x) none H1) I ⟨m, ρ, h, hr, er, PostS.bind p fun xs h1 vs m1 H1 _ p1 k1 hr1 r1 q1 => by
    split at q1
    · rename_i hz
      exact ⟨by rw [← DVs.len r1]; exact hz, q1 none m1 H1 (List.prefix_refl _) (.refl _) hr1 (fun f d z => by cases z)⟩
    · exact q1.elim⟩
  rw [he] at hh ⊢
  exact Calls.evalArgs_plain (thn hh fun us s1 z1_ => by obtain ⟨vs, H1, I1, r, hl, q1⟩ := z1_; exact (⟨rfl, by rw [← r.length]; exact hl, I1.bk _ _ hC, hN.keeps I1.bk, T.keeps I1.bk, fun h' a z => th pins σ H1 s1 h' a C x us I1 z nmC q1⟩))
inductive spE (K : PySem.W.Frag) (F : List D → HD → Out D) (vs : List V) (H : Hp) (Q : VK) (E : XK) : Prop where
  | mk (m : List Addr) (ds : List D) (h : HD) (hr : HR K m h H) (r : DVs K m H ds vs) (p : Post K (rD K) m H E Q (F ds h)) : spE K F vs H Q E
theorem Ze0 {P : Program} {w : World} {K : PySem.W.Frag} {X : Cx} : ZeC (CXE P w K) X E0 := fun _ _ _ _ _ _ _ z2_ => by obtain ⟨_, _, _, _, _, _, _, _, _, _, _, q⟩ := z2_; exact (q.elim)
theorem Zf5 {K : PySem.W.Frag} {n : Nat} {F : List D → HD → Out D} (ar : Ar n F) {vs : List V} {H : Hp} {Q : VK} {E' : XK} (h : spE K F vs H Q E') : vs.length = n := by
  obtain ⟨m, ds, hd, hr, r, p⟩ := h
  rw [← r.len]
  by_cases e : ds.length = n
  · exact e
  · rw [ar ds hd e] at p; exact p.elim
structure CaE (P : Program) (w : World) (K : PySem.W.Frag) (mg : Str → Option Value) (base : Heap) (x : Str) (k : Nat) (F : List D → HD → Out D) : Prop where
  ex : ∃ (f : Addr) (fd : FuncData) (ps : List Str), FnOk P w K mg base (CXE P w K) k f fd ps (spE K F) ∧ Binds K fd ps [] ∧ mg x = some (.ref f) ∧ PySem.W.keepIn K (.ref f) = true
theorem Zax {k k' : Nat} {F : List D → HD → Out D} {fa : MA} {x : Str} {p pos : Pos} {e : Expr} {es : List Expr} (C : CaE X.prog X.w X.K X.mg X.base x k F) (hr : Room k' X.A) (hx : ZeC (CXE X.prog X.w X.K) X E) (ha : EvA X E (e :: es) fa) (hk : k ≤ k' := by decide) (hg : Gl X x := by rfl)
    (hdb : (x == ("__debug__" : Str)) = false := by decide) (he : starEach (e :: es) X.env = (false, eval e X.env) :: starEach es X.env := by rfl) (hpl : (backTo pos (starEach es X.env)).any (·.1) = false := by rfl) :
    Ev X E (.Call (.Name x p) (e :: es) [] pos) (Zaf F fa) := by
  obtain ⟨f, fd, ps, G, hb, hm, hkp⟩ := C.ex
  exact ZbQ (ZmN (E := E) G (hr.mono hk) hg hm hkp hb .nil hx ha hdb he hpl) fun σ H Q z3_ => by obtain ⟨m, ρ, hd, hr, er, p⟩ := z3_; exact (⟨m, ρ, hd, hr, er, Post.bind p fun xs h1 vs m1 H1 e1 p1 k1 hr1 r1 q1 => by
    rw [List.append_nil]
    exact ⟨m1, xs, h1, hr1, r1, q1⟩⟩)
theorem Zat {P : Program} {w : World} {K : PySem.W.Frag} {mg : Str → Option Value} {base : Heap} {x qual : Str} {st : Stmt} {f : Addr} {fd : FuncData} {N ps : List Str} {k : Nat} {F : List D → HD → Out D} {g : MS} (Fn : Fun K x qual st f fd) (S : ZaA N ps (defScope st)) (ar : Ar ps.length F)
    (hg : ∀ ds h, ds.length = ps.length → F ds h = ZaE N.length g ds h)
    (hbody : ∀ (cdv : Value) (A : Around) (outer : List Env) (s : Shared) (H : Hp) (E : XK), Room k (A.deeper (envOfC qual (defScope st) s.heap.objs.size f cdv)) → Exs (Zcj (CXE P w K) P w K mg base N qual (defScope st) f cdv A outer s H E) E (defBody st) g) : FnOk P w K mg base (CXE P w K) (k + 1) f fd ps (spE K F) := by
  obtain ⟨oc, od, kV, doc, pm, an, cdv, ct, osl, rfl, lk, hcd⟩ := Fn.ex
  refine ZoH lk hcd S (fun vs H Q E h => Zf5 ar h) fun A outer s H vs Q E hr h => ?_
  refine ⟨_, hbody cdv A outer s H E hr, ?_⟩
  have hl := Zf5 ar h
  obtain ⟨m, ds, hd, hr1, r, p⟩ := h
  have hld : ds.length = ps.length := by rw [r.len]; exact hl
  refine ⟨m, ds.map some ++ List.replicate (N.length - ds.length) none, hd, hr1, ER.start r, ?_⟩
  rw [hg ds hd hld] at p
  unfold ZaE at p
  cases o : g (ds.map some ++ List.replicate (N.length - ds.length) none) hd with
  | stuck => rw [o] at p; exact p
  | err C fs h1 => rw [o] at p; exact p
  | ok a h1 =>
    rw [o] at p
    obtain ⟨fl, ρ1⟩ := a
    intro m1 H1 p1 k1 hr1
    cases fl with
    | nx => exact fun σ er => p .non m1 H1 p1 k1 hr1 (by simp [rD, DV])
    | bk => exact False.elim p
    | ct => exact False.elim p
    | rt d => exact fun v rv => p v m1 H1 p1 k1 hr1 rv
end
theorem Zj0 {P : Program} {w : World} {K : PySem.W.Frag} {mg : Str → Option Value} {base : Heap} {N : List Str} {qual : Str} {scope : Scope} {f : Addr} {cd : Value} {A : Around} {outer : List Env} {s : Shared} {H : Hp} {E : XK} :
    PassesOwn (model P w) (Zcj (CXE P w K) P w K mg base N qual scope f cd A outer s H E).A (Zcj (CXE P w K) P w K mg base N qual scope f cd A outer s H E).env (Zcj (CXE P w K) P w K mg base N qual scope f cd A outer s H E).xe := by
  passes_own
end LS
namespace LS
open PySem PySem.Spec PyProof.Rows L2
section
variable {X : Cx} {E : XK}
abbrev MO := Rho → HD → Out (Option Int)
abbrev EvO (X : Cx) (E : XK) (e : Option Expr) (f : MO) : Prop := PO X e (tM X.K (fun _ _ a b => a = b) E f)
def Za9 : MO := fun _ h => .ok none h
def Zcs (f : ME) : MO := fun ρ h => (f ρ h).bind fun x h1 => match x with
  | .int i => .ok (some i) h1
  | _ => .stuck
theorem Zmm {e : Option Expr} {t t' : TO} (h : PO X e t) (i : ∀ σ H Q, t' σ H Q → t σ H Q) : PO X e t' := fun pins s σ H Q I q => h pins s σ H Q I (i σ H Q q)
theorem ZbH : EvO X E none Za9 := Zmm ZmP fun σ H Q z1_ => by obtain ⟨m, ρ, h, hr, er, p⟩ := z1_; exact (p none m H (List.prefix_refl _) (.refl _) hr rfl)
theorem ZbI {e : Expr} {f : ME} (he : Ev X E e f) : EvO X E (some e) (Zcs f) := Zmm (ZmQ he) fun σ H Q z2_ => by obtain ⟨m, ρ, h, hr, er, p⟩ := z2_; exact (⟨m, ρ, h, hr, er, Post.bind p fun x h1 v m1 H1 eo p1 k1 hr1 r1 q1 => by
  clear eo
  split at q1
  · rename_i i
    simp only [rD, DV] at r1
    exact ⟨i, r1, q1 (some i) m1 H1 (List.prefix_refl _) (.refl _) hr1 rfl⟩
  · exact q1.elim⟩)
def Zmn (xs : List D) (lo hi : Option Int) : List D := (xs.drop (HT.sIx xs.length 0 lo)).take (HT.sIx xs.length xs.length hi - HT.sIx xs.length 0 lo)
def slD (x : D) (lo hi : Option Int) (h : HD) : Out D := match x with
  | .tup xs => if HT.sIx xs.length 0 lo = 0 ∧ HT.sIx xs.length xs.length hi = xs.length then .stuck else .ok (.tup (Zmn xs lo hi)) h
  | _ => .stuck
def Zmo (f : ME) (lo hi : MO) : ME := fun ρ h => (f ρ h).bind fun x h1 => (lo ρ h1).bind fun l h2 => (hi ρ h2).bind fun u h3 => slD x l u h3
theorem DVs.cut {K : PySem.W.Frag} {m : List Addr} {H : Hp} {ds : List D} {vs : List V} (r : DVs K m H ds vs) (lo hi : Option Int) : DVs K m H (Zmn ds lo hi) (Zn1 vs lo hi) := by
  unfold Zmn Zn1
  rw [r.len]
  exact (r.drop _).take _
def ZsT (o i x y : D) (ρ : Rho) (h : HD) : Out (Fl × Rho) := match x, y with
  | .int a, .int b => Zn9 o i (.int (a + b)) h (.ok (.nx, ρ) h)
  | _, _ => .stuck
def Zmp (o i : D) (h : HD) : Out D := match o, i with
  | .loc l, .int n => if 0 ≤ n then (match h[l]? with
      | some (.lst ds) => (match ds[n.toNat]? with
        | some d => .ok d h
        | none => .stuck)
      | _ => .stuck) else .stuck
  | _, _ => .stuck
def Zmq (fo fi fv : ME) : MS := fun ρ h => (fo ρ h).bind fun o h1 => (fi ρ h1).bind fun i h2 => (Zmp o i h2).bind fun x h3 => (fv ρ h3).bind fun y h4 => ZsT o i x y ρ h4
end
end LS
namespace LS
open PySem PySem.Spec PyProof.Rows L2
theorem vals_ints : ∀ {ns : List Int} {its : List Value}, Vals (ns.map V.int) its → ∃ ys : List (Int × Tok), its = ys.map (fun p => Value.int p.1 p.2) ∧ ys.map (·.1) = ns
  | [], its, r => by cases r; exact ⟨[], rfl, rfl⟩
  | n :: ns, its, r => by
    cases r with
    | cons r1 r2 =>
      obtain ⟨t, rfl⟩ := r1
      obtain ⟨ys, rfl, e⟩ := vals_ints r2
      exact ⟨(n, t) :: ys, rfl, by simp [e]⟩
section
variable {X : Cx}
def ZsU : List Int → Int
  | [] => 0
  | n :: ns => ns.foldl min n
def ZsV (f : List Int → Int) : D → HD → Out D := fun x h => match x with
  | .loc l => match h[l]? with
    | some (.lst ds) => match Zay (ds.map Zhu) with
      | some ns => if ns = [] then .stuck else .ok (.int (f ns)) h
      | none => .stuck
    | _ => .stuck
  | _ => .stuck
end
end LS
namespace LS
open PySem PySem.Spec PyProof.Rows L2
def ZsW (K : PySem.W.Frag) (t : Addr) : It := ⟨fun i H => ∃ xs, SqL K H t xs ∧ i < xs.length, fun i H x H' => ∃ p v, H p = none ∧ x = .ref p ∧ (∀ xs : List V, SqL K H t xs → xs[i]? = some v) ∧ H' = upd H p (.tup [.int i, v]), fun i H => ∃ xs, SqL K H t xs ∧ i = xs.length⟩
theorem ZiO {P : Program} {w : World} {K : PySem.W.Frag} {elts : List Expr} {kt : Nat} {tpos : Pos} (e it t : Addr) (hei : e ≠ it) (hte : t ≠ e) (hti : t ≠ it) :
    Zma P w K (.Tuple elts kt tpos) (ZsW K t) [e, it] e (fun i h => (∃ old, IsEnum h e it i old) ∧ h.IsListIter it t i) where
  mem := by simp
  obj := fun i h st b hb => by
    obtain ⟨⟨old, h1⟩, o, h2, hc, hd⟩ := st
    rcases List.mem_cons.mp hb with z | z
    · subst z; exact ⟨_, h1, fun v z => by cases z⟩
    · rw [List.mem_singleton] at z
      subst z
      exact ⟨o, h2, fun v z => by rw [hd] at z; cases z⟩
  keep := fun i h h' st k => by
    obtain ⟨⟨old, h1⟩, h2⟩ := st
    exact ⟨⟨old, k e (by simp) _ h1⟩, h2.at fun o z => k it (by simp) o z⟩
  item := by
    intro X hP hw hK hc i pins s σ H E I hf st hg
    subst hP hw hK
    obtain ⟨⟨old, he⟩, hit⟩ := st
    obtain ⟨xs, hq, hi⟩ := hg
    obtain ⟨its, rv, p, hz⟩ := I.list hq
    have hT : s.heap.IsList t its.toArray := p.isList
    have hl := rv.length
    obtain ⟨e0, e1, e2, e3, e4, e5⟩ := hf e (by simp)
    obtain ⟨i0, i1, i2, i3, i4, i5⟩ := hf it (by simp)
    have hx : xs[i]? = some xs[i] := List.getElem?_eq_getElem hi
    refine wpAny_pyNext_enum_itemD (Draws.list (A := X.A.in1) (I.ok.hd hc) it t hti its.toArray) he ⟨hit, hT⟩ (by rw [List.size_toArray]; omega) hei (by simp [hei, Ne.symm hte]) fun x h1 tk hPx ho hs1 hTup hsz hk => ?_
    obtain ⟨u, hu, ru⟩ := rv.get hx
    have hux : u = x := by
      have : its[i]? = some x := by simpa using hPx
      rw [hu] at this
      exact Option.some.inj this
    subst hux
    refine ⟨.ref s.heap.objs.size, rfl, wpAny_letOwnedTupleGo_enum ho fun h2 he2 sb => ?_⟩
    have hfr : H s.heap.objs.size = none := I.hok.fresh (Nat.le_refl _)
    have kk : ∀ b o, b ∉ [e, it] → s.heap.get? b = some o → h2.get? b = some o := fun b o hb z => by
      have n1 : b ≠ e := fun q => hb (by simp [q])
      have n2 : b ≠ it := fun q => hb (by simp [q])
      exact (sb.2 b n1).trans (hk b o n1 n2 z)
    have na : s.heap.objs.size ≠ e := Zlo (Heap.lt_size he)
    have hnew : h2.get? s.heap.objs.size = some { cls := .type "tuple", data := .seq #[.int i tk, u] } := (sb.2 _ na).trans hTup
    have ntr : ∀ b w, H b = some w → b ∉ [e, it] := fun b w z hb => by
      rcases List.mem_cons.mp hb with q | q
      · rw [q, e0] at z; cases z
      · rw [List.mem_singleton.mp q, i0] at z; cases z
    have nal : ∀ b o, s.heap.get? b = some o → b ≠ s.heap.objs.size := fun b o z => nne (Heap.lt_size z)
    have it2 : h2.IsListIter it t (i + 1) := by
      obtain ⟨o, q, r⟩ := hs1.1
      exact ⟨o, (sb.2 it (Ne.symm hei)).trans q, r⟩
    refine ⟨.ref s.heap.objs.size, upd H s.heap.objs.size (.tup [.int i, xs[i]]), ?_, rfl, ⟨s.heap.objs.size, xs[i], hfr, rfl, fun ys hy => by rw [I.list_inj hy hq]; exact hx, rfl⟩, ⟨⟨u, he2⟩, it2⟩, fun b hb => ?_⟩
    · show Inv X pins σ _ { s with heap := h2, gens := s.gens, drawn := s.drawn, toks := tk + 1 }
      refine I.step (g' := s.gens) (d' := s.drawn) (t' := tk + 1) (h' := h2) (ch := [e, it]) (fun b hb => ?_) (fun b o _ _ hc z _ => kk b o hc z) (fun b o _ _ hc z _ => ⟨o.slots, kk b o hc z⟩) (fun b o _ z n => by rw [Zaq (nal b o z)]; exact n)
        (fun b o hc z => ⟨o, kk b o hc z⟩) (fun b ys z => by rw [Zaq (Zau z hfr)]; exact z) (fun b o u z => by rw [Zaq (Zau z hfr)]; exact z) (fun b ps z => ⟨#[], by rw [Zaq (Zau z hfr), z]; simp⟩) (fun m hm => ?_) (fun b w z => ?_) I.bare
      · rcases List.mem_cons.mp hb with q | q
        · subst q; exact ⟨e3, e1, e4, e5⟩
        · rw [List.mem_singleton] at q; subst q; exact ⟨i3, i1, i4, i5⟩
      · obtain ⟨o, es, ep, q, r⟩ := hm
        exact ⟨o, es, ep, kk _ o (by simp [Ne.symm e1, Ne.symm i1]) q, r⟩
      · by_cases hb : b = s.heap.objs.size
        · subst hb
          rw [Za0] at z
          cases z
          exact ⟨by simp only [List.length_cons, List.length_nil]; rw [sizeLine_eq]; decide, [.int i tk, u], .cons ⟨tk, rfl⟩ (.cons ru .nil), ⟨_, hnew, rfl, 0, rfl⟩, fun o e => by rw [hnew] at e; cases e; rfl⟩
        · rw [Zaq hb] at z
          refine (I.hok b w z).stay (fun c v hc q => kk c v ?_ q) (fun c q => by rw [Zaq (Zau q hfr)]; exact q) fun c ys q => by rw [Zaq (Zau q hfr)]; exact q
          rcases hc with rfl | hc
          · exact ntr c _ z
          · exact ntr c _ hc
    · have nb : b ≠ s.heap.objs.size := by
        rcases List.mem_cons.mp hb with q | q
        · rw [q]; exact na.symm
        · rw [List.mem_singleton.mp q]
          obtain ⟨o, z, _⟩ := hit
          exact nal _ _ z
      rw [Zaq nb]
      exact (hf b hb).1
  done := by
    intro X hP hw hK hc i pins s σ H E I hf st hg
    subst hP hw hK
    obtain ⟨⟨old, he⟩, hit⟩ := st
    obtain ⟨xs, hq, hi⟩ := hg
    obtain ⟨its, rv, p, hz⟩ := I.list hq
    have hT : s.heap.IsList t its.toArray := p.isList
    have hl := rv.length
    obtain ⟨i0, i1, i2, i3, i4, i5⟩ := hf it (by simp)
    have hin : i = its.toArray.size := by rw [List.size_toArray]; omega
    refine wpAny_pyNext_enum_endD (Draws.list (A := X.A.in1) (I.ok.hd hc) it t hti its.toArray) he (hin ▸ ⟨hit, hT⟩) fun h' eb => ⟨rfl, I.turned (t' := s.toks) (fun b o hb z => eb b o hb z) i0 i1 i3 i4 i5⟩
  self := fun A i s Q E st h => by
    obtain ⟨⟨old, he⟩, _⟩ := st
    exact wpAny_pyIter_enum he h
section
variable {X : Cx} {E : XK}
theorem Zly {elts : List Expr} {kt : Nat} {tpos p pos : Pos} {a : Expr} {ta : TA} (hg : Gl X "enumerate") (hm : X.mg "enumerate" = none) (ha : PA X [a] ta) (hs : starEach [a] X.env = [(false, eval a X.env)] := by rfl) :
    PI X (.Tuple elts kt tpos) (.Call (.Name "enumerate" p) [a] [] pos) (fun σ H R => ta σ H fun vs H1 => (∃ t xs, vs = [.ref t] ∧ SqT X.K H1 t xs ∧ R (Ite X.K t xs) H1) ∨ ∃ t xs, vs = [.ref t] ∧ SqL X.K H1 t xs ∧ R (ZsW X.K t) H1) := by
  intro pins s σ H R I h
  refine Call_ (ZfA I hg hm boot_enumerate (PyProof.Rows.callWith_type1 (thn (ha pos pins s σ H _ I h) fun us s1 z1_ => ?_) hs rfl))
  obtain ⟨vs, H1, I1, r1, q1⟩ := z1_
  rcases q1 with ⟨t, xs, e, hq, q⟩ | ⟨t, xs, e, hq, q⟩
  · subst e
    cases r1 with
    | cons r rr =>
      cases rr
      cases r
      obtain ⟨its, rv, p, hz⟩ := I1.tuple hq
      have hT : s1.heap.IsTuple t its.toArray := p
      have hlt : t < s1.heap.objs.size := p.lt
      refine ZeU hT fun h' he hit hsz hk => wpAny_pyIter_enum (s := { s1 with heap := h' }) he ?_
      have I2 : Inv X pins σ H1 { s1 with heap := h' } := I1.kept (t' := s1.toks) hk
      refine ⟨s1.heap.objs.size + 1, [s1.heap.objs.size + 1, s1.heap.objs.size], _, _, H1, rfl, I2, ZjQ (s1.heap.objs.size + 1) s1.heap.objs.size t (Nat.succ_ne_self _) (nne (Nat.lt_succ_of_lt hlt)) (nne hlt) xs, ⟨⟨.none, he⟩, hit⟩, fun b hb => ?_, q⟩
      rcases List.mem_cons.mp hb with z | z
      · subst z; exact I1.fpOk (Nat.le_succ _) (I1.hok.fresh (Nat.le_succ _))
      · rw [List.mem_singleton] at z; subst z; exact I1.fpOk (Nat.le_refl _) (I1.hok.fresh (Nat.le_refl _))
  · subst e
    cases r1 with
    | cons r rr =>
      cases rr
      cases r
      obtain ⟨its, rv, p, hz⟩ := I1.list hq
      have hT : s1.heap.IsList t its.toArray := p.isList
      have hlt : t < s1.heap.objs.size := by obtain ⟨_, z, _⟩ := hT; exact Heap.lt_size z
      refine call_enumerate_list hT fun h' he hit hsz hk => wpAny_pyIter_enum (s := { s1 with heap := h' }) he ?_
      have I2 : Inv X pins σ H1 { s1 with heap := h' } := I1.kept (t' := s1.toks) hk
      refine ⟨s1.heap.objs.size + 1, [s1.heap.objs.size + 1, s1.heap.objs.size], _, _, H1, rfl, I2, ZiO (s1.heap.objs.size + 1) s1.heap.objs.size t (Nat.succ_ne_self _) (nne (Nat.lt_succ_of_lt hlt)) (nne hlt), ⟨⟨.none, he⟩, hit⟩, fun b hb => ?_, q⟩
      rcases List.mem_cons.mp hb with z | z
      · subst z; exact I1.fpOk (Nat.le_succ _) (I1.hok.fresh (Nat.le_succ _))
      · rw [List.mem_singleton] at z; subst z; exact I1.fpOk (Nat.le_refl _) (I1.hok.fresh (Nat.le_refl _))
def ZgQ : List D → HD → Out (List D × Src) := fun ds h => match ds with
  | [.tup xs] => .ok (ZeV xs, []) h
  | [.loc l] => match h[l]? with
    | some (.lst xs) => .ok (ZeV xs, [(l, xs)]) h
    | _ => .stuck
  | _ => .stuck
def ZcU (fa : MA) : MI := fun ρ h => (fa ρ h).bind ZgQ
theorem ZcM {elts : List Expr} {kt : Nat} {tpos p pos : Pos} {a : Expr} {fa : MA} (hg : Gl X "enumerate") (hm : X.mg "enumerate" = none) (ha : EvA X E [a] fa) (hs : starEach [a] X.env = [(false, eval a X.env)] := by rfl) :
    EvI X E (.Tuple elts kt tpos) (.Call (.Name "enumerate" p) [a] [] pos) (ZcU fa) :=
  Zib (Zly hg hm ha hs) fun σ H R ⟨m, ρ, h, hr, er, p⟩ => ⟨m, ρ, h, hr, er, Post.bind p fun x h1 v m1 H1 eo p1 k1 hr1 r1 q1 => by
    clear eo
    unfold ZgQ at q1
    split at q1
    · rename_i xs
      simp only [rDs, DVs, DV] at r1
      obtain ⟨v, w, rfl, ⟨a, vs, rfl, ha, dv⟩, rfl⟩ := r1
      refine .inl ⟨a, vs, rfl, SqT.of ha, q1 _ m1 H1 (List.prefix_refl _) (.refl _) hr1 fun i m2 h2 H2 p2 k2 hr2 _ => ⟨fun hi => ?_, fun hi => ?_⟩⟩
      · have hi' : i < xs.length := by simpa [ZeV] using hi
        refine ⟨⟨by rw [← dv.len]; exact hi', SqT.of (k2 _ _ ha rfl)⟩, fun y H3 ⟨pp, vv, hp, ey, ev, eH⟩ => ?_⟩
        subst ey eH
        have hd : xs[i]? = some xs[i] := List.getElem?_eq_getElem hi'
        obtain ⟨v2, e2, r2⟩ := dv.get hd
        rw [ev] at e2
        cases e2
        refine ⟨.new hp, hr2.new hp, .tup [.int i, xs[i]], ?_, ?_⟩
        · simp [ZeV, hd]
        · simp only [DV]
          exact ⟨pp, _, rfl, Za0, .cons (by simp [DV]) (.cons (DV.keep p2 (k2.trans (.new hp)) r2) .nil)⟩
      · exact ⟨by rw [← dv.len]; simpa [ZeV] using hi, SqT.of (k2 _ _ ha rfl)⟩
    · rename_i l
      split at q1
      · rename_i xs el
        simp only [rDs, DVs, DV] at r1
        obtain ⟨v, w, rfl, ⟨a, rfl, ha⟩, rfl⟩ := r1
        obtain ⟨vs, hv, dv⟩ := hr1.cells l _ a el ha
        refine .inr ⟨a, vs, rfl, SqL.of hv, q1 _ m1 H1 (List.prefix_refl _) (.refl _) hr1 fun i m2 h2 H2 p2 k2 hr2 hsr => ?_⟩
        obtain ⟨ws, hw, dw⟩ := hr2.cells l _ a (hsr _ List.mem_cons_self) (ZeG p2 ha)
        refine ⟨fun hi => ?_, fun hi => ⟨ws, SqL.of hw, by rw [← dw.len]; simpa [ZeV] using hi⟩⟩
        have hi' : i < xs.length := by simpa [ZeV] using hi
        refine ⟨⟨ws, SqL.of hw, by rw [← dw.len]; exact hi'⟩, fun y H3 ⟨pp, vv, hp, ey, ev, eH⟩ => ?_⟩
        subst ey eH
        have hd : xs[i]? = some xs[i] := List.getElem?_eq_getElem hi'
        obtain ⟨v2, e2, r2⟩ := dw.get hd
        rw [ev ws (SqL.of hw)] at e2
        cases e2
        refine ⟨.new hp, hr2.new hp, .tup [.int i, xs[i]], ?_, ?_⟩
        · simp [ZeV, hd]
        · simp only [DV]
          exact ⟨pp, _, rfl, Za0, .cons (by simp [DV]) (.cons (DV.keep (List.prefix_refl _) (.new hp) r2) .nil)⟩
      · exact q1.elim
    · exact q1.elim⟩
end
end LS
namespace LS
open PySem PySem.Spec PyProof.Rows L2
structure ZAp (z TI TO p q : Addr) (f g : List Addr) : Prop where
  a1 : TI ≠ z
  a2 : TO ≠ z
  a3 : p ≠ z
  a4 : q ≠ z
  a5 : TI ≠ TO
  a6 : TI ≠ p
  a7 : TI ≠ q
  a8 : TO ≠ p
  a9 : TO ≠ q
  b1 : p ≠ q
  b2 : z ∉ f
  b3 : z ∉ g
  b4 : TO ∉ f
  b5 : TO ∉ g
  b6 : p ∉ g
  b7 : q ∉ f
section
variable {prog : Program} {w : World} {A : Around} {E : Value → Shared → Prop} {s : Shared} {z TI TO p q : Addr} {f g : List Addr} {n1 n2 k : Nat} {P1 P2 : Nat → Value → Prop} {S1 S2 : Nat → Heap → Prop} {a b : Value}
theorem Zj1 {Q : Value → Shared → Prop} (D1 : Draws prog w A p f n1 P1 S1) (D2 : Draws prog w A q g n2 P2 S2) (ap : ZAp z TI TO p q f g)
    (zz : IsZip s.heap z TI TO .none) (zi : IsPair s.heap TI (.ref p) (.ref q)) (zo : IsPair s.heap TO a b) (s1 : S1 k s.heap) (s2 : S2 k s.heap) (l1 : k < n1) (l2 : k < n2)
    (hQ : ∀ h' tk x y, P1 k x → P2 k y → IsZip h' z TI TO (rawInt s.heap.objs.size) → IsPair h' TO x y → S1 (k + 1) h' → S2 (k + 1) h' → IsPair h' s.heap.objs.size x y →
      (∀ c o, c ≠ z → c ≠ TO → c ≠ p → c ≠ q → s.heap.get? c = some o → h'.get? c = some o) → Q (.ref s.heap.objs.size) { s with heap := h', toks := tk }) :
    wpAny (model prog w) A (Builtin.«zip.__next__» ⟨[.ref z], []⟩) (fun fin s' => ∃ v, fin = .done (.ret v) ∧ Q v s') E s := by
  show wpAny _ _ (field (.ref z) 2 >>= _) _ _ _
  refine wpAny_bind (wpAny_field zz rfl (x := .bool false) rfl ?_)
  show wpAny _ _ (field (.ref z) 3 >>= _) _ _ _
  refine wpAny_bind (wpAny_field zz rfl (x := .ref TI) rfl ?_)
  refine wpAny_bind (wpAny_seqItems zi rfl ?_)
  show wpAny _ _ (Builtin.SmallTypes.ownedTupleIsFree (.ref z) >>= _) _ _ _
  refine wpAny_bind ?_
  unfold Builtin.SmallTypes.ownedTupleIsFree
  refine wpAny_bind (wpAny_field zz rfl (x := .none) rfl (wpAny_pure ?_))
  simp only [if_true]
  refine wpAny_bind (wpAny_rule ?_)
  refine wpAny_bind (wpAny_field zz rfl (x := .ref TO) rfl ?_)
  refine wpAny_bind (wpAny_setField_rec zz (by simp) fun m1 zz1 t1 => ?_)
  replace zz1 : IsZip m1 z TI TO .ellipsis := zz1
  refine wpAny_bind ?_
  simp only [List.zipIdx_cons, List.zipIdx_nil, List.forIn_cons, List.forIn_nil]
  refine wpAny_bind (wpAny_bind (wpAny_onRaise ?_))
  show wpAny _ _ (Builtin.SmallTypes.nextOf (.ref p) >>= _) _ _ _
  refine wpAny_bind (D1.item k _ _ _ l1 (D1.frame k _ _ s1 fun c hc o e => t1.extBut _ _ (fun y => ap.b2 (y ▸ hc)) e) fun x m2 tk2 px s12 t2 => wpAny_pure ?_)
  have zo2 : IsPair m2 TO a b := t2.extBut _ _ ap.a8 (t1.extBut _ _ ap.a2 zo)
  refine wpAny_bind (wpAny_seqItems zo2 rfl ?_)
  refine wpAny_bind (wpAny_updateSeq_pair zo2 fun m3 zo3 t3 => ?_)
  replace zo3 : IsPair m3 TO x b := zo3
  refine wpAny_bind (wpAny_letGo (wpAny_pure ?_))
  refine wpAny_bind (wpAny_bind (wpAny_onRaise ?_))
  show wpAny _ _ (Builtin.SmallTypes.nextOf (.ref q) >>= _) _ _ _
  have s23 : S2 k m3 := D2.frame k _ _ s2 fun c hc o e => t3.extBut _ _ (fun y => ap.b5 (y ▸ hc)) (t2.extBut _ _ (fun y => ap.b6 (y ▸ hc)) (t1.extBut _ _ (fun y => ap.b3 (y ▸ hc)) e))
  refine wpAny_bind (D2.item k _ _ _ l2 s23 fun y m4 tk4 py s24 t4 => wpAny_pure ?_)
  have zo4 : IsPair m4 TO x b := t4.extBut _ _ ap.a9 zo3
  refine wpAny_bind (wpAny_seqItems zo4 rfl ?_)
  refine wpAny_bind (wpAny_updateSeq_pair zo4 fun m5 zo5 t5 => ?_)
  replace zo5 : IsPair m5 TO x y := zo5
  refine wpAny_bind (wpAny_letGo (wpAny_pure (wpAny_pure ?_)))
  refine wpAny_bind (wpAny_seqItems zo5 rfl ?_)
  refine wpAny_bind (wpAny_newTuple ?_)
  have sz : m5.objs.size = s.heap.objs.size := by rw [t5.1, t4.1, t3.1, t2.1, t1.1]
  have zz5 : IsZip m5 z TI TO .ellipsis := t5.extBut _ _ ap.a2.symm (t4.extBut _ _ ap.a4.symm (t3.extBut _ _ ap.a2.symm (t2.extBut _ _ ap.a3.symm zz1)))
  have kp : ∀ c o, c ≠ z → c ≠ TO → c ≠ p → c ≠ q → s.heap.get? c = some o → m5.get? c = some o := fun c o c1 c2 c3 c4 e => t5.extBut _ _ c2 (t4.extBut _ _ c4 (t3.extBut _ _ c2 (t2.extBut _ _ c3 (t1.extBut _ _ c1 e))))
  have zlt : z < m5.objs.size := Heap.lt_size zz5
  show wpAny _ _ (Builtin.SmallTypes.ownedTupleHandOut (.ref z) (.ref m5.objs.size) >>= _) _ _ _
  refine wpAny_bind ?_
  unfold Builtin.SmallTypes.ownedTupleHandOut
  have zz6 : IsZip (m5.push { cls := .type "tuple", data := .seq #[x, y] }) z TI TO .ellipsis := Heap.get?_push_of_some _ zz5
  refine wpAny_bind (wpAny_setField_rec zz6 (by simp) fun m7 zz7 t7 => ?_)
  replace zz7 : IsZip m7 z TI TO (rawInt m5.objs.size) := zz7
  refine wpAny_setField_rec zz7 (by simp) fun m8 zz8 t8 => ?_
  replace zz8 : IsZip m8 z TI TO (rawInt m5.objs.size) := zz8
  have up : ∀ c o, c ≠ z → m5.get? c = some o → m8.get? c = some o := fun c o c1 e => t8.extBut _ _ c1 (t7.extBut _ _ c1 (Heap.get?_push_of_some _ e))
  have nw : IsPair m8 m5.objs.size x y := t8.extBut _ _ (Nat.ne_of_gt zlt) (t7.extBut _ _ (Nat.ne_of_gt zlt) (Heap.get?_push_size _ rfl))
  rw [sz] at zz8 nw
  refine wpAny_pure ⟨_, rfl, ?_⟩
  show Q (.ref m5.objs.size) _
  rw [sz]
  refine hQ m8 tk4 x y px py zz8 (up _ _ ap.a2 zo5) (D1.frame _ m2 m8 s12 fun c hc o e => ?_) (D2.frame _ m4 m8 s24 fun c hc o e => ?_) nw fun c o c1 c2 c3 c4 e => up c o c1 (kp c o c1 c2 c3 c4 e)
  · have n1 : c ≠ TO := fun y => ap.b4 (y ▸ hc)
    exact up c o (fun y => ap.b2 (y ▸ hc)) (t5.extBut _ _ n1 (t4.extBut _ _ (fun y => ap.b7 (y ▸ hc)) (t3.extBut _ _ n1 e)))
  · exact up c o (fun y => ap.b3 (y ▸ hc)) (t5.extBut _ _ (fun y => ap.b5 (y ▸ hc)) e)
theorem Zj2 {Q : Fin → Shared → Prop} (D1 : Draws prog w A p f n1 P1 S1) (D2 : Draws prog w A q g n2 P2 S2) (ap : ZAp z TI TO p q f g)
    (zz : IsZip s.heap z TI TO .none) (zi : IsPair s.heap TI (.ref p) (.ref q)) (zo : IsPair s.heap TO a b) (s1 : S1 k s.heap) (s2 : S2 k s.heap) (hk : k = n1 ∨ (k < n1 ∧ k = n2))
    (hE : ∀ h' tk e, (∀ c o, c ≠ z → c ≠ TO → c ≠ p → c ≠ q → s.heap.get? c = some o → h'.get? c = some o) → (∃ o, h'.get? e = some o ∧ o.cls = .type "StopIteration") → E (.ref e) { s with heap := h', toks := tk }) :
    wpAny (model prog w) A (Builtin.«zip.__next__» ⟨[.ref z], []⟩) Q E s := by
  show wpAny _ _ (field (.ref z) 2 >>= _) _ _ _
  refine wpAny_bind (wpAny_field zz rfl (x := .bool false) rfl ?_)
  show wpAny _ _ (field (.ref z) 3 >>= _) _ _ _
  refine wpAny_bind (wpAny_field zz rfl (x := .ref TI) rfl ?_)
  refine wpAny_bind (wpAny_seqItems zi rfl ?_)
  show wpAny _ _ (Builtin.SmallTypes.ownedTupleIsFree (.ref z) >>= _) _ _ _
  refine wpAny_bind ?_
  unfold Builtin.SmallTypes.ownedTupleIsFree
  refine wpAny_bind (wpAny_field zz rfl (x := .none) rfl (wpAny_pure ?_))
  simp only [if_true]
  refine wpAny_bind (wpAny_rule ?_)
  refine wpAny_bind (wpAny_field zz rfl (x := .ref TO) rfl ?_)
  refine wpAny_bind (wpAny_setField_rec zz (by simp) fun m1 zz1 t1 => ?_)
  replace zz1 : IsZip m1 z TI TO .ellipsis := zz1
  refine wpAny_bind ?_
  simp only [List.zipIdx_cons, List.zipIdx_nil, List.forIn_cons, List.forIn_nil]
  refine wpAny_bind (wpAny_bind (wpAny_onRaise ?_))
  show wpAny _ _ (Builtin.SmallTypes.nextOf (.ref p) >>= _) _ _ _
  have s11 := D1.frame k _ m1 s1 fun c hc o e => t1.extBut _ _ (fun y => ap.b2 (y ▸ hc)) e
  rcases hk with hk | ⟨hk, hk2⟩
  · subst hk
    refine wpAny_bind (D1.done _ _ _ s11 fun m2 e t2 he => ?_)
    obtain ⟨oe, e1, e2⟩ := he
    have zz2 : IsZip m2 z TI TO .ellipsis := t2 _ _ ap.a3.symm zz1
    have ne : e ≠ z := fun y => by subst y; rw [zz2] at e1; cases e1; simp at e2
    exact wpAny_setField_rec zz2 (by simp) fun m3 _ t3 => hE m3 _ e (fun c o c1 _ c3 _ y => t3.extBut _ _ c1 (t2 _ _ c3 (t1.extBut _ _ c1 y))) ⟨oe, t3.extBut _ _ ne e1, e2⟩
  · subst hk2
    refine wpAny_bind (D1.item k _ _ _ hk s11 fun x m2 tk2 px s12 t2 => wpAny_pure ?_)
    have zo2 : IsPair m2 TO a b := t2.extBut _ _ ap.a8 (t1.extBut _ _ ap.a2 zo)
    refine wpAny_bind (wpAny_seqItems zo2 rfl ?_)
    refine wpAny_bind (wpAny_updateSeq_pair zo2 fun m3 zo3 t3 => ?_)
    refine wpAny_bind (wpAny_letGo (wpAny_pure ?_))
    refine wpAny_bind (wpAny_bind (wpAny_onRaise ?_))
    show wpAny _ _ (Builtin.SmallTypes.nextOf (.ref q) >>= _) _ _ _
    have s23 : S2 k m3 := D2.frame k _ _ s2 fun c hc o e => t3.extBut _ _ (fun y => ap.b5 (y ▸ hc)) (t2.extBut _ _ (fun y => ap.b6 (y ▸ hc)) (t1.extBut _ _ (fun y => ap.b3 (y ▸ hc)) e))
    refine wpAny_bind (D2.done _ _ _ s23 fun m4 e t4 he => ?_)
    obtain ⟨oe, e1, e2⟩ := he
    have zz4 : IsZip m4 z TI TO .ellipsis := t4 _ _ ap.a4.symm (t3.extBut _ _ ap.a2.symm (t2.extBut _ _ ap.a3.symm zz1))
    have ne : e ≠ z := fun y => by subst y; rw [zz4] at e1; cases e1; simp at e2
    exact wpAny_setField_rec zz4 (by simp) fun m5 _ t5 => hE m5 _ e (fun c o c1 c2 c3 c4 y => t5.extBut _ _ c1 (t4 _ _ c4 (t3.extBut _ _ c2 (t2.extBut _ _ c3 (t1.extBut _ _ c1 y))))) ⟨oe, t5.extBut _ _ ne e1, e2⟩
theorem ZiP {Q : Option Value → Shared → Prop} (D1 : Draws prog w A.in1 p f n1 P1 S1) (D2 : Draws prog w A.in1 q g n2 P2 S2) (ap : ZAp z TI TO p q f g)
    (zz : IsZip s.heap z TI TO .none) (zi : IsPair s.heap TI (.ref p) (.ref q)) (zo : IsPair s.heap TO a b) (s1 : S1 k s.heap) (s2 : S2 k s.heap) (l1 : k < n1) (l2 : k < n2)
    (hQ : ∀ h' tk x y, P1 k x → P2 k y → IsZip h' z TI TO (rawInt s.heap.objs.size) → IsPair h' TO x y → S1 (k + 1) h' → S2 (k + 1) h' → IsPair h' s.heap.objs.size x y →
      (∀ c o, c ≠ z → c ≠ TO → c ≠ p → c ≠ q → s.heap.get? c = some o → h'.get? c = some o) → Q (some (.ref s.heap.objs.size)) { s with heap := h', toks := tk }) :
    wpAny (model prog w) A (pyNext (.ref z)) Q E s := by
  have hT : s.TypeIs (.ref z) "zip" := ⟨_, zz, rfl⟩
  unfold pyNext
  exact wpAny_bind (wpAny_attempt (wpAny_callSpecial?_slot (name := Str.ofString "__next__") hT F.slot_zip_next (wpAny_call_entry F.slot_zip_next hT F.entry_zip_next
    (Zj1 D1 D2 ap zz zi zo s1 s2 l1 l2 fun h' tk x y c1 c2 c3 c4 c5 c6 c7 c8 => wpAny_pure (hQ h' tk x y c1 c2 c3 c4 c5 c6 c7 c8)) (F.args_zip_next_1 _))))
theorem ZiQ {Q : Option Value → Shared → Prop} (D1 : Draws prog w A.in1 p f n1 P1 S1) (D2 : Draws prog w A.in1 q g n2 P2 S2) (ap : ZAp z TI TO p q f g)
    (zz : IsZip s.heap z TI TO .none) (zi : IsPair s.heap TI (.ref p) (.ref q)) (zo : IsPair s.heap TO a b) (s1 : S1 k s.heap) (s2 : S2 k s.heap) (hk : k = n1 ∨ (k < n1 ∧ k = n2))
    (hQ : ∀ h' tk, (∀ c o, c ≠ z → c ≠ TO → c ≠ p → c ≠ q → s.heap.get? c = some o → h'.get? c = some o) → Q none { s with heap := h', toks := tk }) : wpAny (model prog w) A (pyNext (.ref z)) Q E s := by
  have hT : s.TypeIs (.ref z) "zip" := ⟨_, zz, rfl⟩
  unfold pyNext
  refine wpAny_bind (wpAny_attempt (wpAny_callSpecial?_slot (name := Str.ofString "__next__") hT F.slot_zip_next (wpAny_call_entry F.slot_zip_next hT F.entry_zip_next
    (Zj2 D1 D2 ap zz zi zo s1 s2 hk fun h' tk e kp he => ?_) (F.args_zip_next_1 _))))
  obtain ⟨o, ho, hc⟩ := he
  refine wpAny_bind (wpAny_isInstance (T := "StopIteration") (b := true) ⟨o, ho, hc⟩ isSubtype_stop ?_)
  exact wpAny_pure (hQ _ _ kp)
end
end LS
namespace LS
open PySem PySem.Spec PyProof.Rows L2
open AutoSeq1 (wpAny_loadPart')
def ItAt : Bool → Heap → Addr → Addr → Nat → Prop
  | true, h, it, l, i => h.IsTupleIter it l i
  | false, h, it, l, i => h.IsListIter it l i
def SqA : Bool → Heap → Addr → Array Value → Prop
  | true, h, l, xs => h.IsTuple l xs
  | false, h, l, xs => h.IsList l xs
def SqK : Bool → PySem.W.Frag → Hp → Addr → List V → Prop
  | true, K, H, a, xs => SqT K H a xs
  | false, K, H, a, xs => SqL K H a xs
def Zhy (k : Bool) (l : Addr) : Obj := { cls := .type (if k then "tuple_iterator" else "list_iterator"), data := .fields #[.ref l, .int 0 0] }
theorem Zij {prog : Program} {w : World} {A : Around} (k : Bool) (hh : A.handled = none) (it l : Addr) (hne : l ≠ it) (items : Array Value) :
    Draws prog w A it [it, l] items.size (fun i v => items[i]? = some v) (fun i h => ItAt k h it l i ∧ SqA k h l items) := by
  cases k
  · exact Draws.list hh it l hne items
  · exact Zdo hh it l hne items
theorem ItAt.obj {k : Bool} {h : Heap} {it l : Addr} {i : Nat} (x : ItAt k h it l i) : ∃ o, h.get? it = some o ∧ ∀ v, o.data ≠ .cell v := by
  cases k
  · obtain ⟨o, e, c, d⟩ := x
    exact ⟨o, e, fun v z => by rw [d] at z; cases z⟩
  · obtain ⟨o, e, c, d⟩ := x
    exact ⟨o, e, fun v z => by rw [d] at z; cases z⟩
theorem ItAt.at {k : Bool} {h h' : Heap} {it l : Addr} {i : Nat} (x : ItAt k h it l i) (f : ∀ o, h.get? it = some o → h'.get? it = some o) : ItAt k h' it l i := by
  cases k
  · exact Heap.IsListIter.at x f
  · exact Heap.IsTupleIter.at x f
section
variable {X : Cx} {pins : List (Addr × Obj)} {σ : L2.St} {H : Hp} {s : Shared}
theorem Zoa {k : Bool} {a : Addr} {xs : List V} (I : Inv X pins σ H s) (h : SqK k X.K H a xs) : ∃ its : List Value, Vals xs its ∧ SqA k s.heap a its.toArray ∧ a < s.heap.objs.size := by
  cases k
  · obtain ⟨its, r, p, _⟩ := I.list h
    have q := p.isList
    exact ⟨its, r, q, by obtain ⟨_, e, _⟩ := q; exact Heap.lt_size e⟩
  · obtain ⟨its, r, p, _⟩ := I.tuple h
    exact ⟨its, r, p, p.lt⟩
theorem ZsX {k : Bool} {a : Addr} {xs ys : List V} (I : Inv X pins σ H s) (h : SqK k X.K H a xs) (h' : SqK k X.K H a ys) : xs = ys := by
  cases k
  · exact I.list_inj h h'
  · exact I.tuple_inj h h'
end
def Itz (K : PySem.W.Frag) (k1 k2 : Bool) (t u : Addr) : It := ⟨fun i H => ∃ xs ys, SqK k1 K H t xs ∧ SqK k2 K H u ys ∧ i < xs.length ∧ i < ys.length,
  fun i H x H' => ∃ p v v', H p = none ∧ x = .ref p ∧ (∀ xs : List V, SqK k1 K H t xs → xs[i]? = some v) ∧ (∀ ys : List V, SqK k2 K H u ys → ys[i]? = some v') ∧ H' = upd H p (.tup [v, v']),
  fun i H => ∃ xs ys, SqK k1 K H t xs ∧ SqK k2 K H u ys ∧ (i = xs.length ∨ (i < xs.length ∧ i = ys.length))⟩
inductive ZSt (k1 k2 : Bool) (z TI TO p q t u : Addr) (i : Nat) (h : Heap) : Prop where
  | mk (zz : IsZip h z TI TO .none) (zi : IsPair h TI (.ref p) (.ref q)) (zo : ∃ a b, IsPair h TO a b) (x1 : ItAt k1 h p t i) (x2 : ItAt k2 h q u i) : ZSt k1 k2 z TI TO p q t u i h
theorem Zlz {P : Program} {w : World} {K : PySem.W.Frag} {elts : List Expr} {kt : Nat} {tpos : Pos} (k1 k2 : Bool) (z TI TO p q t u : Addr) (ap : ZAp z TI TO p q [p, t] [q, u]) (n1 : t ≠ p) (n2 : u ≠ q) :
    Zma P w K (.Tuple elts kt tpos) (Itz K k1 k2 t u) [z, TI, TO, p, q] z (ZSt k1 k2 z TI TO p q t u) where
  mem := by simp
  obj := fun i h st c hc => by
    obtain ⟨zz, zi, ⟨a, b, zo⟩, x1, x2⟩ := st
    simp only [List.mem_cons, List.not_mem_nil, or_false] at hc
    rcases hc with rfl | rfl | rfl | rfl | rfl
    · exact ⟨_, zz, fun v y => by cases y⟩
    · exact ⟨_, zi, fun v y => by cases y⟩
    · exact ⟨_, zo, fun v y => by cases y⟩
    · exact x1.obj
    · exact x2.obj
  keep := fun i h h' st kp => by
    obtain ⟨zz, zi, ⟨a, b, zo⟩, x1, x2⟩ := st
    exact ⟨kp z (by simp) _ zz, kp TI (by simp) _ zi, ⟨a, b, kp TO (by simp) _ zo⟩, x1.at fun o e => kp p (by simp) o e, x2.at fun o e => kp q (by simp) o e⟩
  item := by
    intro X hP hw hK hc i pins s σ H E I hf st hg
    subst hP hw hK
    obtain ⟨zz, zi, ⟨a, b, zo⟩, x1, x2⟩ := st
    obtain ⟨xs, ys, hq1, hq2, l1, l2⟩ := hg
    obtain ⟨it1, rv1, sq1, lt1⟩ := Zoa I hq1
    obtain ⟨it2, rv2, sq2, lt2⟩ := Zoa I hq2
    have e1 := rv1.length
    have e2 := rv2.length
    have hh : X.A.in1.handled = none := I.ok.hd hc
    refine ZiP (Zij k1 hh p t n1 it1.toArray) (Zij k2 hh q u n2 it2.toArray) ap zz zi zo ⟨x1, sq1⟩ ⟨x2, sq2⟩ (by rw [List.size_toArray]; omega) (by rw [List.size_toArray]; omega) fun h1 tk x y px py zz1 zo1 st1 st2 nw kp => ?_
    refine ⟨.ref s.heap.objs.size, rfl, wpAny_letOwnedTupleGo_zip zz1 fun h2 zz2 sb => ?_⟩
    have hx : xs[i]? = some xs[i] := List.getElem?_eq_getElem l1
    have hy : ys[i]? = some ys[i] := List.getElem?_eq_getElem l2
    obtain ⟨u1, hu1, ru1⟩ := rv1.get hx
    obtain ⟨u2, hu2, ru2⟩ := rv2.get hy
    have hux : u1 = x := by
      have : it1[i]? = some x := by simpa using px
      rw [hu1] at this
      exact Option.some.inj this
    have huy : u2 = y := by
      have : it2[i]? = some y := by simpa using py
      rw [hu2] at this
      exact Option.some.inj this
    subst hux huy
    have hfr : H s.heap.objs.size = none := I.hok.fresh (Nat.le_refl _)
    have kk : ∀ c o, c ∉ [z, TI, TO, p, q] → s.heap.get? c = some o → h2.get? c = some o := fun c o hc e => by
      simp only [List.mem_cons, List.not_mem_nil, or_false, not_or] at hc
      exact (sb.2 c hc.1).trans (kp c o hc.1 hc.2.2.1 hc.2.2.2.1 hc.2.2.2.2 e)
    have nal : ∀ c o, s.heap.get? c = some o → c ≠ s.heap.objs.size := fun c o e => nne (Heap.lt_size e)
    have na : s.heap.objs.size ≠ z := Ne.symm (nal z _ zz)
    have hnew : h2.get? s.heap.objs.size = some { cls := .type "tuple", data := .seq #[u1, u2] } := (sb.2 _ na).trans nw
    have ntr : ∀ c o, H c = some o → c ∉ [z, TI, TO, p, q] := fun c o e hc => by
      rw [(hf c hc).1] at e; cases e
    refine ⟨.ref s.heap.objs.size, upd H s.heap.objs.size (.tup [xs[i], ys[i]]), ?_, rfl, ⟨s.heap.objs.size, xs[i], ys[i], hfr, rfl, fun zs hz => by rw [ZsX I hz hq1]; exact hx, fun zs hz => by rw [ZsX I hz hq2]; exact hy, rfl⟩,
      ⟨zz2, (sb.2 TI ap.a1).trans (kp TI _ ap.a1 ap.a5 ap.a6 ap.a7 zi), ⟨u1, u2, (sb.2 TO ap.a2).trans zo1⟩, st1.1.at fun o e => (sb.2 p ap.a3).trans e, st2.1.at fun o e => (sb.2 q ap.a4).trans e⟩, fun c hc => ?_⟩
    · show Inv X pins σ _ { s with heap := h2, gens := s.gens, drawn := s.drawn, toks := tk }
      refine I.step (g' := s.gens) (d' := s.drawn) (t' := tk) (h' := h2) (ch := [z, TI, TO, p, q]) (fun c hc => ?_) (fun c o _ _ hc e _ => kk c o hc e) (fun c o _ _ hc e _ => ⟨o.slots, kk c o hc e⟩) (fun c o _ e n => by rw [Zaq (nal c o e)]; exact n)
        (fun c o hc e => ⟨o, kk c o hc e⟩) (fun c zs e => by rw [Zaq (Zau e hfr)]; exact e) (fun c o v e => by rw [Zaq (Zau e hfr)]; exact e) (fun c ps e => ⟨#[], by rw [Zaq (Zau e hfr), e]; simp⟩) (fun m hm => ?_) (fun c o e => ?_) I.bare
      · obtain ⟨_, c1, _, c3, c4, c5⟩ := hf c hc
        exact ⟨c3, c1, c4, c5⟩
      · obtain ⟨o, es, ep, e, r⟩ := hm
        exact ⟨o, es, ep, kk _ o (fun hc => (hf _ hc).2.1 rfl) e, r⟩
      · by_cases hb : c = s.heap.objs.size
        · subst hb
          rw [Za0] at e
          cases e
          exact ⟨by simp only [List.length_cons, List.length_nil]; rw [sizeLine_eq]; decide, [u1, u2], .cons ru1 (.cons ru2 .nil), ⟨_, hnew, rfl, 0, rfl⟩, fun o e => by rw [hnew] at e; cases e; rfl⟩
        · rw [Zaq hb] at e
          refine (I.hok c o e).stay (fun d v hd e' => kk d v ?_ e') (fun d e' => by rw [Zaq (Zau e' hfr)]; exact e') fun d zs e' => by rw [Zaq (Zau e' hfr)]; exact e'
          rcases hd with rfl | hd
          · exact ntr d _ e
          · exact ntr d _ hd
    · have nc : c ≠ s.heap.objs.size := by
        simp only [List.mem_cons, List.not_mem_nil, or_false] at hc
        rcases hc with rfl | rfl | rfl | rfl | rfl
        · exact nal _ _ zz
        · exact nal _ _ zi
        · exact nal _ _ zo
        · obtain ⟨o, e, _⟩ := x1.obj; exact nal _ _ e
        · obtain ⟨o, e, _⟩ := x2.obj; exact nal _ _ e
      rw [Zaq nc]
      exact (hf c hc).1
  done := by
    intro X hP hw hK hc i pins s σ H E I hf st hg
    subst hP hw hK
    obtain ⟨zz, zi, ⟨a, b, zo⟩, x1, x2⟩ := st
    obtain ⟨xs, ys, hq1, hq2, hl⟩ := hg
    obtain ⟨it1, rv1, sq1, lt1⟩ := Zoa I hq1
    obtain ⟨it2, rv2, sq2, lt2⟩ := Zoa I hq2
    have e1 := rv1.length
    have e2 := rv2.length
    have hh : X.A.in1.handled = none := I.ok.hd hc
    refine ZiQ (Zij k1 hh p t n1 it1.toArray) (Zij k2 hh q u n2 it2.toArray) ap zz zi zo ⟨x1, sq1⟩ ⟨x2, sq2⟩ (by simp only [List.size_toArray]; omega) fun h' tk kp => ⟨rfl, ?_⟩
    have kk : ∀ c o, c ∉ [z, TI, TO, p, q] → s.heap.get? c = some o → h'.get? c = some o := fun c o hc e => by
      simp only [List.mem_cons, List.not_mem_nil, or_false, not_or] at hc
      exact kp c o hc.1 hc.2.2.1 hc.2.2.2.1 hc.2.2.2.2 e
    have ntr : ∀ c o, H c = some o → c ∉ [z, TI, TO, p, q] := fun c o e hc => by
      rw [(hf c hc).1] at e; cases e
    show Inv X pins σ _ { s with heap := h', gens := s.gens, drawn := s.drawn, toks := tk }
    refine I.step (g' := s.gens) (d' := s.drawn) (t' := tk) (h' := h') (ch := [z, TI, TO, p, q]) (fun c hc => ?_) (fun c o _ _ hc e _ => kk c o hc e) (fun c o _ _ hc e _ => ⟨o.slots, kk c o hc e⟩) (fun c o _ e n => n)
      (fun c o hc e => ⟨o, kk c o hc e⟩) (fun c zs e => e) (fun c o v e => e) (fun c ps e => ⟨#[], by rw [e]; simp⟩) (fun m hm => ?_) (fun c o e => ?_) I.bare
    · obtain ⟨_, c1, _, c3, c4, c5⟩ := hf c hc
      exact ⟨c3, c1, c4, c5⟩
    · obtain ⟨o, es, ep, e, r⟩ := hm
      exact ⟨o, es, ep, kk _ o (fun hc => (hf _ hc).2.1 rfl) e, r⟩
    · refine (I.hok c o e).stay (fun d v hd e' => kk d v ?_ e') (fun d e' => e') fun d zs e' => e'
      rcases hd with rfl | hd
      · exact ntr d _ e
      · exact ntr d _ hd
  self := fun A i s Q E st h => by cases st with | mk zz zi zo x1 x2 => exact wpAny_pyIter_zip zz h
abbrev zA (h : Heap) (k1 : Bool) (t : Addr) : Heap := h.push (Zhy k1 t)
abbrev zB (h : Heap) (k1 k2 : Bool) (t u : Addr) : Heap := (zA h k1 t).push (Zhy k2 u)
abbrev zC (h : Heap) (k1 k2 : Bool) (t u : Addr) : Heap := (zB h k1 k2 t u).push { cls := .type "tuple", data := .seq #[.ref h.objs.size, .ref (zA h k1 t).objs.size] }
abbrev zD (h : Heap) (k1 k2 : Bool) (t u : Addr) : Heap := (zC h k1 k2 t u).push { cls := .type "tuple", data := .seq #[.none, .none] }
abbrev zE (h : Heap) (k1 k2 : Bool) (t u : Addr) : Heap := (zD h k1 k2 t u).push { cls := .type "zip", data := .fields #[.none, .bool false, .bool false, .ref (zB h k1 k2 t u).objs.size, .ref (zC h k1 k2 t u).objs.size] }
theorem SqA.push {k : Bool} {h : Heap} {l : Addr} {xs : Array Value} (x : SqA k h l xs) (o : Obj) : SqA k (h.push o) l xs := by
  cases k
  · exact Heap.IsList.push x o
  · exact Heap.IsTuple.push x o
theorem Zo9 {prog : Program} {w : World} {A : Around} {E : Value → Shared → Prop} {s : Shared} {k : Bool} {l : Addr} {xs : Array Value} {Q : Value → Shared → Prop} (x : SqA k s.heap l xs) (hQ : Q (.ref s.heap.objs.size) { s with heap := s.heap.push (Zhy k l) }) :
    wpAny (model prog w) A (pyIter (.ref l)) Q E s := by
  cases k
  · exact wpAny_pyIter_list x hQ
  · exact wpAny_pyIter_tuple x hQ
theorem ZiR (k1 k2 : Bool) (t u : Addr) (xs ys : Array Value) :
    Meets (Builtin.«zip.__new__» ⟨[.type "zip", .ref t, .ref u], []⟩) (fun _ R s => SqA k1 s.heap t xs ∧ SqA k2 s.heap u ys ∧
      R (.ok (.ret (.ref (zD s.heap k1 k2 t u).objs.size))) { s with heap := zE s.heap k1 k2 t u }) :=
  .of_wp fun prog w A R s h => by
    obtain ⟨hp, g, d, tk, os⟩ := s; obtain ⟨hl1, hl2, h⟩ := h
    have hsub := sub_zip
    have hL1 : SqA k1 (Shared.heap ⟨hp, g, d, tk, os⟩) t xs := hl1
    have hL2 : SqA k2 (Shared.heap ⟨hp.push (Zhy k1 t), g, d, tk, os⟩) u ys := SqA.push hl2 _
    wp_walk using Zo9 hL1, Zo9 hL2
    exact ⟨_, rfl, h⟩
theorem ItAt.new {k : Bool} {h : Heap} {it l : Addr} (e : h.get? it = some (Zhy k l)) : ItAt k h it l 0 := by
  cases k
  · exact ⟨_, e, rfl, rfl⟩
  · exact ⟨_, e, rfl, rfl⟩
theorem Zj3 {prog : Program} {w : World} {A : Around} {E : Value → Shared → Prop} {s : Shared} {k1 k2 : Bool} {t u : Addr} {xs ys : Array Value} {Q : Value → Shared → Prop} (h1 : SqA k1 s.heap t xs) (h2 : SqA k2 s.heap u ys)
    (h : ∀ h', IsZip h' (s.heap.objs.size + 4) (s.heap.objs.size + 2) (s.heap.objs.size + 3) .none → IsPair h' (s.heap.objs.size + 2) (.ref s.heap.objs.size) (.ref (s.heap.objs.size + 1)) →
      IsPair h' (s.heap.objs.size + 3) .none .none → ItAt k1 h' s.heap.objs.size t 0 → ItAt k2 h' (s.heap.objs.size + 1) u 0 → (∀ c o, s.heap.get? c = some o → h'.get? c = some o) → Q (.ref (s.heap.objs.size + 4)) { s with heap := h' }) :
    wpAny (model prog w) A (call (.type "zip") [.ref t, .ref u]) Q E s := by
  refine callType_new F.called_zip (by decide) (F.typeCall_zip_2 _ _) (F.newCall_zip_2 _ _) (fun obj => F.args_object_init_3 obj _ _) F.entry_zip_new
    (ZiR k1 k2 t u xs ys) ⟨h1, h2, ?_⟩
  have y1 : (zA s.heap k1 t).objs.size = s.heap.objs.size + 1 := Heap.size_push ..
  have y2 : (zB s.heap k1 k2 t u).objs.size = s.heap.objs.size + 2 := by rw [Heap.size_push, y1]
  have y3 : (zC s.heap k1 k2 t u).objs.size = s.heap.objs.size + 3 := by rw [Heap.size_push, y2]
  have y4 : (zD s.heap k1 k2 t u).objs.size = s.heap.objs.size + 4 := by rw [Heap.size_push, y3]
  have g5 : (zE s.heap k1 k2 t u).get? (zD s.heap k1 k2 t u).objs.size = some _ := Heap.get?_push_size _ rfl
  have g4 : (zE s.heap k1 k2 t u).get? (zC s.heap k1 k2 t u).objs.size = some _ := Heap.get?_push_of_some _ (Heap.get?_push_size _ rfl)
  have g3 : (zE s.heap k1 k2 t u).get? (zB s.heap k1 k2 t u).objs.size = some _ := Heap.get?_push_of_some _ (Heap.get?_push_of_some _ (Heap.get?_push_size _ rfl))
  have g2 : (zE s.heap k1 k2 t u).get? (zA s.heap k1 t).objs.size = some (Zhy k2 u) := Heap.get?_push_of_some _ (Heap.get?_push_of_some _ (Heap.get?_push_of_some _ (Heap.get?_push_size _ rfl)))
  have g1 : (zE s.heap k1 k2 t u).get? s.heap.objs.size = some (Zhy k1 t) := Heap.get?_push_of_some _ (Heap.get?_push_of_some _ (Heap.get?_push_of_some _ (Heap.get?_push_of_some _ (Heap.get?_push_size _ rfl))))
  show _ ∧ _
  rw [y2, y3, y4] at g5
  rw [y1, y2] at g3
  rw [y3] at g4
  rw [y1] at g2
  rw [y4]
  exact ⟨⟨_, g5, rfl⟩, h _ g5 g3 g4 (.new g1) (.new g2) fun c o x => Heap.get?_push_of_some _ (Heap.get?_push_of_some _ (Heap.get?_push_of_some _ (Heap.get?_push_of_some _ (Heap.get?_push_of_some _ x))))⟩
section
variable {X : Cx} {E : XK}
theorem Zpa {elts : List Expr} {kt : Nat} {tpos p pos : Pos} {a b : Expr} {ta : TA} (hg : Gl X "zip") (hm : X.mg "zip" = none) (ha : PA X [a, b] ta) (hs : starEach [a, b] X.env = [(false, eval a X.env), (false, eval b X.env)] := by rfl) (hs2 : starEach [b] X.env = [(false, eval b X.env)] := by rfl) :
    PI X (.Tuple elts kt tpos) (.Call (.Name "zip" p) [a, b] [] pos) (fun σ H R => ta σ H fun vs H1 => ∃ k1 k2 t u xs ys, vs = [.ref t, .ref u] ∧ SqK k1 X.K H1 t xs ∧ SqK k2 X.K H1 u ys ∧ R (Itz X.K k1 k2 t u) H1) := by
  intro pins s σ H R I h
  refine Call_ (ZfA I hg hm PyProof.Rows.boot_zip (PyProof.Rows.callWith_type1 (thn (ha pos pins s σ H _ I h) fun us s1 ⟨vs, H1, I1, r1, q1⟩ => ?_) (by rw [hs, hs2]) (by rw [hs2]; rfl)))
  obtain ⟨k1, k2, t, u, xs, ys, e, hq1, hq2, q⟩ := q1
  subst e
  cases r1 with
  | cons r rr =>
    cases rr with
    | cons r' rr =>
      cases rr
      cases r
      cases r'
      obtain ⟨it1, rv1, sq1, lt1⟩ := Zoa I1 hq1
      obtain ⟨it2, rv2, sq2, lt2⟩ := Zoa I1 hq2
      refine Zj3 sq1 sq2 fun h' zz zi zo x1 x2 kp => wpAny_pyIter_zip (s := { s1 with heap := h' }) zz ?_
      have I2 : Inv X pins σ H1 { s1 with heap := h' } := I1.kept (t' := s1.toks) kp
      have fr : ∀ c, s1.heap.objs.size ≤ c → Zhm X pins H1 c := fun c hc => I1.fpOk hc (I1.hok.fresh hc)
      have m0 : s1.heap.objs.size ≠ s1.heap.objs.size + 4 := Nat.ne_of_lt (by omega)
      have ap : ZAp (s1.heap.objs.size + 4) (s1.heap.objs.size + 2) (s1.heap.objs.size + 3) s1.heap.objs.size (s1.heap.objs.size + 1) [s1.heap.objs.size, t] [s1.heap.objs.size + 1, u] := by
        generalize s1.heap.objs.size = n at lt1 lt2
        exact ⟨Nat.ne_of_lt (by omega), Nat.ne_of_lt (by omega), Nat.ne_of_lt (by omega), Nat.ne_of_lt (by omega), Nat.ne_of_lt (by omega), Nat.ne_of_gt (by omega), Nat.ne_of_gt (by omega), Nat.ne_of_gt (by omega), Nat.ne_of_gt (by omega), Nat.ne_of_lt (by omega),
          fun z => by simp only [List.mem_cons, List.not_mem_nil, or_false] at z; rcases z with z | z; exact absurd z (Nat.ne_of_gt (by omega)); exact absurd z (Nat.ne_of_gt (Nat.lt_of_lt_of_le lt1 (Nat.le_add_right _ _))),
          fun z => by simp only [List.mem_cons, List.not_mem_nil, or_false] at z; rcases z with z | z; exact absurd z (Nat.ne_of_gt (by omega)); exact absurd z (Nat.ne_of_gt (Nat.lt_of_lt_of_le lt2 (Nat.le_add_right _ _))),
          fun z => by simp only [List.mem_cons, List.not_mem_nil, or_false] at z; rcases z with z | z; exact absurd z (Nat.ne_of_gt (by omega)); exact absurd z (Nat.ne_of_gt (Nat.lt_of_lt_of_le lt1 (Nat.le_add_right _ _))),
          fun z => by simp only [List.mem_cons, List.not_mem_nil, or_false] at z; rcases z with z | z; exact absurd z (Nat.ne_of_gt (by omega)); exact absurd z (Nat.ne_of_gt (Nat.lt_of_lt_of_le lt2 (Nat.le_add_right _ _))),
          fun z => by simp only [List.mem_cons, List.not_mem_nil, or_false] at z; rcases z with z | z; exact absurd z (Nat.ne_of_lt (by omega)); exact absurd z (Nat.ne_of_gt lt2),
          fun z => by simp only [List.mem_cons, List.not_mem_nil, or_false] at z; rcases z with z | z; exact absurd z (Nat.ne_of_gt (by omega)); exact absurd z (Nat.ne_of_gt (Nat.lt_of_lt_of_le lt1 (Nat.le_add_right _ _)))⟩
      refine ⟨s1.heap.objs.size + 4, [s1.heap.objs.size + 4, s1.heap.objs.size + 2, s1.heap.objs.size + 3, s1.heap.objs.size, s1.heap.objs.size + 1], _, _, H1, rfl, I2, Zlz k1 k2 _ _ _ _ _ t u ap (nne lt1) (nne (Nat.lt_succ_of_lt lt2)), ⟨zz, zi, ⟨_, _, zo⟩, x1, x2⟩, fun c hc => ?_, q⟩
      simp only [List.mem_cons, List.not_mem_nil, or_false] at hc
      rcases hc with rfl | rfl | rfl | rfl | rfl
      · exact fr _ (Nat.le_add_right _ _)
      · exact fr _ (Nat.le_add_right _ _)
      · exact fr _ (Nat.le_add_right _ _)
      · exact fr _ (Nat.le_refl _)
      · exact fr _ (Nat.le_add_right _ _)
def Zob (xs ys : List D) : List D := List.zipWith (fun a b => .tup [a, b]) xs ys
def Zjg : D → HD → Option (List D × Src)
  | .tup xs, _ => some (xs, [])
  | .loc l, h => match h[l]? with
    | some (.lst xs) => some (xs, [(l, xs)])
    | _ => none
  | _, _ => none
def Zpb : List D → HD → Out (List D × Src) := fun ds h => match ds with
  | [x, y] => match Zjg x h, Zjg y h with
    | some (xs, s1), some (ys, s2) => .ok (Zob xs ys, s1 ++ s2) h
    | _, _ => .stuck
  | _ => .stuck
def ZlA (fa : MA) : MI := fun ρ h => (fa ρ h).bind Zpb
theorem Zj4 {m : List Addr} {h : HD} {d : D} {v : V} {H : Hp} {xs : List D} {sr : Src} (hr : HR X.K m h H) (r : DV X.K m H d v) (e : Zjg d h = some (xs, sr)) :
    ∃ k t, v = .ref t ∧ ∀ m2 h2 H2, m <+: m2 → Kp H H2 → HR X.K m2 h2 H2 → (∀ p ∈ sr, h2[p.1]? = some (.lst p.2)) → ∃ vs, SqK k X.K H2 t vs ∧ DVs X.K m2 H2 xs vs := by
  cases d with
  | tup zs =>
    simp only [Zjg, Option.some.injEq, Prod.mk.injEq] at e
    obtain ⟨rfl, rfl⟩ := e
    simp only [DV] at r
    obtain ⟨a, vs, rfl, ha, dv⟩ := r
    exact ⟨true, a, rfl, fun m2 h2 H2 p2 k2 hr2 _ => ⟨vs, SqT.of (k2 _ _ ha rfl), dv.keep p2 k2⟩⟩
  | loc l =>
    simp only [Zjg] at e
    split at e
    · rename_i zs el
      simp only [Option.some.injEq, Prod.mk.injEq] at e
      obtain ⟨rfl, rfl⟩ := e
      simp only [DV] at r
      obtain ⟨a, rfl, ha⟩ := r
      refine ⟨false, a, rfl, fun m2 h2 H2 p2 k2 hr2 hs => ?_⟩
      obtain ⟨ws, hw, dw⟩ := hr2.cells l _ a (hs _ List.mem_cons_self) (ZeG p2 ha)
      exact ⟨ws, SqL.of hw, dw⟩
    · cases e
  | _ => simp [Zjg] at e
theorem Zik {h : HD} {d : D} {xs : List D} {sr : Src} (e : Zjg d h = some (xs, sr)) : ∀ p ∈ sr, h[p.1]? = some (.lst p.2) := by
  cases d with
  | tup zs =>
    simp only [Zjg, Option.some.injEq, Prod.mk.injEq] at e
    obtain ⟨rfl, rfl⟩ := e
    exact fun p hp => nomatch hp
  | loc l =>
    simp only [Zjg] at e
    split at e
    · rename_i zs el
      simp only [Option.some.injEq, Prod.mk.injEq] at e
      obtain ⟨rfl, rfl⟩ := e
      intro p hp
      rw [List.mem_singleton] at hp
      subst hp
      exact el
    · cases e
  | _ => simp [Zjg] at e
theorem Znb {elts : List Expr} {kt : Nat} {tpos p pos : Pos} {a b : Expr} {fa : MA} (hg : Gl X "zip") (hm : X.mg "zip" = none) (ha : EvA X E [a, b] fa) (hs : starEach [a, b] X.env = [(false, eval a X.env), (false, eval b X.env)] := by rfl) (hs2 : starEach [b] X.env = [(false, eval b X.env)] := by rfl) :
    EvI X E (.Tuple elts kt tpos) (.Call (.Name "zip" p) [a, b] [] pos) (ZlA fa) :=
  Zib (Zpa hg hm ha hs hs2) fun σ H R ⟨m, ρ, h, hr, er, p⟩ => ⟨m, ρ, h, hr, er, Post.bind p fun x h1 v m1 H1 eo p1 k1 hr1 r1 q1 => by
    clear eo
    unfold Zpb at q1
    split at q1
    · rename_i d1 d2
      split at q1
      · rename_i xs s1 ys s2 e1 e2
        simp only [rDs, DVs] at r1
        obtain ⟨v1, w1, rfl, rv1, v2, w2, rfl, rv2, rfl⟩ := r1
        obtain ⟨kd1, t, rfl, f1⟩ := Zj4 hr1 rv1 e1
        obtain ⟨kd2, u, rfl, f2⟩ := Zj4 hr1 rv2 e2
        obtain ⟨vs1, sq1, _⟩ := f1 m1 h1 H1 (List.prefix_refl _) (.refl _) hr1 (Zik e1)
        obtain ⟨vs2, sq2, _⟩ := f2 m1 h1 H1 (List.prefix_refl _) (.refl _) hr1 (Zik e2)
        refine ⟨kd1, kd2, t, u, vs1, vs2, rfl, sq1, sq2, q1 _ m1 H1 (List.prefix_refl _) (.refl _) hr1 fun i m2 h2 H2 p2 k2 hr2 hsr => ?_⟩
        obtain ⟨ws1, sw1, dw1⟩ := f1 m2 h2 H2 p2 k2 hr2 fun p hp => hsr p (List.mem_append_left _ hp)
        obtain ⟨ws2, sw2, dw2⟩ := f2 m2 h2 H2 p2 k2 hr2 fun p hp => hsr p (List.mem_append_right _ hp)
        have n1 := dw1.len
        have n2 := dw2.len
        have nl : (Zob xs ys).length = min xs.length ys.length := by simp [Zob]
        refine ⟨fun hi => ?_, fun hi => ⟨ws1, ws2, sw1, sw2, by dsimp only at hi; omega⟩⟩
        dsimp only at hi
        have i1 : i < xs.length := by omega
        have i2 : i < ys.length := by omega
        refine ⟨⟨ws1, ws2, sw1, sw2, by omega, by omega⟩, fun y H3 z3_ => ?_⟩
        obtain ⟨pp, vv, vv', hp, ey, ev, ev', eH⟩ := z3_
        subst ey eH
        have g1 : xs[i]? = some xs[i] := List.getElem?_eq_getElem i1
        have g2 : ys[i]? = some ys[i] := List.getElem?_eq_getElem i2
        obtain ⟨c1, z1, r1'⟩ := dw1.get g1
        obtain ⟨c2, z2, r2'⟩ := dw2.get g2
        rw [ev ws1 sw1] at z1
        rw [ev' ws2 sw2] at z2
        cases z1
        cases z2
        refine ⟨.new hp, hr2.new hp, .tup [xs[i], ys[i]], ?_, ?_⟩
        · simp [Zob, List.getElem?_zipWith, g1, g2]
        · simp only [DV]
          exact ⟨pp, _, rfl, Za0, .cons (DV.keep (List.prefix_refl _) (.new hp) r1') (.cons (DV.keep (List.prefix_refl _) (.new hp) r2') .nil)⟩
      · exact q1.elim
    · exact q1.elim⟩
end
end LS
namespace LS
open PySem PySem.Spec PyProof.Rows L2
section
variable {ρ : Rho} {h : HD} {QI : (List D × Src) → HD → Prop} {Q : D → HD → Prop} {QO : Option Int → HD → Prop} {QS : Fl × Rho → HD → Prop} {f fo fi fv : ME} {lo hi : MO} {fa : MA}
@[simp] theorem Zpc : Wp (ZcU fa ρ h) QI = Wp (fa ρ h) fun d h1 => Wp (ZgQ d h1) QI := by unfold ZcU; rw [Zao]
@[simp] theorem Zrp : Wp (ZlA fa ρ h) QI = Wp (fa ρ h) fun d h1 => Wp (Zpb d h1) QI := by unfold ZlA; rw [Zao]
@[simp] theorem Zqk : Wp (Zmo f lo hi ρ h) Q = Wp (f ρ h) fun x h1 => Wp (lo ρ h1) fun l h2 => Wp (hi ρ h2) fun u h3 => Wp (slD x l u h3) Q := by unfold Zmo; simp only [Zao]
@[simp] theorem Zpd : Wp (Za9 ρ h) QO = QO none h := id rfl
@[simp] theorem Zrq : Wp (Zcs f ρ h) QO = Wp (f ρ h) fun x h1 => Wp (match x with
  | .int i => (.ok (some i) h1 : Out (Option Int))
  | _ => .stuck) QO := by unfold Zcs; rw [Zao] <;> rfl
@[simp] theorem Zql : Wp (Zmq fo fi fv ρ h) QS = Wp (fo ρ h) fun o h1 => Wp (fi ρ h1) fun i h2 => Wp (Zmp o i h2) fun x h3 => Wp (fv ρ h3) fun y h4 => Wp (ZsT o i x y ρ h4) QS := by unfold Zmq; simp only [Zao]
theorem ZlB {n : Nat} {e : Nat → D} : ZeV ((List.range n).map e) = (List.range n).map fun k => D.tup [.int ((k : Nat) : Int), e k] := by
  unfold ZeV
  apply List.ext_getElem
  · simp
  · intro i h1 h2; simp
theorem Zey {n : Nat} {e : Nat → D} : ZgQ [.tup ((List.range n).map e)] h = .ok ((List.range n).map fun k => D.tup [.int ((k : Nat) : Int), e k], []) h := by
  simp only [ZgQ, ZlB]
theorem Znc {n : Nat} {e e' : Nat → D} : Zob ((List.range n).map e) ((List.range n).map e') = (List.range n).map fun k => D.tup [e k, e' k] := by
  unfold Zob
  apply List.ext_getElem
  · simp
  · intro i h1 h2; simp
theorem Zpe {n : Nat} {e e' : Nat → D} {x y : D} {s1 s2 : Src} (hx : Zjg x h = some ((List.range n).map e, s1)) (hy : Zjg y h = some ((List.range n).map e', s2)) :
    Zpb [x, y] h = .ok ((List.range n).map fun k => D.tup [e k, e' k], s1 ++ s2) h := by
  simp only [Zpb, hx, hy, Znc]
theorem Zez {l : Nat} {ds : List D} (e : h[l]? = some (.lst ds)) : ZiH (.loc l) h = .ok (ds, [(l, ds)]) h := by
  simp only [ZiH, Zbl, e, Zso]
theorem Zf6 {l : Nat} {ds : List D} (e : h[l]? = some (.lst ds)) : Zcl (.loc l) h = .ok (.int ds.length) h := by
  simp only [Zcl, Zbl, e]
theorem Zil {a : D} : ∀ n : Nat, (List.replicate n [a]).flatten = List.replicate n a
  | 0 => rfl
  | n + 1 => by rw [List.replicate_succ, List.flatten_cons, Zil n]; rfl
theorem Zj5 {l n : Nat} {a : D} (e : h[l]? = some (.lst [a])) (hn : n ≤ 1000) : ZdQ (.loc l) (.int (n : Nat)) h = Zhk (List.replicate n a) h := by
  have : (-(2 ^ 63) : Int) ≤ (n : Int) ∧ (n : Int) < 2 ^ 63 := by omega
  simp only [ZdQ, e]
  rw [if_pos this]
  simp [Zil]
end
noncomputable def Zrr (cs : List (Option Nat)) (it : MI) (sg : MG) (t : MT) (f : ME) : ME := Zaf (ar1 Zn7) (Zab (ZbC cs it sg t f) Zal)
noncomputable def ZtS (F : List Int → Int) (cs : List (Option Nat)) (it : MI) (sg : MG) (t : MT) (f : ME) : ME := Zaf (ar1 (ZsV F)) (Zab (ZbC cs it sg t f) Zal)
section
variable {α : Type} {cs : List (Option Nat)} {it : MI} {sg : MG} {t : MT} {f : ME} {ρ : Rho} {h : HD} {src : Src} {xs : List α} {φ : α → D} {F : List Int → Int}
@[simp] theorem Zpf : Zaf (ar1 Zn7) (Zab (ZbC cs it sg t f) Zal) ρ h = Zrr cs it sg t f ρ h := rfl
@[simp] theorem Zpg : Zaf (ar1 (ZsV F)) (Zab (ZbC cs it sg t f) Zal) ρ h = ZtS F cs it sg t f ρ h := rfl
theorem Zph (n : α → Int) (ρ1 : α → Rho) (hi : It0 (it ρ h) h (xs.map φ) src) (hg : ∀ x ∈ xs, sg (φ x) (ZfH cs ρ) = some (ρ1 x)) (hf : ∀ x ∈ xs, ∀ h', Sm h h' → Pu (f (ρ1 x) h') h' (.int (n x))) (hn : xs.length ≤ sizeLine) :
    Pu (Zrr cs it sg ZbB f ρ h) h (.int (xs.map n).sum) := by
  unfold Pu Zrr
  rw [ZdR, ZdS]
  refine ZdT (fun _ => true) (fun x => .int (n x)) ρ1 hi hn hg (fun x hx h' s' => (.ok : Pu (.ok true h') h' true)) (fun x hx _ h' s' => hf x hx h' s') fun l h' s' e' => ?_
  rw [ZbE] at e'
  rw [ZeW]
  simp only [ar1, Zn7, Zbl, e', List.map_map]
  rw [Zcr (f := Zhu ∘ fun x => D.int (n x)) (g := n) (fun x _ => rfl)]
  exact ⟨rfl, s'⟩
end
end LS
namespace LS
open PySem PySem.Spec PyProof.Rows L2
section
variable {X : Cx} {E : XK}
end
section
variable {X : Cx}
def ZsY : D → HD → Out D := fun x h => match x with
  | .loc l => match h[l]? with
    | some (.lst ds) => match Zay (ds.map Zm1) with
      | some bs => .ok (.bl (bs.any id)) h
      | none => .stuck
    | _ => .stuck
  | _ => .stuck
end
noncomputable def ZtT (cs : List (Option Nat)) (it : MI) (sg : MG) (t : MT) (f : ME) : ME := Zaf (ar1 ZsY) (Zab (ZbC cs it sg t f) Zal)
section
variable {α : Type} {cs : List (Option Nat)} {it : MI} {sg : MG} {t : MT} {f : ME} {ρ : Rho} {h : HD} {src : Src} {xs : List α} {φ : α → D}
@[simp] theorem Zpi : Zaf (ar1 ZsY) (Zab (ZbC cs it sg t f) Zal) ρ h = ZtT cs it sg t f ρ h := rfl
end
end LS
namespace LS
open PySem PySem.Spec PyProof.Rows L2 PySem.W
structure EC (K : Frag) (C : Addr) : Prop where
  ga : findIn K (.ref C) "__getattribute__" = some (some (.builtin "BaseException.__getattribute__"))
  gt : findIn K (.ref C) "__getattr__" = some none
  cl : (clsIn K C).isSome = true
  ac : findIn K (.ref C) "__class__" = some (some (.builtin "object.__class__"))
  sg : specialIn K (.builtin "object.__class__") "__get__" = some (some (.builtin "getset_descriptor.__get__"))
  tk : takesIn K (.builtin "object.__class__") = some true
  mo : mroIn K C (.type "object") = some true
  mb : mroIn K C (.type "BaseException") = some true
section
variable {prog : Program} {w : World} {A : Around} {E : Value → Shared → Prop} {s : Shared} {K : Frag} {x C : Addr} {ox : Obj} {od : Option Obj}
def TyAt (x C : Addr) (h : Heap) : Prop := ∃ o, h.get? x = some o ∧ o.cls = .ref C
theorem TyAt.type {M : Model} {h : Heap} (t : TyAt x C h) : Looks M h (typeOf (.ref x)) (.ref C) := by
  obtain ⟨o, h1, h2⟩ := t
  exact h2 ▸ (Looks.ld h1).andThen .now
theorem ZlC {M : Model} {h : Heap} (c : EC K C) (X : K.In h) : Looks M h (Builtin.ObjectAttr.find (.ref x) (.ref C) "__class__") (.bind (.builtin "getset_descriptor.__get__") (.builtin "object.__class__")) := by
  have L1 := looks_findIn (M := M) X c.ac
  have L2 : Looks M h (Builtin.ObjectAttr.getOf (some (.builtin "object.__class__"))) (some (.builtin "getset_descriptor.__get__")) := looks_specialIn X c.sg
  have L3 := looks_takesIn (M := M) X c.tk
  refine L1.andThen (L2.andThen ?_)
  exact (show Looks M h (Builtin.ObjectAttr.dataDescriptor? (some (.builtin "object.__class__")) (some (.builtin "getset_descriptor.__get__"))) (some (.builtin "getset_descriptor.__get__", .builtin "object.__class__")) from L3.andThen .now).andThen (Looks.tag .now)
theorem ZiS {R : Result → Shared → Prop} {tp : Value} (X : K.In s.heap) (I : TyAt x C s.heap) (hm : mroIn K C (.type "object") = some true)
    (h : R (.ok (.ret (.ref C))) s) : codeAny (model prog w) A (.call (.builtin "getset_descriptor.__get__") ⟨[.builtin "object.__class__", .ref x, tp], []⟩) R s := by
  obtain ⟨hh, g, dr, t, os⟩ := s
  have L0 := I.type (M := model prog w)
  have L1 := looks_mroIn (M := model prog w) X hm
  refine codeAny_call_builtin KF.slot_gs.plain KF.entry_gs (KF.slot_gs.check _ _ _ _ _ _ _ _ KF.type_class (KF.args_gs _ _ _) ?_)
  unfold Builtin.«getset_descriptor.__get__» Builtin.Getset_descriptor.descrGet
  rw [dga_obj]
  refine wpAny_bind (wpAny_pure ?_)
  unfold Builtin.Getset_descriptor.descrGetter Builtin.Getset_descriptor.descrCheckInstance Builtin.Getset_descriptor.descrNameAndClass isInstance
  simp only [KF.owner_class]
  repeat lk
  refine ⟨Code.quiet_builtin _ (by decide +kernel), codeAny_builtin KF.entry_class ?_⟩
  unfold Builtin.«object.__class__» shownTypeOf
  repeat lk
  exact h
theorem Zj6 {Q : Option Value → Shared → Prop} (c : EC K C) (X : K.In s.heap) (I : TyAt x C s.heap) (h : Q (some (.ref C)) { s with toks := s.toks + 1 }) : wpAny (model prog w) A (getAttr? (.ref x) "__class__") Q E s := by
  obtain ⟨hh, g, d, t, os⟩ := s
  have L0 := I.type (M := model prog w)
  have L1 := looks_findIn (M := model prog w) X c.ga
  have L2 := looks_findIn (M := model prog w) X c.gt
  have LF := ZlC (M := model prog w) (x := x) c X
  have LB := looks_mroIn (M := model prog w) X c.mb
  have ha := F.args_bexc_ga (.ref x) (.str "__class__" t)
  have hk : builtinKind "BaseException.__getattribute__" = some .slot := by decide +kernel
  have hsplit : splitId "BaseException.__getattribute__" = some ("BaseException", "__getattribute__") := by decide +kernel
  have hx2 : (Value.builtin "BaseException.__getattribute__" == Value.builtin "object.__getattribute__") = false := by decide +kernel
  have hx1 : (onTheHeap (Value.ref C) && Value.builtin "BaseException.__getattribute__" == Value.builtin "object.__getattribute__") = false := by rw [hx2]; rfl
  unfold getAttr? getAttrBy? getAttrBy
  refine wpAny_bind (wpAny_mkText (wpAny_bind (wpAny_attempt (wpAny_holding (wpAny_bind (L0.at (wpAny_bind (L1.at ?_))))))))
  dsimp only
  rw [hx1]
  simp only [Bool.false_eq_true, if_false]
  unfold getAttrByItsOwn hookBefore
  refine wpAny_bind ?_
  show wpAny _ _ (typeLookup (.ref C) "__getattr__") _ _ _
  refine L2.at ?_
  refine wpAny_bind (wpAny_attempt (wpAny_holding ?_))
  unfold callGetattribute boundAndCalled
  simp only [Bool.false_and, Bool.false_eq_true, if_false]
  rw [PySem.F.attr_ValueError.ga.bind (.ref x)]
  refine wpAny_bind (wpAny_pure (wpAny_call (codeAny_call_builtin PySem.F.attr_ValueError.ga.plain F.entry_bexc_ga ?_)))
  simp only [checkBuiltinCall, hk, hsplit]
  refine wpAny_bind ?_
  unfold isInstance
  refine wpAny_bind (L0.at (LB.at ?_))
  wp_step
  unfold Builtin.«object.__getattribute__»
  repeat lk
  refine wpAny_run (ZiS (s := ⟨hh, g, d, t + 1, os⟩) X I c.mo ?_) (by intro z; cases z)
  refine wpAny_pure (wpAny_pure ?_)
  exact handed_on rfl (wpAny_pure h)
theorem ZlD (c : EC K C) : KitX K (.ref x) (.ref C) (TyAt x C) where
  ty := fun _ _ _ I => I.type
  it := fun _ _ X _ => by
    obtain ⟨cdD, hcD⟩ := Option.isSome_iff_exists.mp c.cl
    unfold clsIn at hcD
    split at hcD
    · rename_i c' d' cd' sl' ho
      intro A' Q' E' s' k q
      unfold isType loadHead
      exact wpAny_bind (wpAny_loadPart (k _ _ (X _ _ ho)) (wpAny_pure q))
    · cases hcD
  ne := fun h tp dd its n sl X htp => by
    obtain ⟨cdD, hcD⟩ := Option.isSome_iff_exists.mp c.cl
    refine Bool.eq_false_iff.mpr fun q => ?_
    have e : C = tp := Value.ref.inj (beq_iff_eq.mp q)
    subst e
    unfold clsIn at hcD
    split at hcD
    · rename_i c' d' cd' sl' ho
      have z := (X _ _ ho).symm.trans htp
      cases z
    · cases hcD
  ca := fun X I k => Zj6 c X I k
end
end LS
namespace LS
open PySem PySem.Spec PyProof.Rows L2 PySem.W
def excNames : List Str := ["NoBoard", "NoLine", "NoSwitching", "NoNumber", "Unlike", "NoNet", "NoPlace", "NoText", "NoRow", "TooMany", "SwitchError"]
def Zbr (n n' : Str) : Bool := n == n' || n' == "SwitchError"
def Zrs (K : Frag) (C : Addr) : Bool :=
  findIn K (.ref C) "__getattribute__" == some (some (.builtin "BaseException.__getattribute__")) && findIn K (.ref C) "__getattr__" == some none && (clsIn K C).isSome &&
  findIn K (.ref C) "__class__" == some (some (.builtin "object.__class__")) && specialIn K (.builtin "object.__class__") "__get__" == some (some (.builtin "getset_descriptor.__get__")) &&
  takesIn K (.builtin "object.__class__") == some true && mroIn K C (.type "object") == some true && mroIn K C (.type "BaseException") == some true
theorem Zrt {K : Frag} {C : Addr} (h : Zrs K C = true) : EC K C := by
  unfold Zrs at h
  simp only [Bool.and_eq_true, beq_iff_eq] at h
  obtain ⟨⟨⟨⟨⟨⟨⟨h1, h2⟩, h3⟩, h4⟩, h5⟩, h6⟩, h7⟩, h8⟩ := h
  exact ⟨h1, h2, h3, h4, h5, h6, h7, h8⟩
def Zfn (K : Frag) (n : Str) : Option Addr := match nsIn K mainGlobals n with
  | some (some (.ref C)) => some C
  | _ => none
theorem ZfI {K : Frag} {n : Str} {C : Addr} (h : Zfn K n = some C) : nsIn K mainGlobals n = some (some (.ref C)) := by
  unfold Zfn at h
  split at h
  · rename_i e; cases h; exact e
  · cases h
def Znd (K : Frag) (n : Str) (C S : Addr) : Bool :=
  Zrs K C && kitOne K (.ref C) (.type "ValueError") == some true && (n == "TooMany" || Zro K C veM "ValueError.__new__") && exmOne K (.ref C) (.ref S) == some true &&
    excNames.all fun n' => match Zfn K n' with
      | some C' => kitOne K (.ref C) (.ref C') == some (Zbr n n')
      | none => false
def etOk (K : Frag) : Bool := match Zfn K "SwitchError" with
  | some S => excNames.all fun n => match Zfn K n with
    | some C => Znd K n C S
    | none => false
  | none => false
structure ET (K : Frag) (n : Str) (C : Addr) : Prop where
  ec : EC K C
  ve : kitOne K (.ref C) (.type "ValueError") = some true
  at_ : n ≠ "TooMany" → Zna K C veM "ValueError.__new__"
  sw : ∀ S, nsIn K mainGlobals "SwitchError" = some (some (.ref S)) → exmOne K (.ref C) (.ref S) = some true
  sub : ∀ n' C', n' ∈ excNames → nsIn K mainGlobals n' = some (some (.ref C')) → kitOne K (.ref C) (.ref C') = some (Zbr n n')
theorem ZlE {K : Frag} (h : etOk K = true) {n : Str} {C : Addr} (hn : n ∈ excNames) (hC : nsIn K mainGlobals n = some (some (.ref C))) : ET K n C := by
  unfold etOk at h
  split at h
  · rename_i S hS
    have h1 := List.all_eq_true.mp h n hn
    have e : Zfn K n = some C := by unfold Zfn; rw [hC]
    rw [e] at h1
    have h1 : Znd K n C S = true := h1
    unfold Znd at h1
    simp only [Bool.and_eq_true, beq_iff_eq, Bool.or_eq_true] at h1
    obtain ⟨⟨⟨⟨a1, a2⟩, a3⟩, a4⟩, a5⟩ := h1
    refine ⟨Zrt a1, a2, fun z => Zo8 (a3.resolve_left z), fun S' hS' => ?_, fun n' C' hn' hC' => ?_⟩
    · have := ZfI hS
      rw [this] at hS'
      cases hS'
      exact a4
    · have z := List.all_eq_true.mp a5 n' hn'
      have e' : Zfn K n' = some C' := by unfold Zfn; rw [hC']
      rw [e'] at z
      exact beq_iff_eq.mp z
  · cases h
section
variable {X : Cx} {E : XK}
theorem Zpj {x : Str} {a : Addr} {pos : Pos} (hg : Gl X x) (hn : nsIn X.K mainGlobals x = some (some (.ref a))) (hd : (x == ("__debug__" : Str)) = false := by decide) : Ev X E (.Name x pos) (mC (.glo x)) :=
  fun pins s σ H Q I z1_ => by obtain ⟨m, ρ, h, hr, er, p⟩ := z1_; exact (ZdN I hg (mg_of I.mod.kin I.mod.glob hn) ⟨.ref a, H, I, rfl, p (.ref a) m H (List.prefix_refl _) (.refl _) hr (by simp only [rD, DV]; exact ⟨a, rfl, hn⟩)⟩ hd)
def NoE {α : Type} : Out α → Prop
  | .err _ _ _ => False
  | _ => True
theorem Post.noE {α β : Type} {K : Frag} {R : List Addr → Hp → α → β → Prop} {m : List Addr} {H : Hp} {E E' : XK} {Q : β → Hp → Prop} {o : Out α} (n : NoE o) (h : Post K R m H E Q o) : Post K R m H E' Q o := by
  cases o with
  | ok a h1 => exact h
  | err C fs h1 => exact False.elim n
  | stuck => exact h
theorem Zim {f : Value} {F : List D → HD → Out D} (hF : ∀ ds h, NoE (F ds h))
    (hc : ∀ (pins : List (Addr × Obj)) (s : Shared) (σ : L2.St) (H : Hp) (m : List Addr) (h : HD) (ds : List D) (vs : List V) (us : List Value) (Q : VK), Inv X pins σ H s → HR X.K m h H → DVs X.K m H ds vs → Vals vs us → Post X.K (rD X.K) m H E0 Q (F ds h) →
      wpAny (model X.prog X.w) X.A (call f us) (EP X pins σ Q) X.xe s) : ZdA X f F :=
  ⟨fun vs H Q => ∃ m h ds, HR X.K m h H ∧ DVs X.K m H ds vs ∧ Post X.K (rD X.K) m H E0 Q (F ds h), fun pins s σ H vs us Q I r z2_ => by obtain ⟨m, h, ds, hr, rd, q⟩ := z2_; exact (hc pins s σ H m h ds vs us Q I hr rd r q), fun m H h E ds vs Q hr rd q => ⟨m, h, ds, hr, rd, Post.noE (hF ds h) q⟩⟩
def Zbd : D → D → HD → Out D := fun x y h => match x with
  | .exc n _ => (match y with
    | .glo n' => if n ∈ excNames ∧ n' ∈ excNames then .ok (.bl (Zbr n n')) h else .stuck
    | .ty T => if n ∈ excNames ∧ T = "ValueError" then .ok (.bl true) h else .stuck
    | _ => .stuck)
  | .edic => (match y with
    | .ty T => (match Zp1 "dict" T with
      | some b => .ok (.bl b) h
      | none => .stuck)
    | _ => .stuck)
  | _ => Zcd x y h
theorem Zne (pins : List (Addr × Obj)) (s : Shared) (σ : L2.St) (H : Hp) (m : List Addr) (h : HD) (x y : D) (v v' : V) (u u' : Value) (Q : VK) (I : Inv X pins σ H s) (hr : HR X.K m h H) (rx : DV X.K m H x v) (ry : DV X.K m H y v') (r : RelV v u) (r' : RelV v' u')
    (q : Post X.K (rD X.K) m H E0 Q (Zcd x y h)) : wpAny (model X.prog X.w) X.A (call (.builtin "isinstance") [u, u']) (EP X pins σ Q) X.xe s := by
  unfold Zcd at q
  split at q
  · rename_i T t et
    split at q
    · rename_i b eb
      simp only [DV] at ry
      subst ry
      cases (show u' = Value.type T from r')
      exact Zjt I r (ZqW hr rx et) (ZjP eb) fun tk => ⟨.bl b, H, I.tok _, rfl, okq hr q (by simp [DV])⟩
    · exact q.elim
  · exact q.elim
theorem Zck (et : etOk X.K = true) : ZdA X (.builtin "isinstance") (ar2 Zbd) := by
  refine Zim (fun ds h => ?_) fun pins s σ H m h ds vs us Q I hr rd r q => Zh9 rd q fun x y v v' ev rx ry q => ?_
  · unfold ar2 Zbd Zcd
    repeat' split
    all_goals trivial
  · subst ev
    obtain ⟨u, u', rfl, r1, r2⟩ := Zk9 r
    unfold Zbd at q
    split at q
    · rename_i n fs
      simp only [DV] at rx
      obtain ⟨a, C, da, rfl, hC, ha, _⟩ := rx
      cases (show u = Value.ref a from r1)
      obtain ⟨⟨o, ws, ho, hcl, hdi, hdat⟩, _⟩ := (show ObjOk X.prog X.w H s.heap a (.ext (ZgD C da a)) from I.hok a _ ha)
      have key : ∀ (c : Value) (b : Bool), EC X.K C → kitOne X.K (.ref C) c = some b → Q (.bl b) H → wpAny (model X.prog X.w) X.A (call (.builtin "isinstance") [.ref a, c]) (EP X pins σ Q) X.xe s := by
        intro c b ec e q
        exact kia_one (ZlD ec) I.kIn ⟨o, ho, hcl⟩ e (fun z => nomatch z) fun tk => ⟨.bl b, H, I.tok _, rfl, q⟩
      split at q
      · rename_i n'
        split at q
        · rename_i hn
          simp only [DV] at ry
          obtain ⟨C', rfl, hC'⟩ := ry
          cases (show u' = Value.ref C' from r2)
          have t := ZlE et hn.1 hC
          exact key _ _ t.ec (t.sub n' C' hn.2 hC') (okq hr q (by simp [DV]))
        · exact q.elim
      · rename_i T
        split at q
        · rename_i hn
          simp only [DV] at ry
          subst ry
          cases (show u' = Value.type T from r2)
          obtain ⟨hn, rfl⟩ := hn
          have t := ZlE et hn hC
          exact key _ _ t.ec t.ve (okq hr q (by simp [DV]))
        · exact q.elim
      · exact q.elim
    · split at q
      · rename_i T
        split at q
        · rename_i b eb
          simp only [DV] at rx ry
          obtain ⟨a, rfl, ha⟩ := rx
          subst ry
          cases (show u = Value.ref a from r1)
          cases (show u' = Value.type T from r2)
          obtain ⟨⟨_, o, ep, ho, hx, hd⟩, _⟩ := (show ObjOk X.prog X.w H s.heap a (.ext (ZmS a)) from I.hok a _ ha)
          exact kia_one kitx_dict I.kIn ⟨o, ho, hx.1⟩ (ZjP eb) (fun z => nomatch z) fun tk => ⟨.bl b, H, I.tok _, rfl, okq hr q (by simp [DV])⟩
        · exact q.elim
      · exact q.elim
    · exact Zne pins s σ H m h x y v v' u u' Q I hr rx ry r1 r2 q
end
end LS
namespace LS
open PySem PySem.Spec PyProof.Rows L2 PySem.W
section
variable {X : Cx} {E : XK}
def ZiT (chk : D → HD → Out D) (op : D → D → HD → Out D) (f g : ME) : ME := fun ρ h => ((f ρ h).bind chk).bind fun x h1 => (g ρ h1).bind fun y h2 => op x y h2
def TyP (X : Cx) (T : String) (x : V) (H : Hp) : Prop := ∀ (pins : List (Addr × Obj)) (σ : L2.St) (s : Shared) (u : Value), Inv X pins σ H s → RelV x u → s.TypeIs u T ∧ ∀ a, u = .ref a → ∃ ob, s.heap.get? a = some ob ∧ ob.dict = none
def ZtU (X : Cx) (T : String) (r : V → List V → Hp → VK → Prop) (to : TE) (t : TA) : TE := fun σ H Q => to σ H fun x H1 => TyP X T x H1 ∧ t σ H1 fun xs H2 => r x xs H2 Q
theorem Zpk {o e : Expr} {es : List Expr} {to : TE} {t : TA} {name : Str} {apos cpos : Pos} {T id : String} {r : V → List V → Hp → VK → Prop} (pa : PlainAttrs T) (slot : Slot T name id) (hty : typeOf (.builtin id) = pure (.type "method_descriptor")) (hm : MtR X id r) (ho : PE X o to) (ha : PA X (e :: es) t)
    (hbase : attributeBase o name X.env (eval o X.env) = eval o X.env := by rfl)
    (hfew : ((backTo cpos (starEach (e :: es) X.env)).all (fun x => !x.1) && (backToKw cpos (keywordEach [] X.env)).all (fun x => x.1.isSome)
      && decide ((e :: es).length + ([] : List Keyword).length + (if ([] : List Keyword).isEmpty then 0 else 1) < 30)) = true := by rfl)
    (hline : (apos.endLine == cpos.line) = true := by rfl) (hs : starEach (e :: es) X.env = (false, eval e X.env) :: starEach es X.env := by rfl) (hplain : (backTo cpos (starEach es X.env)).any (·.1) = false := by rfl) :
    PE X (.Call (.Attribute o name apos) (e :: es) [] cpos) (ZtU X T r to t) := by
  intro pins s σ H Q I h
  refine wpAny_Call_method_late hbase hfew hline rfl (thn (ho pins s σ H _ I h) fun v s1 z1_ => ?_)
  obtain ⟨x, H1, I1, r1, ty, q1⟩ := z1_
  obtain ⟨h1, h2⟩ := ty pins σ s1 v I1 r1
  refine ⟨T, id, pa, slot, hty, h1, h2, ?_⟩
  have hA := ha cpos pins s1 σ H1 _ I1 q1
  rw [hs] at hA ⊢
  refine Calls.callWith_builtin (by show (false || (backTo cpos (starEach es X.env)).any (·.1)) = false; rw [hplain] <;> rfl) (Calls.evalArgs_plain ?_)
  exact thn hA fun us s2 z2_ => by obtain ⟨vs, H2, I2, r2, q2⟩ := z2_; exact (hm pins s2 σ H2 x vs v us Q I2 r1 r2 q2)
structure Chk (X : Cx) (T : String) (chk : D → HD → Out D) : Prop where
  two : ∀ x h, chk x h = .ok x h ∨ chk x h = .stuck
  ty : ∀ m H h x v, HR X.K m h H → DV X.K m H x v → chk x h = .ok x h → TyP X T v H
def Zru (X : Cx) (id : String) (op : D → D → HD → Out D) : Prop :=
  ∀ (pins : List (Addr × Obj)) (s : Shared) (σ : L2.St) (H : Hp) (m : List Addr) (h : HD) (x y : D) (v yv : V) (u uy : Value) (Q : VK), Inv X pins σ H s → HR X.K m h H → DV X.K m H x v → DV X.K m H y yv → RelV v u → RelV yv uy → Post X.K (rD X.K) m H E0 Q (op x y h) →
    wpAny (model X.prog X.w) X.A (call (.builtin id) [u, uy]) (EP X pins σ Q) X.xe s
theorem Zj7 {o e : Expr} {f g : ME} {name : Str} {T id : String} {chk : D → HD → Out D} {op : D → D → HD → Out D} {apos cpos : Pos} (pa : PlainAttrs T) (slot : Slot T name id) (hty : typeOf (.builtin id) = pure (.type "method_descriptor"))
    (hc : Chk X T chk) (hn : ∀ x y h, NoE (op x y h)) (hm : Zru X id op) (ho : Ev X E o f) (he : Ev X E e g)
    (hbase : attributeBase o name X.env (eval o X.env) = eval o X.env := by rfl)
    (hfew : ((backTo cpos (starEach [e] X.env)).all (fun x => !x.1) && (backToKw cpos (keywordEach [] X.env)).all (fun x => x.1.isSome)
      && decide ([e].length + ([] : List Keyword).length + (if ([] : List Keyword).isEmpty then 0 else 1) < 30)) = true := by rfl)
    (hline : (apos.endLine == cpos.line) = true := by rfl) (hs : starEach [e] X.env = (false, eval e X.env) :: starEach [] X.env := by rfl) (hplain : (backTo cpos (starEach [] X.env)).any (·.1) = false := by rfl) :
    Ev X E (.Call (.Attribute o name apos) [e] [] cpos) (ZiT chk op f g) := by
  have hr : MtR X id (fun v vs H Q => ∃ m h x y yv, vs = [yv] ∧ HR X.K m h H ∧ DV X.K m H x v ∧ DV X.K m H y yv ∧ Post X.K (rD X.K) m H E0 Q (op x y h)) := by
    rintro pins s σ H v vs u us Q I r rs ⟨m, h, x, y, yv, ev, hr, rx, ry, q⟩
    subst ev
    obtain ⟨uy, rfl, r2⟩ := ZfV rs
    exact hm pins s σ H m h x y v yv u uy Q I hr rx ry r r2 q
  refine ZbQ (Zpk pa slot hty hr ho (Zaa he Zad hs) hbase hfew hline hs hplain) fun σ H Q z3_ => ?_
  obtain ⟨m, ρ, h, hr, er, p⟩ := z3_
  refine ⟨m, ρ, h, hr, er, ?_⟩
  unfold ZiT at p
  rw [Out.bind_assoc] at p
  refine Post.bind p fun x h1 v m1 H1 eo p1 k1 hr1 r1 q1 => ?_
  clear eo
  rcases hc.two x h1 with ec | ec
  · rw [ec] at q1
    simp only [Out.bind_ok] at q1
    refine ⟨hc.ty m1 H1 h1 x v hr1 r1 ec, m1, ρ, h1, hr1, er.keep p1 k1, ?_⟩
    have q2 : Post X.K (rD X.K) m1 H1 E Q ((Zab g Zal ρ h1).bind fun ys h2 => match ys with
      | [y] => op x y h2
      | _ => .stuck) := by
      unfold Zab Zal
      rw [Out.bind_assoc]
      exact q1
    refine Post.bind q2 fun ys h2 vs m2 H2 eo p2 k2 hr2 r2 q3 => ?_
    clear eo
    split at q3
    · rename_i y
      simp only [rDs, DVs] at r2
      obtain ⟨yv, w, rfl, ry, rfl⟩ := r2
      exact ⟨m2, h2, x, y, yv, rfl, hr2, DV.keep p2 k2 r1, ry, Post.noE (hn x y h2) q3⟩
    · exact q3.elim
  · rw [ec] at q1
    exact q1.elim
theorem Zhz : Chk X "list" Zdj where
  two := fun x h => by
    unfold Zdj
    split
    · split
      · exact .inl rfl
      · exact .inr rfl
    · exact .inr rfl
  ty := fun m H h x v hr r e => by
    unfold Zdj at e
    split at e
    · rename_i l
      split at e
      · rename_i ds el
        simp only [DV] at r
        obtain ⟨a, rfl, ha⟩ := r
        obtain ⟨ws, hv, dv⟩ := hr.cells l _ a el ha
        exact fun pins σ s u I ru => Zmd I ru (.inl ⟨rfl, ws, SqL.of hv⟩)
      · cases e
    · cases e
def ZfJ (x : V) (xs : List V) : Nat := xs.countP fun y => eqV y x
theorem ZfK {x : V} : ∀ {xs : List V} {us : List Value}, Vals xs us → xs.all Zed = true → us.countP (eqU x) = ZfJ x xs
  | _, _, .nil, _ => rfl
  | y :: xs, u :: us, .cons r t, f => by
    rw [List.all_cons, Bool.and_eq_true] at f
    unfold ZfJ
    rw [List.countP_cons, List.countP_cons, Zh1 r f.1, ZfK t f.2]
    rfl
def ZfL : D → D → HD → Out D := fun x y h => match Zbl x h with
  | none => .stuck
  | some ds => match Zc9 y, Zay (ds.map Zc9) with
    | some v, some vs => .ok (.int (ZfJ v vs)) h
    | _, _ => .stuck
theorem ZiU (x y : D) (h : HD) : NoE (ZfL x y h) := by
  unfold ZfL
  repeat' split
  all_goals trivial
def Zdr : D → D → HD → Out D := fun x y h => (Zdj x h).bind fun _ _ => ZfL x y h
theorem Znf : Zru X "list.count" Zdr := by
  intro pins s σ H m h x y v yv u uy Q I hr rx ry r r2 q
  unfold Zdr at q
  rcases (Zhz (X := X)).two x h with ec | ec
  · rw [ec] at q
    simp only [Out.bind_ok] at q
    unfold Zdj at ec
    split at ec
    · rename_i l
      split at ec
      · rename_i ds el
        unfold ZfL Zbl at q
        simp only [el] at q
        split at q
        · rename_i w ws e1 e2
          simp only [DV] at rx
          obtain ⟨a, rfl, ha⟩ := rx
          cases (show u = Value.ref a from r)
          obtain ⟨vs, hv, dv⟩ := hr.cells l _ a el ha
          obtain ⟨h1, h2⟩ := Zf0 ry e1
          obtain ⟨h3, h4⟩ := Zew dv e2
          subst h1 h3
          obtain ⟨z, its, n, rr, hl, e⟩ := I.lstM hv
          refine call_meets F.slot_list_count ⟨_, e, rfl⟩ F.entry_list_count (F.args_list_count_2 _ _) (PySem.SeqAt.list_countAt a its.toArray n none #[] uy (eqU yv)) ⟨e, fun w hw => Zdx r2 h2 rr h4 w (by simpa using hw), ?_⟩
          refine ⟨.int _, H, I.tok _, ⟨_, rfl⟩, ?_⟩
          rw [show (its.toArray.toList.countP (eqU yv)) = ZfJ yv vs by rw [← ZfK rr h4]]
          exact okq hr q (by simp [DV])
        · exact q.elim
      · cases ec
    · cases ec
  · rw [ec] at q; exact q.elim
def Zqm (x : V) (xs : List V) : Option Nat := xs.findIdx? fun y => eqV y x
def Ze1 : D → D → HD → Out D := fun x y h => match x with
  | .loc l => (match h[l]? with
    | some (.lst ds) => (match Zc9 y, Zay (ds.map Zc9) with
      | some v, some vs => (match Zqm v vs with
        | some j => .ok (.int j) h
        | none => .stuck)
      | _, _ => .stuck)
    | _ => .stuck)
  | _ => .stuck
theorem ZiV (x y : D) (h : HD) : NoE (Ze1 x y h) := by
  unfold Ze1
  repeat' split
  all_goals trivial
theorem ZhA (x y : D) (h : HD) : NoE (Zdr x y h) := by
  unfold Zdr
  rcases (show Zdj x h = .ok x h ∨ Zdj x h = .stuck by
      unfold Zdj
      split
      · split
        · exact .inl rfl
        · exact .inr rfl
      · exact .inr rfl) with e | e
  · rw [e]; exact ZiU x y h
  · rw [e]; trivial
theorem Zj8 {xs : List V} {us : List Value} (r : Vals xs us) {x : V} (f : xs.all Zed = true) {j : Nat} (hj : j < us.length) : eqU x us[j] = eqV (xs[j]'(by rw [r.length]; exact hj)) x := by
  have hx : j < xs.length := by rw [r.length]; exact hj
  obtain ⟨u, e, ru⟩ := r.get (List.getElem?_eq_getElem hx)
  rw [List.getElem?_eq_getElem hj] at e
  cases e
  exact Zh1 ru (List.all_eq_true.mp f _ (List.getElem_mem hx))
theorem Zpl : Zru X "list.index" Ze1 := by
  intro pins s σ H m h x y v yv u uy Q I hr rx ry r r2 q
  unfold Ze1 at q
  split at q
  · rename_i l
    split at q
    · rename_i ds el
      split at q
      · rename_i w ws e1 e2
        split at q
        · rename_i j ej
          simp only [DV] at rx
          obtain ⟨a, rfl, ha⟩ := rx
          cases (show u = Value.ref a from r)
          obtain ⟨vs, hv, dv⟩ := hr.cells l _ a el ha
          obtain ⟨h1, h2⟩ := Zf0 ry e1
          obtain ⟨h3, h4⟩ := Zew dv e2
          subst h1 h3
          obtain ⟨z, its, n, rr, hl, e⟩ := I.lstM hv
          unfold Zqm at ej
          rw [List.findIdx?_eq_some_iff_getElem] at ej
          obtain ⟨hj, hit, hno⟩ := ej
          have hji : j < its.length := by rw [← hl]; exact hj
          have hsl : (j : Int) < 2 ^ 63 - 1 := by have := ZfC; omega
          refine call_meets F.slot_list_index ⟨_, e, rfl⟩ F.entry_list_index (F.args_list_index_2 _ _) (PySem.SeqAt.list_indexAt a its.toArray n none #[] uy (eqU yv) j (by simpa using hji) hsl ?_ ?_) ⟨e, fun w hw => Zdx r2 h2 rr h4 w (by simpa using hw), ?_⟩
          · have := Zj8 rr h4 (x := yv) hji
            simp only [List.getElem_toArray]
            rw [this]; exact hit
          · intro k hk hkj
            have hk' : k < its.length := by simpa using hk
            have := Zj8 rr h4 (x := yv) hk'
            simp only [List.getElem_toArray]
            rw [this]
            simpa using hno k hkj
          · exact ⟨.int _, H, I.tok _, ⟨_, rfl⟩, okq hr q (by simp [DV])⟩
        · exact q.elim
      · exact q.elim
    · exact q.elim
  · exact q.elim
end
end LS
namespace LS
open PySem PySem.Spec PyProof.Rows L2 PySem.W
theorem Zj9 {pos : Pos} {l r : List Value} {cv : Value} (_ : TriplesOk l) (e : codeAmong pos l = some cv) : codeAmong pos (l ++ r) = some cv := by
  rename_i ht
  clear ht
  fun_induction codeAmong pos l with
  | case1 line t col u c rest h => rw [List.cons_append, List.cons_append, List.cons_append, codeAmong, if_pos h]; exact e
  | case2 line t col u c rest h ih => rw [List.cons_append, List.cons_append, List.cons_append, codeAmong, if_neg h]; exact ih e
  | case3 => cases e
theorem ZfM {pos p2 : Pos} {c cv : Value} : ∀ {l : List Value}, TriplesOk l → codeAmong p2 (l ++ [rawInt pos.line, rawInt pos.col, c]) = some cv → codeAmong p2 l = some cv ∨ cv = c
  | [], _, e => by
    simp only [List.nil_append, rawInt, codeAmong] at e
    split at e
    · exact .inr (Option.some.inj e).symm
    · cases e
  | .int i t :: .int j u :: c' :: l, h, e => by
    simp only [codeAmong, List.cons_append] at e ⊢
    split at e
    · rename_i z
      rw [if_pos z]; exact .inl e
    · rename_i z
      rw [if_neg z]; exact ZfM (by simpa [TriplesOk] using h) e
theorem HR.tab {K : Frag} {m : List Addr} {h : HD} {H H' : Hp} {P : Addr} (r : HR K m h H) (k : Kp H H') (s : ∀ b, b ≠ P → H b ≠ none → H' b = H b) (t : TabIs K H' P) (tt : TabIs K H P) : HR K m h H' := by
  refine ⟨r.len, r.nd, fun l c a e q => ?_⟩
  have hm : a ∈ m := List.mem_of_getElem? q
  have hn : H a ≠ none := r.mem hm
  have := r.cells l c a e q
  cases c with
  | lst ds =>
    obtain ⟨vs, e1, e2⟩ := this
    have ha : a ≠ P := by
      rintro rfl
      obtain ⟨_, ps, z, _⟩ := tt
      rw [z] at e1; cases e1
    exact ⟨vs, by rw [s a ha hn]; exact e1, e2.keep (List.prefix_refl _) k⟩
  | tab =>
    by_cases ha : a = P
    · subst ha; exact t
    · exact TabIs.keep this k (s a ha hn)
structure LamX (X : Cx) (c P : Addr) : Prop where
  code : X.env.code = .ref c
  tp : tabP X.K = some (c, P)
  hd : codeHdIn X.K c P = true
  qual : X.env.qual = "law.<locals>."
  bm : ∃ bm o, X.mg "__builtins__" = some (.ref bm) ∧ bm ≠ builtinsNs ∧ X.base.get? bm = some o ∧ o.cls = .type "module" ∧ o.dict = some builtinsNs ∧ o.data = .plain
section
variable {X : Cx} {E : Value → Shared → Prop} {c P : Addr} {pins : List (Addr × Obj)} {σ : L2.St} {H : Hp} {s : Shared}
theorem LamX.builtins (L : LamX X c P) (I : Inv X pins σ H s) (t : TabIs X.K H P) : s.heap.BuiltinsAt X.mg P := by
  obtain ⟨bm, o, h1, h2, h3, h4, h5, h6⟩ := L.bm
  obtain ⟨e, n⟩ := I.bs bm o h3
  refine ⟨bm, o, h1, h2, fun z => ?_, fun z => ?_, e, h4, h5, h6⟩
  · obtain ⟨og, es, ep, e1, e2, _⟩ := I.mod.glob
    rw [z, e1] at h3
    cases h3
    rw [e2] at h6; cases h6
  · obtain ⟨_, ps, q, _⟩ := t
    rw [z, q] at n; cases n
abbrev ZdL : Str := "law.<locals>.<lambda>"
theorem ZlF {params : Arguments} {body : Expr} {scope : Scope} {pos : Pos} {clos : List (Str × Addr)} {Q : Value → Shared → Prop} {A : Around} (L : LamX X c P) (I : Inv X pins σ H s) (t : TabIs X.K H P) (hdef : defaultsOf params X.env = ([], [])) (hcl : closureFor scope X.env = pure clos)
    (k : ∀ (f' c' : Addr) (ctv pm : Value) (h' : Heap) (tk : Nat) (H' : Hp), Inv X pins σ H' { s with heap := h', toks := tk } → Kp H H' → TabIs X.K H' P → (∀ b, b ≠ P → H b ≠ none → H' b = H b) → (∀ b o, b ≠ P → s.heap.get? b = some o → h'.get? b = some o) → s.heap.objs.size ≤ f' →
      H' f' = none → h'.get? f' = some (kla_obj "<lambda>" ZdL params body scope clos pm c' ctv) → (∃ ps, H' P = some (.tbl ps) ∧ codeAmong pos ps.toList = some (.ref c')) → Q (.ref f') { s with heap := h', toks := tk }) :
    wpAny (model X.prog X.w) A (eval (.Lambda params body scope pos) X.env) Q E s := by
  have hB := L.builtins I t
  have hg : s.heap.Ns mainGlobals X.mg := I.mod.glob.keeps I.bk
  have hCd : CodeHd s.heap c P := codeHd_of_K I.kIn L.hd
  obtain ⟨ht1, ps, hps, htr, hcs⟩ := id t
  have hP : s.heap.get? P = some (tabObj ps) := I.hok P _ hps
  have hgP : mainGlobals ≠ P := fun z => by
    obtain ⟨og, es, ep, e1, e2, _⟩ := I.mod.glob
    have := (I.bs _ _ e1).2
    rw [z, hps] at this; cases this
  have hq : X.env.qual ++ "<lambda>" = ZdL := by rw [L.qual]; decide +kernel
  refine kla_eval hdef ?_
  rw [hq]
  cases hc : codeAmong pos ps.toList with
  | some cv =>
    obtain ⟨c', rfl, hx⟩ := hcs pos cv hc
    refine kla_makeFunctionHit (mg := X.mg) hcl I.ok.glob hg L.code hCd hP htr hc hB fun ctv h' tk hk hsz => ?_
    have hk2 : ∀ b o, s.heap.get? b = some o → (h'.push (kla_obj "<lambda>" ZdL params body scope clos ((X.mg "__name__").getD .none) c' ctv)).get? b = some o := fun b o e => Heap.get?_push_of_some _ (hk b o e)
    exact k _ c' ctv _ _ tk H (I.kept hk2) (.refl _) t (fun _ _ _ => rfl) (fun b o _ e => hk2 b o e) hsz (I.hok.fresh hsz) (Heap.get?_push_size _ rfl) ⟨ps, hps, hc⟩
  | none =>
    refine kla_makeFunction (mg := X.mg) hcl I.ok.glob hg L.code hCd hP htr hc hgP hB fun c' ctv h' tk hx hge hlt hrec htb => ?_
    generalize ho : kla_obj "<lambda>" ZdL params body scope clos ((X.mg "__name__").getD .none) c' ctv = fo
    have hk2 : ∀ b o, b ≠ P → s.heap.get? b = some o → (h'.push fo).get? b = some o := fun b o hb e => Heap.get?_push_of_some _ (hx b o hb e)
    have hPs : P < s.heap.objs.size := Heap.lt_size hP
    have hc'P : c' ≠ P := Zlo (Nat.lt_of_lt_of_le hPs hge)
    have hc'n : H c' = none := I.hok.fresh hge
    generalize hps' : ps ++ #[rawInt pos.line, rawInt pos.col, .ref c'] = ps' at htb
    have tl : ps'.toList = ps.toList ++ [rawInt pos.line, rawInt pos.col, .ref c'] := by rw [← hps']; simp
    have hH : ∀ b, b ≠ P → H b ≠ none → upd (upd H P (.tbl ps')) c' (.ext (ZfF ZdL c')) b = H b := fun b hb hn => by
      have : b ≠ c' := fun z => hn (z ▸ hc'n)
      rw [Zaq this, Zaq hb]
    have hHP : upd (upd H P (.tbl ps')) c' (.ext (ZfF ZdL c')) P = some (.tbl ps') := by rw [Zaq (Ne.symm hc'P), Za0]
    have kp : Kp H (upd (upd H P (.tbl ps')) c' (.ext (ZfF ZdL c'))) := fun b o e i => by
      have : b ≠ P := fun z => by rw [z, hps] at e; cases e; cases i
      rw [hH b this (by rw [e]; simp)]; exact e
    have lt' : ∀ b o, s.heap.get? b = some o → b ≠ c' := fun b o e => nne (Nat.lt_of_lt_of_le (Heap.lt_size e) hge)
    have un : Un X.fs [] H (upd (upd H P (.tbl ps')) c' (.ext (ZfF ZdL c'))) s.heap (h'.push fo) := by
      have neP : ∀ {b}, H b = none → b ≠ P := fun {b} n z => by rw [z, hps] at n; cases n
      refine ⟨fun b o e n _ _ => hk2 b o (neP n) e, fun b o e n _ _ => ⟨o.slots, hk2 b o (neP n) e⟩, fun b o e n _ => ?_, fun b o e _ => ?_, fun b xs e => ?_, fun b o u e => ?_, fun b qs e => ?_⟩
      · rw [Zaq (lt' b o e), Zaq (neP n)]; exact n
      · by_cases hb : b = P
        · subst hb; exact ⟨_, Heap.get?_push_of_some _ htb⟩
        · exact ⟨o, hk2 b o hb e⟩
      · rw [hH b (fun z => by rw [z, hps] at e; cases e) (by rw [e]; simp)]; exact e
      · rw [hH b (fun z => by rw [z, hps] at e; cases e) (by rw [e]; simp)]; exact e
      · by_cases hb : b = P
        · subst hb
          rw [hps] at e; cases e
          exact ⟨_, by rw [hHP, ← hps']⟩
        · exact ⟨#[], by rw [hH b hb (by rw [e]; simp), e]; simp⟩
    have hok : HOk X.prog X.w (upd (upd H P (.tbl ps')) c' (.ext (ZfF ZdL c'))) (h'.push fo) := by
      intro b o e
      by_cases hb : b = c'
      · subst hb
        rw [Za0] at e
        cases e
        have r1 : (h'.push fo).CodeRec (.ref b) ZdL := hrec.keeps fun b o e => Heap.get?_push_of_some _ e
        refine ⟨r1, ?_, fun h1 h2 z1 z2 => ?_⟩
        · obtain ⟨c2, oc, vs, t2, e1, e2, _⟩ := r1
          cases e1
          exact ⟨oc, e2⟩
        · obtain ⟨c2, oc, vs, t2, e1, e2, e3⟩ := z1
          cases e1
          exact ⟨_, oc, vs, t2, rfl, z2 _ e2, e3⟩
      · by_cases hbP : b = P
        · subst hbP
          rw [hHP] at e
          cases e
          exact Heap.get?_push_of_some _ htb
        · rw [Zaq hb, Zaq hbP] at e
          refine (I.hok b o e).stay (fun d u hd q => hk2 d u ?_ q) (fun d q => ?_) fun d xs q => ?_
          · rcases hd with rfl | hd
            · exact hbP
            · exact fun z => by rw [z, hps] at hd; cases hd
          · rw [hH d (fun z => by rw [z, hps] at q; cases q) (by rw [q]; simp)]; exact q
          · rw [hH d (fun z => by rw [z, hps] at q; cases q) (by rw [q]; simp)]; exact q
    have hsz : s.heap.objs.size ≤ h'.objs.size := Nat.le_of_lt (Nat.lt_of_le_of_lt hge hlt)
    refine k _ c' ctv ((X.mg "__name__").getD .none) _ tk _ (I.un un hok) kp ⟨ht1, ps', hHP, ?_, fun p2 cv e => ?_⟩ hH hk2 hsz ?_ (by rw [← ho]; exact Heap.get?_push_size _ rfl) ⟨ps', hHP, ?_⟩
    · rw [tl]; exact TriplesOk_snoc _ _ _ _ htr
    · rw [tl] at e
      rcases ZfM htr e with z | z
      · obtain ⟨c2, z1, z2⟩ := hcs p2 cv z
        exact ⟨c2, z1, kp _ _ z2 rfl⟩
      · exact ⟨c', z, Za0⟩
    · have n1 : h'.objs.size ≠ c' := Zlo hlt
      have n2 : h'.objs.size ≠ P := Zlo (Nat.lt_of_lt_of_le hPs hsz)
      rw [Zaq n1, Zaq n2]; exact I.hok.fresh hsz
    · rw [tl]; exact codeAmong_snoc _ htr hc
end
end LS
namespace LS
open PySem PySem.Spec PyProof.Rows L2 PySem.W
def lCx (P : Program) (w : World) (K : Frag) (mg : Str → Option Value) (base : Heap) (N : List Str) (scope : Scope) (a : Addr) (cd : Value) (cl : List (Str × Addr)) (A : Around) (outer : List Env) (s : Shared) (H : Hp) (E : XK) : Cx where
  prog := P
  w := w
  K := K
  mg := mg
  base := base
  A := A.deeper (envX ZdL scope s.heap.objs.size a cd cl)
  N := N
  s₀ := s
  H₀ := H
  env := envX ZdL scope s.heap.objs.size a cd cl
  outer := outer
  stack := envX ZdL scope s.heap.objs.size a cd cl :: outer
  ex := []
  calm := true
  fn := fun _ => false
  pn := []
  xe := fun e s' => wpAny (model P w) (A.deeper (envX ZdL scope s.heap.objs.size a cd cl)) (leaving (envX ZdL scope s.heap.objs.size a cd cl) e) (fun _ s'' => CXE P w K outer H s E e s'') (fun e' s'' => CXE P w K outer H s E e' s'') s'
theorem lvL {P : Program} {w : World} {K : Frag} {mg : Str → Option Value} {base : Heap} {N : List Str} {scope : Scope} {a : Addr} {cd : Value} {cl : List (Str × Addr)} {A : Around} {outer : List Env} {s : Shared} {H : Hp} {E : XK} :
    Lv (lCx P w K mg base N scope a cd cl A outer s H E) E := ⟨fun _ _ h => h, rfl, rfl, rfl⟩
theorem Zrv {P : Program} {w : World} {K : Frag} {mg : Str → Option Value} {base : Heap} {N : List Str} {scope : Scope} {a : Addr} {cd : Value} {cl : List (Str × Addr)} {A : Around} {outer : List Env} {s : Shared} {H : Hp} {E : XK} :
    ZeC (CXE P w K) (lCx P w K mg base N scope a cd cl A outer s H E) E := Zm9 lvL
structure Zka (h : Heap) (H : Hp) (outer : List Env) (N : List Str) (scope : Scope) (cl : List (Str × Addr)) (vs : List V) : Prop where
  len : vs.length = N.length
  inj : ∀ x y c, cl.lookup x = some c → cl.lookup y = some c → x = y
  has : ∀ x, scope.names.lookup x = some .free → ∃ c, cl.lookup x = some c
  cell : ∀ x c, cl.lookup x = some c → (∃ v, h.IsCell c v) ∧ H c = none ∧ c ∉ frs outer
  val : ∀ (i : Nat) (x : Str) (v : V), N[i]? = some x → vs[i]? = some v → scope.names.lookup x = some .free ∧ ∃ c u, cl.lookup x = some c ∧ h.IsCell c (some u) ∧ RelV v u
structure LamSc (scope : Scope) : Prop where
  kind : scope.kind = .function
  co : scope.isCoroutine = false
  gen : scope.isGenerator = false
  only : (scope.names.all fun y => y.2 != .cell) = true
theorem LamSc.nocell {scope : Scope} (S : LamSc scope) : ∀ x ∈ scope.names, x.2 ≠ .cell := fun x hx e => by
  have := List.all_eq_true.mp S.only x hx
  rw [e] at this
  simp at this
section
variable {P : Program} {w : World} {K : Frag} {mg : Str → Option Value} {base : Heap} {N : List Str} {scope : Scope} {a c' : Addr} {pm ctv : Value} {params : Arguments} {body : Expr} {cl : List (Str × Addr)} {A : Around} {outer : List Env} {s : Shared} {H : Hp} {E : XK} {vs : List V}
theorem Zng {cd : Value} {h1 : Heap} {t1 : Nat} (S : LamSc scope) (hd : A.handled = none) (e0 : Zmc P w K mg base A outer s H) (C : Zka s.heap H outer N scope cl vs) (ns : h1.Ns s.heap.objs.size (fun _ => none)) (hk : ∀ b o, s.heap.get? b = some o → h1.get? b = some o) :
    Inv (lCx P w K mg base N scope a cd cl A outer s H E) [] (vs.map some) H { s with heap := h1, toks := t1 } := by
  have noA : ∀ b : Addr, b ∉ (lCx P w K mg base N scope a cd cl A outer s H E).ex := fun b z => absurd (show b ∈ ([] : List Addr) from z) (by simp)
  refine ⟨⟨e0.mod, S.kind, rfl, rfl, Nat.le_refl _, C.inj, fun x hx => ?_, fun x c hf => (by cases hf), fun _ => hd, Around.frames_deeper e0.frames, .inr ⟨rfl, rfl⟩, fun b z => absurd z (noA b), e0.bs, e0.bsz, fun b _ _ => noA b, fun b z => absurd z (noA b), e0.funs, e0.frf⟩,
    rfl, e0.bare, Un.kept hk, ⟨_, ns, fun i x v e1 e2 _ => ?_⟩, fun x c e => ?_, e0.hok.fresh (Nat.le_refl _), fun x c e => (C.cell x c e).2.1, fun p hp => absurd (show p ∈ ([] : List (Addr × Obj)) from hp) (by simp), e0.hok.kept hk, ?_⟩
  · have hx' : scope.names.lookup x = some .cell ∨ scope.names.lookup x = some .free := hx
    rcases hx' with z | z
    · exact absurd rfl (S.nocell _ (mem_of_lookup z))
    · exact C.has x z
  · rw [List.getElem?_map] at e2
    cases ev : vs[i]? with
    | none => rw [ev] at e2; cases e2
    | some v' =>
      rw [ev] at e2
      cases e2
      obtain ⟨hf, c, u, e3, e4, r⟩ := C.val i x v e1 ev
      exact ⟨u, r, .inr ⟨.inr hf, c, e3, e4.keeps hk⟩⟩
  · obtain ⟨⟨v, q⟩, _⟩ := C.cell x c e
    exact ⟨v, q.keeps hk⟩
  · show (vs.map some).length = N.length
    rw [List.length_map]; exact C.len
theorem ZlG {k : Nat} {f : ME} {Q : VK} (S : LamSc scope) (hr : Room (k + 1) A) (e0 : Zmc P w K mg base A outer s H) (C : Zka s.heap H outer N scope cl vs) (ho : s.heap.get? a = some (kla_obj "<lambda>" ZdL params body scope cl pm c' ctv)) (hcd : s.heap.CodeRec (.ref c') ZdL)
    (hbind : bindArgs (kla_fn "<lambda>" ZdL params body scope cl pm (.ref c') ctv) ⟨[], []⟩ = pure [])
    (hb : Room k (A.deeper (envX ZdL scope s.heap.objs.size a (.ref c') cl)) → Ev (lCx P w K mg base N scope a (.ref c') cl A outer s H E) E body f)
    (q : ∃ m ds h, HR K m h H ∧ DVs K m H ds vs ∧ Post K (rD K) m H E Q (f (ds.map some) h)) : codeAny (model P w) A (.call (.ref a) ⟨[], []⟩) (CR (CXE P w K) outer P w H s Q E) s := by
  refine kla_callFunE hr.depth ho rfl S.co S.gen rfl hcd ?_
  rw [hbind]
  have lim : s.heap.NoLimit := e0.mod.nolimit.keeps fun b o e => (e0.bs b o e).1
  refine wpAny_pure (wpAny_newFunctionEnv S.nocell (fun y hy => by cases hy) (fun h₁ hns hsb => ⟨lim.fresh _ hsb, ?_⟩) S.kind)
  have hk₁ : ∀ b o, s.heap.get? b = some o → h₁.get? b = some o := fun b o e => hsb.extBut b o (Nat.ne_of_lt (Heap.lt_size e)) (Heap.get?_push_of_some _ e)
  have I : Inv (lCx P w K mg base N scope a (.ref c') cl A outer s H E) [] (vs.map some) H { s with heap := h₁, toks := s.toks + 0 } := Zng S hr.hd e0 C hns hk₁
  obtain ⟨m, ds, h, hr1, r, p⟩ := q
  have er : ER K m H (ds.map some) (vs.map some) := by
    refine ⟨by simp [r.len], fun i d e => ?_⟩
    rw [List.getElem?_map] at e
    cases ed : ds[i]? with
    | none => rw [ed] at e; cases e
    | some d' =>
      rw [ed] at e
      cases e
      obtain ⟨v, e1, r1⟩ := r.get ed
      exact ⟨v, by rw [List.getElem?_map, e1]; rfl, r1⟩
  refine kla_codeExpr (wpAny_mono (hb (hr.deeper _) [] _ _ H Q I ⟨m, ds.map some, h, hr1, er, p⟩) (fun u s' hs => ?_) fun e s' hs => hs)
  obtain ⟨v, H', J, rv, qv⟩ := hs
  exact ⟨v, H', J.os, J.bare, J.base, J.hok, rv, qv⟩
end
end LS
namespace LS
open PySem PySem.Spec PyProof.Rows L2 PySem.W
structure RoomM (k : Nat) (A : Around) : Prop where
  dp : A.depth + 3 * k + 5 < recursionLimit
  un : A.units + 16 * k + 200 < cLine
  gd : A.guards = some []
theorem RoomM.deeper {k : Nat} {A : Around} (r : RoomM (k + 1) A) (env : Env) : RoomM k (A.deeper env) :=
  ⟨by have := r.dp; show A.depth + 1 + 3 * k + 5 < _; omega, by have := r.un; show A.units + 3 + 16 * k + 200 < _; omega, r.gd⟩
theorem RoomM.units {k : Nat} {A : Around} (r : RoomM k A) : A.units + 64 < cLine := by have := r.un; omega
theorem RoomM.mono {j k : Nat} {A : Around} (r : RoomM k A) (h : j ≤ k) : RoomM j A := ⟨by have := r.dp; omega, by have := r.un; omega, r.gd⟩
theorem RoomM.of {k : Nat} {A : Around} (r : Room k A) (e : Option Value) : RoomM k (A.mark e) := ⟨r.dp, r.un, r.gd⟩
def cxM (P : Program) (w : World) (K : Frag) (mg : Str → Option Value) (base : Heap) (N : List Str) (qual : Str) (scope : Scope) (f : Addr) (cd : Value) (A : Around) (outer : List Env) (s : Shared) (H : Hp) : Cx :=
  { Zcj CX0 P w K mg base N qual scope f cd A outer s H E0 with calm := false, xe := fun _ _ => False }
theorem ZiW {P : Program} {w : World} {K : Frag} {mg : Str → Option Value} {base : Heap} {N ps : List Str} {qual : Str} {scope : Scope} {f : Addr} {cd : Value} {A : Around} {outer : List Env} {s s1 : Shared} {H : Hp} {us : List Value} {vs : List V}
    (S : ZaA N ps scope) (e0 : Zmc P w K mg base A outer s H) (hl : vs.length = ps.length) (r : Vals vs us)
    (x : InCallC s s.heap.objs.size (bindL (envOfC qual scope s.heap.objs.size f cd).kindOf (ps.zip us) fun _ => none) (cellsFrom (s.heap.objs.size + 1) scope.names []) (bindC (envOfC qual scope s.heap.objs.size f cd).kindOf (ps.zip us) fun _ => none) s1) :
    Inv (cxM P w K mg base N qual scope f cd A outer s H) [] (start N vs) H s1 := by
  have hpl : ps.length ≤ N.length := by have := congrArg List.length S.pre; rw [List.length_take] at this; omega
  obtain ⟨h1, tk, rfl, hk⟩ := x.done
  have noA : ∀ b : Addr, b ∉ (cxM P w K mg base N qual scope f cd A outer s H).ex := fun b z => absurd (show b ∈ ([] : List Addr) from z) (by simp)
  refine ⟨⟨e0.mod, S.kind, rfl, rfl, Nat.le_refl _, fun y z c h1 h2 => ?_, fun y hy => ?_, fun y c _ h => ?_, fun z => (nomatch z), Around.frames_deeper e0.frames, .inr ⟨rfl, rfl⟩, fun b z => absurd z (noA b), e0.bs, e0.bsz, fun b _ _ => noA b, fun b z => absurd z (noA b), e0.funs, e0.frf⟩,
    rfl, e0.bare, Un.kept hk, ⟨_, x.toInCall.ns, fun i y v h1 h2 h3 => ?_⟩, fun y c h => ⟨_, x.cell y c h⟩, e0.hok.fresh (Nat.le_refl _), fun y c h => ?_, fun p hp => absurd (show p ∈ ([] : List (Addr × Obj)) from hp) (by simp), e0.hok.kept hk, ?_⟩
  · exact name_of_addr x.apart (PySem.mem_of_lookup h1) (PySem.mem_of_lookup h2)
  · have hy : scope.names.lookup y = some .cell ∨ scope.names.lookup y = some .free := hy
    rcases hy with hy | hy
    · exact Zeu hy
    · exact absurd rfl (S.nofree _ (PySem.mem_of_lookup hy))
  · exact Nat.le_of_lt (x.above y c (PySem.mem_of_lookup h))
  · have hi : i < vs.length := by
      unfold L2.start at h2
      by_cases hi : i < vs.length
      · exact hi
      · rw [List.getElem?_append_right (by simpa using hi)] at h2
        rw [List.getElem?_replicate] at h2
        split at h2 <;> cases h2
    have ha : vs[i]? = some v := by
      unfold L2.start at h2
      rw [List.getElem?_append_left (by simpa using hi), List.getElem?_map] at h2
      cases e : vs[i]? with
      | none => rw [e] at h2; cases h2
      | some a => rw [e] at h2; cases h2; rfl
    obtain ⟨u, hu, rv⟩ := r.get ha
    have hp : ps[i]? = some y := by
      rw [← S.pre, List.getElem?_take_of_lt (by omega)]; exact h1
    have ndP : ps.Nodup := by rw [← S.pre]; exact S.nd.sublist (List.take_sublist _ _)
    refine ⟨u, rv, ?_⟩
    rcases S.par y (List.mem_of_getElem? hp) with k | k
    · exact .inl ⟨k, ZeD ndP hp hu k⟩
    · obtain ⟨c, e⟩ := Zeu (n := s.heap.objs.size + 1) k
      refine .inr ⟨.inl k, c, e, ?_⟩
      have q := x.cell y c e
      rw [ZeE ndP hp hu (by show scope.names.lookup y ≠ _; rw [k]; decide)] at q
      exact q
  · exact e0.hok.fresh (Nat.le_of_lt (x.above y c (PySem.mem_of_lookup h)))
  · unfold L2.start
    show _ = N.length
    rw [List.length_append, List.length_map, List.length_replicate]
    omega
structure Zpm (P : Program) (w : World) (K : Frag) (mg : Str → Option Value) (base : Heap) (k : Nat) (f : Addr) (fd : FuncData) (ps : List Str) (F : List D → HD → Out D) : Prop where
  run : ∀ (A : Around) (outer : List Env) (s : Shared) (H : Hp) (args : Args) (us : List Value) (vs : List V) (Q : VK), RoomM k A → Zmc P w K mg base A outer s H → BindsTo s fd args (ps.zip us) → Vals vs us → spM K F vs H Q E0 →
    codeAny (model P w) A (.call (.ref f) args) (CR CX0 outer P w H s Q E0) s
theorem ZiX {P : Program} {w : World} {K : Frag} {mg : Str → Option Value} {base : Heap} {x qual : Str} {st : Stmt} {f : Addr} {fd : FuncData} {N ps : List Str} {k : Nat} {F : List D → HD → Out D} {g : MS} (Fn : Fun K x qual st f fd) (S : ZaA N ps (defScope st)) (ar : Ar ps.length F)
    (hg : ∀ ds h, ds.length = ps.length → F ds h = ZaE N.length g ds h)
    (hbody : ∀ (cdv : Value) (A : Around) (outer : List Env) (s : Shared) (H : Hp), RoomM k (A.deeper (envOfC qual (defScope st) s.heap.objs.size f cdv)) → Exs (cxM P w K mg base N qual (defScope st) f cdv A outer s H) E0 (defBody st) g) : Zpm P w K mg base (k + 1) f fd ps F := by
  obtain ⟨oc, od, kV, doc, pm, an, cdv, ct, osl, rfl, lk, hcd⟩ := Fn.ex
  refine ⟨fun A outer s H args us vs Q hr e0 hb r hsp => ?_⟩
  have hl : vs.length = ps.length := ar.len hsp
  have KX : K.In s.heap := e0.mod.kin.keeps fun b o e => (e0.bs b o e).1
  have lim : s.heap.NoLimit := e0.mod.nolimit.keeps fun b o e => (e0.bs b o e).1
  have hkind : ∀ y ∈ ps.zip us, (defScope st).names.lookup y.1 = some .local ∨ ((defScope st).names.lookup y.1 = some .cell ∧ ((cellsFrom (s.heap.objs.size + 1) (defScope st).names []).lookup y.1).isSome = true) := fun z1_ hy => by
    obtain ⟨n, v⟩ := z1_
    rcases S.par n (List.of_mem_zip hy).1 with q | q
    · exact .inl q
    · exact .inr ⟨q, PySem.W.cellsFrom_some _ _ _ (.inl q)⟩
  refine codeAny_call_function (by have := hr.dp; omega) (KX _ _ lk) rfl S.co S.gen rfl (PySem.W.codeRec_of KX hcd) (hb _ _ _ _ ?_)
  refine wpAny_newFunctionEnv_cells S.kind hkind fun env he s1 x => ?_
  subst he
  refine ⟨lim.keeps x.toInCall.keep, codeAny_func ?_⟩
  have I : Inv (cxM P w K mg base N qual (defScope st) f cdv A outer s H) [] (start N vs) H s1 := ZiW S e0 hl r x
  have fin : ∀ {σ' : L2.St} {H' : Hp} {v : V} {u : Value} {s' : Shared}, Inv (cxM P w K mg base N qual (defScope st) f cdv A outer s H) [] σ' H' s' → RelV v u → Q v H' → CE outer P w H s Q u s' :=
    fun {σ' H' v u s'} J rv q => ⟨v, H', J.os, J.bare, J.base, J.hok, rv, q⟩
  have post : tSt K E0 g { nx := fun _ H' => Q .non H', rt := Q } (start N vs) H := by
    obtain ⟨m, ds, hd, hr1, r, p⟩ := hsp
    have hld : ds.length = ps.length := by rw [r.len]; exact hl
    refine ⟨m, ds.map some ++ List.replicate (N.length - ds.length) none, hd, hr1, ER.start r, ?_⟩
    rw [hg ds hd hld] at p
    unfold ZaE at p
    cases o : g (ds.map some ++ List.replicate (N.length - ds.length) none) hd with
    | stuck => rw [o] at p; exact p
    | err C fs h1 => rw [o] at p; exact p
    | ok a h1 =>
      rw [o] at p
      obtain ⟨fl, ρ1⟩ := a
      intro m1 H1 p1 k1 hr1
      cases fl with
      | nx => exact fun σ er => p .non m1 H1 p1 k1 hr1 (by simp [rD, DV])
      | bk => exact False.elim p
      | ct => exact False.elim p
      | rt d => exact fun v rv => p v m1 H1 p1 k1 hr1 rv
  refine wpAny_mono (hbody cdv A outer s H (hr.deeper _) [] s1 (start N vs) H _ I post) (fun fl s' hs => ?_) fun e s' hs => hs.elim
  cases fl with
  | ret u =>
    obtain ⟨v, σ', H', J, rv, q⟩ := hs
    exact fin J rv q
  | next =>
    obtain ⟨σ', H', J, q⟩ := hs
    exact fin (v := V.non) (u := Value.none) J rfl q
  | brk =>
    obtain ⟨_, _, _, q⟩ := hs
    exact False.elim q
  | cont =>
    obtain ⟨_, _, _, q⟩ := hs
    exact False.elim q
structure CaM (P : Program) (w : World) (K : Frag) (mg : Str → Option Value) (base : Heap) (x : Str) (k : Nat) (F : List D → HD → Out D) : Prop where
  ex : ∃ (f : Addr) (fd : FuncData) (ps : List Str), Zpm P w K mg base k f fd ps F ∧ Binds K fd ps [] ∧ mg x = some (.ref f) ∧ PySem.W.keepIn K (.ref f) = true ∧ Ar ps.length F
section
variable {X : Cx} {E : XK}
theorem Zpn {k k' : Nat} {F : List D → HD → Out D} {fa : MA} {x : Str} {p pos : Pos} {e : Expr} {es : List Expr} (C : CaM X.prog X.w X.K X.mg X.base x k F) (hr : RoomM k' X.A) (ha : EvA X E0 (e :: es) fa) (hk : k ≤ k' := by decide) (hg : Gl X x := by rfl)
    (hdb : (x == ("__debug__" : Str)) = false := by decide) (he : starEach (e :: es) X.env = (false, eval e X.env) :: starEach es X.env := by rfl) (hpl : (backTo pos (starEach es X.env)).any (·.1) = false := by rfl) :
    Ev X E0 (.Call (.Name x p) (e :: es) [] pos) (Zaf F fa) := by
  obtain ⟨f, fd, ps, G, hb, hm, hkp, ar⟩ := C.ex
  rintro pins s σ H Q I ⟨m, ρ, hd, hr1, er, pp⟩
  refine wpAny_Call_Name_kw (ZdN I hg hm ?_ hdb)
  have post : tDs X.K E0 fa σ H (fun vs H1 => spM X.K F vs H1 Q E0) := ⟨m, ρ, hd, hr1, er, Post.bind pp fun xs h1 vs m1 H1 e1 p1 k1 hr1 r1 q1 => ⟨m1, xs, h1, hr1, r1, q1⟩⟩
  refine PySem.W.callWith_K (h₀ := X.base) I.ok.mod.kin hkp (thn (ha pos pins s σ H _ I post) ?_) he hpl
  rintro us s1 ⟨vs, H1, I1, r, q⟩
  refine ⟨I1.kIn, ?_⟩
  have hl : us.length = ps.length := by rw [← r.length]; exact ar.len q
  have hb' := hb s1 us I1.kIn (by rw [List.append_nil]; exact hl)
  rw [List.append_nil] at hb'
  refine wpAny_call (codeAny_mono (G.run X.A X.stack s1 H1 ⟨us, []⟩ us vs Q (hr.mono hk) I1.env0 hb' r q) fun r s' hq => ?_)
  cases r with
  | error e => exact False.elim hq
  | ok fl =>
    cases fl with
    | ret u => exact I1.after hq
    | next => exact False.elim hq
    | brk => exact False.elim hq
    | cont => exact False.elim hq
end
end LS
namespace LS
open PySem PySem.Spec PyProof.Rows L2 PySem.W
theorem Zkb {P : Program} {w : World} {fs : List Addr} {H H' : Hp} {h0 h h' : Heap} {a T : Addr} {C a0 : Value} (B : Un fs [] H H' h0 h) (hok : HOk P w H' h) (na : h0.get? a = none) (nT : h0.get? T = none) (ha : H' a = none) (hT : H' T = none)
    (frNone : ∀ b ∈ fs, H' b = none) (noFields : ∀ b ∈ fs, ∃ o, h.get? b = some o ∧ ∀ vs, o.data ≠ .fields vs) (stay : (blank (fun b => b = a ∨ b = T ∨ b ∈ fs) h).StaysIn h') (ups : ∀ b o, h.get? b = some o → (∀ vs, o.data ≠ .fields vs) → ∃ sl, h'.get? b = some { o with slots := sl })
    (tr : h'.TracedW (blank (fun b => b = a ∨ b = T ∨ b ∈ fs) h) a C a0) : Un fs [] H H' h0 h' ∧ HOk P w H' h' ∧ Fly h0 h' H' a C := by
  obtain ⟨oe, vs, T2, oT, ts, e1, e2, e3, e4, e5, e6, e7, e8, e9⟩ := tr
  have keepOf : ∀ b o, ¬ (b = a ∨ b = T ∨ b ∈ fs) → h.get? b = some o → h'.get? b = some o := fun b o hb e => stay b o (by rw [Zb1 hb]; exact e)
  have old : ∀ b o, h0.get? b = some o → b ≠ a ∧ b ≠ T := fun b o e => ⟨fun z => (by rw [z, na] at e; cases e), fun z => (by rw [z, nT] at e; cases e)⟩
  have any : ∀ b o, h0.get? b = some o → h.get? b ≠ none → ∃ o', h'.get? b = some o' := fun b o e hn => by
    cases e' : h.get? b with
    | none => exact absurd e' hn
    | some o' =>
      by_cases hb : b ∈ fs
      · obtain ⟨o2, h2, d2⟩ := noFields b hb
        obtain ⟨sl, h3⟩ := ups b o2 h2 d2
        exact ⟨_, h3⟩
      · exact ⟨o', keepOf b o' (fun z => by rcases z with z | z | z; exact (old b o e).1 z; exact (old b o e).2 z; exact hb z) e'⟩
  refine ⟨⟨fun b o e n hb hx => ?_, fun b o e n hb hx => ?_, B.free, fun b o e hx => ?_, B.tups, B.frzs, B.tbls⟩, fun b o e => ?_, na, ha, oe, vs, a0, T2, oT, ts, e1, e2, e3, e4, ?_, ?_, e6, e7, e8, e9⟩
  · exact keepOf b o (fun z => by rcases z with z | z | z; exact (old b o e).1 z; exact (old b o e).2 z; exact hb z) (B.keep b o e n hb hx)
  · obtain ⟨sl, h1⟩ := B.slot b o e n hb hx
    obtain ⟨o2, h2, d2⟩ := noFields b hb
    rw [h1] at h2
    cases h2
    obtain ⟨sl2, h3⟩ := ups b _ h1 d2
    exact ⟨sl2, h3⟩
  · obtain ⟨o', h1⟩ := B.there b o e hx
    exact any b o e (by rw [h1]; simp)
  · refine (hok b o e).stay (fun c u hc q => keepOf c u (fun z => ?_) q) (fun _ q => q) fun _ _ q => q
    have hc' : H' c ≠ none := by
      rcases hc with rfl | hc
      · rw [e]; simp
      · rw [hc]; simp
    rcases z with z | z | z
    · exact hc' (z ▸ ha)
    · exact hc' (z ▸ hT)
    · exact hc' (frNone c z)
  · cases q : h0.get? T2 with
    | none => rfl
    | some o =>
      exfalso
      obtain ⟨o', h1⟩ := B.there T2 o q (by simp)
      by_cases hb : T2 ∈ fs
      · obtain ⟨o2, h2, d2⟩ := noFields T2 hb
        obtain ⟨sl, h3⟩ := ups T2 o2 h2 d2
        rw [h3] at e7
        cases e7
        exact d2 _ e8
      · rw [Zb1 (fun z => by rcases z with z | z | z; exact (old T2 o q).1 z; exact (old T2 o q).2 z; exact hb z), h1] at e5
        cases e5
  · cases q : H' T2 with
    | none => rfl
    | some o =>
      exfalso
      by_cases hb : T2 = a ∨ T2 = T ∨ T2 ∈ fs
      · rcases hb with z | z | z
        · rw [z, ha] at q; cases q
        · rw [z, hT] at q; cases q
        · rw [frNone T2 z] at q; cases q
      · rw [Zb1 hb] at e5
        obtain ⟨ob, eb⟩ := ZjY (hok T2 o q)
        rw [eb] at e5
        cases e5
section
variable {X : Cx} {pins : List (Addr × Obj)} {σ : L2.St} {H : Hp} {s : Shared}
theorem Inv.track {a : Addr} {o : HO} (I : Inv X pins σ H s) (new : X.s₀.heap.get? a = none) (no : H a = none) (hL : a ≠ X.env.locals) (hc : ∀ x c, X.env.cells.lookup x = some c → c ≠ a) (hp : ∀ p ∈ X.pn ++ pins, p.1 ≠ a) (ok : ObjOk X.prog X.w (upd H a o) s.heap a o) :
    Inv X pins σ (upd H a o) s := by
  have ne : ∀ b u, H b = some u → b ≠ a := fun b u e => Zau e no
  refine ⟨I.ok, I.os, I.bare, ⟨I.base.keep, I.base.slot, fun b ob e n hx => ?_, I.base.there, fun b xs e => ?_, fun b ob u e => ?_, fun b ps e => ?_⟩, I.loc, I.cell, ?_, fun x c e => ?_, fun p hp' => ?_, fun b u e => ?_, I.len⟩
  · rw [Zaq (fun z => by rw [z, new] at e; cases e)]; exact I.base.free b ob e n hx
  · have := I.base.tups b xs e
    rw [Zaq (ne _ _ this)]; exact this
  · have := I.base.frzs b ob u e
    rw [Zaq (ne _ _ this)]; exact this
  · obtain ⟨more, this⟩ := I.base.tbls b ps e
    exact ⟨more, by rw [Zaq (ne _ _ this)]; exact this⟩
  · rw [Zaq (Ne.symm hL)]; exact I.free
  · rw [Zaq (hc x c e)]; exact I.freeC x c e
  · obtain ⟨a1, a2, a3⟩ := I.pin p hp'
    exact ⟨a1, by rw [Zaq (hp p hp')]; exact a2, a3⟩
  · by_cases hb : b = a
    · subst hb
      rw [Za0] at e
      cases e
      exact ok
    · rw [Zaq hb] at e
      exact (I.hok b u e).stay (fun _ _ _ q => q) (fun c q => by rw [Zaq (ne _ _ q)]; exact q) fun c xs q => by rw [Zaq (ne _ _ q)]; exact q
theorem Inv.locals {σ' : L2.St} {h' : Heap} {m' : Str → Option Value} {t' : Nat} (I : Inv X pins σ H s) (hn' : h'.Ns X.env.locals m') (hs : Heap.SameBut X.env.locals s.heap h')
    (hl : ∀ (i : Nat) (x : Str) (v : V), X.N[i]? = some x → σ'[i]? = some (some v) → Vis X.env.scope x → ∃ u, RelV v u ∧ Zse X.env h' m' x u) (len : σ'.length = σ.length) : Inv X pins σ' H { s with heap := h', toks := t' } := by
  obtain ⟨m, hn, _⟩ := id I.loc
  obtain ⟨oL, _, _, hoL, _⟩ := id hn
  have neL : ∀ b o, X.s₀.heap.get? b = some o → b ≠ X.env.locals := fun b o e => Nat.ne_of_lt (Nat.lt_of_lt_of_le (Heap.lt_size e) I.ok.above)
  refine ⟨I.ok, I.os, I.bare, ⟨fun b o e n hb hx => ?_, fun b o e n hb hx => ?_, I.base.free, fun b o e hx => ?_, I.base.tups, I.base.frzs, I.base.tbls⟩, ⟨_, hn', hl⟩, fun y c e => ?_, I.free, I.freeC, fun p hp => ?_, fun b ob e => ?_, len.trans I.len⟩
  · exact (hs.2 b (neL b o e)).trans (I.base.keep b o e n hb hx)
  · obtain ⟨sl, e1⟩ := I.base.slot b o e n hb hx
    exact ⟨sl, (hs.2 b (neL b o e)).trans e1⟩
  · obtain ⟨o', e1⟩ := I.base.there b o e hx
    exact ⟨o', (hs.2 b (neL b o e)).trans e1⟩
  · obtain ⟨v, z⟩ := I.cell y c e
    exact ⟨v, z.sameBut hs (I.cne y c e)⟩
  · obtain ⟨a1, a2, a3, a4⟩ := I.pin p hp
    exact ⟨(hs.2 _ a3).trans a1, a2, a3, a4⟩
  · refine (I.hok b ob e).stay (fun c w' hc q => (hs.2 c ?_).trans q) (fun _ q => q) fun _ _ q => q
    rintro rfl
    have hfree := I.free
    rcases hc with rfl | hc
    · rw [hfree] at e; cases e
    · rw [hfree] at hc; cases hc
theorem Zkc {M : Model} {A : Around} {E : Value → Shared → Prop} {n : Str} {pos : Pos} {i : Nat} {Q : Unit → Shared → Prop} (I : Inv X pins σ H s) (hN : X.N.Nodup) (hi : X.N[i]? = some n) (hl : X.env.kindOf n = some .local)
    (h : ∀ s', Inv X pins (σ.set i none) H s' → Q () s') : wpAny M A (do bindName X.env n .none; unbindBehindTheSuite X.env n pos) Q E s := by
  have hp : (X.env.scope.kind == .class || (X.env.scope.kind == .module && X.env.locals != X.env.globals)) = false := by rw [I.ok.kind]; rfl
  refine wpAny_bind (wpAny_bindName (Zdv (v := .non) I hN hi (.inl hl) rfl (fun s1 I1 _ => ?_) (.inr hl)))
  unfold unbindBehindTheSuite
  refine wpAny_onRaise ?_
  unfold unbindName
  refine wpAny_bind (wpAny_point (wpAny_bind ?_))
  unfold deleteName
  simp only [hl, hp]
  rw [if_neg (by decide)]
  obtain ⟨m1, hn1, hl1⟩ := I1.loc
  have hin : (m1 n).isSome = true := by
    have hiσ : i < σ.length := by rw [I.len]; exact (List.getElem?_eq_some_iff.mp hi).1
    obtain ⟨u, _, lk⟩ := hl1 i n .non hi (by rw [List.getElem?_set_self hiσ]) (.inl hl)
    rcases lk with ⟨_, z⟩ | ⟨z, _⟩
    · rw [z]; rfl
    · rcases z with z | z <;> (rw [hl] at z; cases z)
  refine wpAny_bind (wpAny_nsDel_keeps hn1 fun h2 v hn2 hs2 => ?_)
  simp only [hin, if_true, Bool.not_true, Bool.false_eq_true, if_false]
  refine wpAny_pure (wpAny_point (h _ (Inv.locals (t' := s1.toks) (I1.weak (σ' := σ.set i none) (by simp) fun j v' e => ?_) hn2 hs2 (fun j x v' e1 e2 e3 => ?_) rfl)))
  · by_cases hj : i = j
    · subst hj
      have hiσ : i < σ.length := by rw [I.len]; exact (List.getElem?_eq_some_iff.mp hi).1
      rw [List.getElem?_set_self hiσ] at e; cases e
    · rw [List.getElem?_set_ne hj] at e ⊢; exact e
  · have hj : i ≠ j := by
      rintro rfl
      have hiσ : i < σ.length := by rw [I.len]; exact (List.getElem?_eq_some_iff.mp hi).1
      rw [List.getElem?_set_self hiσ] at e2; cases e2
    rw [List.getElem?_set_ne hj] at e2
    obtain ⟨u, r, lk⟩ := hl1 j x v' e1 (by rw [List.getElem?_set_ne hj]; exact e2) e3
    have hx : x ≠ n := fun z => hj (ZfT hN hi (z ▸ e1))
    refine ⟨u, r, ?_⟩
    rcases lk with ⟨k1, k2⟩ | ⟨k1, c, k2, k3⟩
    · exact .inl ⟨k1, (if_neg hx).trans k2⟩
    · exact .inr ⟨k1, c, k2, k3.sameBut hs2 (I1.cne x c k2)⟩
end
end LS
namespace LS
open PySem PySem.Spec PyProof.Rows L2 PySem.W
open Classical in
noncomputable def Zqn (a : Addr) (vs : List V) (Fk : List D → HD → Out D) (f : ME) : MS := fun ρ h => match (ρ[0]? : Option (Option D)), (h[0]? : Option Zh2) with
  | some (some (.clo a' vs' ds)), some .tab => if a' = a ∧ vs' = vs then (match f (ds.map some) h with
      | .ok _ h1 => .ok (.nx, ρ) h1
      | .err (.str n _) _ h1 => if n ∈ excNames then (match Fk [.exc n []] h1 with
        | .ok d h2 => .ok (.nx, (ρ.set 1 (some d)).set 2 none) h2
        | _ => .stuck) else .stuck
      | _ => .stuck) else .stuck
  | _, _ => .stuck
structure SaidX (X : Cx) (P a c' : Addr) (lpos : Pos) (Nc : List Str) (params : Arguments) (body : Expr) (scope : Scope) (cl : List (Str × Addr)) (pm ctv : Value) (vs : List V) : Prop where
  N : X.N = (["_law_call", "_law_word", "_law_e"] : List Str)
  k0 : X.env.kindOf "_law_call" = some .local
  k1 : X.env.kindOf "_law_word" = some .local
  k2 : X.env.kindOf "_law_e" = some .local
  tp : ∃ c, tabP X.K = some (c, P)
  tb : ∃ ps, X.H₀ P = some (.tbl ps) ∧ TriplesOk ps.toList ∧ codeAmong lpos ps.toList = some (.ref c')
  ob : X.s₀.heap.get? a = some (kla_obj "<lambda>" ZdL params body scope cl pm c' ctv)
  no : X.H₀ a = none
  nf : a ∉ X.fs
  clo : Zka X.s₀.heap X.H₀ X.outer Nc scope cl vs
section
variable {X : Cx} {E : XK} {P a c' : Addr} {lpos : Pos} {Nc : List Str} {params : Arguments} {body : Expr} {scope : Scope} {cl : List (Str × Addr)} {pm ctv : Value} {vs : List V}
theorem ZlH {M : Model} {A : Around} {E : Value → Shared → Prop} {s : Shared} {a : Addr} {o : Obj} {fd : FuncData} {Q : Value → Shared → Prop} {env : Env} {pos : Pos} (h0 : s.heap.get? a = some o) (hd : o.data = .func fd) (h : wpAny M A (call (.ref a) []) Q E s) :
    wpAny M A (callWith pos (.ref a) [] (backTo pos (starEach [] env)) []) Q E s :=
  callWith_of (P := fun h => h.get? a = some o) rfl (fun h e => ⟨.frame, .inl rfl, (Looks.ld (part := none) e).andThen (by rw [hd]; exact .now)⟩) (evalArgs_nil3 ⟨h0, h⟩)
theorem SaidX.cloNow (S : SaidX X P a c' lpos Nc params body scope cl pm ctv vs) (lv : Lv X E) {pins : List (Addr × Obj)} {σ : L2.St} {H : Hp} {s : Shared} (I : Inv X pins σ H s) : Zka s.heap H X.stack Nc scope cl vs ∧ s.heap.get? a = some (kla_obj "<lambda>" ZdL params body scope cl pm c' ctv) := by
  have B : Un X.fs [] X.H₀ H X.s₀.heap s.heap := by have := I.base; rw [lv.ex] at this; exact this
  have keep : ∀ c v, X.s₀.heap.IsCell c v → X.H₀ c = none → c ∉ X.fs → s.heap.IsCell c v := fun c v z1_ n f => by obtain ⟨o, e, d⟩ := z1_; exact (⟨o, B.keep c o e n f (by simp), d⟩)
  refine ⟨⟨S.clo.len, S.clo.inj, S.clo.has, fun x c e => ?_, fun i x v e1 e2 => ?_⟩, B.keep a _ S.ob S.no S.nf (by simp)⟩
  · obtain ⟨⟨v, q⟩, n, f⟩ := S.clo.cell x c e
    obtain ⟨o, e1, d⟩ := id q
    refine ⟨⟨v, keep c v q n f⟩, B.free c o e1 n (by simp), fun z => ?_⟩
    rw [lv.frs] at z
    rcases List.mem_cons.mp z with z | z
    · exact absurd (Nat.lt_of_lt_of_le (Heap.lt_size e1) I.ok.above) (by rw [z]; exact Nat.lt_irrefl _)
    · exact f z
  · obtain ⟨hf, c, u, e3, e4, r⟩ := S.clo.val i x v e1 e2
    obtain ⟨_, n, f⟩ := S.clo.cell x c e3
    exact ⟨hf, c, u, e3, keep c _ e4 n f, r⟩
def mCx (X : Cx) (e : Addr) : Cx := { X with A := X.A.mark (some (.ref e)), calm := false, xe := fun _ _ => False }
theorem Inv.marked {pins : List (Addr × Obj)} {σ : L2.St} {H : Hp} {s : Shared} {e : Addr} (I : Inv X pins σ H s) : Inv (mCx X e) pins σ H s :=
  ⟨⟨I.ok.mod, I.ok.kind, I.ok.glob, I.ok.blt, I.ok.above, I.ok.inj, I.ok.has, I.ok.cab, fun z => (nomatch z), I.ok.frames, I.ok.stk, I.ok.exf, I.ok.bs, I.ok.bsz, I.ok.noex, I.ok.exfs, I.ok.funs, I.ok.frf⟩, I.os, I.bare, I.base, I.loc, I.cell, I.free, I.freeC, I.pin, I.hok, I.len⟩
theorem Inv.unmarked {pins : List (Addr × Obj)} {σ : L2.St} {H : Hp} {s : Shared} {e : Addr} (ok : X.Ok) (I : Inv (mCx X e) pins σ H s) : Inv X pins σ H s :=
  ⟨ok, I.os, I.bare, I.base, I.loc, I.cell, I.free, I.freeC, I.pin, I.hok, I.len⟩
theorem Zpo {k : Nat} {Fk : List D → HD → Out D} {f : ME} {p4 p5 p6 p7 p8 p9 p10 p11 p12 p13 p14 : Pos} (lv : Lv X E) (S : SaidX X P a c' lpos Nc params body scope cl pm ctv vs) (hr : Room (k + 1) X.A) (et : etOk X.K = true) (hsw : ∃ Sw, nsIn X.K mainGlobals "SwitchError" = some (some (.ref Sw)))
    (hgS : X.env.kindOf "SwitchError" = some .globalImplicit) (hgK : X.env.kindOf "_law_kind" = some .globalImplicit)
    (hkind : CaM X.prog X.w X.K X.mg X.base "_law_kind" k Fk) (hL : LamSc scope) (hbind : bindArgs (kla_fn "<lambda>" ZdL params body scope cl pm (.ref c') ctv) ⟨[], []⟩ = pure [])
    (hb : ∀ (s : Shared) (H : Hp) (E' : XK), Room k (X.A.deeper (envX ZdL scope s.heap.objs.size a (.ref c') cl)) → Ev (lCx X.prog X.w X.K X.mg X.base Nc scope a (.ref c') cl X.A X.stack s H E') E' body f) :
    Ex X E (.Try [.Expr (.Call (.Name "_law_call" p4) [] [] p5) p6] [.ExceptHandler (some (.Name "SwitchError" p7)) (some "_law_e") [.Assign [.Name "_law_word" p8] (.Call (.Name "_law_kind" p9) [.Name "_law_e" p10] [] p11) p12] p13] [] [] p14) (Zqn a vs Fk f) := by
  rintro pins s σ H Dn I ⟨m, ρ, h, hr1, er, p⟩
  refine Classical.byContradiction fun nG => ?_
  have hN0 : X.N[0]? = some ("_law_call" : Str) := by rw [S.N]; rfl
  have hN1 : X.N[1]? = some ("_law_word" : Str) := by rw [S.N]; rfl
  have hN2 : X.N[2]? = some ("_law_e" : Str) := by rw [S.N]; rfl
  have nd : X.N.Nodup := by rw [S.N]; decide +kernel
  obtain ⟨Sw, hSw⟩ := hsw
  unfold Zqn at p
  split at p
  · rename_i a' vs' ds e0 et0
    split at p
    · rename_i hav
      obtain ⟨rfl, rfl⟩ := hav
      obtain ⟨C, ob⟩ := S.cloNow lv I
      obtain ⟨v0, hv0, rv0⟩ := er.2 0 _ e0
      simp only [DV] at rv0
      obtain ⟨rfl, rds⟩ := rv0
      obtain ⟨aP, haP, tab⟩ := hr1.at et0
      obtain ⟨⟨cc, htp⟩, ps2, hps2, htr2, hcs2⟩ := tab
      obtain ⟨cc', htp'⟩ := S.tp
      rw [htp'] at htp
      cases htp
      obtain ⟨ps, hps, htr, hca⟩ := S.tb
      obtain ⟨more, hmore⟩ := I.base.tbls P ps hps
      have hca2 : codeAmong lpos ps2.toList = some (.ref c') := by
        have e := hmore.symm.trans hps2
        cases e
        rw [Array.toList_append]
        exact Zj9 htr hca
      obtain ⟨c2, e2, hx2⟩ := hcs2 lpos _ hca2
      cases e2
      have hcd : s.heap.CodeRec (.ref c') ZdL := (I.hok c' _ hx2).1
      have run : ∀ (Q : VK) (E' : XK), Post X.K (rD X.K) m H E' Q (f (ds.map some) h) → codeAny (model X.prog X.w) X.A (.call (.ref a') ⟨[], []⟩) (CR (CXE X.prog X.w X.K) X.stack X.prog X.w H s Q E') s := fun Q E' q =>
        ZlG hL hr I.env0 C ob hcd hbind (hb s H E') ⟨m, ds, h, hr1, rds, q⟩
      have start : ∀ {Q : Flow → Shared → Prop} {EE : Value → Shared → Prop}, codeAny (model X.prog X.w) X.A (.call (.ref a') ⟨[], []⟩) (fun r s' => match r with | .ok (.ret u) => Q .next s' | .error e => EE e s' | _ => False) s →
          wpAny (model X.prog X.w) X.A (execs [.Expr (.Call (.Name "_law_call" p4) [] [] p5) p6] X.env) Q EE s := fun {Q EE} hc => by
        refine wpAny_execs_cons (wpAny_Expr_any (wpAny_Call_Name_kw ?_) I.quiet rfl)
        obtain ⟨m0, hn0, hl0⟩ := I.loc
        obtain ⟨u, ru, lk⟩ := hl0 0 "_law_call" (.ref a') hN0 hv0 (.inl S.k0)
        cases (show u = Value.ref a' from ru)
        rcases lk with ⟨hk, hm⟩ | ⟨z, _⟩
        · refine wpAny_Name (wpAny_loadName_local I.ok.kind hk hn0 hm (ZlH ob rfl (wpAny_call (codeAny_mono hc fun r s' hq => ?_)))) (by decide)
          cases r with
          | error e => exact hq
          | ok fl =>
            cases fl with
            | ret u => exact wpAny_execs_nil hq
            | next => exact hq.elim
            | brk => exact hq.elim
            | cont => exact hq.elim
        · rcases z with z | z <;> (rw [S.k0] at z; cases z)
      refine nG (wpAny_Try_except (start ?_))
      clear nG
      refine Classical.byContradiction fun nG => ?_
      cases ho : f (ds.map some) h with
      | stuck => rw [ho] at p; exact p.elim
      | ok d h1 =>
        rw [ho] at p
        refine nG (codeAny_mono (run (fun v H' => ∃ m', m <+: m' ∧ Kp H H' ∧ HR X.K m' h1 H') E0 (by rw [ho]; exact fun v m' H' p1 k1 hr' _ => ⟨m', p1, k1, hr'⟩)) fun r s' hq => ?_)
        cases r with
        | error e =>
          obtain ⟨_, _, _, _, _, _, _, _, _, _, _, q⟩ := hq
          exact q.elim
        | ok fl =>
          cases fl with
          | ret u =>
            obtain ⟨v, H', os, bare, un, hok, _, m', p1, k1, hr'⟩ := hq
            exact wpAny_execs_nil ⟨σ, H', I.call' os un hok bare (fun b hb => absurd hb (by simp)), p m' H' p1 k1 hr' σ (er.keep p1 k1)⟩
          | next => exact hq.elim
          | brk => exact hq.elim
          | cont => exact hq.elim
      | err Cv fs h1 =>
        rw [ho] at p
        cases Cv with
        | str n t =>
          simp only at p
          split at p
          · rename_i hn
            refine nG (codeAny_mono (run (fun _ _ => False) (fun C' _ H' => C' = .str n t ∧ ∃ m', m <+: m' ∧ Kp H H' ∧ HR X.K m' h1 H') (by rw [ho]; exact fun da m' H' p1 k1 hr' _ => ⟨rfl, m', p1, k1, hr'⟩)) fun r s1 hq => ?_)
            clear nG
            cases r with
            | ok fl =>
              cases fl with
              | ret u => obtain ⟨_, _, _, _, _, _, _, z⟩ := hq; exact z.elim
              | next => exact hq.elim
              | brk => exact hq.elim
              | cont => exact hq.elim
            | error e =>
              obtain ⟨ae, Cc, n', H', rfl, os, bare, un, hok, fly, nm, hE, m', p1, k1, hr'⟩ := hq
              refine Classical.byContradiction fun nG => ?_
              have hnn : n' = n := by cases hE; rfl
              subst hnn
              have I1 : Inv X pins σ H' s1 := I.call' os un hok bare (fun b hb => absurd hb (by simp))
              obtain ⟨fnew, fno, oe, ws, a0, T, oT, ts, e1, e2, e3, e4, e5, e6, e7, e8, e9, e10⟩ := fly
              have fro : X.A.frames = some (X.env :: X.outer) := by rw [← lv.stk]; exact I1.ok.frames
              have stk : s1.heap.FunFrames X.base (X.env :: X.outer) := by have := I1.stack; rw [lv.stk] at this; exact this
              have frN : ∀ b ∈ frs X.stack, H' b = none := fun b hb => I1.stkFree b hb
              have frO : ∀ b ∈ frs X.stack, ∃ o, s1.heap.get? b = some o ∧ ∀ vs, o.data ≠ .fields vs := fun b hb => (I1.stack.mem hb).2
              have fly0 : Heap.FlyingW (blank (fun b => b = ae ∨ b = T ∨ b ∈ frs X.stack) s1.heap) (X.env :: X.outer) ae (.ref Cc) a0 s1.heap :=
                ⟨Zdq, Zb0 (.inl rfl), Zcy stk fun b hb => .inr (.inr (by rw [lv.stk]; exact hb)), oe, ws, T, oT, ts, e1, e2, e3, e4, Zb0 (.inr (.inl rfl)), e7, e8, e9, e10⟩
              refine nG (wpAny_looks_onW fro lv.fr fly0 fun h4 held4 sm4 => ?_)
              clear nG
              refine wpAny_landsW held4 fun h5 held5 sm5 => ?_
              refine Classical.byContradiction fun nG => ?_
              obtain ⟨un5, hok5, fly5⟩ := Zkb un hok fnew e5 fno e6 frN frO held5.1 (sm4.trans sm5) held5.2.2.2
              have I5 : Inv X pins σ H' { s1 with heap := h5 } := I.call' (s' := { s1 with heap := h5 }) os un5 hok5 bare (fun b hb => absurd hb (by simp))
              have hmS : X.mg "SwitchError" = some (.ref Sw) := mg_of I.mod.kin I.mod.glob hSw
              have T5 := ZlE et hn nm
              obtain ⟨_, _, oe5, ws5, _, _, _, _, f1, f2, f3, _⟩ := id fly5
              refine nG (wpAny_handleBy_cons (codeAny_handlers_test ?_) (by intro q; cases q))
              clear nG
              refine Calls.Name_function_global I5.ok.kind hgS (Calls.loadGlobal_global (by rw [I5.ok.glob]; exact I5.mod.glob.keeps I5.bk) hmS ?_) (by decide)
              refine (exm_one (M := model X.prog X.w) I5.kIn (TyAt.type ⟨oe5, f1, f2.1⟩) (T5.sw Sw hSw)).here ?_
              simp only [if_true]
              refine codeAny_handlers_suite_as (lands_againW held5 fun h6 held6 sm6 => ?_)
              obtain ⟨un6, hok6, fly6⟩ := Zkb un hok fnew e5 fno e6 frN frO held6.1 ((sm4.trans sm5).trans sm6) held6.2.2.2
              have I6 : Inv X pins σ H' { s1 with heap := h6 } := I.call' (s' := { s1 with heap := h6 }) os un6 hok6 bare (fun b hb => absurd hb (by simp))
              obtain ⟨_, _, oe6, ws6, _, _, _, _, g1, g2, g3, _⟩ := id fly6
              have older : ∀ b, s.heap.get? b = none → X.s₀.heap.get? b = none := lv.older I
              have xok : ObjOk X.prog X.w (upd H' ae (.ext (ZgD Cc none ae))) h6 ae (.ext (ZgD Cc none ae)) :=
                ⟨⟨oe6, ws6, g1, g2.1, fun d z => (nomatch z), g3⟩, ⟨oe6, g1⟩, fun ha hb' z2_ k' => by obtain ⟨o, w', z1, z2, z3, z4⟩ := z2_; exact (⟨o, w', k' o z1, z2, z3, z4⟩)⟩
              have neL : ae ≠ X.env.locals := fun z => by
                obtain ⟨mL, ⟨oL, _, _, hoL, _⟩, _⟩ := I.loc
                rw [← z, fnew] at hoL; cases hoL
              have neC : ∀ x c, X.env.cells.lookup x = some c → c ≠ ae := fun x c ex z => by
                obtain ⟨v, o, hoc, _⟩ := I.cell x c ex
                rw [z, fnew] at hoc; cases hoc
              have neP : ∀ q ∈ X.pn ++ pins, q.1 ≠ ae := fun q hq z => by
                have := (I.pin q hq).1
                rw [z, fnew] at this; cases this
              have I6' := LS.Inv.track I6 (older ae fnew) fno neL neC neP xok
              have kx : Kp H' (upd H' ae (.ext (ZgD Cc none ae))) := .new fno
              refine Zdv (v := .ref ae) I6' nd hN2 (.inl S.k2) rfl (fun s7 I7 _ => ?_) (.inr S.k2)
              split at p
              · rename_i d h2 hk2
                have hr7 : HR X.K m' h1 (upd H' ae (.ext (ZgD Cc none ae))) := hr'.new fno
                have er7 : ER X.K m' (upd H' ae (.ext (ZgD Cc none ae))) (ρ.set 2 (some (.exc n' []))) (σ.set 2 (some (.ref ae))) :=
                  ((er.keep p1 k1).keep (List.prefix_refl _) kx).set (by simp only [DV]; exact ⟨ae, Cc, none, rfl, nm, Za0, fun f i z => (nomatch z)⟩)
                have hρ : 2 < ρ.length := by rw [er.1, I.len, S.N]; decide
                have sx : Exs (mCx X ae) E0 [.Assign [.Name "_law_word" p8] (.Call (.Name "_law_kind" p9) [.Name "_law_e" p10] [] p11) p12] (ZbG 1 (Zaf Fk (Zab (Zag 2) Zal))) :=
                  Zam (ZaN (X := mCx X ae) (i := 1) nd hN1 (Or.inl S.k1) (Zpn (X := mCx X ae) hkind (RoomM.of hr _) (Zaa (Zac (X := mCx X ae) (Zji (X := mCx X ae) hN2 (.inl S.k2))) Zad) (Nat.le_succ _) hgK) (hf := .inr S.k1))
                have post : tSt (mCx X ae).K E0 (ZbG 1 (Zaf Fk (Zab (Zag 2) Zal))) { nx := fun σ' H'' => Dn.nx (σ'.set 2 none) H'', rt := fun _ _ => False } (σ.set 2 (some (.ref ae))) (upd H' ae (.ext (ZgD Cc none ae))) := by
                  refine ⟨m', ρ.set 2 (some (.exc n' [])), h1, hr7, er7, ?_⟩
                  have ev : ZbG 1 (Zaf Fk (Zab (Zag 2) Zal)) (ρ.set 2 (some (.exc n' []))) h1 = .ok (.nx, (ρ.set 2 (some (.exc n' []))).set 1 (some d)) h2 := by
                    unfold ZbG Zaf Zab Zal Zag
                    rw [List.getElem?_set_self hρ]
                    simp only [Out.bind_ok]
                    rw [hk2]
                    rfl
                  rw [ev]
                  intro m2 H2 p2 k2 hr2 σ' er2
                  refine p m2 H2 (p1.trans p2) ((k1.trans kx).trans k2) hr2 _ ⟨by simp [er2.1.symm], fun i di e => ?_⟩
                  by_cases hi : 2 = i
                  · subst hi
                    rw [List.getElem?_set_self (by simpa using hρ)] at e
                    cases e
                  · rw [List.getElem?_set_ne hi] at e
                    obtain ⟨v, z1, z2⟩ := er2.2 i di (by
                      by_cases h1i : 1 = i
                      · subst h1i
                        rw [List.getElem?_set_self (by omega)] at e
                        rw [List.getElem?_set_self (by simp; omega)]; exact e
                      · rw [List.getElem?_set_ne h1i] at e
                        rw [List.getElem?_set_ne h1i, List.getElem?_set_ne hi]; exact e)
                    exact ⟨v, by rw [List.getElem?_set_ne hi]; exact z1, z2⟩
                refine wpAny_mono (sx pins s7 _ _ _ (Inv.marked I7) post) (fun fl s8 h8 => ?_) fun _ _ z => False.elim z
                cases fl with
                | next =>
                  obtain ⟨σ', H'', I8, q8⟩ := h8
                  exact Zkc (Inv.unmarked I.ok I8) nd hN2 S.k2 fun s9 I9 => ⟨_, H'', I9, q8⟩
                | ret u => obtain ⟨_, _, _, _, _, z⟩ := h8; exact False.elim z
                | brk => obtain ⟨_, _, _, z⟩ := h8; exact False.elim z
                | cont => obtain ⟨_, _, _, z⟩ := h8; exact False.elim z
              · exact p.elim
          · exact p.elim
        | _ => exact p.elim
    · exact p.elim
  · exact p.elim
end
end LS
namespace LS
open PySem PySem.Spec PyProof.Rows L2 PySem.W
noncomputable def Znh (Fk : List D → HD → Out D) : Out D → Out D
  | .ok _ h1 => .ok (.str "told") h1
  | .err (.str n _) _ h1 => if n ∈ excNames then (match Fk [.exc n []] h1 with
    | .ok d h2 => .ok d h2
    | _ => .stuck) else .stuck
  | _ => .stuck
noncomputable def ZgR (cs : List Nat) (Fk : List D → HD → Out D) (f : ME) : ME := fun ρ h => match (h[0]? : Option Zh2), Zay (cs.map fun j => (ρ[j]?).join) with
  | some .tab, some ds => Znh Fk (f (ds.map some) h)
  | _, _ => .stuck
structure LSc (X : Cx) (scope : Scope) (Nc : List Str) (cs : List Nat) : Prop where
  lam : LamSc scope
  nd : (scope.names.map (·.1)).Nodup
  free : (scope.names.all fun y => y.2 != .free || (X.env.kindOf y.1 == some .cell || X.env.kindOf y.1 == some .free)) = true
  len : cs.length = Nc.length
  out : ((Nc.zip cs).all fun p => X.N[p.2]? == some p.1 && scope.names.lookup p.1 == some .free) = true
theorem LSc.at_ {X : Cx} {scope : Scope} {Nc : List Str} {cs : List Nat} (S : LSc X scope Nc cs) {i j : Nat} {x : Str} (h1 : Nc[i]? = some x) (h2 : cs[i]? = some j) : X.N[j]? = some x ∧ scope.names.lookup x = some .free := by
  have hz : (Nc.zip cs)[i]? = some (x, j) := by
    rw [List.getElem?_zip_eq_some]
    exact ⟨h1, h2⟩
  have := List.all_eq_true.mp S.out (x, j) (List.mem_of_getElem? hz)
  simpa using this
theorem LSc.fr {X : Cx} {scope : Scope} {Nc : List Str} {cs : List Nat} (S : LSc X scope Nc cs) : ∀ y ∈ scope.names, y.2 = .free → X.env.kindOf y.1 = some .cell ∨ X.env.kindOf y.1 = some .free := fun y hy e => by
  have := List.all_eq_true.mp S.free y hy
  rw [e] at this
  simpa using this
theorem Zkd {K : Frag} {m : List Addr} {H : Hp} {ρ : Rho} {σ : L2.St} (er : ER K m H ρ σ) : ∀ {cs : List Nat} {ds : List D}, Zay (cs.map fun j => (ρ[j]?).join) = some ds → ∃ vs, DVs K m H ds vs ∧ vs.length = cs.length ∧ ∀ (i : Nat) (v : V), vs[i]? = some v → ∃ j, cs[i]? = some j ∧ σ[j]? = some (some v)
  | [], ds, e => by
    simp [Zay] at e
    subst e
    exact ⟨[], .nil, rfl, fun i v z => by simp at z⟩
  | j :: cs, ds, e => by
    rw [List.map_cons] at e
    cases ed : (ρ[j]?).join with
    | none => rw [ed] at e; simp [Zay] at e
    | some d =>
      rw [ed] at e
      simp only [Zay, Option.map_eq_some_iff] at e
      obtain ⟨ds', e1, rfl⟩ := e
      obtain ⟨vs, h1, h2, h3⟩ := Zkd er e1
      obtain ⟨v, e2, r⟩ := er.2 j d (join_some.mp ed)
      refine ⟨v :: vs, .cons r h1, by simp [h2], fun i v' z => ?_⟩
      cases i with
      | zero => simp at z; subst z; exact ⟨j, rfl, e2⟩
      | succ i => simpa using h3 i v' (by simpa using z)
section
variable {X : Cx} {E : XK} {c P : Addr} {Nc : List Str} {cs : List Nat} {params : Arguments} {body : Expr} {scope : Scope}
theorem ZdG {α : Type} {l : List (Str × α)} {x : Str} {v : α} (h : (x, v) ∈ l) : ∃ w, l.lookup x = some w := by
  cases e : l.lookup x with
  | some w => exact ⟨w, rfl⟩
  | none =>
    have := List.lookup_eq_none_iff.mp e _ h
    simp at this
theorem Zni {k : Nat} {Fk : List D → HD → Out D} {f : ME} {fs : Addr} {fd : FuncData} {st : Stmt} {lpos p pos p1 p2 p3 p4 p5 p6 p7 p8 p9 p10 p11 p12 p13 p14 p15 p16 : Pos} {j1 : Nat} (L : LamX X c P) (fna : ∀ x, X.fn x = true) (hr : Room (k + 2) X.A) (lv : Lv X E) (et : etOk X.K = true)
    (hsw : ∃ Sw, nsIn X.K mainGlobals "SwitchError" = some (some (.ref Sw)))
    (Fn : Fun X.K "_law_said" "_law_said" st fs fd) (hbd : Binds X.K fd ["_law_call"] []) (hm : X.mg "_law_said" = some (.ref fs)) (hkp : keepIn X.K (.ref fs) = true)
    (Sf : ZaA ["_law_call", "_law_word", "_law_e"] ["_law_call"] (defScope st)) (hk0 : (defScope st).names.lookup ("_law_call" : Str) = some .local) (hk1 : (defScope st).names.lookup ("_law_word" : Str) = some .local) (hk2 : (defScope st).names.lookup ("_law_e" : Str) = some .local)
    (hgS : ∀ L' cd, (envOfC "_law_said" (defScope st) L' fs cd).kindOf "SwitchError" = some .globalImplicit) (hgK : ∀ L' cd, (envOfC "_law_said" (defScope st) L' fs cd).kindOf "_law_kind" = some .globalImplicit)
    (hst : defBody st = [.Assign [.Name "_law_word" p1] (.Constant (.str "told") j1 p2) p3, .Try [.Expr (.Call (.Name "_law_call" p4) [] [] p5) p6] [.ExceptHandler (some (.Name "SwitchError" p7)) (some "_law_e") [.Assign [.Name "_law_word" p8] (.Call (.Name "_law_kind" p9) [.Name "_law_e" p10] [] p11) p12] p13] [] [] p14, .Return (some (.Name "_law_word" p15)) p16])
    (hkind : CaM X.prog X.w X.K X.mg X.base "_law_kind" k Fk) (hg : Gl X "_law_said") (S : LSc X scope Nc cs) (hdef : defaultsOf params X.env = ([], []))
    (hbind : ∀ (cl : List (Str × Addr)) (pm cv ctv : Value), bindArgs (kla_fn "<lambda>" ZdL params body scope cl pm cv ctv) ⟨[], []⟩ = pure [])
    (hb : ∀ (a : Addr) (cd : Value) (cl : List (Str × Addr)) (A : Around) (outer : List Env) (s : Shared) (H : Hp) (E' : XK), Room k (A.deeper (envX ZdL scope s.heap.objs.size a cd cl)) → Ev (lCx X.prog X.w X.K X.mg X.base Nc scope a cd cl A outer s H E') E' body f)
    (he : starEach [.Lambda params body scope lpos] X.env = (false, eval (.Lambda params body scope lpos) X.env) :: starEach [] X.env := by rfl) (hpl : (backTo pos (starEach [] X.env)).any (·.1) = false := by rfl) :
    Ev X E (.Call (.Name "_law_said" p) [.Lambda params body scope lpos] [] pos) (ZgR cs Fk f) := by
  rintro pins s σ H Q I ⟨m, ρ, h, hr1, er, pp⟩
  unfold ZgR at pp
  split at pp
  · rename_i ds et0 eds
    obtain ⟨aP, haP, tab⟩ := hr1.at et0
    obtain ⟨⟨cc, htp⟩, tabr⟩ := id tab
    rw [L.tp] at htp
    cases htp
    obtain ⟨vs, dvs, vlen, vat⟩ := Zkd er eds
    obtain ⟨cl, hclos, hcl, hcl2⟩ := Zcq (scope := scope) (env := X.env) fun y hy hf => I.ok.has y.1 (S.fr y hy hf)
    refine wpAny_Call_Name_kw (ZdN I hg hm ?_ (by decide))
    refine PySem.W.callWith_K (h₀ := X.base) I.ok.mod.kin hkp ?_ he hpl
    rw [he]
    show wpAny _ _ (spliced ((false, eval (.Lambda params body scope lpos) X.env) :: [])) _ _ s
    refine Calls.spliced_cons (ZlF L I tab hdef hclos fun a c' ctv pm h' tk H' I' kp tab' same keep hsz no ob code => ?_)
    refine wpAny_pure ⟨I'.kIn, wpAny_call ?_⟩
    generalize hs1 : ({ s with heap := h', toks := tk } : Shared) = s1 at I'
    have hh1 : s1.heap = h' := by rw [← hs1]
    have hrN : HR X.K m h H' := hr1.tab kp same tab' tab
    have frLt : ∀ b ∈ frs X.stack, b < s.heap.objs.size := fun b hb => by
      obtain ⟨_, o, ho, _⟩ := I.stack.mem hb
      exact Heap.lt_size ho
    have cof : ∀ x c, cl.lookup x = some c → X.env.cells.lookup x = some c := fun x c e => (hcl x c (mem_of_lookup e)).1
    have hasC : ∀ x, scope.names.lookup x = some .free → ∃ c, cl.lookup x = some c := fun x e => by
      obtain ⟨c, hc⟩ := hcl2 _ (mem_of_lookup e) rfl
      exact ZdG hc
    have C1 : Zka s1.heap H' X.stack Nc scope cl vs := by
      refine ⟨by rw [vlen, S.len], fun x y c e1 e2 => I.ok.inj x y c (cof x c e1) (cof y c e2), hasC, fun x c e => ?_, fun i x v e1 e2 => ?_⟩
      · refine ⟨I'.cell x c (cof x c e), I'.freeC x c (cof x c e), fun z => ?_⟩
        rcases List.mem_cons.mp (I.stkSub c z) with z | z
        · exact I.cne x c (cof x c e) z
        · obtain ⟨_, o, ho, _⟩ := I.ok.funs.mem z
          exact absurd (Nat.lt_of_lt_of_le (Heap.lt_size ho) (I.ok.cab x c (fna x) (cof x c e))) (Nat.lt_irrefl _)
      · obtain ⟨j, ej, sj⟩ := vat i v e2
        obtain ⟨hN, hf⟩ := S.at_ e1 ej
        have hk := S.fr _ (mem_of_lookup hf) rfl
        obtain ⟨m0, hn0, hl0⟩ := I'.loc
        obtain ⟨u, r, lk⟩ := hl0 j x v hN sj (by rcases hk with z | z; exact .inr (.inl z); exact .inr (.inr z))
        refine ⟨hf, ?_⟩
        rcases lk with ⟨z, _⟩ | ⟨_, c, e3, e4⟩
        · rcases hk with y | y <;> (rw [z] at y; cases y)
        · obtain ⟨c2, e5⟩ := hasC x hf
          have := cof x c2 e5
          rw [e3] at this
          cases this
          exact ⟨c, u, e5, e4, r⟩
    obtain ⟨oc, od, kV, doc, pm2, an, cdv, ct, osl, rfl, lk, hcd⟩ := Fn.ex
    have e0 := I'.env0
    have KX : X.K.In s1.heap := I'.kIn
    have lim : s1.heap.NoLimit := I'.nolimit
    have hkind2 : ∀ y ∈ (["_law_call"] : List Str).zip [Value.ref a], (defScope st).names.lookup y.1 = some .local ∨ ((defScope st).names.lookup y.1 = some .cell ∧ ((cellsFrom (s1.heap.objs.size + 1) (defScope st).names []).lookup y.1).isSome = true) := fun y hy => by
      have : y = (("_law_call" : Str), Value.ref a) := by simpa using hy
      subst this
      exact .inl hk0
    have bt := hbd s1 [.ref a] I'.kIn rfl
    rw [List.append_nil] at bt
    refine codeAny_mono (R := CR (CXE X.prog X.w X.K) X.stack X.prog X.w H' s1 Q E) ?_ fun r s' hq => ?_
    · refine codeAny_call_function hr.depth (KX _ _ lk) rfl Sf.co Sf.gen rfl (PySem.W.codeRec_of KX hcd) (bt _ _ _ _ ?_)
      refine wpAny_newFunctionEnv_cells Sf.kind hkind2 fun env he2 s2 x => ?_
      subst he2
      refine ⟨lim.keeps x.toInCall.keep, codeAny_func ?_⟩
      have I2 : Inv (Zcj (CXE X.prog X.w X.K) X.prog X.w X.K X.mg X.base ["_law_call", "_law_word", "_law_e"] "_law_said" (defScope st) fs cdv X.A X.stack s1 H' E) [] (L2.start ["_law_call", "_law_word", "_law_e"] [.ref a]) H' s2 :=
        ZgA Sf hr.hd e0 rfl (.cons rfl .nil) x
      obtain ⟨ps, hps, hca⟩ := code
      have tri : TriplesOk ps.toList := by
        obtain ⟨_, ps', z1, z2, _⟩ := tab'
        rw [hps] at z1; cases z1; exact z2
      have SX : SaidX (Zcj (CXE X.prog X.w X.K) X.prog X.w X.K X.mg X.base ["_law_call", "_law_word", "_law_e"] "_law_said" (defScope st) fs cdv X.A X.stack s1 H' E) P a c' lpos Nc params body scope cl pm ctv vs :=
        ⟨rfl, hk0, hk1, hk2, ⟨c, L.tp⟩, ⟨ps, hps, tri, hca⟩, by show s1.heap.get? a = _; rw [hh1]; exact ob, no, fun z => absurd (Nat.lt_of_lt_of_le (frLt a z) hsz) (Nat.lt_irrefl _), C1⟩
      have hrS : Room (k + 1) (Zcj (CXE X.prog X.w X.K) X.prog X.w X.K X.mg X.base ["_law_call", "_law_word", "_law_e"] "_law_said" (defScope st) fs cdv X.A X.stack s1 H' E).A := hr.deeper _
      have bx := Zah (ZaN (X := Zcj (CXE X.prog X.w X.K) X.prog X.w X.K X.mg X.base ["_law_call", "_law_word", "_law_e"] "_law_said" (defScope st) fs cdv X.A X.stack s1 H' E) (E := E) (i := 1) (pos := p3) (pos' := p1) Sf.nd rfl (Or.inl hk1) (Zca (x := "told") (j := j1) (pos := p2)))
        (Zah (Zpo (p4 := p4) (p5 := p5) (p6 := p6) (p7 := p7) (p8 := p8) (p9 := p9) (p10 := p10) (p11 := p11) (p12 := p12) (p13 := p13) (p14 := p14) lvE SX hrS et hsw (hgS _ _) (hgK _ _) hkind S.lam (hbind cl pm (.ref c') ctv) (fun s H E' => hb a (.ref c') cl _ _ s H E'))
          (Zam (ZaK (pos := p16) (Zac (Zji (i := 1) (x := "_law_word") (pos := p15) rfl (.inl hk1))))))
      rw [← hst] at bx
      have post : tSt X.K E (ZaR (ZbG 1 (mC (.str "told"))) (ZaR (Zqn a vs Fk f) (Zce (Zag 1)))) { nx := fun _ H'' => Q .non H'', rt := Q } (L2.start ["_law_call", "_law_word", "_law_e"] [.ref a]) H' := by
        refine ⟨m, [some (.clo a vs ds), none, none], h, hrN, ?_, ?_⟩
        · refine ⟨rfl, fun i d e => ?_⟩
          match i, e with
          | 0, e => cases e; exact ⟨.ref a, rfl, by unfold DV; exact ⟨rfl, DVs.keep (List.prefix_refl _) kp dvs⟩⟩
          | 1, e => cases e
          | 2, e => cases e
          | i + 3, e => cases e
        · have p2 := Post.ahead (List.prefix_refl m) kp pp
          unfold ZaR ZbG mC
          simp only [Out.bind_ok]
          unfold Zqn
          simp only [List.set_cons_succ, List.set_cons_zero, List.getElem?_cons_zero, et0, and_self, if_true]
          unfold Znh at p2
          cases ho : f (ds.map some) h with
          | stuck => rw [ho] at p2; exact p2.elim
          | ok d h1 =>
            rw [ho] at p2
            exact fun m' H'' p1 k1 hr' v rv => p2 v m' H'' p1 k1 hr' rv
          | err Cv fs h1 =>
            rw [ho] at p2
            cases Cv with
            | str n t =>
              simp only at p2 ⊢
              split at p2
              · rename_i hn
                simp only [hn, if_true]
                cases hk : Fk [.exc n []] h1 with
                | stuck => rw [hk] at p2; exact p2.elim
                | err _ _ _ => rw [hk] at p2; exact p2.elim
                | ok d h2 =>
                  rw [hk] at p2
                  exact fun m' H'' p1 k1 hr' v rv => p2 v m' H'' p1 k1 hr' rv
              · exact p2.elim
            | _ => exact p2.elim
      refine wpAny_mono (bx [] s2 _ H' _ I2 post) (fun fl s' hs => ?_) fun e s' hs => hs
      cases fl with
      | ret u =>
        obtain ⟨v, σ', H'', J, rv, q⟩ := hs
        exact ⟨v, H'', J.os, J.bare, J.base, J.hok, rv, q⟩
      | next =>
        obtain ⟨σ', H'', J, q⟩ := hs
        exact ⟨V.non, H'', J.os, J.bare, J.base, J.hok, rfl, q⟩
      | brk =>
        obtain ⟨_, _, _, q⟩ := hs
        exact False.elim q
      | cont =>
        obtain ⟨_, _, _, q⟩ := hs
        exact False.elim q
    · cases r with
      | error e => exact Zm9 lv pins σ H' s1 e s' I' hq
      | ok fl =>
        cases fl with
        | ret u => exact I'.after hq
        | next => exact False.elim hq
        | brk => exact False.elim hq
        | cont => exact False.elim hq
  · exact pp.elim
end
end LS
namespace LS
open PySem PySem.Spec PyProof.Rows L2 PySem.W
def BMb (mg : Str → Option Value) (base : Heap) : Prop := ∃ bm o, mg "__builtins__" = some (.ref bm) ∧ bm ≠ builtinsNs ∧ base.get? bm = some o ∧ o.cls = .type "module" ∧ o.dict = some builtinsNs ∧ o.data = .plain
theorem Zke {P : Program} {w : World} {K : Frag} {mg mb : Str → Option Value} {k : Nat} {fa a c T : Addr} {fd : FuncData} {x : Str} {F : List D → HD → Out D} {s₁ : Shared} {vs : List Value} {ns : List Int}
    (KX : K.In s₁.heap) (hns : s₁.heap.Ns mainGlobals mg) (hb : s₁.heap.Ns builtinsNs mb) (hbb : ∀ x : Str, x ≠ "__name__" → mb x = bootBuiltins x) (hlim : s₁.heap.NoLimit) (hg : s₁.gens = #[]) (hbm : BMb mg s₁.heap)
    (ha : s₁.heap.get? a = some { cls := .type "list", data := .seq vs.toArray }) (hi : IntsAre vs ns) (hl : ns.length ≤ sizeLine) (hr : Room k callerA)
    (htp : tabP K = some (c, T)) (hcd : codeHdIn K c T = true) (hT : s₁.heap.get? T = some (tabObj #[])) (hKT : K.lookup T = none)
    (FF : ∀ base : Heap, K.In base → base.Ns mainGlobals mg → BMb mg base → FnOk P w K mg base (CXE P w K) k fa fd [x] (spE K F)) (hbind : ∀ (s : Shared) (u : Value), BindsTo s fd ⟨[u], []⟩ [(x, u)])
    (hF : ∃ h', F [.scr ns] [.tab] = .ok (.bl true) h') :
    codeAny (model P w) callerA (.call (.ref fa) ⟨[.ref a], []⟩) (fun r s' => r = .ok (.ret (.bool true)) ∧ OldK s₁.heap s'.heap ∧ s'.os = s₁.os ∧ AllBare s'.gens) s₁ := by
  have rv := L2.vals_ints hi
  have lenV := hi.length
  have aT : a ≠ T := fun z => by rw [z, hT] at ha; cases ha
  have core : ∀ H : Hp, (∀ b, b = T ∨ H b = none ∨ ∃ o xs, H b = some (.frz o (.lst xs))) → H T = some (.tbl #[]) → FzL K H a (ns.map V.int) → HOk P w H s₁.heap → (∀ b, H b ≠ none → b = a ∨ b = T) → (H a ≠ none → K.lookup a = none) →
      codeAny (model P w) callerA (.call (.ref fa) ⟨[.ref a], []⟩) (fun r s' => r = .ok (.ret (.bool true)) ∧ OldK s₁.heap s'.heap ∧ s'.os = s₁.os ∧ AllBare s'.gens) s₁ := by
    intro H hO hHT hS hok hA hK
    have base_of : ∀ {b : Addr} {o : Obj}, s₁.heap.get? b = some o → H b = none → (ZkY s₁.heap H).get? b = some o := fun e n => Zk1 e n
    have noA : ∀ {b : Addr} {o : Obj}, s₁.heap.get? b = some o → (∀ its n, o.data ≠ .seq its n) → (∀ ws, o.data ≠ .fields ws) → H b = none := fun {b o} e d1 d2 => by
      cases q : H b with
      | none => rfl
      | some u =>
        rcases hA b (by rw [q]; simp) with e' | e'
        · subst e'
          rw [ha] at e; cases e
          exact absurd rfl (d1 _ _)
        · subst e'
          rw [hT] at e; cases e
          exact absurd rfl (d2 _)
    have nsK : ∀ {b : Addr} {m : Str → Option Value}, s₁.heap.Ns b m → (ZkY s₁.heap H).Ns b m := fun {b m} ⟨o, es, ep, e, d, r⟩ => ⟨o, es, ep, base_of e (noA e (fun _ _ z => by rw [d] at z; cases z) (fun _ z => by rw [d] at z; cases z)), d, r⟩
    have hKb : K.In (ZkY s₁.heap H) := fun b o e => base_of (KX b o e) (by
      cases q : H b with
      | none => rfl
      | some u =>
        rcases hA b (by rw [q]; simp) with e' | e'
        · subst e'
          rw [hK (by rw [q]; simp)] at e; cases e
        · subst e'
          rw [hKT] at e; cases e)
    have hM : Mod K mg (ZkY s₁.heap H) := ⟨hKb, nsK hns, ⟨mb, nsK hb, hbb⟩, let ⟨mc, h1, h2⟩ := hlim; ⟨mc, nsK h1, h2⟩⟩
    have e0 : Zmc P w K mg (ZkY s₁.heap H) callerA [] s₁ H := ⟨rfl, hM, fun b o e => ZmB e, Nat.le_of_eq (Zjh _ _), trivial, fun b hb => absurd (show b ∈ ([] : List Addr) from hb) (by simp), hok, .of_eq hg⟩
    have hBM : BMb mg (ZkY s₁.heap H) := by
      obtain ⟨bm, o, h1, h2, h3, h4, h5, h6⟩ := hbm
      exact ⟨bm, o, h1, h2, base_of h3 (noA h3 (fun _ _ z => by rw [h6] at z; cases z) (fun _ z => by rw [h6] at z; cases z)), h4, h5, h6⟩
    have hsp : spE K F [.ref a] H (fun v _ => v = .bl true) fun _ _ _ => False := by
      obtain ⟨h', e⟩ := hF
      refine ⟨[T], [.scr ns], [.tab], ⟨rfl, by simp, fun l cc b e1 e2 => ?_⟩, .cons (by simp only [DV]; exact ⟨a, rfl, hS⟩) .nil, ?_⟩
      · cases l with
        | zero =>
          simp at e1 e2
          subst e1 e2
          exact ⟨⟨c, htp⟩, #[], hHT, trivial, fun pos cv z => by simp [codeAmong] at z⟩
        | succ l => simp at e1
      · rw [e]
        intro v m' H' _ _ _ r
        simpa [rD, DV] using r
    refine codeAny_mono ((FF _ hKb (nsK hns) hBM).run callerA [] s₁ H ⟨[.ref a], []⟩ [.ref a] [.ref a] _ _ hr e0 (hbind s₁ (.ref a)) (.cons rfl .nil) hsp) fun r s' h => ?_
    cases r with
    | error e =>
      obtain ⟨_, _, _, _, _, _, _, _, _, _, _, q⟩ := h
      exact q.elim
    | ok fl =>
      cases fl with
      | next => exact False.elim h
      | brk => exact False.elim h
      | cont => exact False.elim h
      | ret u =>
        obtain ⟨v, H', os, bare, un, hok', r', q⟩ := h
        have q' : v = .bl true := q
        subst q'
        obtain rfl : u = Value.bool true := r'
        obtain ⟨more, hT'⟩ := un.tbls T _ hHT
        have hT2 : s'.heap.get? T = some (tabObj (#[] ++ more)) := hok' T _ hT'
        have keepO : ∀ b o, b ≠ T → s₁.heap.get? b = some o → s'.heap.get? b = some o := fun b o hbT e => by
          cases q : H b with
          | none => exact un.keep b o e q (by intro z; exact absurd (show b ∈ ([] : List Addr) from z) (by simp)) (by simp)
          | some u =>
            rcases hO b with z | z | ⟨ob, xs, z⟩
            · exact absurd z hbT
            · rw [q] at z; cases z
            · have z2 := un.frzs b ob _ z
              obtain ⟨e1, _⟩ := hok b _ z
              obtain ⟨e2, _⟩ := hok' b _ z2
              rw [e] at e1; cases e1
              exact e2
        have hC := codeHd_of_K KX hcd
        refine ⟨rfl, ⟨fun b o e => ?_, fun b o e => ?_⟩, os, bare⟩
        · by_cases hbT : b = T
          · subst hbT
            rw [hT] at e
            cases e
            exact .inr (.inl ⟨(hC.tab hT).isCodeTable, rfl, #[], more, rfl, hT2⟩)
          · exact .inl (keepO b o hbT e)
        · by_cases hbT : b = T
          · subst hbT; exact ⟨_, hT2⟩
          · exact ⟨o, keepO b o hbT e⟩
  cases hk : K.lookup a with
  | some o =>
    have e := KX a o hk
    rw [ha] at e
    cases e
    refine core (fun b => if b = T then some (.tbl #[]) else none) (fun b => ?_) (if_pos rfl) (.inr (.inr ⟨_, vs.toArray, _, hk, rfl, rfl, rfl, by rw [List.size_toArray, lenV]; exact hl, by simpa using rv⟩)) (fun b u z => ?_) (fun b z => ?_) fun z => absurd (if_neg aT) z
    · by_cases hb : b = T
      · exact .inl hb
      · exact .inr (.inl (if_neg hb))
    · by_cases hb : b = T
      · have z' := (if_pos hb).symm.trans z
        cases z'
        subst hb
        exact hT
      · have z' := (if_neg hb).symm.trans z
        cases z'
    · by_cases hb : b = T
      · exact .inr hb
      · exact absurd (if_neg hb) z
  | none =>
    refine core (fun b => if b = T then some (.tbl #[]) else if b = a then some (.frz { cls := .type "list", data := .seq vs.toArray } (.lst (ns.map V.int))) else none) (fun b => ?_) (if_pos rfl) (.inl ⟨{ cls := .type "list", data := .seq vs.toArray }, (if_neg aT).trans (if_pos rfl)⟩) (fun b u z => ?_) (fun b z => ?_) fun _ => hk
    · by_cases hb : b = T
      · exact .inl hb
      · by_cases hba : b = a
        · exact .inr (.inr ⟨_, _, (if_neg hb).trans (if_pos hba)⟩)
        · exact .inr (.inl ((if_neg hb).trans (if_neg hba)))
    · by_cases hb : b = T
      · have z' := (if_pos hb).symm.trans z
        cases z'
        subst hb
        exact hT
      · have z1 := (if_neg hb).symm.trans z
        by_cases hba : b = a
        · have z' := (if_pos hba).symm.trans z1
          cases z'
          subst hba
          exact ⟨ha, by rw [List.length_map]; exact hl, vs, _, rv, ha⟩
        · have z' := (if_neg hba).symm.trans z1
          cases z'
    · by_cases hb : b = T
      · exact .inr hb
      · by_cases hba : b = a
        · exact .inl hba
        · exact absurd ((if_neg hb).trans (if_neg hba)) z
end LS
namespace LS
open PySem PySem.Spec PyProof.Rows L2 PySem.W
open AutoSeq1 (wpAny_loadPart')
theorem Zeg : fillsNumberSlot (.type "tuple") "mul" = pure false := by
  first | exact noFill_tuple_mul' | (unfold fillsNumberSlot; kernel_rfl)
theorem ZgS : seqRepeat? (.type "tuple") = pure (some (.builtin "tuple.__mul__")) := by
  unfold seqRepeat?
  rw [PySem.seqSlot_of (T := "tuple") (name := "__mul__") (id := "tuple.__mul__") F.slot_tuple_mul.lookup (by decide +kernel), PySem.seqSlot_of (T := "tuple") (name := "__rmul__") (id := "tuple.__rmul__") (by rw [typeLookup_type, builtinLookup_eq_fast]; kernel_rfl) (by decide +kernel)]
  rfl
theorem Zfo (a : Int) (t : Tok) (l : Addr) (items : Array Value) (n : Nat) (dd : Option Addr) (sl : Array (Option Value)) :
    Meets (Builtin.«int.__rmul__» ⟨[.int a t, .ref l], []⟩) (fun _ R s => s.heap.get? l = some { cls := .type "tuple", dict := dd, data := .seq items n, slots := sl } ∧ R (.ok (.ret Value.notImplemented)) s) :=
  .of_wp fun prog w A R s h => by
    obtain ⟨hp, g, d, tk, os⟩ := s; obtain ⟨hl, h⟩ := h
    wp_walk; exact ⟨_, rfl, h⟩
theorem Zf7 (l : Addr) (items : Array Value) (n : Nat) (dd : Option Addr) (sl : Array (Option Value)) (x : Int) (u : Tok) (h1 : 1 < x) (h2 : x < 2 ^ 63) (hne : items.isEmpty = false) (hz : items.size * x.toNat ≤ sizeLine) :
    Meets (Builtin.«tuple.__mul__» ⟨[.ref l, .int x u], []⟩) (fun _ R s => s.heap.get? l = some { cls := .type "tuple", dict := dd, data := .seq items n, slots := sl } ∧ R (.ok (.ret (Value.ref s.heap.objs.size))) { s with heap := s.heap.push { cls := Value.type "tuple", data := Data.seq (List.foldl (fun x1 x2 => x1 ++ x2) #[] (List.replicate x.toNat items)) } }) :=
  .of_wp fun prog w A R s h => by
    obtain ⟨hp, g, d, tk, os⟩ := s; obtain ⟨hl, h⟩ := h
    have c1 : (decide (x < -2 ^ 63) || decide (x ≥ 2 ^ 63)) = false := by simp; omega
    have c2 : (items.isEmpty || x == 1) = false := by
      rw [hne, Bool.false_or]
      exact beq_eq_false_iff_ne.mpr (by omega)
    have c3 : (decide (x ≤ 0) || items.isEmpty) = false := by
      rw [hne, Bool.or_false]
      exact decide_eq_false (by omega)
    have hx : (x.toNat : Int) = x := Int.toNat_of_nonneg (by omega)
    have hz' : (items.size : Int) * x ≤ sizeLine := by rw [← hx]; exact_mod_cast hz
    have c4 : ¬ ((items.size : Int) * x > (2 ^ 63 - 1) / 8) := by
      have : (sizeLine : Int) ≤ (2 ^ 63 - 1) / 8 := by decide
      omega
    have c5 : Builtin.Tuple.tupleTooMany ((items.size : Int) * x) = false := by
      unfold Builtin.Tuple.tupleTooMany
      exact decide_eq_false (by omega)
    have c6 : (List.foldl (fun x1 x2 => x1 ++ x2) #[] (List.replicate x.toNat items)).size ≤ sizeLine := by
      have f0 := Zdy items.toList x.toNat []
      rw [List.nil_append] at f0
      have : List.foldl (fun x1 x2 => x1 ++ x2) #[] (List.replicate x.toNat items) = (List.replicate x.toNat items.toList).flatten.toArray := by simpa using f0
      rw [this, List.size_toArray, ZfX, Nat.mul_comm]
      simpa using hz
    wp_walk using wpAny_loadPart' hl
    rw [c1]
    simp only [Bool.false_eq_true, if_false]
    refine wpAny_bind ?_
    unfold Builtin.Tuple.tupleItemsOf
    wp_walk using wpAny_loadPart' hl
    rw [c2]
    simp only [Bool.false_eq_true, if_false]
    rw [c3]
    simp only [Bool.false_eq_true, if_false]
    rw [if_neg c4, c5]
    simp only [Bool.false_eq_true, if_false]
    refine wpAny_bind (wpAny_newObj_type (wpAny_pure ⟨_, rfl, h⟩) c6)
theorem Zf8 (l : Addr) (items : Array Value) (n : Nat) (dd : Option Addr) (sl : Array (Option Value)) (u : Tok) :
    Meets (Builtin.«tuple.__mul__» ⟨[.ref l, .int 1 u], []⟩) (fun _ R s => s.heap.get? l = some { cls := .type "tuple", dict := dd, data := .seq items n, slots := sl } ∧ R (.ok (.ret (Value.ref l))) s) :=
  .of_wp fun prog w A R s h => by
    obtain ⟨hp, g, d, tk, os⟩ := s; obtain ⟨hl, h⟩ := h
    have c1 : (decide ((1 : Int) < -2 ^ 63) || decide ((1 : Int) ≥ 2 ^ 63)) = false := by decide
    have c2 : (items.isEmpty || (1 : Int) == 1) = true := by simp
    wp_walk using wpAny_loadPart' hl
    exact ⟨_, rfl, h⟩
theorem Zf9 (l : Addr) (items : Array Value) (n : Nat) (dd : Option Addr) (sl : Array (Option Value)) (x : Int) (u : Tok) (h1 : -(2 ^ 63) ≤ x) (h2 : x ≤ 0) (hne : items.isEmpty = false) :
    Meets (Builtin.«tuple.__mul__» ⟨[.ref l, .int x u], []⟩) (fun _ R s => s.heap.get? l = some { cls := .type "tuple", dict := dd, data := .seq items n, slots := sl } ∧ R (.ok (.ret (Value.ref s.heap.objs.size))) { s with heap := s.heap.push { cls := Value.type "tuple", data := Data.seq #[] } }) :=
  .of_wp fun prog w A R s h => by
    obtain ⟨hp, g, d, tk, os⟩ := s; obtain ⟨hl, h⟩ := h
    have c1 : (decide (x < -2 ^ 63) || decide (x ≥ 2 ^ 63)) = false := by simp; omega
    have c2 : (items.isEmpty || x == 1) = false := by
      rw [hne, Bool.false_or]
      exact beq_eq_false_iff_ne.mpr (by omega)
    have c3 : (decide (x ≤ 0) || items.isEmpty) = true := by
      rw [hne, Bool.or_false]
      exact decide_eq_true h2
    wp_walk using wpAny_loadPart' hl
    rw [c1]
    simp only [Bool.false_eq_true, if_false]
    refine wpAny_bind ?_
    unfold Builtin.Tuple.tupleItemsOf
    wp_walk using wpAny_loadPart' hl
    rw [c2]
    simp only [Bool.false_eq_true, if_false]
    rw [c3]
    simp only [if_true]
    refine wpAny_bind (wpAny_newObj_type (wpAny_pure ⟨_, rfl, h⟩) (by show (#[] : Array Value).size ≤ sizeLine; simp))
section
variable {X : Cx} {E : XK}
def Zrw (K : Frag) : R2 := fun x y H Q => ∃ l k xs, x = .ref l ∧ y = .int k ∧ H l = some (.tup xs) ∧ xs ≠ [] ∧ -(2 ^ 63) ≤ k ∧ k < 2 ^ 63 ∧ xs.length * k.toNat ≤ sizeLine ∧ (k = 1 → Q (.ref l) H) ∧
  ∀ p, H p = none → Q (.ref p) (upd H p (.tup (List.replicate k.toNat xs).flatten))
theorem Inv.tnew {pins : List (Addr × Obj)} {σ : L2.St} {H : Hp} {s : Shared} {ys : List V} {its : List Value} {t' : Nat} (I : Inv X pins σ H s) (hv : Vals ys its) (hz : ys.length ≤ sizeLine) :
    Inv X pins σ (upd H s.heap.objs.size (.tup ys)) { s with heap := s.heap.push { cls := .type "tuple", data := .seq its.toArray }, toks := t' } :=
  I.laid (fun _ _ q => Heap.get?_push_of_some _ q) (Nat.le_refl _) ⟨hz, its, hv, ⟨_, Heap.get?_push_size _ rfl, rfl, 0, rfl⟩, NoDict.new⟩
theorem op_repT : OpR X (binaryOp .Mult) (Zrw X.K) := by
  intro pins s σ H x y v u Q I rx ry h
  obtain ⟨l, k, xs, rfl, rfl, hH, hne, h1, h2, hz, q1, q⟩ := h
  cases rx
  obtain ⟨t, rfl⟩ := ry
  obtain ⟨z, its, r, ⟨o, ho, hc, n, hd⟩, _⟩ := (show ObjOk X.prog X.w H s.heap l (.tup xs) from I.hok l _ hH)
  obtain ⟨oc, dd, dat, sl⟩ := o
  simp only at hc hd
  subst hc hd
  have hl := r.length
  have hine : its.toArray.isEmpty = false := by
    cases its with
    | nil => exfalso; cases xs with
      | nil => exact hne rfl
      | cons _ _ => simp at hl
    | cons a b => simp
  have mul : ∀ {Q' : Value → Shared → Prop}, wpAny (model X.prog X.w) X.A (call (.builtin "tuple.__mul__") [.ref l, .int k t]) Q' X.xe s → wpAny (model X.prog X.w) X.A (binaryOp .Mult (.ref l) (.int k t)) Q' X.xe s := fun {Q'} hq =>
    wpAny_binaryOp_repeat_ref (T := "tuple") (U := "int") (by decide) ⟨_, ho, rfl⟩ (fun s' => typeIs_int s' k t) Zeg F.fills_int_mul F.slot_int_rmul ZgS F.slot_int_index.lookup
      (call_meets F.slot_int_rmul (typeIs_int s k t) F.entry_int_rmul (F.args_int_rmul_2 _ _) (Zfo k t l its.toArray n dd sl) ⟨ho, rfl, ⟨_, ho, rfl⟩, hq⟩)
  refine mul ?_
  rcases Int.lt_trichotomy k 1 with hk | hk | hk
  · refine call_meets F.slot_tuple_mul ⟨_, ho, rfl⟩ F.entry_tuple_mul (F.args_tuple_mul_2 _ _) (Zf9 l its.toArray n dd sl k t h1 (by omega) hine) ⟨ho, ?_⟩
    have e : (List.replicate k.toNat xs).flatten = [] := by
      have : k.toNat = 0 := by omega
      rw [this]; rfl
    have := q _ I.fresh
    rw [e] at this
    exact ⟨.ref _, _, LS.Inv.tnew (its := []) (t' := s.toks) I .nil (Nat.zero_le _), rfl, this⟩
  · subst hk
    refine call_meets F.slot_tuple_mul ⟨_, ho, rfl⟩ F.entry_tuple_mul (F.args_tuple_mul_2 _ _) (Zf8 l its.toArray n dd sl t) ⟨ho, ?_⟩
    exact ⟨.ref l, H, I, rfl, q1 rfl⟩
  · refine call_meets F.slot_tuple_mul ⟨_, ho, rfl⟩ F.entry_tuple_mul (F.args_tuple_mul_2 _ _) (Zf7 l its.toArray n dd sl k t hk h2 hine (by rw [List.size_toArray, ← hl]; exact hz)) ⟨ho, ?_⟩
    have f0 := Zdy its k.toNat []
    rw [List.nil_append] at f0
    have f1 : List.foldl (fun x1 x2 => x1 ++ x2) #[] (List.replicate k.toNat its.toArray) = (List.replicate k.toNat its).flatten.toArray := f0
    rw [f1]
    exact ⟨.ref _, _, LS.Inv.tnew (t' := s.toks) I (r.rep k.toNat) (by rw [ZfX, Nat.mul_comm]; exact hz), rfl, q _ I.fresh⟩
noncomputable def ZdM : D → D → HD → Out D := fun x y h => match x, y with
  | .tup xs, .int k => @ite _ (xs ≠ [] ∧ -(2 ^ 63) ≤ k ∧ k < 2 ^ 63 ∧ xs.length * k.toNat ≤ sizeLine) (Classical.propDecidable _) (.ok (.tup (List.replicate k.toNat xs).flatten) h) .stuck
  | _, _ => ZdQ x y h
theorem Zdk : OpM X (binaryOp .Mult) ZdM := by
  obtain ⟨r0, hr0, i0⟩ := ZqX (X := X)
  refine ⟨_, op_repT.or hr0, fun m H h E x y v u Q hr rx ry q => ?_⟩
  unfold ZdM at q
  split at q
  · rename_i xs k
    split at q
    · rename_i hc
      obtain ⟨hne, h1, h2, hz⟩ := hc
      simp only [DV] at rx ry
      obtain ⟨a, vs, rfl, ha, dv⟩ := rx
      subst ry
      refine .inl ⟨a, k, vs, rfl, rfl, ha, ?_, h1, h2, by rw [← dv.len]; exact hz, fun e => ?_, ?_⟩
      · intro e; have := dv.len; rw [e] at this; exact hne (List.length_eq_zero_iff.mp this)
      · subst e
        refine okq hr q ?_
        simp only [DV]
        exact ⟨a, vs, rfl, ha, by simpa using dv⟩
      · exact ZcK hr (DVs.rep dv k.toNat) q
    · exact q.elim
  · exact .inr (i0 m H h E x y v u Q hr rx ry q)
end
end LS
namespace LS
open PySem PySem.Spec PyProof.Rows L2 PySem.W
section
variable {X : Cx} {E : XK}
abbrev MJ := Str → Rho → HD → Out Str
def EvJ (X : Cx) (E : XK) (parts : List Expr) (fj : MJ) : Prop :=
  ∀ (pins : List (Addr × Obj)) (s : Shared) (σ : L2.St) (H : Hp) (acc : Str) (Q : Str → Hp → Prop), Inv X pins σ H s → (∃ m ρ h, HR X.K m h H ∧ ER X.K m H ρ σ ∧ Post X.K (fun _ _ (a b : Str) => a = b) m H E Q (fj acc ρ h)) →
    wpAny (model X.prog X.w) X.A (joinParts acc (evalEach parts X.env)) (fun v s' => ∃ out t H', v = .str out t ∧ Inv X pins σ H' s' ∧ Q out H') X.xe s
def Zrx : MJ := fun acc _ h => if acc.length ≤ sizeLine then .ok acc h else .stuck
def Zpp (y : Str) (r : MJ) : MJ := fun acc ρ h => if (acc ++ y).length ≤ sizeLine then r (acc ++ y) ρ h else .stuck
def Zry (f : ME) (r : MJ) : MJ := fun acc ρ h => (f ρ h).bind fun d h1 => match d with
  | .int i => if i.natAbs.log2 < 1920 ∧ (acc ++ (toString i : Str)).length ≤ sizeLine then r (acc ++ (toString i : Str)) ρ h1 else .stuck
  | _ => .stuck
theorem Znj : EvJ X E [] Zrx := fun pins s σ H acc Q I z1_ => by
  obtain ⟨m, ρ, h, hr, er, p⟩ := z1_
  unfold Zrx at p
  split at p
  · rename_i hz
    exact joinParts_nil ⟨acc, _, H, rfl, I.tok _, p acc m H (List.prefix_refl _) (.refl _) hr rfl⟩ hz
  · exact p.elim
theorem ZhB {y : Str} {j : Nat} {pos : Pos} {parts : List Expr} {r : MJ} (hp : EvJ X E parts r) : EvJ X E (.Constant (.str y) j pos :: parts) (Zpp y r) := fun pins s σ H acc Q I z2_ => by
  obtain ⟨m, ρ, h, hr, er, p⟩ := z2_
  unfold Zpp at p
  split at p
  · rename_i hz
    exact joinParts_cons (Calls.Constant_str ⟨hz, hp pins _ σ H _ Q (I.tok _) ⟨m, ρ, h, hr, er, p⟩⟩)
  · exact p.elim
theorem Zkf {e : Expr} {pos : Pos} {parts : List Expr} {f : ME} {r : MJ} (he : Ev X E e f) (hp : EvJ X E parts r) : EvJ X E (.FormattedValue e (-1) none pos :: parts) (Zry f r) := fun pins s σ H acc Q I z3_ => by
  obtain ⟨m, ρ, h, hr, er, p⟩ := z3_
  have post : tD X.K E f σ H (fun v H1 => ∃ i, v = .int i ∧ i.natAbs.log2 < 1920 ∧ (acc ++ (toString i : Str)).length ≤ sizeLine ∧ ∃ m1 h1, HR X.K m1 h1 H1 ∧ ER X.K m1 H1 ρ σ ∧ Post X.K (fun _ _ (a b : Str) => a = b) m1 H1 E Q (r (acc ++ (toString i : Str)) ρ h1)) := by
    refine ⟨m, ρ, h, hr, er, Post.bind p fun d h1 v m1 H1 eo p1 k1 hr1 r1 q1 => ?_⟩
    clear eo
    split at q1
    · rename_i i
      split at q1
      · rename_i hz
        simp only [rD, DV] at r1
        exact ⟨i, r1, hz.1, hz.2, m1, h1, hr1, er.keep p1 k1, q1⟩
      · exact q1.elim
    · exact q1.elim
  refine joinParts_cons (FormattedValue_plain (thn (he pins s σ H _ I post) fun u s1 z4_ => ?_))
  obtain ⟨v, H1, I1, rv, i, ev, hd, hz, m1, h1, hr1, er1, q1⟩ := z4_
  subst ev
  obtain ⟨t, rfl⟩ := rv
  exact formatField_int_small hd ⟨hz, hp pins _ σ H1 _ Q (I1.tok _) ⟨m1, ρ, h1, hr1, er1, q1⟩⟩
def ZlI (fj : MJ) : ME := fun ρ h => (fj Str.empty ρ h).bind fun x h1 => .ok (.str x) h1
theorem Znk {v1 v2 : Expr} {rest : List Expr} {pos : Pos} {fj : MJ} (hj : EvJ X E (v1 :: v2 :: rest) fj) : Ev X E (.JoinedStr (v1 :: v2 :: rest) pos) (ZlI fj) := fun pins s σ H Q I z5_ => by
  obtain ⟨m, ρ, h, hr, er, p⟩ := z5_
  refine JoinedStr_many (thn (hj pins s σ H Str.empty (fun out H1 => Q (.str out) H1) I ⟨m, ρ, h, hr, er, Post.bind p fun a h1 b m1 H1 _ p1 k1 hr1 r1 q1 => ?_⟩) fun v s1 z6_ => by obtain ⟨out, t, H1, ev, I1, q⟩ := z6_; exact (⟨.str out, H1, I1, ⟨t, ev⟩, q⟩))
  cases r1
  exact okq hr1 q1 (by simp [DV])
def ZgT : D → HD → Out D := fun x h => match dPy h 8 x with
  | some p => if p.showable = true ∧ p.hasDict = false ∧ p.depth ≤ 40 ∧ p.shown.length ≤ sizeLine then .ok (.str p.shown) h else .stuck
  | none => .stuck
theorem Zpq (hu : X.A.units + 64 < cLine) (hg : X.A.guards = some []) : ZdA X (.builtin "repr") (ar1 ZgT) := by
  refine Zim (fun ds h => ?_) fun pins s σ H m h ds vs us Q I hr rd r q => ZeL rd q fun x v ev rx q => ?_
  · unfold ar1 ZgT
    repeat' split
    all_goals trivial
  · subst ev
    obtain ⟨u, rfl, ru⟩ := ZfV r
    unfold ZgT at q
    split at q
    · rename_i p e
      split at q
      · rename_i hc
        obtain ⟨h1, h2, h3, h4⟩ := hc
        obtain ⟨as, hd⟩ := ZfZ I.hok hr 8 x v u p rx ru e
        have fin : ∀ (h' : Heap) (t tk : Tok), (∀ b o, s.heap.get? b = some o → h'.get? b = some o) → EP X pins σ Q (.str p.shown t) { s with heap := h', toks := tk } := fun h' t tk hk => ⟨.str p.shown, H, I.kept hk, ⟨t, rfl⟩, okq hr q (by simp [DV])⟩
        cases hd with
        | list a1 a2 a3 a4 => exact repr_of_reads' (.list a1 a2 a3 a4) h1 (fun z => by rw [h2] at z; cases z) hg (by omega) (fun _ _ e => e) fin h4
        | tuple a1 a2 a3 a4 => exact repr_of_reads' (.tuple a1 a2 a3 a4) h1 (fun z => by rw [h2] at z; cases z) hg (by omega) (fun _ _ e => e) fin h4
        | dict a1 a2 a3 a4 a5 => cases h2
        | int i t =>
          have h1' : i.natAbs.log2 < 1920 := by simpa [PyData.showable] using h1
          exact PySem.P.repr_of_int h1' (fin s.heap _ _ fun _ _ e => e)
        | none => exact PySem.P.repr_of_none (fin s.heap _ _ fun _ _ e => e)
        | bool b => exact PySem.P.repr_of_bool (fin s.heap _ _ fun _ _ e => e)
        | str x t => exact PySem.P.repr_of_str (fin s.heap _ _ fun _ _ e => e) (by simpa [PyData.shown] using h4)
      · exact q.elim
    · exact q.elim
def eqX : D → D → HD → Out D := fun x y h => match x, y with
  | .str a, .str b => .ok (.bl (a == b)) h
  | _, _ => eqD x y h
def neX : D → D → HD → Out D := fun x y h => match x, y with
  | .str a, .str b => .ok (.bl (!(a == b))) h
  | _, _ => neD x y h
theorem Zoc (hu : X.A.units + 64 < cLine) : OpM X (compareOp .Eq) eqX := by
  obtain ⟨r0, hr0, i0⟩ := eqM (X := X) hu
  refine ⟨_, op_eq.or hr0, fun m H h E x y v u Q hr rx ry q => ?_⟩
  unfold eqX at q
  split at q
  · simp only [DV] at rx ry
    subst rx ry
    exact .inl ⟨rfl, by rw [ZfU]; exact okq hr q (by simp [DV])⟩
  · exact .inr (i0 m H h E x y v u Q hr rx ry q)
theorem Znl (hu : X.A.units + 64 < cLine) : OpM X (compareOp .NotEq) neX := by
  obtain ⟨r0, hr0, i0⟩ := neM (X := X) hu
  refine ⟨_, op_ne.or hr0, fun m H h E x y v u Q hr rx ry q => ?_⟩
  unfold neX at q
  split at q
  · simp only [DV] at rx ry
    subst rx ry
    exact .inl ⟨rfl, by rw [ZfU]; exact okq hr q (by simp [DV])⟩
  · exact .inr (i0 m H h E x y v u Q hr rx ry q)
abbrev Zpr := intD (fun i j => .int (i / 2 ^ j.toNat)) fun _ j => 0 ≤ j
theorem ZsZ : OpM X (binaryOp .RShift) Zpr := ZoP Zoy (fun _ _ c => c) fun _ _ _ _ => by simp [DV]
abbrev Zrz := ZgH fun i j => .int (Builtin.bitAnd i j)
theorem Zs0 : OpM X (binaryOp .BitAnd) Zrz := ZjG Zoz fun _ _ _ _ => by simp [DV]
def Zin : List Nat → List D → Rho → Option Rho
  | [], [], ρ => some ρ
  | i :: is, d :: ds, ρ => Zin is ds (ρ.set i (some d))
  | _, _, _ => none
def ZgU (is : List Nat) : MG := fun d ρ => match d with
  | .tup ds => Zin is ds ρ
  | _ => none
def Zkg : List Nat → TGs
  | [] => Zl6
  | i :: is => Zdw (ZcQ i) (Zkg is)
theorem ZfN : ∀ {is : List Nat} {ds : List D} {ρ ρ' : Rho}, Zin is ds ρ = some ρ' → ds.length = is.length
  | [], [], _, _, _ => rfl
  | [], _ :: _, _, _, e => by cases e
  | _ :: _, [], _, _, e => by cases e
  | _ :: is, _ :: ds, _, _, e => by simpa using ZfN (is := is) (ds := ds) e
theorem ZgV {K : Frag} {m : List Addr} {H : Hp} : ∀ {is : List Nat} {ds : List D} {vs : List V} {ρ ρ' : Rho} {σ : L2.St} {Q : L2.St → Hp → Prop}, DVs K m H ds vs → ER K m H ρ σ → Zin is ds ρ = some ρ' → (∀ σ', ER K m H ρ' σ' → Q σ' H) → Zkg is vs σ H Q
  | [], [], vs, ρ, ρ', σ, Q, r, er, e, q => by
    simp only [DVs] at r
    subst r
    cases e
    exact ⟨rfl, q σ er⟩
  | [], _ :: _, _, _, _, _, _, _, _, e, _ => by cases e
  | _ :: _, [], _, _, _, _, _, _, _, e, _ => by cases e
  | i :: is, d :: ds, vs, ρ, ρ', σ, Q, r, er, e, q => by
    simp only [DVs] at r
    obtain ⟨v, w, rfl, rv, rw'⟩ := r
    exact ⟨v, w, rfl, ZgV rw' (er.set rv) e q⟩
theorem Zkh {es : List Expr} {is : List Nat} {kt : Nat} {pos : Pos} (h : PG X (.Tuple es kt pos) (Zl7 X.K is.length (Zkg is))) : EvG X (.Tuple es kt pos) (ZgU is) := ⟨_, h, fun m H d v ρ σ ρ' Q r er e q => by
  unfold ZgU at e
  split at e
  · rename_i ds
    simp only [DV] at r
    obtain ⟨p, vs, rfl, hp, dv⟩ := r
    exact ⟨p, vs, rfl, SqT.of hp, by rw [← dv.len]; exact ZfN e, ZgV dv er e q⟩
  · cases e⟩
end
end LS
namespace LS
open PySem PySem.Spec PyProof.Rows L2 PySem.W
theorem Zki {K : Frag} (h : etOk K = true) {n : Str} (hn : n ∈ excNames) : ∃ C, nsIn K mainGlobals n = some (some (.ref C)) := by
  unfold etOk at h
  split at h
  · rename_i S hS
    have h1 := List.all_eq_true.mp h n hn
    cases e : Zfn K n with
    | none => rw [e] at h1; cases h1
    | some C => exact ⟨C, ZfI e⟩
  · cases h
section
variable {X : Cx} {E : XK}
theorem ZcF {x : Str} {pos : Pos} (et : etOk X.K = true) (hn : x ∈ excNames) (hg : Gl X x := by rfl) (hd : (x == ("__debug__" : Str)) = false := by decide) : Ev X E (.Name x pos) (mC (.glo x)) := by
  obtain ⟨a, h⟩ := Zki et hn
  exact Zpj hg h hd
theorem Ze2 {x : Str} {e : Expr} {es : List Expr} {fa : MA} {np cpos pos : Pos} (et : etOk X.K = true) (hn : x ∈ excNames) (hne : x ≠ "TooMany") (hg : Gl X x) (hc : X.calm = true) (th : ZjZ X E) (ha : EvA X E (e :: es) fa)
    (hdb : (x == ("__debug__" : Str)) = false := by decide) (he : starEach (e :: es) X.env = (false, eval e X.env) :: starEach es X.env := by rfl) (hpl : (backTo cpos (starEach (e :: es) X.env)).any (·.1) = false := by rfl) :
    Ex X E (.Raise (some (.Call (.Name x np) (e :: es) [] cpos)) none pos) (ZeZ x fa) := by
  obtain ⟨C, h⟩ := Zki et hn
  exact Zlx ((ZlE et hn h).at_ hne) h hg hc th ha hdb he hpl
end
theorem CaM.mono {P : Program} {w : World} {K : Frag} {mg : Str → Option Value} {base : Heap} {x : Str} {j k : Nat} {F : List D → HD → Out D} (C : CaM P w K mg base x j F) (h : j ≤ k) : CaM P w K mg base x k F := by
  obtain ⟨f, fd, ps, G, r⟩ := C.ex
  exact ⟨f, fd, ps, ⟨fun A outer s H args us vs Q hr => G.run A outer s H args us vs Q (hr.mono h)⟩, r⟩
structure SaidD (K : Frag) (mg : Str → Option Value) (st : Stmt) (fs : Addr) (fd : FuncData) : Prop where
  fn : Fun K "_law_said" "_law_said" st fs fd
  bd : Binds K fd ["_law_call"] []
  mg : mg "_law_said" = some (.ref fs)
structure Zps (st : Stmt) : Prop where
  sc : ZaA ["_law_call", "_law_word", "_law_e"] ["_law_call"] (defScope st)
  k0 : (defScope st).names.lookup ("_law_call" : Str) = some .local
  k1 : (defScope st).names.lookup ("_law_word" : Str) = some .local
  k2 : (defScope st).names.lookup ("_law_e" : Str) = some .local
  gS : (defScope st).names.lookup ("SwitchError" : Str) = some .globalImplicit
  gK : (defScope st).names.lookup ("_law_kind" : Str) = some .globalImplicit
  tx : ∃ p1 j1 p2 p3 p4 p5 p6 p7 p8 p9 p10 p11 p12 p13 p14 p15 p16, defBody st = [.Assign [.Name "_law_word" p1] (.Constant (.str "told") j1 p2) p3, .Try [.Expr (.Call (.Name "_law_call" p4) [] [] p5) p6] [.ExceptHandler (some (.Name "SwitchError" p7)) (some "_law_e") [.Assign [.Name "_law_word" p8] (.Call (.Name "_law_kind" p9) [.Name "_law_e" p10] [] p11) p12] p13] [] [] p14, .Return (some (.Name "_law_word" p15)) p16]
theorem ZlJ {X : Cx} {E : XK} {c P : Addr} {Nc : List Str} {cs : List Nat} {params : Arguments} {body : Expr} {scope : Scope} {k kk : Nat} {Fk : List D → HD → Out D} {f : ME} {fs : Addr} {fd : FuncData} {st : Stmt} {lpos p pos : Pos}
    (L : LamX X c P) (fna : ∀ x, X.fn x = true) (hr : Room kk X.A) (lv : Lv X E) (et : etOk X.K = true) (Sd : SaidD X.K X.mg st fs fd) (St : Zps st) (hkind : CaM X.prog X.w X.K X.mg X.base "_law_kind" k Fk) (S : LSc X scope Nc cs)
    (hb : ∀ (a : Addr) (cd : Value) (cl : List (Str × Addr)) (A : Around) (outer : List Env) (s : Shared) (H : Hp) (E' : XK), Room k (A.deeper (envX ZdL scope s.heap.objs.size a cd cl)) → Ev (lCx X.prog X.w X.K X.mg X.base Nc scope a cd cl A outer s H E') E' body f)
    (hg : Gl X "_law_said") (hkk : k + 2 ≤ kk := by decide) (hdef : defaultsOf params X.env = ([], []) := by rfl)
    (hbind : ∀ (cl : List (Str × Addr)) (pm cv ctv : Value), bindArgs (kla_fn "<lambda>" ZdL params body scope cl pm cv ctv) ⟨[], []⟩ = pure [] := by exact fun _ _ _ _ => rfl)
    (he : starEach [.Lambda params body scope lpos] X.env = (false, eval (.Lambda params body scope lpos) X.env) :: starEach [] X.env := by rfl) (hpl : (backTo pos (starEach [] X.env)).any (·.1) = false := by rfl) :
    Ev X E (.Call (.Name "_law_said" p) [.Lambda params body scope lpos] [] pos) (ZgR cs Fk f) := by
  obtain ⟨p1, j1, p2, p3, p4, p5, p6, p7, p8, p9, p10, p11, p12, p13, p14, p15, p16, hst⟩ := St.tx
  exact Zni L fna (hr.mono hkk) lv et (Zki et (by decide +kernel)) Sd.fn Sd.bd Sd.mg Sd.fn.kp St.sc St.k0 St.k1 St.k2 (fun _ _ => St.gS) (fun _ _ => St.gK) hst hkind hg S hdef hbind hb he hpl
theorem ZiY {P : Program} {w : World} {K : Frag} {mg : Str → Option Value} {base : Heap} {x qual : Str} {st : Stmt} {f : Addr} {kV doc pm cdv ct oc : Value} {an od : Option Addr} {osl : Array (Option Value)} {N ps : List Str} {k : Nat} {F : List D → HD → Out D} {g : MS}
    (lk : K.lookup f = some ⟨oc, od, .func (PySem.W.fnOf x qual (defArgs st) (defBody st) (defScope st) .none kV doc pm an cdv ct), osl⟩) (hcd : PySem.W.codeIn K cdv qual = true) (S : ZaA N ps (defScope st)) (ar : Ar ps.length F)
    (hg : ∀ ds h, ds.length = ps.length → F ds h = ZaE N.length g ds h)
    (hbody : ∀ (A : Around) (outer : List Env) (s : Shared) (H : Hp) (E : XK), Room k (A.deeper (envOfC qual (defScope st) s.heap.objs.size f cdv)) → Exs (Zcj (CXE P w K) P w K mg base N qual (defScope st) f cdv A outer s H E) E (defBody st) g) :
    FnOk P w K mg base (CXE P w K) (k + 1) f (PySem.W.fnOf x qual (defArgs st) (defBody st) (defScope st) .none kV doc pm an cdv ct) ps (spE K F) := by
  refine ZoH lk hcd S (fun vs H Q E h => Zf5 ar h) fun A outer s H vs Q E hr h => ?_
  refine ⟨_, hbody A outer s H E hr, ?_⟩
  have hl := Zf5 ar h
  obtain ⟨m, ds, hd, hr1, r, p⟩ := h
  have hld : ds.length = ps.length := by rw [r.len]; exact hl
  refine ⟨m, ds.map some ++ List.replicate (N.length - ds.length) none, hd, hr1, ER.start r, ?_⟩
  rw [hg ds hd hld] at p
  unfold ZaE at p
  cases o : g (ds.map some ++ List.replicate (N.length - ds.length) none) hd with
  | stuck => rw [o] at p; exact p
  | err C fs h1 => rw [o] at p; exact p
  | ok a h1 =>
    rw [o] at p
    obtain ⟨fl, ρ1⟩ := a
    intro m1 H1 p1 k1 hr1
    cases fl with
    | nx => exact fun σ er => p .non m1 H1 p1 k1 hr1 (by simp [rD, DV])
    | bk => exact False.elim p
    | ct => exact False.elim p
    | rt d => exact fun v rv => p v m1 H1 p1 k1 hr1 rv
def ZtV (K : Frag) (T : Addr) : Bool := match tabP K with
  | some (c, T') => T' == T && codeHdIn K c T
  | none => false
end LS
namespace LS
open PySem PySem.Spec PyProof.Rows L2
def We {α : Type} (o : Out α) (Q : α → HD → Prop) (R : Str → HD → Prop) : Prop := match o with
  | .ok a h => Q a h
  | .err (.str n _) _ h => R n h
  | _ => False
section
variable {α β : Type} {o : Out α} {Q Q' : α → HD → Prop} {R R' : Str → HD → Prop}
@[simp] theorem ZtW (a : α) (h : HD) : We (.ok a h) Q R = Q a h := rfl
@[simp] theorem Zs1 (n : Str) (t : Tok) (fs : List (Str × D)) (h : HD) : We (.err (.str n t) fs h : Out α) Q R = R n h := rfl
@[simp] theorem Zqo : We .stuck Q R = False := rfl
theorem ZbK {k : α → HD → Out β} {Q : β → HD → Prop} : We (o.bind k) Q R = We o (fun a h => We (k a h) Q R) R := by
  cases o with
  | ok a h => rfl
  | err C fs h => cases C <;> rfl
  | stuck => rfl
theorem Wp.we (h : Wp o Q) : We o Q R := by
  cases o with
  | ok a h' => exact h
  | _ => exact h.elim
theorem We.mono (h : We o Q R) (f : ∀ a h, Q a h → Q' a h) (g : ∀ n h, R n h → R' n h) : We o Q' R' := by
  cases o with
  | ok a h' => exact f _ _ h
  | err C fs h' => cases C <;> first | exact g _ _ h | exact h.elim
  | stuck => exact h
theorem Pu.we {h : HD} {a : α} (p : Pu o h a) (k : ∀ h', Sm h h' → Q a h') : We o Q R := Wp.we (p.wp k)
end
def Er {α : Type} (o : Out α) (h : HD) (n : Str) : Prop := We o (fun _ _ => False) fun n' h' => n' = n ∧ Sm h h'
theorem Er.we {α : Type} {o : Out α} {h : HD} {n : Str} {Q : α → HD → Prop} {R : Str → HD → Prop} (e : Er o h n) (k : ∀ h', Sm h h' → R n h') : We o Q R := We.mono e (fun _ _ z => z.elim) fun n' h' z1_ => by obtain ⟨e, s⟩ := z1_; exact (e ▸ k h' s)
theorem Zga {N : Nat} {g : MS} {ds : List D} {h : HD} {Q : D → HD → Prop} {R : Str → HD → Prop} : We (ZaE N g ds h) Q R = We (g (ds.map some ++ List.replicate (N - ds.length) none) h) (ZjS Q) R := by
  unfold ZaE
  cases o : g (ds.map some ++ List.replicate (N - ds.length) none) h with
  | ok a h1 =>
    obtain ⟨fl, ρ⟩ := a
    cases fl <;> rfl
  | err C fs h1 => cases C <;> rfl
  | stuck => rfl
section
variable {ρ : Rho} {h : HD} {Q : Fl × Rho → HD → Prop} {QD : D → HD → Prop} {QB : Bool → HD → Prop} {R : Str → HD → Prop} {g g1 g2 : MS} {f : ME} {t : MT} {fa : MA} {F : List D → HD → Out D}
def Znm (g2 : MS) (Q : Fl × Rho → HD → Prop) (R : Str → HD → Prop) : Fl × Rho → HD → Prop
  | (.nx, ρ), h => We (g2 ρ h) Q R
  | y, h => Q y h
@[simp] theorem Zqp : Znm g2 Q R (.nx, ρ) h = We (g2 ρ h) Q R := rfl
@[simp] theorem Zqq {d : D} : Znm g2 Q R (.rt d, ρ) h = Q (.rt d, ρ) h := rfl
@[simp] theorem Zs2 : We (ZaR g1 g2 ρ h) Q R = We (g1 ρ h) (Znm g2 Q R) R := by
  unfold ZaR
  rw [ZbK]
  congr 1
  funext x h1
  obtain ⟨fl, ρ1⟩ := x
  cases fl <;> rfl
@[simp] theorem ZrA : We (ZbY ρ h) Q R = Q (.nx, ρ) h := rfl
@[simp] theorem ZrB : We (Zc8 f ρ h) Q R = We (f ρ h) (fun _ h1 => Q (.nx, ρ) h1) R := by unfold Zc8; rw [ZbK]; rfl
@[simp] theorem Zs3 : We (Zce f ρ h) Q R = We (f ρ h) (fun d h1 => Q (.rt d, ρ) h1) R := by unfold Zce; rw [ZbK]; rfl
@[simp] theorem Zs4 {i : Nat} : We (ZbG i f ρ h) Q R = We (f ρ h) (fun d h1 => Q (.nx, ρ.set i (some d)) h1) R := by unfold ZbG; rw [ZbK]; rfl
@[simp] theorem Zs5 : We (ZdC t g1 g2 ρ h) Q R = We (t ρ h) (fun b h1 => We (if b = true then g1 ρ h1 else g2 ρ h1) Q R) R := by unfold ZdC; rw [ZbK]
@[simp] theorem ZrC : We (Zaf F fa ρ h) QD R = We (fa ρ h) (fun ds h1 => We (F ds h1) QD R) R := by unfold Zaf; rw [ZbK]
@[simp] theorem Zqr {n : Str} : We (ZeZ n fa ρ h) Q R = We (fa ρ h) (fun xs h1 => We (if xs.length ≤ sizeLine then (.err (Zml n) [] h1 : Out (Fl × Rho)) else .stuck) Q R) R := by unfold ZeZ; rw [ZbK]
@[simp] theorem Zs6 : We (Zhr t ρ h) QB R = We (t ρ h) (fun b h1 => QB (!b) h1) R := by unfold Zhr; rw [ZbK]; rfl
@[simp] theorem Zs7 {u : MT} : We (ZpX t u ρ h) QB R = We (t ρ h) (fun b h1 => We (if b = true then u ρ h1 else .ok false h1) QB R) R := by unfold ZpX; rw [ZbK]
@[simp] theorem ZtX {u : MT} : We (mOr t u ρ h) QB R = We (t ρ h) (fun b h1 => We (if b = true then .ok true h1 else u ρ h1) QB R) R := by unfold mOr; rw [ZbK]
@[simp] theorem Zs8 : We (Zhq f ρ h) QB R = We (f ρ h) (fun x h1 => We (Zk0 x h1) QB R) R := by unfold Zhq; rw [ZbK]
@[simp] theorem ZtY : We (mTb f ρ h) QB R = We (f ρ h) (fun x h1 => We (asB x h1) QB R) R := by unfold mTb; rw [ZbK]
@[simp] theorem Zs9 {QA : List D → HD → Prop} : We (Zal ρ h) QA R = QA [] h := rfl
@[simp] theorem ZrD {QA : List D → HD → Prop} : We (Zab f fa ρ h) QA R = We (f ρ h) (fun x h1 => We (fa ρ h1) (fun xs h2 => QA (x :: xs) h2) R) R := by
  unfold Zab; simp only [ZbK]; rfl
@[simp] theorem ZrE {d : D} {r : Rho} : We (Zag 0 (some d :: r) h) QD R = QD d h := rfl
@[simp] theorem ZrF {i : Nat} {x : Option D} {r : Rho} : We (Zag (i + 1) (x :: r) h) QD R = We (Zag i r h) QD R := rfl
@[simp] theorem Zul {d : D} : We (mC d ρ h) QD R = QD d h := rfl
@[simp] theorem ZtZ {op : D → D → HD → Out D} {f' : ME} : We (mOp op f f' ρ h) QD R = We (f ρ h) (fun x h1 => We (f' ρ h1) (fun y h2 => We (op x y h2) QD R) R) R := by unfold mOp; simp only [ZbK]
@[simp] theorem ZrG {fj : MJ} : We (ZlI fj ρ h) QD R = We (fj Str.empty ρ h) (fun x h1 => QD (.str x) h1) R := by unfold ZlI; rw [ZbK]; rfl
end
theorem Znn {cs : List Nat} {Fk : List D → HD → Out D} {f : ME} {ρ : Rho} {h : HD} {ds : List D} {Q : D → HD → Prop} (ht : h[0]? = some .tab) (hd : Zay (cs.map fun j => (ρ[j]?).join) = some ds)
    (q : We (f (ds.map some) h) (fun _ h1 => Q (.str "told") h1) fun n h1 => n ∈ excNames ∧ Wp (Fk [.exc n []] h1) Q) : Wp (ZgR cs Fk f ρ h) Q := by
  unfold ZgR
  rw [ht, hd]
  simp only
  unfold Znh
  cases o : f (ds.map some) h with
  | ok a h1 => rw [o] at q; exact q
  | stuck => rw [o] at q; exact q.elim
  | err C fs h1 =>
    rw [o] at q
    cases C with
    | str n t =>
      obtain ⟨hn, hk⟩ := (show n ∈ excNames ∧ Wp (Fk [.exc n []] h1) Q from q)
      simp only [hn, if_true]
      cases e : Fk [.exc n []] h1 with
      | ok d h2 => rw [e] at hk; exact hk
      | _ => rw [e] at hk; exact hk.elim
    | _ => exact q.elim
def Rp (n L : Nat) (d : D) : Prop := ∃ p : PyData, (∀ (h : HD) (m : Nat), dPy h (n + m) d = some p) ∧ p.showable = true ∧ p.hasDict = false ∧ p.depth ≤ n ∧ p.shown.length ≤ L
section
variable {h : HD} {i j : Int} {ds : List D} {a b : D} {l : Nat} {x y : Str}
@[simp] theorem Zt0 : neX (.str x) (.str y) h = .ok (.bl (!(x == y))) h := rfl
@[simp] theorem Zt1 : eqX (.str x) (.str y) h = .ok (.bl (x == y)) h := rfl
@[simp] theorem Zta : neX (.int i) (.int j) h = .ok (.bl (!(i == j))) h := rfl
@[simp] theorem Ztb : eqX (.int i) (.int j) h = .ok (.bl (i == j)) h := rfl
@[simp] theorem Ztc {c d : Bool} : neX (.bl c) (.bl d) h = .ok (.bl (!(c == d))) h := rfl
@[simp] theorem Ztd {c d : Bool} : eqX (.bl c) (.bl d) h = .ok (.bl (c == d)) h := rfl
@[simp] theorem Zte {es : List D} : neX (.tup ds) (.tup es) h = neD (.tup ds) (.tup es) h := rfl
@[simp] theorem Ztf {es : List D} : eqX (.tup ds) (.tup es) h = eqD (.tup ds) (.tup es) h := rfl
@[simp] theorem Zno : ZdM (.int i) (.int j) h = ZdQ (.int i) (.int j) h := rfl
@[simp] theorem Zmr : ZdM (.loc l) b h = ZdQ (.loc l) b h := rfl
@[simp] theorem ZrH : Zbd (.int i) b h = Zcd (.int i) b h := rfl
@[simp] theorem ZrI {c : Bool} : Zbd (.bl c) b h = Zcd (.bl c) b h := rfl
@[simp] theorem ZrJ : Zbd .non b h = Zcd .non b h := rfl
@[simp] theorem ZrK : Zbd (.str x) b h = Zcd (.str x) b h := rfl
@[simp] theorem ZrL : Zbd (.tup ds) b h = Zcd (.tup ds) b h := rfl
@[simp] theorem Znp : Zbd (.loc l) b h = Zcd (.loc l) b h := rfl
@[simp] theorem ZrM {c : Bool} : Zcd (.bl c) (.ty "int") h = .ok (.bl true) h := rfl
@[simp] theorem ZrN {c : Bool} : Zcd (.bl c) (.ty "bool") h = .ok (.bl true) h := rfl
@[simp] theorem ZrO {c : Bool} : Zcd (.bl c) (.ty "tuple") h = .ok (.bl false) h := rfl
@[simp] theorem ZrP : Zcd .non (.ty "int") h = .ok (.bl false) h := rfl
@[simp] theorem ZrQ : Zcd .non (.ty "tuple") h = .ok (.bl false) h := rfl
@[simp] theorem ZrR : Zcd (.str x) (.ty "int") h = .ok (.bl false) h := rfl
@[simp] theorem ZrS : Zcd (.str x) (.ty "tuple") h = .ok (.bl false) h := rfl
theorem Znq (e : h[l]? = some (.lst ds)) : Zcd (.loc l) (.ty "int") h = .ok (.bl false) h := by
  simp only [Zcd, tyD, e]; rfl
theorem Znr (e : h[l]? = some (.lst ds)) : Zcd (.loc l) (.ty "tuple") h = .ok (.bl false) h := by
  simp only [Zcd, tyD, e]; rfl
@[simp] theorem Zqs : Zbd .edic (.ty "int") h = .ok (.bl false) h := rfl
@[simp] theorem Zqt : Zbd .edic (.ty "tuple") h = .ok (.bl false) h := rfl
theorem ZbF {n n' : Str} {fs : List (Str × Int)} (h1 : n ∈ excNames) (h2 : n' ∈ excNames) : Zbd (.exc n fs) (.glo n') h = .ok (.bl (Zbr n n')) h := if_pos ⟨h1, h2⟩
theorem ZlK {n : Str} {fs : List (Str × Int)} (h1 : n ∈ excNames) : Zbd (.exc n fs) (.ty "ValueError") h = .ok (.bl true) h := if_pos ⟨h1, rfl⟩
@[simp] theorem ZrT {ρ : Rho} {c d : D} {i j k l : Nat} : ZgU [i, j, k, l] (.tup [a, b, c, d]) ρ = some ((((ρ.set i (some a)).set j (some b)).set k (some c)).set l (some d)) := rfl
theorem Zpt (hz : x.length + y.length ≤ 1000) : ZbD (.str x) (.str y) h = .ok (.str (x ++ y)) h := by
  simp only [ZbD]
  rw [if_pos (by unfold sizeLine; omega)]
theorem ZfO {xs ys : List D} {k : Nat} (e1 : h[l]? = some (.lst xs)) (e2 : h[k]? = some (.lst ys)) : ZbD (.loc l) (.loc k) h = Zhk (xs ++ ys) h := by simp only [ZbD, e1, e2]
theorem Zkj {vs : List V} {w : V} (e : h[l]? = some (.lst ds)) (e1 : Zay (ds.map Zc9) = some vs) (e2 : Zc9 a = some w) : Zdr (.loc l) a h = .ok (.int (ZfJ w vs)) h := by
  simp only [Zdr, Zdj, e, Out.bind_ok, ZfL, Zbl, e1, e2]
theorem Zkk {vs : List V} {w : V} {j : Nat} (e : h[l]? = some (.lst ds)) (e1 : Zay (ds.map Zc9) = some vs) (e2 : Zc9 a = some w) (e3 : Zqm w vs = some j) : Ze1 (.loc l) a h = .ok (.int j) h := by
  simp only [Ze1, e, e1, e2, e3]
@[simp] theorem ZrU {chk : D → HD → Out D} {op : D → D → HD → Out D} {f g : ME} {ρ : Rho} {Q : D → HD → Prop} : Wp (ZiT chk op f g ρ h) Q = Wp (f ρ h) fun x h1 => Wp (chk x h1) fun x h2 => Wp (g ρ h2) fun y h3 => Wp (op x y h3) Q := by unfold ZiT; simp only [Zao]
@[simp] theorem sz6 : (6 ≤ sizeLine) = True := eq_true (by unfold sizeLine; omega)
@[simp] theorem sz7 : (7 ≤ sizeLine) = True := eq_true (by unfold sizeLine; omega)
@[simp] theorem sz8 : (8 ≤ sizeLine) = True := eq_true (by unfold sizeLine; omega)
@[simp] theorem sz9 : (9 ≤ sizeLine) = True := eq_true (by unfold sizeLine; omega)
@[simp] theorem Zum : (10 ≤ sizeLine) = True := eq_true (by unfold sizeLine; omega)
theorem Zgb {k : Nat} (hne : ds ≠ []) (hz : ds.length * k ≤ 1000) (hk : 1 < k := by decide) : ZdM (.tup ds) (.int (k : Nat)) h = .ok (.tup (List.replicate k ds).flatten) h := by
  simp only [ZdM]
  have h1 : k ≤ 1000 := by
    have : 1 ≤ ds.length := by
      cases ds with
      | nil => exact absurd rfl hne
      | cons _ _ => simp
    have := Nat.mul_le_mul_right k this
    omega
  rw [if_pos ⟨hne, by omega, by omega, by simp; unfold sizeLine; omega⟩]
  simp
end
section
variable {ρ : Rho} {h : HD} {Q : Str → HD → Prop} {R : Str → HD → Prop} {acc y : Str} {r : MJ} {f : ME} {n : Nat} {i : Int}
end
end LS
namespace LS
open PySem PySem.Spec PyProof.Rows L2 PySem.W
section
variable {X : Cx} {E : XK}
def ZdU : D → HD → Out D := fun x h => match Zbl x h with
  | some ds => Zhk ds h
  | none => .stuck
theorem Zkl : ZdA X (.type "list") (ar1 ZdU) := by
  refine ⟨_, ZgC, fun m H h E ds vs Q hr r q => ZeL r q fun d v ev rv q => ?_⟩
  unfold ZdU at q
  split at q
  · rename_i ds' e
    obtain ⟨p, ws, rfl, hs, dv⟩ := ZdB hr rv e
    exact ⟨p, ws, ev, hs, (ZcL hr dv q).2⟩
  · exact q.elim
theorem Zkm {pos : Pos} : Ev X E (.Dict [] [] pos) (mC .edic) := fun pins s σ H Q I z1_ => by
  obtain ⟨m, ρ, h, hr, er, p⟩ := z1_
  have hf : H s.heap.objs.size = none := I.hok.fresh (Nat.le_refl _)
  refine wpAny_Dict_empty ⟨.ref s.heap.objs.size, upd H s.heap.objs.size (.ext (ZmS s.heap.objs.size)), I.laid (t' := s.toks) (fun _ _ q => Heap.get?_push_of_some _ q) (Nat.le_refl _) ?_, rfl, ?_⟩
  · have ne : s.heap.objs.size ≠ sysModules := by
      obtain ⟨og, _, _, eg, _⟩ := I.ok.mod.glob
      obtain ⟨ml, ⟨ol, _, _, el, _⟩, _⟩ := I.loc
      have h1 : (3 : Nat) < X.base.objs.size := Heap.lt_size eg
      have h2 : (X.env.locals : Nat) < s.heap.objs.size := Heap.lt_size el
      have h3 : X.base.objs.size ≤ X.s₀.heap.objs.size := I.ok.bsz
      have h4 : X.s₀.heap.objs.size ≤ (X.env.locals : Nat) := I.ok.above
      have h5 : (1 : Nat) < s.heap.objs.size := Nat.lt_of_lt_of_le (Nat.lt_of_lt_of_le (show 1 < 4 by decide) h1) (Nat.le_trans h3 (Nat.le_trans h4 (Nat.le_of_lt h2)))
      exact fun z => Nat.ne_of_gt h5 z
    exact ⟨⟨ne, _, _, Heap.get?_push_size _ rfl, ⟨rfl, rfl, rfl⟩, rfl⟩, ⟨_, Heap.get?_push_size _ rfl⟩, fun h1 h2 z2_ k => by obtain ⟨ne, o, ep, z1, z2⟩ := z2_; exact (⟨ne, o, ep, k o z1, z2⟩)⟩
  · exact p (.ref s.heap.objs.size) m _ (List.prefix_refl _) (.new hf) (hr.new hf) (by simp only [rD, DV]; exact ⟨_, rfl, Za0⟩)
def Ztg (T : List (Str × (List D → HD → Out D))) (fv : ME) (fa : MA) : ME := fun ρ h => (fv ρ h).bind fun d h1 => match d with
  | .glo n => (match T.lookup n with
    | some F => (fa ρ h1).bind F
    | none => .stuck)
  | _ => .stuck
def Zt2 (P : Program) (w : World) (K : Frag) (mg : Str → Option Value) (base : Heap) (k : Nat) (T : List (Str × (List D → HD → Out D))) : Prop := ∀ n F, T.lookup n = some F → CaE P w K mg base n k F
theorem CaE.mono {P : Program} {w : World} {K : Frag} {mg : Str → Option Value} {base : Heap} {x : Str} {j k : Nat} {F : List D → HD → Out D} (C : CaE P w K mg base x j F) (h : j ≤ k) : CaE P w K mg base x k F := by
  obtain ⟨f, fd, ps, G, r⟩ := C.ex
  exact ⟨f, fd, ps, G.mono h, r⟩
end
def Zth (K : Frag) (c : Addr) : Bool := match tabP K with
  | some (c', T) => c' == c && codeHdIn K c T
  | none => false
end LS
namespace LS
open PySem PySem.Spec PyProof.Rows L2 PySem.W
section
variable {prog : Program} {w : World} {A : Around} {E : Str → Value → Shared → Prop}
end
section
variable {X : Cx} {E : XK}
def ZrV (K : PySem.W.Frag) : V → Option Int → Option Int → Hp → VK → Prop := fun x lo hi H Q => ∃ a xs, x = .ref a ∧ SqT K H a xs ∧ HT.sIx xs.length 0 lo = 0 ∧ HT.sIx xs.length xs.length hi = xs.length ∧ Q (.ref a) H
theorem sl_whole : SlR X (ZrV X.K) := by
  rintro pins s σ H x v vl vu lo hi sl Q I rx hs pl pu ⟨a, xs, rfl, hx, w0, w1, q⟩
  cases rx
  obtain ⟨its, r, ht, hz⟩ := I.tuple hx
  have hl : its.toArray.size = xs.length := by rw [List.size_toArray]; exact r.length.symm
  rw [← hl] at w0 w1
  obtain ⟨os, hos, hcs, hds⟩ := id hs
  refine ⟨"tuple", _, slot_tuple_getitem.lookup, ht.typeIs, ?_⟩
  unfold getItem
  try with_reducible refine wpAny_holding ?_
  first | refine wpAny_bind (wpAny_pure ?_) | skip
  refine wpAny_bind (wpAny_sequenceKey ht.typeIs (by decide) (wpAny_bind (wpAny_callSpecial?_slot (name := Str.ofString "__getitem__") ht.typeIs slot_tuple_getitem
    (wpAny_call_entry slot_tuple_getitem ht.typeIs entry_tuple_getitem ?_ (args_tuple_getitem _ _)))))
  show wpAny _ _ (Builtin.Tuple.tupleItemsOf (.ref a) >>= _) _ _ s
  refine wpAny_bind (tupleItemsOf_ ht (wpAny_bind (wpAny_typeOf (show s.TypeIs (.ref sl) "slice" from ⟨os, hos, hcs⟩) ?_)))
  rw [if_pos (by decide)]
  refine wpAny_bind (HT.sliceApplied_gen hs pl pu ?_)
  have hy : (((HT.sIx its.toArray.size 0 lo : Nat) : Int) == 0 && (1 : Int) == 1 && (HT.sIx its.toArray.size its.toArray.size hi - HT.sIx its.toArray.size 0 lo) == its.toArray.size) = true := by
    rw [w0, w1]
    simp
  show wpAny _ _ (if (((HT.sIx its.toArray.size 0 lo : Nat) : Int) == 0 && (1 : Int) == 1 && (HT.sIx its.toArray.size its.toArray.size hi - HT.sIx its.toArray.size 0 lo) == its.toArray.size) = true then _ else _) _ _ s
  rw [if_pos hy]
  unfold Builtin.Tuple.tupleIsExact
  refine wpAny_bind (wpAny_bind (wpAny_typeOf ht.typeIs (wpAny_pure ?_)))
  rw [if_pos (by decide)]
  refine wpAny_bind (wpAny_rule ?_)
  have fin : EP X pins σ Q (.ref a) s := ⟨.ref a, H, I, rfl, q⟩
  first
    | exact wpAny_pure ⟨_, rfl, wpAny_pure fin⟩
    | exact wpAny_pure fin
def slX (x : D) (lo hi : Option Int) (h : HD) : Out D := match x with
  | .tup xs => .ok (.tup (Zmn xs lo hi)) h
  | _ => .stuck
def Za4 (f : ME) (lo hi : MO) : ME := fun ρ h => (f ρ h).bind fun x h1 => (lo ρ h1).bind fun l h2 => (hi ρ h2).bind fun u h3 => slX x l u h3
theorem Zkn {α : Type} {xs : List α} {lo hi : Option Int} (h0 : HT.sIx xs.length 0 lo = 0) (h1 : HT.sIx xs.length xs.length hi = xs.length) : (xs.drop (HT.sIx xs.length 0 lo)).take (HT.sIx xs.length xs.length hi - HT.sIx xs.length 0 lo) = xs := by
  rw [h0, h1]; simp
theorem Zbs {e : Expr} {lo hi : Option Expr} {f : ME} {fl fh : MO} {p2 pos : Pos} (he : Ev X E e f) (hl : EvO X E lo fl) (hu : EvO X E hi fh) : Ev X E (.Subscript e (.Slice lo hi none p2) pos) (Za4 f fl fh) :=
  ZbQ (Zlc (sl_whole.or ZoJ) he hl hu) fun σ H Q ⟨m, ρ, h, hr, er, p⟩ => ⟨m, ρ, h, hr, er, Post.bind p fun x h1 v m1 H1 eo1 p1 k1 hr1 r1 q1 =>
    ⟨m1, ρ, h1, hr1, er.keep p1 k1, Post.bind q1 fun l h2 l' m2 H2 eo2 p2 k2 hr2 r2 q2 =>
      ⟨m2, ρ, h2, hr2, (er.keep p1 k1).keep p2 k2, Post.bind q2 fun u h3 u' m3 H3 eo3 p3 k3 hr3 r3 q3 => by
        clear eo1 eo2 eo3
        subst r2 r3
        have rx := DV.keep p3 k3 (DV.keep p2 k2 r1)
        unfold slX at q3
        split at q3
        · rename_i xs
          have rx0 := rx
          simp only [DV] at rx
          obtain ⟨a, vs, rfl, ha, dv⟩ := rx
          by_cases hz : HT.sIx xs.length 0 l = 0 ∧ HT.sIx xs.length xs.length u = xs.length
          · refine .inl ⟨a, vs, rfl, SqT.of ha, by rw [← dv.len]; exact hz.1, by rw [← dv.len]; exact hz.2, ?_⟩
            have e : Zmn xs l u = xs := Zkn hz.1 hz.2
            rw [e] at q3
            exact q3 (.ref a) m3 H3 (List.prefix_refl _) (.refl _) hr3 rx0
          · rw [dv.len] at hz
            exact .inr ⟨a, vs, rfl, SqT.of ha, hz, ZcK hr3 (dv.cut l u) q3⟩
        · exact q3.elim⟩⟩⟩
theorem Zeb {xs : List D} {k : Nat} {h : HD} (hk : k ≤ xs.length) : slX (.tup xs) none (some (k : Int)) h = .ok (.tup (xs.take k)) h := by
  simp only [slX]
  unfold Zmn
  rw [HT.sIx_nat, HT.sIx_none, List.drop_zero, show min k xs.length - 0 = k from by omega]
theorem Ze3 {xs : List D} {k : Nat} {i : Int} {h : HD} (hi : i = ((k + 1 : Nat) : Int)) (hk : k < xs.length) : slX (.tup xs) (some i) none h = .ok (.tup (xs.drop (k + 1))) h := by
  subst hi
  simp only [slX]
  unfold Zmn
  rw [HT.sIx_nat, HT.sIx_none, show min (k + 1) xs.length = k + 1 from by omega]
  congr 2
  exact List.take_of_length_le (by simp)
theorem Zms {xs : List D} {h : HD} (hk : 1 ≤ xs.length) : slX (.tup xs) none (some (-1)) h = .ok (.tup (xs.take (xs.length - 1))) h := by
  have e : HT.sIx xs.length xs.length (some (-1)) = xs.length - 1 := by
    simp only [HT.sIx]
    rw [if_pos (by decide)]
    omega
  simp only [slX]
  unfold Zmn
  rw [e, HT.sIx_none, List.drop_zero, Nat.sub_zero]
end
section
variable {f : ME} {lo hi : MO} {ρ : Rho} {h : HD} {Q : D → HD → Prop}
@[simp] theorem Zpu : Wp (Za4 f lo hi ρ h) Q = Wp (f ρ h) fun x h1 => Wp (lo ρ h1) fun l h2 => Wp (hi ρ h2) fun u h3 => Wp (slX x l u h3) Q := by unfold Za4; simp only [Zao]
end
section
variable {K : Frag} {mg : Str → Option Value} {h : Heap}
theorem Zt3 {us : List Value} (h : us.length = 0) : us = [] := List.length_eq_zero_iff.mp h
theorem Zti {us : List Value} (h : us.length = 1) : ∃ v0, us = [v0] := by
  cases us with
  | nil => cases h
  | cons v t =>
    obtain rfl := Zt3 (Nat.succ.inj h)
    exact ⟨v, rfl⟩
theorem Ztj {us : List Value} (h : us.length = 2) : ∃ v0 v1, us = [v0, v1] := by
  cases us with
  | nil => cases h
  | cons v t =>
    obtain ⟨w0, rfl⟩ := Zti (Nat.succ.inj h)
    exact ⟨v, w0, rfl⟩
theorem Zt4 {us : List Value} (h : us.length = 3) : ∃ v0 v1 v2, us = [v0, v1, v2] := by
  cases us with
  | nil => cases h
  | cons v t =>
    obtain ⟨w0, w1, rfl⟩ := Ztj (Nat.succ.inj h)
    exact ⟨v, w0, w1, rfl⟩
theorem dn1 {x p0 : Str} {st : Stmt} {f : Addr} {oc : Value} {od an : Option Addr} {osl : Array (Option Value)} {kV doc pm cdv ct : Value} (X : K.In h) (G : h.Ns mainGlobals mg) (l : K.lookup f = some ⟨oc, od, .func (fnOf x x (defArgs st) (defBody st) (defScope st) .none kV doc pm an cdv ct), osl⟩) (c : codeIn K cdv x = true) (k : keepIn K (.ref f) = true) (a : nsIn K mainGlobals x = some (some (.ref f)))
    (b : ∀ (kV doc pm : Value) (an : Option Addr) (cdv ct v0 : Value), bindArgs (fnOf x x (defArgs st) (defBody st) (defScope st) .none kV doc pm an cdv ct) ⟨[v0], []⟩ = pure (([p0] : List Str).zip [v0])) : Dn K mg x [p0] st f (fnOf x x (defArgs st) (defBody st) (defScope st) .none kV doc pm an cdv ct) :=
  ⟨ZfE l c k, (ZfE l c k).binds (fun kV doc pm an cdv ct us hl => by obtain ⟨v0, rfl⟩ := Zti hl; exact b kV doc pm an cdv ct v0), mg_of X G a⟩
theorem dn2 {x p0 p1 : Str} {st : Stmt} {f : Addr} {oc : Value} {od an : Option Addr} {osl : Array (Option Value)} {kV doc pm cdv ct : Value} (X : K.In h) (G : h.Ns mainGlobals mg) (l : K.lookup f = some ⟨oc, od, .func (fnOf x x (defArgs st) (defBody st) (defScope st) .none kV doc pm an cdv ct), osl⟩) (c : codeIn K cdv x = true) (k : keepIn K (.ref f) = true) (a : nsIn K mainGlobals x = some (some (.ref f)))
    (b : ∀ (kV doc pm : Value) (an : Option Addr) (cdv ct v0 v1 : Value), bindArgs (fnOf x x (defArgs st) (defBody st) (defScope st) .none kV doc pm an cdv ct) ⟨[v0, v1], []⟩ = pure (([p0, p1] : List Str).zip [v0, v1])) : Dn K mg x [p0, p1] st f (fnOf x x (defArgs st) (defBody st) (defScope st) .none kV doc pm an cdv ct) :=
  ⟨ZfE l c k, (ZfE l c k).binds (fun kV doc pm an cdv ct us hl => by obtain ⟨v0, v1, rfl⟩ := Ztj hl; exact b kV doc pm an cdv ct v0 v1), mg_of X G a⟩
theorem dn3 {x p0 p1 p2 : Str} {st : Stmt} {f : Addr} {oc : Value} {od an : Option Addr} {osl : Array (Option Value)} {kV doc pm cdv ct : Value} (X : K.In h) (G : h.Ns mainGlobals mg) (l : K.lookup f = some ⟨oc, od, .func (fnOf x x (defArgs st) (defBody st) (defScope st) .none kV doc pm an cdv ct), osl⟩) (c : codeIn K cdv x = true) (k : keepIn K (.ref f) = true) (a : nsIn K mainGlobals x = some (some (.ref f)))
    (b : ∀ (kV doc pm : Value) (an : Option Addr) (cdv ct v0 v1 v2 : Value), bindArgs (fnOf x x (defArgs st) (defBody st) (defScope st) .none kV doc pm an cdv ct) ⟨[v0, v1, v2], []⟩ = pure (([p0, p1, p2] : List Str).zip [v0, v1, v2])) : Dn K mg x [p0, p1, p2] st f (fnOf x x (defArgs st) (defBody st) (defScope st) .none kV doc pm an cdv ct) :=
  ⟨ZfE l c k, (ZfE l c k).binds (fun kV doc pm an cdv ct us hl => by obtain ⟨v0, v1, v2, rfl⟩ := Zt4 hl; exact b kV doc pm an cdv ct v0 v1 v2), mg_of X G a⟩
theorem SaidD.of {st : Stmt} {f : Addr} {fd : FuncData} (d : Dn K mg "_law_said" ["_law_call"] st f fd) : SaidD K mg st f fd := ⟨d.fn, d.bd, d.mg⟩
end
end LS
namespace LS
open PySem PySem.Spec PyProof.Rows L2 PySem.W
open AutoSeq1 (wpAny_loadPart')
section
variable {prog : Program} {w : World} {A : Around} {E : Value → Shared → Prop} {s : Shared}
end
def Zpv (r : Addr) (n : Nat) (h : Heap) : Prop := ∃ t u v, IsRange h r 0 (n : Int) 1 t u v
section
variable {X : Cx} {E : XK}
inductive Zt5 (vs : List V) (H : Hp) (Q : VK) : Prop where
  | mk (n : Nat) (e : vs = [.int (n : Int)]) (hn : n ≤ 1000) (q : ∀ p, H p = none → Q (.ref p) (upd H p (.ext (Zpv p n)))) : Zt5 vs H Q
inductive ZrW (vs : List V) (H : Hp) (Q : VK) : Prop where
  | mk (r : Addr) (n : Nat) (e : vs = [.ref r]) (hr : H r = some (.ext (Zpv r n))) (hn : n ≤ 1000) (q : ∀ p, H p = none → Q (.ref p) (upd H p (.tup ((List.range n).map fun i => V.int ((i : Nat) : Int))))) : ZrW vs H Q
noncomputable def Zt6 : D → HD → Out D := fun d h => match d with
  | .int i => @ite _ (0 ≤ i ∧ i ≤ 1000) (Classical.propDecidable _) (.ok (.tup ((List.range i.toNat).map fun k => D.int ((k : Nat) : Int))) h) .stuck
  | _ => .stuck
noncomputable def Zt7 (f : ME) : ME := fun ρ h => (f ρ h).bind Zt6
end
end LS
namespace LS
open PySem PySem.Spec PyProof.Rows L2 PySem.W
section
variable {X : Cx} {E : XK}
def Zpw : D → HD → Out D := fun x h => match x with
  | .tup _ => .ok x h
  | _ => .stuck
def ZrX : D → D → HD → Out D := fun x y h => (Zpw x h).bind fun _ _ => ZfL x y h
mutual
def Zns : PyData → Bool
  | .list _ => false
  | .tuple xs => Zko xs
  | _ => true
def Zko : List PyData → Bool
  | [] => true
  | x :: xs => Zns x && Zko xs
end
def ZrY (h : HD) : Nat → D → Option PyData
  | _, .non => some .none
  | _, .bl b => some (.bool b)
  | _, .int i => some (.int i)
  | _, .str x => some (.str x)
  | _, .edic => some (.dict [])
  | n + 1, .tup ds => (Zay (ds.map (ZrY h n))).map .tuple
  | n + 1, .loc l => match h[l]? with
    | some (.lst ds) => (Zay (ds.map (ZrY h n))).map .list
    | _ => none
  | _, _ => none
inductive RdX (h : Heap) (u : Value) (p : PyData) : Prop where
  | mk (as : List Addr) (f1 : Reads h u p as) (f2 : Zns p = true → sysModules ∉ as) : RdX h u p
inductive Zt8 (h : Heap) (us : List Value) (ps : List PyData) : Prop where
  | mk (as : List Addr) (f1 : ReadsAll h us ps as) (f2 : Zko ps = true → sysModules ∉ as) : Zt8 h us ps
variable {pins : List (Addr × Obj)} {σ : L2.St} {H : Hp} {s : Shared} {m : List Addr} {h : HD}
def Zt9 : D → HD → Out D := fun x h => match ZrY h 8 x with
  | some p => if p.showable = true ∧ (p.hasDict = false ∨ Zns p = true) ∧ p.depth ≤ 40 ∧ p.shown.length ≤ sizeLine then .ok (.str p.shown) h else .stuck
  | none => .stuck
end
end LS
namespace HT
open PySem PyProof.Rows
def lexLe : List Int → List Int → Bool
  | [], [] => true
  | [], _ :: _ => true
  | _ :: _, [] => false
  | x :: xs, y :: ys => if x = y then lexLe xs ys else decide (x ≤ y)
section
open PySem.SeqAt
open PySem.AutoSeq1 (wpAny_loadPart')
open PySem.MeetsSeq PySem.MeetsSeq2 PySem.MeetsSeq3
end
section
variable {prog : Program} {w : World} {A : Around} {E : Value → Shared → Prop} {s : Shared}
end
end HT
namespace L2
open PySem PySem.Spec PyProof.Rows
section
variable {X : Cx}
def Zun (K : PySem.W.Frag) : R2 := fun x y H Q => ∃ a b ns ms, x = .ref a ∧ y = .ref b ∧ SqT K H a (ns.map V.int) ∧ SqT K H b (ms.map V.int) ∧ Q (.bl (HT.lexLe ns ms)) H
end
end L2
namespace LS
open PySem PySem.Spec PyProof.Rows L2
section
variable {X : Cx} {E : XK}
def Zpx : D → Option (List Int)
  | .tup ds => Zay (ds.map Zhu)
  | _ => none
def Zuo (f : List Int → List Int → Bool) : D → D → HD → Out D := fun x y h => match Zpx x, Zpx y with
  | some ns, some ms => .ok (.bl (f ns ms)) h
  | _, _ => .stuck
end
section
variable {prog : Program} {w : World} {A : Around} {E : Value → Shared → Prop} {s : Shared}
end
section
variable {X : Cx} {E : XK} {e : Expr} {f : ME}
def Zua : D → HD → Out D := fun x h => match x with
  | .tup ds => .ok (.tup ds.reverse) h
  | _ => .stuck
def Zup (f : ME) : ME := fun ρ h => (f ρ h).bind Zua
end
end LS
namespace LS
open PySem PySem.Spec PyProof.Rows L2
def Zub (i j k : Nat) : MG := fun d ρ => match d with
  | .tup [x, .tup [y, z]] => some (((ρ.set i (some x)).set j (some y)).set k (some z))
  | _ => none
abbrev Zuc (K : PySem.W.Frag) (i j k : Nat) : TG := Zl7 K 2 (Zdw (ZcQ i) (Zdw (Zl7 K 2 (Zdw (ZcQ j) (Zdw (ZcQ k) Zl6))) Zl6))
end LS
namespace LS
open PySem PySem.Spec PyProof.Rows L2
def emS (elt : Expr) (gens : List Comprehension) (scope : Scope) (pos : Pos) (d : Nat) (acc : Value) (env : Env) : Sem Unit := match gens[d + 1]? with
  | some g => eval g.iter env >>= fun x => standAt g.iter.pos >>= fun _ => foldedSetIterable g.iter env x >>= fun y => holding [y] (pyIter y) >>= fun it =>
      runOwn (.compStart (.ListComp elt gens scope pos) (d + 1) it acc env) env >>= fun _ => pure ()
  | none => eval elt env >>= fun x => call (.builtin "list.append") [acc, x] >>= fun _ => pure ()
theorem Znt {elt tg iter : Expr} {gens : List Comprehension} {ifs : List Expr} {scope : Scope} {pos : Pos} {d : Nat} {it acc : Value} {env : Env} (hg : gens[d]? = some ⟨tg, iter, ifs, 0⟩) (ha : ∀ g, gens[d + 1]? = some g → g.is_async = 0) :
    compTurn (.ListComp elt gens scope pos) d it acc env = standAt iter.pos >>= fun _ => pyNext it >>= fun r => match r with
      | none => pure (.done .next)
      | some v => letOwnedTupleGo tg it v >>= fun _ => assign tg env v >>= fun _ => (forIn ifs true fun c r => if r = true then do let ok ← isTrue c env (eval c env); pure (ForInStep.yield ok) else pure (ForInStep.yield r)) >>= fun ok =>
          if ok = true then emS elt gens scope pos d acc env >>= fun _ => again (.compLoop (.ListComp elt gens scope pos) d it acc env) else again (.compLoop (.ListComp elt gens scope pos) d it acc env) := by
  unfold compTurn emS
  simp only [hg]
  cases e : gens[d + 1]? with
  | none => rfl
  | some g =>
    obtain ⟨a, b, c, k⟩ := g
    have : k = 0 := ha _ e
    subst this
    simp only [bind_assoc, pure_bind]
    rfl
section
variable {prog : Program} {w : World} {A : Around} {R : Result → Shared → Prop} {s : Shared} {elt tg iter : Expr} {gens : List Comprehension} {ifs : List Expr} {scope : Scope} {pos : Pos} {d : Nat} {it acc : Value} {env : Env}
theorem Znu (hg : gens[d]? = some ⟨tg, iter, ifs, 0⟩) (ha : ∀ g, gens[d + 1]? = some g → g.is_async = 0) (I : Nat → Shared → Prop)
    (turn : ∀ n s, I n s → wpAny (model prog w) A (pyNext it) (fun r s₁ => match r with
      | none => R (.ok .next) s₁
      | some v => wpAny (model prog w) A (letOwnedTupleGo tg it v) (fun _ s₁' => wpAny (model prog w) A (assign tg env v) (fun _ s₂ =>
          wpAny (model prog w) A (forIn ifs true fun c r => if r = true then do let ok ← isTrue c env (eval c env); pure (ForInStep.yield ok) else pure (ForInStep.yield r)) (fun ok s₃ =>
            if ok = true then wpAny (model prog w) A (emS elt gens scope pos d acc env) (fun _ s₅ => ∃ m, m < n ∧ I m s₅) (fun _ _ => False) s₃ else ∃ m, m < n ∧ I m s₃) (fun _ _ => False) s₂) (fun _ _ => False) s₁') (fun _ _ => False) s₁) (fun _ _ => False) s)
    (n : Nat) (h : I n s) : codeAny (model prog w) A (.compLoop (.ListComp elt gens scope pos) d it acc env) R s := by
  refine codeAny_loop rfl I (fun n s hI => ?_) n h
  show wpAny _ A ((compTurn (.ListComp elt gens scope pos) d it acc env).onRaise (fun x => do noteFrame x env; theTreesLotGoes x)) _ _ s
  refine wpAny_noted ?_
  rw [Znt hg ha]
  refine wpAny_bind (wpAny_standAt (wpAny_bind (wpAny_mono (turn n s hI) (fun r s₁ h₁ => ?_) fun _ _ h' => h'.elim)))
  cases r with
  | none => exact wpAny_pure h₁
  | some v =>
    refine wpAny_bind (wpAny_mono h₁ (fun _ s₁' h₁' => ?_) fun _ _ h' => h'.elim)
    refine wpAny_bind (wpAny_mono h₁' (fun _ s₂ h₂ => wpAny_bind (wpAny_mono h₂ (fun ok s₃ h₃ => ?_) fun _ _ h' => h'.elim)) fun _ _ h' => h'.elim)
    cases ok with
    | false => exact wpAny_pure ⟨rfl, h₃⟩
    | true => exact wpAny_bind (wpAny_mono h₃ (fun _ s₅ h₅ => wpAny_pure ⟨rfl, h₅⟩) fun _ _ h' => h'.elim)
theorem Zio (hg : gens[d]? = some ⟨tg, iter, ifs, 0⟩)
    (h0 : codeAny (model prog w) A (.compLoop (.ListComp elt gens scope pos) d it acc env) R s)
    (h : wpAny (model prog w) A (pyIter it) (fun it' s' => codeAny (model prog w) A (.compLoop (.ListComp elt gens scope pos) d it' acc env) R s') (fun _ _ => False) s) :
    codeAny (model prog w) A (.compStart (.ListComp elt gens scope pos) d it acc env) R s := by
  refine codeAny_of_tree ?_
  show wpAny _ _ ((compStart (.ListComp elt gens scope pos) d it acc env).onRaise (fun x => do noteFrame x env; standAt theWindowsPlace)) _ _ s
  refine wpAny_notedAt ?_
  have hc : (clausesOf (.ListComp elt gens scope pos))[d]? = some ⟨tg, iter, ifs, 0⟩ := hg
  unfold compStart
  rw [hc]
  show wpAny _ _ (ask >>= _) _ _ s
  refine wpAny_bind (wpAny_askSetting (wpAny_ite ?_))
  split
  · first
      | exact wpAny_bind (wpAny_pure (wpAny_pure ⟨rfl, h0⟩))
      | exact wpAny_pure ⟨rfl, h0⟩
  · refine wpAny_bind (wpAny_rule ?_)
    show wpAny _ _ (standAt iter.pos >>= _) _ _ s
    exact wpAny_bind (wpAny_standAt (wpAny_bind (wpAny_mono h (fun it' s' h' => wpAny_pure ⟨rfl, h'⟩) fun _ _ x => x.elim)))
end
abbrev ZgW (its : List Value) (k : Nat) : Obj := { cls := .type "list", data := .seq its.toArray k }
structure ZhC (X : Cx) (D : Addr) : Prop where
  lo : D ≠ X.env.locals
  ce : ∀ x c, X.env.cells.lookup x = some c → c ≠ D
  pn : ∀ p ∈ X.pn, p.1 ≠ D
  ex : D ∈ X.ex
  fs : D ∉ X.fs
section
variable {X : Cx} {D : Addr} {its its' : List Value} {k k' : Nat} {rest : List (Addr × Obj)} {σ : L2.St} {H : Hp} {s : Shared} {h' : Heap}
theorem Inv.repin (ao : ZhC X D) (I : Inv X ((D, ZgW its k) :: rest) σ H s) (hr : ∀ p ∈ rest, p.1 ≠ D) (sb : Heap.SameBut D s.heap h') (e : h'.get? D = some (ZgW its' k')) : Inv X ((D, ZgW its' k') :: rest) σ H { s with heap := h' } := by
  have hD := (I.pin _ (List.mem_append_right _ List.mem_cons_self)).2.1
  have I1 : Inv X rest σ H s := I.pins_of fun p hp => I.pin p (List.mem_append_right _ (List.mem_cons_of_mem _ hp))
  have I2 : Inv X rest σ H { s with heap := h' } := I1.turned (t' := s.toks) (it := D) (fun b o hb e => (sb.2 b hb).trans e) hD ao.lo (.inl ao.ex) ao.ce fun p hp => by
    rcases List.mem_append.mp hp with z | z
    · exact ao.pn p z
    · exact hr p z
  refine I2.pins_of fun p hp => ?_
  rcases List.mem_cons.mp hp with rfl | z
  · exact ⟨e, hD, ao.lo, ao.fs, fun v z => by cases z⟩
  · exact I2.pin p (List.mem_append_right _ z)
def EM (X : Cx) (D : Addr) (em : Sem Unit) (te : L2.St → Hp → List V → (List V → Hp → Prop) → Prop) : Prop :=
  ∀ (rest : List (Addr × Obj)) (its : List Value) (k : Nat) (acc : List V) (σ : L2.St) (H : Hp) (s : Shared) (Q : List V → Hp → Prop), Inv X ((D, ZgW its k) :: rest) σ H s → (∀ p ∈ rest, p.1 ≠ D) → Vals acc its → te σ H acc Q →
    wpAny (model X.prog X.w) X.A em (fun _ s' => ∃ its' k' acc' H', Inv X ((D, ZgW its' k') :: rest) σ H' s' ∧ Vals acc' its' ∧ Q acc' H') (fun _ _ => False) s
def Zmt (te : TE) : L2.St → Hp → List V → (List V → Hp → Prop) → Prop := fun σ H acc Q => acc.length < sizeLine ∧ te σ H fun y H' => Q (acc ++ [y]) H'
theorem Znv {elt : Expr} {gens : List Comprehension} {scope : Scope} {pos : Pos} {d : Nat} {te : TE} (ao : ZhC X D) (xe : X.xe = fun _ _ => False) (hl : gens[d + 1]? = none) (pe : PE X elt te) : EM X D (emS elt gens scope pos d (.ref D) X.env) (Zmt te) := by
  rintro rest its k acc σ H s Q I hr rv ⟨hz, h⟩
  unfold emS
  rw [hl]
  have z := pe _ s σ H _ I h
  rw [xe] at z
  refine wpAny_bind (wpAny_mono z (fun y s1 z1 => ?_) fun _ _ z => z.elim)
  obtain ⟨yv, H1, I1, r1, q1⟩ := z1
  obtain ⟨ho, hD, _⟩ := I1.pin _ (List.mem_append_right _ List.mem_cons_self)
  have hlen := rv.length
  refine wpAny_bind (wpAny_list_append_plain ⟨k, ho⟩ (fun h' z2 sb => ?_) (by rw [List.size_toArray]; omega))
  obtain ⟨k', hl'⟩ := z2
  refine wpAny_pure ⟨its ++ [y], k', acc ++ [yv], H1, Inv.repin ao I1 hr sb (by rw [hl']; simp [ZgW]), rv.append (.cons r1 .nil), q1⟩
theorem Znw {o o' : Obj} {H' : Hp} {b : Addr} (f : Zhm X ((D, o) :: rest) H b) (n : H' b = none) : Zhm X ((D, o') :: rest) H' b := by
  obtain ⟨_, f1, f2, f3, f4, f5⟩ := f
  refine ⟨n, f1, f2, f3, f4, fun p hp => ?_⟩
  rcases List.mem_append.mp hp with z | z
  · exact f5 p (List.mem_append_left _ z)
  · rcases List.mem_cons.mp z with rfl | z
    · exact f5 (D, o) (List.mem_append_right _ List.mem_cons_self)
    · exact f5 p (List.mem_append_right _ (List.mem_cons_of_mem _ z))
def Zmu (wi : TI) (g : TG) (tc : TT) (te : L2.St → Hp → List V → (List V → Hp → Prop) → Prop) : L2.St → Hp → List V → (List V → Hp → Prop) → Prop := fun σ H acc Q => wi σ H fun J H1 => ∃ W : Nat → Nat → List V → Hp → Prop, (∃ n, W 0 n acc H1) ∧ ∀ i n acc H, W i n acc H →
  (J.stop i H ∧ Q acc H) ∨
  (J.go i H ∧ ∀ x H', J.yld i H x H' → g x σ H' fun σ2 H2 => Sub σ σ2 ∧ tc σ2 H2 fun b H3 => if b = true then te σ2 H3 acc fun acc' H4 => ∃ n', n' < n ∧ W (i + 1) n' acc' H4 else ∃ n', n' < n ∧ W (i + 1) n' acc H3)
inductive CL2 (X : Cx) (D : Addr) (rest : List (Addr × Obj)) (σ : L2.St) (W : Nat → Nat → List V → Hp → Prop) (tn : Nat → Heap → Prop) (fp : List Addr) (n : Nat) (s' : Shared) : Prop where
  | mk (i : Nat) (acc : List V) (H' : Hp) (its : List Value) (k : Nat) (w : W i n acc H') (ii : Inv X ((D, ZgW its k) :: rest) σ H' s') (st : tn i s'.heap) (fr : ∀ b ∈ fp, H' b = none) (rv : Vals acc its) : CL2 X D rest σ W tn fp n s'
theorem Zkp {elt tg iter : Expr} {gens : List Comprehension} {ifs : List Expr} {scope : Scope} {pos : Pos} {d : Nat} {g : TG} {tc : TT} {te : L2.St → Hp → List V → (List V → Hp → Prop) → Prop} {R : Result → Shared → Prop} {it : Addr} {fp : List Addr} {tn : Nat → Heap → Prop} {J : It} {W : Nat → Nat → List V → Hp → Prop} {QQ : List V → Hp → Prop}
    (xe : X.xe = fun _ _ => False) (xc : X.calm = true) (hg : gens[d]? = some ⟨tg, iter, ifs, 0⟩) (ha : ∀ g, gens[d + 1]? = some g → g.is_async = 0) (pg : PG X tg g) (pt : PTs X ifs tc) (em : EM X D (emS elt gens scope pos d (.ref D) X.env) te)
    (T : Zma X.prog X.w X.K tg J fp it tn) (f : ∀ b ∈ fp, ∀ o H', H' b = none → Zhm X ((D, o) :: rest) H' b) (hr : ∀ p ∈ rest, p.1 ≠ D)
    (turn : ∀ i n acc H, W i n acc H → (J.stop i H ∧ QQ acc H) ∨
      (J.go i H ∧ ∀ x H', J.yld i H x H' → g x σ H' fun σ2 H2 => Sub σ σ2 ∧ tc σ2 H2 fun b H3 => if b = true then te σ2 H3 acc fun acc' H4 => ∃ n', n' < n ∧ W (i + 1) n' acc' H4 else ∃ n', n' < n ∧ W (i + 1) n' acc H3))
    (fin : ∀ its k acc H' s', Inv X ((D, ZgW its k) :: rest) σ H' s' → Vals acc its → QQ acc H' → R (.ok .next) s') (n : Nat) (h : CL2 X D rest σ W tn fp n s) :
    codeAny (model X.prog X.w) X.A (.compLoop (.ListComp elt gens scope pos) d (.ref it) (.ref D) X.env) R s := by
  refine Znu hg ha (CL2 X D rest σ W tn fp) ?_ n h
  rintro n s5 ⟨i, acc, H5, its, k, w5, I5, st5, fr5, rv5⟩
  have fk : ∀ {H' : Hp}, (∀ b ∈ fp, H' b = none) → ∀ b ∈ fp, Zhm X ((D, ZgW its k) :: rest) H' b := fun hn b hb => f b hb _ _ (hn b hb)
  rcases turn i n acc H5 w5 with ⟨stop, qn⟩ | ⟨go, step⟩
  · refine wpAny_mono (T.done X rfl rfl rfl xc i _ s5 σ H5 (fun _ _ => False) I5 (fk fr5) st5 stop) (fun r s6 z => ?_) fun _ _ z => z
    obtain ⟨rfl, I6⟩ := z
    exact fin its k acc H5 s6 I6 rv5 qn
  · refine wpAny_mono (T.item X rfl rfl rfl xc i _ s5 σ H5 (fun _ _ => False) I5 (fk fr5) st5 go) (fun r s6 z => ?_) fun _ _ z => z
    obtain ⟨u, rfl, h6⟩ := z
    refine wpAny_mono h6 (fun _ s7 z => ?_) fun _ _ z => z
    obtain ⟨x, H7, I7, r7, y7, st7, fr7⟩ := z
    have I7' : Inv X ((D, ZgW its k) :: (rest ++ Zd7 fp s7.heap)) σ H7 s7 := I7.pinned (fp := fp) (fk fr7) (T.obj _ _ st7)
    have hr' : ∀ p ∈ rest ++ Zd7 fp s7.heap, p.1 ≠ D := fun p hp => by
      rcases List.mem_append.mp hp with z | z
      · exact hr p z
      · obtain ⟨hb, _⟩ := Zgx z
        exact Ne.symm ((f p.1 hb (ZgW its k) H7 (fr7 p.1 hb)).2.2.2.2.2 (D, ZgW its k) (List.mem_append_right _ List.mem_cons_self))
    have z2 := pg _ s7 σ H7 x u _ I7' r7 (step x H7 y7)
    rw [xe] at z2
    refine wpAny_mono z2 (fun _ s8 z => ?_) fun _ _ z => z
    obtain ⟨σ8, H8, I8, sub8, q8⟩ := z
    have z3 := pt _ s8 σ8 H8 _ I8 q8
    rw [xe] at z3
    refine wpAny_mono z3 (fun ok s9 z => ?_) fun _ _ z => z
    obtain ⟨H9, I9, q9⟩ := z
    have back : ∀ {sy : Shared} {Hy : Hp} {its' : List Value} {k' : Nat}, Inv X ((D, ZgW its' k') :: (rest ++ Zd7 fp s7.heap)) σ8 Hy sy →
        Inv X ((D, ZgW its' k') :: rest) σ Hy sy ∧ tn (i + 1) sy.heap ∧ ∀ b ∈ fp, Hy b = none := fun {sy Hy its' k'} Iy => by
      have at_ : ∀ b ∈ fp, ∀ o, s7.heap.get? b = some o → sy.heap.get? b = some o ∧ Hy b = none := fun b hb o e => by
        obtain ⟨z1, z2, _⟩ := Iy.pin (b, o) (List.mem_append_right _ (List.mem_cons_of_mem _ (List.mem_append_right _ (ZcJ hb e))))
        exact ⟨z1, z2⟩
      refine ⟨(Iy.pins_of fun p hp => Iy.pin p (List.mem_append_right _ ?_)).weak sub8.1 fun j v z => sub8.2 j v z, T.keep _ _ _ st7 fun b hb o e => (at_ b hb o e).1, fun b hb => ?_⟩
      · rcases List.mem_cons.mp hp with rfl | z
        · exact List.mem_cons_self
        · exact List.mem_cons_of_mem _ (List.mem_append_left _ z)
      · obtain ⟨o, e, _⟩ := T.obj _ _ st7 b hb
        exact (at_ b hb o e).2
    cases ok with
    | false =>
      simp only [Bool.false_eq_true, if_false] at q9 ⊢
      obtain ⟨n', hn', w'⟩ := q9
      obtain ⟨a1, a2, a3⟩ := back I9
      exact ⟨n', hn', i + 1, acc, H9, its, k, w', a1, a2, a3, rv5⟩
    | true =>
      simp only [if_true] at q9 ⊢
      refine wpAny_mono (em _ its k acc σ8 H9 s9 _ I9 hr' rv5 q9) (fun _ s10 z => ?_) fun _ _ z => z
      obtain ⟨its', k', acc', H10, I10, rv10, n', hn', w'⟩ := z
      obtain ⟨a1, a2, a3⟩ := back I10
      exact ⟨n', hn', i + 1, acc', H10, its', k', w', a1, a2, a3, rv10⟩
theorem Znx {elt tg iter : Expr} {gens : List Comprehension} {ifs : List Expr} {scope : Scope} {pos : Pos} {d : Nat} {wi : TI} {g : TG} {tc : TT} {te : L2.St → Hp → List V → (List V → Hp → Prop) → Prop}
    (xe : X.xe = fun _ _ => False) (xc : X.calm = true) (hg : gens[d + 1]? = some ⟨tg, iter, ifs, 0⟩) (ha : ∀ g, gens[d + 1 + 1]? = some g → g.is_async = 0) (hi : PI X tg iter wi) (pg : PG X tg g) (pt : PTs X ifs tc) (em : EM X D (emS elt gens scope pos (d + 1) (.ref D) X.env) te)
    (hsf : ∀ x, foldedSetIterable iter X.env x = pure x) : EM X D (emS elt gens scope pos d (.ref D) X.env) (Zmu wi g tc te) := by
  rintro rest its k acc σ H s Q I hr rv h
  unfold emS
  rw [hg]
  have z := hi _ s σ H _ I h
  rw [xe] at z
  refine wpAny_bind (wpAny_mono z (fun xv s1 h1 => ?_) fun _ _ z => z)
  refine wpAny_bind (wpAny_standAt (wpAny_bind (wpAny_of_eq (hsf xv) ?_)))
  refine wpAny_bind (wpAny_holding (wpAny_mono h1 (fun itv s2 h2 => ?_) fun _ _ z => z))
  obtain ⟨it, fp, tn, J, H2, e, I2, T, st2, f2, W, ⟨n0, w0⟩, turn⟩ := h2
  subst e
  refine wpAny_bind (wpAny_runOwn ?_)
  rw [Around.mark_none]
  have loop := Zkp (R := fun r s' => match r with | .ok f => wpAny (model X.prog X.w) X.A (pure ()) (fun _ s' => ∃ its' k' acc' H', Inv X ((D, ZgW its' k') :: rest) σ H' s' ∧ Vals acc' its' ∧ Q acc' H') (fun _ _ => False) s' | .error e => cameBackBy (model X.prog X.w) X.A X.env (fun _ _ => False) e s')
    xe xc hg ha pg pt em T (fun b hb o H' hn => Znw (f2 b hb) hn) hr turn (fun its' k' acc' H' s' I' rv' q' => wpAny_pure ⟨its', k', acc', H', I', rv', q'⟩) n0 ⟨0, acc, H2, its, k, w0, I2, st2, fun b hb => (f2 b hb).1, rv⟩
  exact Zio hg loop (T.self X.A 0 s2 _ _ st2 loop)
end
def Zkq (cs : List (Option Nat)) (wi : TI) (g : TG) (tc : TT) (te : L2.St → Hp → List V → (List V → Hp → Prop) → Prop) : TE := fun σ H Q => wi σ H fun J H1 => ∃ W : Nat → Nat → List V → Hp → Prop, (∃ n, W 0 n [] H1) ∧ ∀ i n acc H, W i n acc H →
  (J.stop i H ∧ acc.length ≤ sizeLine ∧ ∀ p, H p = none → Q (.ref p) (upd H p (.lst acc))) ∨
  (J.go i H ∧ ∀ x H', J.yld i H x H' → g x (cSt cs σ) H' fun σ2 H2 => Sub (cSt cs σ) σ2 ∧ tc σ2 H2 fun b H3 => if b = true then te σ2 H3 acc fun acc' H4 => ∃ n', n' < n ∧ W (i + 1) n' acc' H4 else ∃ n', n' < n ∧ W (i + 1) n' acc H3)
section
variable {X : Cx} {elt tg iter : Expr} {ifs : List Expr} {gs : List Comprehension} {scope : Scope} {pos : Pos} {Nc : List Str} {cs : List (Option Nat)} {wi : TI} {g : TG} {tc : TT} {te : L2.St → Hp → List V → (List V → Hp → Prop) → Prop}
theorem ZiZ {use : Option (Value → Sem Unit)} {QQ : Value → Shared → Prop} {ppos : Pos} {pins : List (Addr × Obj)} {s : Shared} {σ : L2.St} {H : Hp} {Q : VK} (hcalm : X.calm = true) (S : ZdD X scope Nc cs) (hi : PI X tg iter wi) (ha : ∀ g, gs[0]? = some g → g.is_async = 0)
    (hb : ∀ (C D : Addr) (cells : List (Str × Addr)) (fp : List Addr) (s₀ : Shared) (H₀ : Hp) (pins : List (Addr × Obj)), ZhC (cCx X Nc scope C D cells fp s₀ H₀ pins) D → PG (cCx X Nc scope C D cells fp s₀ H₀ pins) tg g ∧ PTs (cCx X Nc scope C D cells fp s₀ H₀ pins) ifs tc ∧
      EM (cCx X Nc scope C D cells fp s₀ H₀ pins) D (emS elt (⟨tg, iter, ifs, 0⟩ :: gs) scope pos 0 (.ref D) (cCx X Nc scope C D cells fp s₀ H₀ pins).env) te)
    (hsf : ∀ x, foldedSetIterable iter X.env x = pure x) (I : Inv X pins σ H s) (h : Zkq cs wi g tc te σ H Q)
    (fin : ∀ (s6 : Shared) (C D : Addr) (H7 : Hp) (m6 : Str → Option Value), s6.heap.Ns C m6 → H7 C = none → X.s₀.heap.objs.size ≤ C → C ≠ X.env.locals → (∀ x c, X.env.cells.lookup x = some c → c ≠ C) → (∀ p ∈ X.pn ++ pins, p.1 ≠ C) →
      (∀ h', Heap.SameBut C s6.heap h' → Inv X pins σ H7 { s6 with heap := h' }) → Q (.ref D) H7 → compPost (model X.prog X.w) X.A X.xe use QQ (.ref D) C (.ok .next) s6) :
    wpAny (model X.prog X.w) X.A (comprehension (.ListComp elt (⟨tg, iter, ifs, 0⟩ :: gs) scope pos) scope X.env ppos (newList []) false (eval iter X.env) use) QQ X.xe s := by
  obtain ⟨cl, hclos, hcl, hcl2⟩ := Zcq (scope := scope) (env := X.env) fun y hy hf => I.ok.has y.1 (S.free y hy hf)
  refine wpAny_comprehension_free (use := use) rfl hsf hclos S.kind S.loc (thn (hi pins s σ H _ I h) fun xv s1 h1 => thn h1 fun itv s2 h2 => ?_)
  obtain ⟨it, fp, tn, J, H2, e, I2, T, st2, f2, W, ⟨n0, w0⟩, turn⟩ := h2
  subst e
  refine wpAny_newObj_type ?_
  generalize e3 : ({ s2 with heap := s2.heap.push { cls := .type "list", data := .seq ([] : List Value).toArray } } : Shared) = s3
  refine ZeO ?_
  have ob2 : ∀ b ∈ fp, ∃ o, s2.heap.get? b = some o := fun b hb => let ⟨o, e, _⟩ := T.obj _ _ st2 b hb; ⟨o, e⟩
  have I4 := ZgK (fp := fp) (cl := cl) S I2 f2 ob2 hcl hcl2 e3.symm
  generalize e4 : ({ s3 with heap := pushCells (s3.heap.push { cls := .type "dict", data := .dict #[] }) scope.names } : Shared) = s4 at I4
  generalize ecl : cellsFrom (s3.heap.objs.size + 1) scope.names cl = cells at I4
  have okc := I4.ok
  have k3 : ∀ b o, s2.heap.get? b = some o → s3.heap.get? b = some o := fun b o e => by subst e3; exact Heap.get?_push_of_some _ e
  have sz3 : s3.heap.objs.size = s2.heap.objs.size + 1 := by subst e3; exact Heap.size_push ..
  have k34 : ∀ b o, s3.heap.get? b = some o → s4.heap.get? b = some o := fun b o e => by subst e4; exact pushCells_keeps _ _ b o (Heap.get?_push_of_some _ e)
  have hDfp : s2.heap.objs.size ∉ fp := fun hm => by
    obtain ⟨o, e⟩ := ob2 _ hm
    exact absurd (Heap.lt_size e) (Nat.lt_irrefl _)
  have hDex : s2.heap.objs.size ∈ (cCx X Nc scope s3.heap.objs.size s2.heap.objs.size cells fp s3 H2 pins).ex := List.mem_cons_self
  have ao : ZhC (cCx X Nc scope s3.heap.objs.size s2.heap.objs.size cells fp s3 H2 pins) s2.heap.objs.size :=
    ⟨show s2.heap.objs.size ≠ s3.heap.objs.size from nne (by omega), fun x c e => (okc.exf _ hDex).2 x c e, fun p hp => nne (Heap.lt_size (I2.pin p hp).1), hDex, okc.exfs _ hDex⟩
  obtain ⟨pg, pt, em⟩ := hb s3.heap.objs.size s2.heap.objs.size cells fp s3 H2 pins ao
  have hD4 : s4.heap.get? s2.heap.objs.size = some (ZgW [] 0) := by
    refine k34 _ _ ?_
    subst e3
    exact Heap.get?_push_size _ rfl
  have fC : ∀ b ∈ fp, ∀ (o : Obj) (H' : Hp), H' b = none → Zhm (cCx X Nc scope s3.heap.objs.size s2.heap.objs.size cells fp s3 H2 pins) ((s2.heap.objs.size, o) :: []) H' b := fun b hb o H' hn => by
    have hbx : b ∈ (cCx X Nc scope s3.heap.objs.size s2.heap.objs.size cells fp s3 H2 pins).ex := List.mem_cons_of_mem _ hb
    refine ⟨hn, (okc.exf b hbx).1, okc.exfs b hbx, .inl hbx, (okc.exf b hbx).2, fun p hpp => ?_⟩
    rcases List.mem_append.mp hpp with z | z
    · exact (f2 b hb).2.2.2.2.2 p z
    · rw [List.mem_singleton] at z
      subst z
      intro e
      exact hDfp ((show s2.heap.objs.size = b from e) ▸ hb)
  have I4' : Inv (cCx X Nc scope s3.heap.objs.size s2.heap.objs.size cells fp s3 H2 pins) ((s2.heap.objs.size, ZgW [] 0) :: []) (cSt cs σ) H2 s4 := I4.pins_of fun p hp => by
    rw [List.mem_singleton] at hp
    subst hp
    exact ⟨hD4, I2.hok.fresh (Nat.le_refl _), ao.lo, ao.fs, fun v z => by cases z⟩
  have st4 : tn 0 s4.heap := T.keep _ _ _ st2 fun b hb o e => k34 b o (k3 b o e)
  have loop := Zkp (X := cCx X Nc scope s3.heap.objs.size s2.heap.objs.size cells fp s3 H2 pins) (QQ := fun acc H5 => acc.length ≤ sizeLine ∧ ∀ p, H5 p = none → Q (.ref p) (upd H5 p (.lst acc)))
    (R := compPost (model X.prog X.w) X.A X.xe use QQ (.ref s2.heap.objs.size) s3.heap.objs.size) rfl hcalm (d := 0) (gens := ⟨tg, iter, ifs, 0⟩ :: gs) rfl ha pg pt em T fC (fun p hp => (nomatch hp)) turn (fun its k acc H5 s6 I6 rv5 qn => ?_) n0
      ⟨0, [], H2, [], 0, w0, I4', st4, fun b hb => (f2 b hb).1, .nil⟩
  · exact Zio (d := 0) rfl loop (T.self X.A 0 s4 _ _ st4 loop)
  · obtain ⟨m6, hn6, _⟩ := I6.loc
    obtain ⟨ho6, hD6, _⟩ := I6.pin _ (List.mem_append_right _ List.mem_cons_self)
    have lt2 : ∀ b, b < s2.heap.objs.size → b ≠ s3.heap.objs.size := fun b hb => nne (Nat.lt_of_lt_of_le hb (by omega))
    refine fin s6 s3.heap.objs.size s2.heap.objs.size (upd H5 s2.heap.objs.size (.lst acc)) m6 hn6 ?_ (Nat.le_trans I2.sz (by omega)) ?_ ?_ ?_ ?_ (qn.2 _ hD6)
    · rw [Zaq (Zlo (by omega))]
      exact I6.free
    · obtain ⟨m2, hn2, _⟩ := I2.loc
      exact Ne.symm (lt2 _ hn2.lt)
    · intro x c hx
      obtain ⟨v, hv⟩ := I2.cell x c hx
      obtain ⟨o, ho, _⟩ := hv
      exact lt2 _ (Heap.lt_size ho)
    · intro p hp
      exact lt2 _ (Heap.lt_size (I2.pin p hp).1)
    · intro h' sb
      exact ZgL I2 f2 e3.symm rfl I6 hD6 qn.1 rv5 ho6 sb
theorem ZlL (hcalm : X.calm = true) (S : ZdD X scope Nc cs) (hi : PI X tg iter wi) (ha : ∀ g, gs[0]? = some g → g.is_async = 0)
    (hb : ∀ (C D : Addr) (cells : List (Str × Addr)) (fp : List Addr) (s₀ : Shared) (H₀ : Hp) (pins : List (Addr × Obj)), ZhC (cCx X Nc scope C D cells fp s₀ H₀ pins) D → PG (cCx X Nc scope C D cells fp s₀ H₀ pins) tg g ∧ PTs (cCx X Nc scope C D cells fp s₀ H₀ pins) ifs tc ∧
      EM (cCx X Nc scope C D cells fp s₀ H₀ pins) D (emS elt (⟨tg, iter, ifs, 0⟩ :: gs) scope pos 0 (.ref D) (cCx X Nc scope C D cells fp s₀ H₀ pins).env) te)
    (hsf : ∀ x, foldedSetIterable iter X.env x = pure x := by intro _; rfl) : PE X (.ListComp elt (⟨tg, iter, ifs, 0⟩ :: gs) scope pos) (Zkq cs wi g tc te) := by
  intro pins s σ H Q I h
  rw [eval_ListComp]
  exact ZiZ (use := none) hcalm S hi ha hb hsf I h fun s6 C D H7 m6 hn _ _ _ _ _ inv q => ⟨m6, hn, fun h' sb => ⟨.ref D, H7, inv h' sb, rfl, q⟩⟩
end
end LS
namespace LS
open PySem PySem.Spec PyProof.Rows L2
abbrev MEm := Rho → HD → List D → Out (List D)
abbrev TEm := L2.St → Hp → List V → (List V → Hp → Prop) → Prop
def Frs (js : List Nat) (σ : L2.St) : Prop := ∀ j ∈ js, σ[j]? = some none
def Zny (K : PySem.W.Frag) (is js : List Nat) (gg : TG) (sg : MG) : Prop :=
  ∀ m H d v ρ σ ρ' Q, DV K m H d v → ER K m H ρ σ → Frs (is ++ js) σ → sg d ρ = some ρ' → (∀ σ', Sub σ σ' → Frs js σ' → ER K m H ρ' σ' → Q σ' H) → gg v σ H Q
theorem ZhD {σ σ' : L2.St} {i : Nat} {v : V} (h : σ[i]? = some none) (s : Sub σ σ') : Sub σ (σ'.set i (some v)) := by
  refine ⟨by rw [s.1]; simp, fun j w e => ?_⟩
  have hj : i ≠ j := by
    rintro rfl
    rw [h] at e
    cases e
  rw [List.getElem?_set_ne hj]
  exact s.2 j w e
theorem Frs.set {js : List Nat} {σ : L2.St} {i : Nat} {v : Option V} (h : Frs js σ) (n : i ∉ js) : Frs js (σ.set i v) := fun j hj => by
  have hn : i ≠ j := by
    rintro rfl
    exact n hj
  rw [List.getElem?_set_ne hn]
  exact h j hj
theorem Zdd {K : PySem.W.Frag} {i : Nat} {js : List Nat} (n : i ∉ js) : Zny K [i] js (ZcQ i) (Zbq i) := fun m H d v ρ σ ρ' Q r er f e q => by
  simp only [Zbq, Option.some.injEq] at e
  subst e
  exact q _ (ZhD (f i List.mem_cons_self) (.refl _)) (Frs.set (fun j hj => f j (List.mem_cons_of_mem _ hj)) n) (er.set r)
theorem Zkr {K : PySem.W.Frag} {i j : Nat} {js : List Nat} (n : i ∉ js) (n' : j ∉ js) : Zny K [i, j] js (Zl7 K 2 (Zdw (ZcQ i) (Zdw (ZcQ j) Zl6))) (Zdi i j) := fun m H d v ρ σ ρ' Q r er f e q => by
  unfold Zdi at e
  split at e
  · rename_i a b
    cases e
    simp only [DV, DVs] at r
    obtain ⟨p, vs, rfl, hp, v1, w1, rfl, r1, v2, w2, rfl, r2, rfl⟩ := r
    refine ⟨p, _, rfl, SqT.of hp, rfl, v1, _, rfl, v2, _, rfl, rfl, q _ (ZhD (f j (by simp)) (ZhD (f i (by simp)) (.refl _))) (Frs.set (Frs.set (fun k hk => f k (by simp [hk])) n) n') ((er.set r1).set r2)⟩
  · cases e
noncomputable def Zeh (f : ME) : MEm := fun ρ h acc => if acc.length < sizeLine then (noErr (f ρ h)).bind fun y h2 => .ok (acc ++ [y]) h2 else .stuck
open Classical in
noncomputable def Zei (src : Src) (items : List D) (sg : MG) (t : MT) (e : MEm) (ρ : Rho) : List D → HD → List D → Out (List D)
  | [], h, acc => if Zbw src items h then .ok acc h else .stuck
  | d :: ds, h, acc => if Zbw src items h then match sg d ρ with
      | none => .stuck
      | some ρ1 => (noErr (t ρ1 h)).bind fun b h1 => if b = true then (noErr (e ρ1 h1 acc)).bind fun acc2 h2 => Zei src items sg t e ρ ds h2 acc2 else Zei src items sg t e ρ ds h1 acc
    else .stuck
noncomputable def Ze4 (it : MI) (sg : MG) (t : MT) (e : MEm) : MEm := fun ρ h acc => (noErr (it ρ h)).bind fun x h1 => Zei x.2 x.1 sg t e ρ x.1 h1 acc
noncomputable def ZcN (cs : List (Option Nat)) (it : MI) (sg : MG) (t : MT) (e : MEm) : ME := fun ρ h => (it ρ h).bind fun x h1 => (Zei x.2 x.1 sg t e (ZfH cs ρ) x.1 h1 []).bind Zhk
def tEm (K : PySem.W.Frag) (js : List Nat) (e : MEm) : TEm := fun σ H acc Q => ∃ m ρ h dacc, HR K m h H ∧ ER K m H ρ σ ∧ DVs K m H dacc acc ∧ Frs js σ ∧ Post K (rDs K) m H E0 Q (e ρ h dacc)
theorem EM.imp {X : Cx} {D : Addr} {em : Sem Unit} {te te' : TEm} (h : EM X D em te) (f : ∀ σ H acc Q, te' σ H acc Q → te σ H acc Q) : EM X D em te' :=
  fun rest its k acc σ H s Q I hr rv z => h rest its k acc σ H s Q I hr rv (f _ _ _ _ z)
theorem Znz {K : PySem.W.Frag} {js : List Nat} {f : ME} (σ : L2.St) (H : Hp) (acc : List V) (Q : List V → Hp → Prop) : tEm K js (Zeh f) σ H acc Q → Zmt (tD K E0 f) σ H acc Q := by
  rintro ⟨m, ρ, h, dacc, hr, er, da, _, p⟩
  unfold Zeh at p
  split at p
  · rename_i hz
    refine ⟨by rw [← DVs.len da]; exact hz, m, ρ, h, hr, er, Zcn p fun y h1 v m1 H1 _ p1 k1 hr1 r1 q1 => ?_⟩
    exact q1 _ m1 H1 (List.prefix_refl _) (.refl _) hr1 ((DVs.keep p1 k1 da).app (.cons r1 .nil))
  · exact p.elim
inductive EmI {β : Type} (K : PySem.W.Frag) (E : XK) (α : Type) (R : List Addr → Hp → α → β → Prop) (Q : β → Hp → Prop) (kk : List D → HD → Out α) (src : Src) (items : List D) (sg : MG) (t : MT) (e : MEm) (ρ : Rho) (m1 : List Addr) (H1 : Hp) (i n : Nat) (acc : List V) (H2 : Hp) : Prop where
  | mk (en : n = items.length - i) (l : i ≤ items.length) (m2 : List Addr) (h2 : HD) (dacc : List D) (p : m1 <+: m2) (k : Kp H1 H2) (hr : HR K m2 h2 H2) (da : DVs K m2 H2 dacc acc) (q : Post K R m2 H2 E Q ((Zei src items sg t e ρ (items.drop i) h2 dacc).bind kk)) : EmI K E α R Q kk src items sg t e ρ m1 H1 i n acc H2
theorem Zks {K : PySem.W.Frag} {E : XK} {α β : Type} {R : List Addr → Hp → α → β → Prop} {Q : β → Hp → Prop} {kk : List D → HD → Out α} {is js : List Nat} {gg : TG} {sg : MG} {t : MT} {e : MEm} {src : Src} {items : List D} {J : It} {ρ : Rho} {σ : L2.St} {m1 : List Addr} {h1 : HD} {H1 : Hp} {dacc : List D} {acc : List V} {QQ : List V → Hp → Prop}
    (hg : Zny K is js gg sg) (fr : Frs (is ++ js) σ) (er : ER K m1 H1 ρ σ) (r1 : rIt K m1 H1 (items, src) J) (hr1 : HR K m1 h1 H1) (da : DVs K m1 H1 dacc acc) (q : Post K R m1 H1 E Q ((Zei src items sg t e ρ items h1 dacc).bind kk))
    (fin : ∀ m h H dacc acc, m1 <+: m → Kp H1 H → HR K m h H → DVs K m H dacc acc → Post K R m H E Q (kk dacc h) → QQ acc H) :
    ∃ W : Nat → Nat → List V → Hp → Prop, (∃ n, W 0 n acc H1) ∧ ∀ i n acc H, W i n acc H → (J.stop i H ∧ QQ acc H) ∨
      (J.go i H ∧ ∀ x H', J.yld i H x H' → gg x σ H' fun σ2 H2 => Sub σ σ2 ∧ tBo K E0 t σ2 H2 fun b H3 => if b = true then tEm K js e σ2 H3 acc fun acc' H4 => ∃ n', n' < n ∧ W (i + 1) n' acc' H4 else ∃ n', n' < n ∧ W (i + 1) n' acc H3) := by
  refine ⟨EmI K E α R Q kk src items sg t e ρ m1 H1, ⟨items.length, rfl, Nat.zero_le _, m1, h1, dacc, List.prefix_refl _, .refl _, hr1, da, q⟩, ?_⟩
  rintro i n acc H2 ⟨rfl, hi', m2, h2, dacc, p2, k2, hr2, da, q2⟩
  by_cases hlt : i < items.length
  · rw [List.drop_eq_getElem_cons hlt] at q2
    unfold Zei at q2
    split at q2
    · rename_i hs
      obtain ⟨hgo, hy⟩ := (r1 i m2 h2 H2 p2 k2 hr2 hs).1 hlt
      refine .inr ⟨hgo, fun y H3 hyl => ?_⟩
      obtain ⟨k3, hr3, d, ed, rd⟩ := hy y H3 hyl
      have ed' : d = items[i] := by rw [List.getElem?_eq_getElem hlt] at ed; exact (Option.some.inj ed).symm
      subst ed'
      split at q2
      · exact q2.elim
      · rename_i ρ3 es
        refine hg m2 H3 _ y ρ σ ρ3 _ rd (er.keep p2 (k2.trans k3)) fr es fun σ4 sub4 fr4 er4 => ⟨sub4, m2, ρ3, h2, hr3, er4, ?_⟩
        rw [Out.bind_assoc] at q2
        refine Zcn (Post.ahead (List.prefix_refl _) k3 q2) fun b h5 v m5 H5 _ p5 k5 hr5 r5 q5 => ?_
        cases r5
        cases b with
        | false =>
          simp only [Bool.false_eq_true, if_false] at q5 ⊢
          exact ⟨items.length - (i + 1), by omega, rfl, hlt, m5, h5, dacc, p2.trans p5, (k2.trans k3).trans k5, hr5, DVs.keep p5 (k3.trans k5) da, q5⟩
        | true =>
          simp only [if_true] at q5 ⊢
          rw [Out.bind_assoc] at q5
          refine ⟨m5, ρ3, h5, dacc, hr5, er4.keep p5 k5, DVs.keep p5 (k3.trans k5) da, fr4, Zcn q5 fun z h6 w m6 H6 _ p6 k6 hr6 r6 q6 => ?_⟩
          exact ⟨items.length - (i + 1), by omega, rfl, hlt, m6, h6, z, (p2.trans p5).trans p6, ((k2.trans k3).trans k5).trans k6, hr6, r6, q6⟩
    · exact q2.elim
  · have he : i = items.length := Nat.le_antisymm hi' (Nat.le_of_not_lt hlt)
    subst he
    rw [List.drop_length] at q2
    unfold Zei at q2
    split at q2
    · rename_i hs
      exact .inl ⟨(r1 _ m2 h2 H2 p2 k2 hr2 hs).2 rfl, fin m2 h2 H2 dacc acc p2 k2 hr2 da q2⟩
    · exact q2.elim
theorem ZnA {K : PySem.W.Frag} {is js : List Nat} {it : MI} {gg : TG} {sg : MG} {t : MT} {e : MEm} (hg : Zny K is js gg sg) (σ : L2.St) (H : Hp) (acc : List V) (Q : List V → Hp → Prop) : tEm K (is ++ js) (Ze4 it sg t e) σ H acc Q → Zmu (tM K (rIt K) E0 it) gg (tBo K E0 t) (tEm K js e) σ H acc Q := by
  rintro ⟨m, ρ, h, dacc, hr, er, da, fr, p⟩
  unfold Ze4 at p
  refine ⟨m, ρ, h, hr, er, Zcn p fun x h1 J m1 H1 _ p1 k1 hr1 r1 q1 => ?_⟩
  refine Zks (E := E0) (kk := fun a h => .ok a h) hg fr (er.keep p1 k1) r1 hr1 (DVs.keep p1 k1 da) ?_ fun m2 h2 H2 dacc2 acc2 p2 k2 hr2 da2 q2 => q2 _ m2 H2 (List.prefix_refl _) (.refl _) hr2 da2
  have : ∀ o : Out (List D), (o.bind fun a h => .ok a h) = o := fun o => by cases o <;> rfl
  rw [this]
  exact q1
section
variable {X : Cx} {E : XK} {D : Addr} {elt tg iter : Expr} {ifs : List Expr} {gs gens : List Comprehension} {scope : Scope} {pos : Pos} {Nc : List Str} {cs : List (Option Nat)} {it : MI} {gg : TG} {sg : MG} {t : MT} {f : ME} {e : MEm} {d : Nat} {is js : List Nat}
theorem Zgc (ao : ZhC X D) (xe : X.xe = fun _ _ => False) (hl : gens[d + 1]? = none) (pe : Ev X E0 elt f) : EM X D (emS elt gens scope pos d (.ref D) X.env) (tEm X.K js (Zeh f)) := (Znv ao xe hl pe).imp Znz
theorem Zgd (xe : X.xe = fun _ _ => False) (xc : X.calm = true) (hg : gens[d + 1]? = some ⟨tg, iter, ifs, 0⟩) (ha : ∀ g, gens[d + 1 + 1]? = some g → g.is_async = 0) (hi : EvI X E0 tg iter it) (pg : PG X tg gg) (gk : Zny X.K is js gg sg) (pt : Zn6 X E0 ifs t) (em : EM X D (emS elt gens scope pos (d + 1) (.ref D) X.env) (tEm X.K js e))
    (hsf : ∀ x, foldedSetIterable iter X.env x = pure x := by intro _; rfl) : EM X D (emS elt gens scope pos d (.ref D) X.env) (tEm X.K (is ++ js) (Ze4 it sg t e)) := (Znx xe xc hg ha hi pg pt em hsf).imp (ZnA gk)
theorem ZlM (hc : ∀ j ∈ is ++ js, cs[j]? = some none) (hg : Zny X.K is js gg sg) : ∀ σ H Q, tD X.K E (ZcN cs it sg t e) σ H Q → Zkq cs (tM X.K (rIt X.K) E it) gg (tBo X.K E0 t) (tEm X.K js e) σ H Q := by
  rintro σ H Q ⟨m, ρ, h, hr, er, p⟩
  refine ⟨m, ρ, h, hr, er, Post.bind p fun x h1 J m1 H1 _ p1 k1 hr1 r1 q1 => ?_⟩
  exact Zks (QQ := fun acc H => acc.length ≤ sizeLine ∧ ∀ p, H p = none → Q (.ref p) (upd H p (.lst acc))) hg (fun j hj => by unfold cSt; rw [List.getElem?_map, hc j hj]; rfl) ((er.keep p1 k1).comp cs) r1 hr1 .nil q1 fun m2 h2 H2 dacc2 acc2 p2 k2 hr2 da2 q2 => ZcL (X := X) hr2 da2 q2
theorem Zge (hcalm : X.calm = true) (S : ZdD X scope Nc cs) (hi : EvI X E tg iter it) (ha : ∀ g, gs[0]? = some g → g.is_async = 0) (hc : ∀ j ∈ is ++ js, cs[j]? = some none) (hg : Zny X.K is js gg sg)
    (hb : ∀ (C D : Addr) (cells : List (Str × Addr)) (fp : List Addr) (s₀ : Shared) (H₀ : Hp) (pins : List (Addr × Obj)), ZhC (cCx X Nc scope C D cells fp s₀ H₀ pins) D → PG (cCx X Nc scope C D cells fp s₀ H₀ pins) tg gg ∧ Zn6 (cCx X Nc scope C D cells fp s₀ H₀ pins) E0 ifs t ∧
      EM (cCx X Nc scope C D cells fp s₀ H₀ pins) D (emS elt (⟨tg, iter, ifs, 0⟩ :: gs) scope pos 0 (.ref D) (cCx X Nc scope C D cells fp s₀ H₀ pins).env) (tEm X.K js e))
    (hsf : ∀ x, foldedSetIterable iter X.env x = pure x := by intro _; rfl) : Ev X E (.ListComp elt (⟨tg, iter, ifs, 0⟩ :: gs) scope pos) (ZcN cs it sg t e) :=
  ZbQ (ZlL (g := gg) (tc := tBo X.K E0 t) (te := tEm X.K js e) hcalm S hi ha hb hsf) (ZlM hc hg)
end
end LS
namespace LS
open PySem PySem.Spec PyProof.Rows L2
theorem Zgf {α : Type} {src : Src} {items : List D} {sg : MG} {t : MT} {e : MEm} {ρ : Rho} (φ : α → D) (g : α → Bool) (es : α → List D) (ρ1 : α → Rho) :
    ∀ (xs : List α) (h : HD) (acc : List D), (∀ h', Sm h h' → Zbw src items h') → (∀ x ∈ xs, sg (φ x) ρ = some (ρ1 x)) → (∀ x ∈ xs, ∀ h', Sm h h' → Pu (t (ρ1 x) h') h' (g x)) → (∀ x ∈ xs, g x = true → ∀ h' acc, Sm h h' → acc.length + (es x).length ≤ sizeLine → Pu (e (ρ1 x) h' acc) h' (acc ++ es x)) →
      acc.length + ((xs.filter g).flatMap es).length ≤ sizeLine → Pu (Zei src items sg t e ρ (xs.map φ) h acc) h (acc ++ (xs.filter g).flatMap es)
  | [], h, acc, hs, _, _, _, _ => by
    simp only [List.map_nil, List.filter_nil, Zei]
    rw [if_pos (hs h (.refl _))]
    simpa using (.ok : Pu (.ok acc h) h acc)
  | x :: xs, h, acc, hs, hg, ht, hf, hz => by
    simp only [List.map_cons, Zei]
    rw [if_pos (hs h (.refl _)), hg x List.mem_cons_self]
    simp only
    refine Pu.bind (ht x List.mem_cons_self h (.refl _)).noErr fun h1 s1 => ?_
    have ih : ∀ h2 acc, Sm h h2 → acc.length + ((xs.filter g).flatMap es).length ≤ sizeLine → Pu (Zei src items sg t e ρ (xs.map φ) h2 acc) h2 (acc ++ (xs.filter g).flatMap es) := fun h2 acc s2 z2 => Zgf φ g es ρ1 xs h2 acc (fun h' s' => hs h' (s2.trans s'))
      (fun y hy => hg y (List.mem_cons_of_mem _ hy)) (fun y hy h' s' => ht y (List.mem_cons_of_mem _ hy) h' (s2.trans s')) (fun y hy gy h' a s' z' => hf y (List.mem_cons_of_mem _ hy) gy h' a (s2.trans s') z') z2
    cases hgx : g x with
    | false =>
      rw [List.filter_cons_of_neg (by simp [hgx])] at hz ⊢
      rw [if_neg Bool.false_ne_true]
      exact ih h1 acc s1 hz
    | true =>
      rw [List.filter_cons_of_pos hgx, List.flatMap_cons] at hz ⊢
      rw [List.length_append] at hz
      rw [if_pos rfl]
      refine Pu.bind (hf x List.mem_cons_self hgx h1 acc s1 (by omega)).noErr fun h2 s2 => ?_
      have := ih h2 (acc ++ es x) (s1.trans s2) (by rw [List.length_append]; omega)
      rwa [List.append_assoc] at this
theorem ZlN {f : ME} {ρ : Rho} {h : HD} {acc : List D} {y : D} (hf : Pu (f ρ h) h y) (hz : acc.length + 1 ≤ sizeLine) : Pu (Zeh f ρ h acc) h (acc ++ [y]) := by
  unfold Zeh
  rw [if_pos (by omega)]
  exact Pu.bind hf.noErr fun h2 s2 => .ok
theorem Zgg {α β : Type} {y : α → β} : ∀ {xs : List α}, xs.flatMap (fun x => [y x]) = xs.map y
  | [] => rfl
  | x :: xs => by rw [List.flatMap_cons, Zgg, List.map_cons]; rfl
section
variable {α β : Type} {cs : List (Option Nat)} {it : MI} {sg : MG} {t : MT} {f : ME} {e : MEm} {ρ : Rho} {h : HD} {src : Src} {xs : List α} {φ : α → D} {acc : List D}
theorem ZlO (g : α → Bool) (es : α → List D) (ρ1 : α → Rho) (hi : It0 (it ρ h) h (xs.map φ) src) (hg : ∀ x ∈ xs, sg (φ x) ρ = some (ρ1 x)) (ht : ∀ x ∈ xs, ∀ h', Sm h h' → Pu (t (ρ1 x) h') h' (g x)) (hf : ∀ x ∈ xs, g x = true → ∀ h' acc, Sm h h' → acc.length + (es x).length ≤ sizeLine → Pu (e (ρ1 x) h' acc) h' (acc ++ es x))
    (hz : acc.length + ((xs.filter g).flatMap es).length ≤ sizeLine) : Pu (Ze4 it sg t e ρ h acc) h (acc ++ (xs.filter g).flatMap es) := by
  unfold Ze4 Pu
  have : Wp (noErr (it ρ h)) fun x h' => x = (xs.map φ, src) ∧ Sm h h' ∧ ∀ h2, Sm h' h2 → Zbw src (xs.map φ) h2 := by
    unfold It0 at hi
    cases eo : it ρ h with
    | ok a h1 => rw [eo] at hi; exact hi
    | err C fs h1 => rw [eo] at hi; exact hi
    | stuck => rw [eo] at hi; exact hi
  rw [Zao]
  refine Wp.mono this fun x h1 z => ?_
  obtain ⟨rfl, s1, hs⟩ := z
  exact (Zgf φ g es ρ1 xs h1 acc hs hg (fun x hx h' s' => ht x hx h' (s1.trans s')) (fun x hx gx h' a s' z' => hf x hx gx h' a (s1.trans s') z') hz).wp fun h2 s2 => ⟨rfl, s1.trans s2⟩
theorem ZdV (y : α → D) (ρ1 : α → Rho) (hi : It0 (it ρ h) h (xs.map φ) src) (hg : ∀ x ∈ xs, sg (φ x) ρ = some (ρ1 x)) (hf : ∀ x ∈ xs, ∀ h', Sm h h' → Pu (f (ρ1 x) h') h' (y x)) (hz : acc.length + (xs.map y).length ≤ sizeLine) :
    Pu (Ze4 it sg ZbB (Zeh f) ρ h acc) h (acc ++ xs.map y) := by
  have := ZlO (t := ZbB) (e := Zeh f) (acc := acc) (fun _ => true) (fun x => [y x]) ρ1 hi hg (fun x hx h' s' => (.ok : Pu (.ok true h') h' true)) (fun x hx _ h' acc s' z' => ZlN (hf x hx h' s') z') (by rw [ZbE, Zgg]; exact hz)
  rwa [ZbE, Zgg] at this
theorem Zip {Q : D → HD → Prop} (g : α → Bool) (es : α → List D) (ρ1 : α → Rho) (hi : It0 (it ρ h) h (xs.map φ) src) (hg : ∀ x ∈ xs, sg (φ x) (ZfH cs ρ) = some (ρ1 x)) (ht : ∀ x ∈ xs, ∀ h', Sm h h' → Pu (t (ρ1 x) h') h' (g x)) (hf : ∀ x ∈ xs, g x = true → ∀ h' acc, Sm h h' → acc.length + (es x).length ≤ sizeLine → Pu (e (ρ1 x) h' acc) h' (acc ++ es x))
    (hz : ((xs.filter g).flatMap es).length ≤ sizeLine) (q : ∀ l h', Sm h h' → h'[l]? = some (.lst ((xs.filter g).flatMap es)) → Q (.loc l) h') : Wp (ZcN cs it sg t e ρ h) Q := by
  unfold ZcN
  rw [Zao]
  refine Wp.mono hi fun x h1 z => ?_
  obtain ⟨rfl, s1, hs⟩ := z
  rw [Zao]
  refine (Zgf φ g es ρ1 xs h1 [] hs hg (fun x hx h' s' => ht x hx h' (s1.trans s')) (fun x hx gx h' a s' z' => hf x hx gx h' a (s1.trans s') z') (by simpa using hz)).wp fun h2 s2 => ?_
  rw [List.nil_append]
  exact ZaS hz fun l h3 s3 e3 _ _ => q l h3 ((s1.trans s2).trans s3) e3
noncomputable def ZnB (cs : List (Option Nat)) (it : MI) (sg : MG) (t : MT) (e : MEm) : ME := Zaf (ar1 Zbg) (Zab (ZcN cs it sg t e) Zal)
noncomputable def ZnC (cs : List (Option Nat)) (it : MI) (sg : MG) (t : MT) (e : MEm) : ME := Zaf (ar1 ZiK) (Zab (ZcN cs it sg t e) Zal)
@[simp] theorem Zod : Zaf (ar1 Zbg) (Zab (ZcN cs it sg t e) Zal) ρ h = ZnB cs it sg t e ρ h := rfl
@[simp] theorem Zoe : Zaf (ar1 ZiK) (Zab (ZcN cs it sg t e) Zal) ρ h = ZnC cs it sg t e ρ h := rfl
theorem Zkt (es : α → List D) (ρ1 : α → Rho) (hi : It0 (it ρ h) h (xs.map φ) src) (hg : ∀ x ∈ xs, sg (φ x) (ZfH cs ρ) = some (ρ1 x)) (hf : ∀ x ∈ xs, ∀ h' acc, Sm h h' → acc.length + (es x).length ≤ sizeLine → Pu (e (ρ1 x) h' acc) h' (acc ++ es x))
    (hz : (xs.flatMap es).length ≤ sizeLine) : Pu (ZnB cs it sg ZbB e ρ h) h (.tup (xs.flatMap es)) := by
  unfold ZnB Pu
  rw [ZdR, ZdS]
  refine Zip (fun _ => true) es ρ1 hi hg (fun x hx h' s' => (.ok : Pu (.ok true h') h' true)) (fun x hx _ h' a s' z' => hf x hx h' a s' z') (by rw [ZbE]; exact hz) fun l h' s' e' => ?_
  rw [ZeW]
  rw [ZbE] at e'
  simp only [ar1, Zbg, e']
  exact ⟨rfl, s'⟩
theorem ZnD (bs : α → List Bool) (ρ1 : α → Rho) (hi : It0 (it ρ h) h (xs.map φ) src) (hg : ∀ x ∈ xs, sg (φ x) (ZfH cs ρ) = some (ρ1 x)) (hf : ∀ x ∈ xs, ∀ h' acc, Sm h h' → acc.length + ((bs x).map D.bl).length ≤ sizeLine → Pu (e (ρ1 x) h' acc) h' (acc ++ (bs x).map D.bl))
    (hz : (xs.flatMap bs).length ≤ sizeLine) : Pu (ZnC cs it sg ZbB e ρ h) h (.bl ((xs.flatMap bs).all id)) := by
  unfold ZnC Pu
  rw [ZdR, ZdS]
  have hm : (xs.flatMap fun x => (bs x).map D.bl) = (xs.flatMap bs).map D.bl := List.map_flatMap.symm
  refine Zip (fun _ => true) (fun x => (bs x).map D.bl) ρ1 hi hg (fun x hx h' s' => (.ok : Pu (.ok true h') h' true)) (fun x hx _ h' a s' z' => hf x hx h' a s' z') (by rw [ZbE, hm, List.length_map]; exact hz) fun l h' s' e' => ?_
  rw [ZeW]
  rw [ZbE, hm] at e'
  simp only [ar1, ZiK, e', List.map_map]
  rw [Zcr (f := Zm1 ∘ D.bl) (g := id) (fun x _ => rfl)]
  refine ⟨?_, s'⟩
  simp [List.all_map]
end
end LS
namespace Tp
open PySem PySem.W PySem.Spec PySem.Calls PyProof.Rows
section
variable {α β : Type}
noncomputable def fN (n : Nat) (k : Nat → α) : α := @Nat.rec (fun _ => α) (k 0) (fun m _ => k (Nat.succ m)) n
theorem ZlP (n : Nat) (k : Nat → α) : fN n k = k n := by cases n <;> rfl
noncomputable def fL (l : List β) : (List β → α) → α := @List.rec β (fun _ => (List β → α) → α) (fun k => k []) (fun a _ ih k => ih fun l' => k (a :: l')) l
theorem Zku : ∀ (l : List β) (k : List β → α), fL l k = k l
  | [], _ => rfl
  | a :: l, k => Zku l fun l' => k (a :: l')
noncomputable def fE (l : List DictEntry) : (List DictEntry → α) → α := @List.rec DictEntry (fun _ => (List DictEntry → α) → α) (fun k => k []) (fun a _ ih k => ih fun l' => @DictEntry.rec (fun _ => α) (fun x y z => k (⟨x, y, z⟩ :: l')) a) l
theorem Zpy : ∀ (l : List DictEntry) (k : List DictEntry → α), fE l k = k l
  | [], _ => rfl
  | ⟨_, _, _⟩ :: l, k => Zpy l fun l' => k (_ :: l')
noncomputable def fD (d : Data) (k : Data → α) : α := @Data.rec (fun _ => α) (k .plain) (fun v => k (.prim v)) (fun x n => @Array.rec Value (fun _ => α) (fun l => fL l fun l => fN n fun n => k (.seq ⟨l⟩ n)) x)
  (fun x n => @Array.rec DictEntry (fun _ => α) (fun l => fE l fun l => fN n fun n => k (.dict ⟨l⟩ n)) x) (fun x n t => k (.set x n t)) (fun b n => k (.bytearray b n)) (fun v => k (.cell v)) (fun f => k (.func f)) (fun c => k (.cls c))
  (fun x => @Array.rec Value (fun _ => α) (fun l => fL l fun l => k (.fields ⟨l⟩)) x) (k .freed) d
theorem ZrZ (d : Data) (k : Data → α) : fD d k = k d := by
  cases d with
  | seq x n => cases x; simp only [fD, Zku, ZlP]
  | dict x n => cases x; simp only [fD, Zpy, ZlP]
  | fields x => cases x; simp only [fD, Zku]
  | _ => rfl
noncomputable def fO (o : Obj) (k : Obj → α) : α := @Obj.rec (fun _ => α) (fun c d da sl => fD da fun da => k ⟨c, d, da, sl⟩) o
theorem Zpz (o : Obj) (k : Obj → α) : fO o k = k o := by cases o; simp only [fO, ZrZ]
noncomputable def fT (t : BT) : (BT → α) → α := @BT.rec (fun _ => (BT → α) → α) (fun k => k .nil) (fun v _ _ il ir k => fO v fun v => il fun l => ir fun r => k (.node v l r)) t
theorem ZnE : ∀ (t : BT) (k : BT → α), fT t k = k t
  | .nil, _ => rfl
  | .node v l r, k => by
    show fO v (fun v => fT l fun l => fT r fun r => k (.node v l r)) = _
    rw [Zpz, ZnE l, ZnE r]
noncomputable def fS (s : SharedT) (k : SharedT → α) : α := @SharedT.rec (fun _ => α) (fun t n li g d tk os => fT t fun t => fN n fun n => fN tk fun tk => @Drawn.rec (fun _ => α) (fun a b c e => @Array.rec GenState (fun _ => α) (fun g => fL g fun g => k ⟨t, n, li, ⟨g⟩, ⟨a, b, c, e⟩, tk, os⟩) g) d) s
theorem ZnF (s : SharedT) (k : SharedT → α) : fS s k = k s := by
  obtain ⟨t, n, li, ⟨g⟩, ⟨a, b, c, e⟩, tk, os⟩ := s
  simp only [fS, ZnE, ZlP, Zku]
noncomputable def fP (p : Pos) (k : Pos → α) : α := @Pos.rec (fun _ => α) (fun a b c d => fN a fun a => fN b fun b => fN c fun c => fN d fun d => k ⟨a, b, c, d⟩) p
theorem ZnG (p : Pos) (k : Pos → α) : fP p k = k p := by cases p; simp only [fP, ZlP]
end
section
variable (stp : SharedT → Thread → Option (SharedT × Thread)) (ok : Thread → Bool) (seg : Nat → SharedT → Thread → Option (Flow × SharedT × Code × Pos))
noncomputable def Zi0 (env : Env) (c : Code) (f : Nat) : List (List Stmt) → SharedT → Pos → List Code → Option (SharedT × Pos × List Code)
  | [], s, pos, cs => some (s, pos, cs)
  | l :: ls, s, pos, cs => match seg f s (piecesOf l env c pos [topFrame ⟨0, 0, 0, 0⟩]) with
    | some (.next, s', c', pos') => fS s' fun s' => fP pos' fun pos' => Zi0 env c f ls s' pos' (c' :: cs)
    | _ => none
def Ziq : Nat → SharedT → Thread → Option (SharedT × Thread)
  | 0, s, t => some (s, t)
  | n + 1, s, t => match through t with
    | true => none
    | false => match ok t with
      | false => none
      | true => match stp s t with
        | some (s', t') => Ziq n s' t'
        | none => none
def Zgh : Nat → SharedT → Thread → Option SharedT
  | 0, _, _ => none
  | n + 1, s, t => match through t with
    | true => some s
    | false => match ok t with
      | false => none
      | true => match stp s t with
        | some (s', t') => Zgh n s' t'
        | none => none
def cut : Nat → List Stmt → List (List Stmt)
  | 0, l => [l]
  | n + 1, l => match l with
    | [] => []
    | x :: l => [x] :: cut n l
theorem Zir : ∀ (n : Nat) (l : List Stmt), (cut n l).flatten = l
  | 0, l => by simp [cut]
  | _ + 1, [] => rfl
  | n + 1, x :: l => by simp [cut, Zir n l]
theorem Zkv : ∀ (n : Nat) (l : List Stmt), (cut n l).length ≤ n + 1
  | 0, l => Nat.le_refl _
  | _ + 1, [] => Nat.zero_le _
  | n + 1, x :: l => Nat.succ_le_succ (Zkv n l)
def Zr0 (p : Program) : Env := { scope := p.main.scope, locals := mainNs, globals := mainNs, cells := [], code := .ref 13, frame := some 14 }
def ZhE (p : Program) : Code := .body (behindTheImports p) (Zr0 p)
noncomputable def Zfp (p : Program) (S0 : SharedT) : Option (Thread × List Code × SharedT) := match Ziq stp ok 12 S0 (topStub p) with
  | some (sa, ta) => match seg 1 sa (blockOf (behindTheImports p) (Zr0 p) (ZhE p) ⟨0, 0, 0, 0⟩ [topFrame ⟨0, 0, 0, 0⟩]) with
    | some (.next, sb, cb, pb) => fS sb fun sb => fP pb fun pb => match Zi0 seg (Zr0 p) (ZhE p) 2000 (cut 400 (behindTheImports p)) sb pb [cb] with
      | some (sf, pf, cs) => match Zgh stp ok 2 sf ⟨doneF .next, ZhE p, pf, [topFrame ⟨0, 0, 0, 0⟩]⟩ with
        | some sg => some (ta, cs, sg)
        | none => none
      | none => none
    | _ => none
  | none => none
end
noncomputable def ZpA (P : Params) (os : OsState) : SharedT := ⟨((boot_heap P).objs.toList.foldl (fun (x : BT × Nat) o => (x.1.ins x.2 o, x.2 + 1)) (.nil, 0)).1, 11, (boot_heap P).life, ⟨[]⟩, boot_drawn, boot_toks, os⟩
theorem ZlQ (P : Params) (os : OsState) : (ZpA P os).abs = ⟨boot_heap P, ⟨[]⟩, boot_drawn, boot_toks, os⟩ := by kernel_rfl
section
variable {α : Type}
noncomputable def fOs (l : List Obj) : (List Obj → α) → α := @List.rec Obj (fun _ => (List Obj → α) → α) (fun k => k []) (fun a _ ih k => fO a fun a => ih fun l' => k (a :: l')) l
theorem Zmv : ∀ (l : List Obj) (k : List Obj → α), fOs l k = k l
  | [], _ => rfl
  | a :: l, k => by show fO a (fun a => fOs l fun l' => k (a :: l')) = _; rw [Zpz, Zmv]
noncomputable def fin (s : SharedT) (k : Shared → α) : α := fOs (s.tree.list s.n) fun l => k ⟨⟨⟨l⟩, s.life⟩, s.gens, s.drawn, s.toks, s.os⟩
theorem ZpB (s : SharedT) (k : Shared → α) : fin s k = k s.abs := Zmv _ _
end
section
variable {tb : String → Option Builtin} {p : Program} {w : World} {m0 : Nat} {ann : Option Value}
theorem Zis : ∀ {n : Nat} {s s' : SharedT} {t t' : Thread}, Ziq (stepT (denote tb) p w) (stepOk m0 ann) n s t = some (s', t') → topGo tb p w m0 ann n s.abs t = some (s'.abs, t')
  | 0, _, _, _, _, h => by cases h; rfl
  | n + 1, s, s', t, t', h => by
    unfold Ziq at h
    unfold topGo
    cases he : through t with
    | true => rw [he] at h; cases h
    | false =>
      rw [he] at h
      cases hk : stepOk m0 ann t with
      | false => rw [hk] at h; cases h
      | true =>
        rw [hk] at h
        cases hs : stepT (denote tb) p w s t with
        | none => rw [hs] at h; cases h
        | some r => obtain ⟨s₂, t₂⟩ := r; rw [hs] at h; rw [stepT_spec hs]; exact Zis h
theorem ZgX : ∀ {n : Nat} {s s' : SharedT} {t : Thread}, Zgh (stepT (denote tb) p w) (stepOk m0 ann) n s t = some s' → topRun tb p w m0 ann n s.abs t = some s'.abs
  | 0, _, _, _, h => by cases h
  | n + 1, s, s', t, h => by
    unfold Zgh at h
    unfold topRun
    cases he : through t with
    | true => rw [he] at h; cases h; rfl
    | false =>
      rw [he] at h
      cases hk : stepOk m0 ann t with
      | false => rw [hk] at h; cases h
      | true =>
        rw [hk] at h
        cases hs : stepT (denote tb) p w s t with
        | none => rw [hs] at h; cases h
        | some r => obtain ⟨s₂, t₂⟩ := r; rw [hs] at h; rw [stepT_spec hs]; exact ZgX h
theorem Ze5 {seg : Nat → SharedT → Thread → Option (Flow × SharedT × Code × Pos)} {env : Env} {c : Code} {f : Nat} : ∀ {ls : List (List Stmt)} {s sf : SharedT} {pos pf : Pos} {c0 cs : List Code}, Zi0 seg env c f ls s pos c0 = some (sf, pf, cs) → ∀ x ∈ c0, x ∈ cs
  | [], _, _, _, _, _, _, h, x, hx => by cases h; exact hx
  | l :: ls, s, sf, pos, pf, c0, cs, h, x, hx => by
    unfold Zi0 at h
    split at h
    · rw [ZnF, ZnG] at h; exact Ze5 h x (.tail _ hx)
    · cases h
theorem ZgY {env : Env} {c : Code} {f : Nat} : ∀ {ls : List (List Stmt)} {s sf : SharedT} {pos pf : Pos} {c0 cs : List Code}, Zi0 (segRunT tb p w m0 ann 1) env c f ls s pos c0 = some (sf, pf, cs) → (∀ x ∈ cs, x = c) → ∀ {N : Nat} {r : Shared},
    topRun tb p w m0 ann N sf.abs ⟨doneF .next, c, pf, [topFrame ⟨0, 0, 0, 0⟩]⟩ = some r → topRun tb p w m0 ann (ls.length * f + N) s.abs (restOf ls.flatten env c pos [topFrame ⟨0, 0, 0, 0⟩]) = some r
  | [], s, sf, pos, pf, c0, cs, h, hc, N, r, k => by
    cases h
    rw [List.length_nil, Nat.zero_mul, Nat.zero_add]
    exact piece_nil k
  | l :: ls, s, sf, pos, pf, c0, cs, h, hc, N, r, k => by
    unfold Zi0 at h
    split at h
    · rename_i s' c' pos' e
      rw [ZnF, ZnG] at h
      have e1 := segRun_of e
      rw [hc c' (Ze5 h c' (.head _))] at e1
      have := piece_app (rest := ls.flatten) e1 (ZgY h hc k)
      rw [List.length_cons, Nat.succ_mul, Nat.add_comm (ls.length * f) f, Nat.add_assoc]
      exact this
    · cases h
end
noncomputable def Zr1 {α : Type} (OS : Program → List Str → List Str → (Shared → Bool) → Bool → Shared → _) (IM : List Stmt → List Str) (p q : Program) (loose : List Str) (Yf : Shared → α) (H₀ : Heap) (s : Shared) :=
  ((staticsOk (IM p.main.body) H₀ s.heap && namesBound p s.heap && gensDone s && laidKept H₀ s.heap), (OS q loose (IM p.main.body) (fun _ => true) true s : type_of% (openSeen q loose [] (fun _ => true) true s)), Yf s)
theorem left_of {p q : Program} {loose : List Str} {α : Type} {Yf : Shared → α} {Ya : World → α} {n : Nat} (e : opening p = plainProg p.main.scope.names) (fm : ∀ s, fenceModules? p s = some s)
    (size : ∀ w : World, ((boot_heap w.params).isNs mainGlobals && (Array.mk ([] : List GenState)).size == 0, (boot_heap w.params).objs.size, (boot_heap w.params).nsMap mainGlobals "__annotations__") = (true, 11, some (.ref 6)))
    (h : ∀ (w : World) (os : OsState), (Zfp (stepT (denote treeTable) p w) (stepOk 11 (some (.ref 6))) (segRunT treeTable p w 11 (some (.ref 6)) 1) p (ZpA w.params os)).map (fun r => (r.1, r.2.1, fin r.2.2 (Zr1 openSeen importedModules p q loose Yf (boot_heap w.params)))) =
      some (⟨denote treeTable (ZhE p), ZhE p, ⟨0, 0, 0, 0⟩, [topFrame ⟨0, 0, 0, 0⟩]⟩, List.replicate n (ZhE p), (true, openGood q loose, Ya w))) :
    LeftO p q loose (fun _ => true) Yf Ya 1000000 := fun w => by
  obtain ⟨⟨hp, gs, d, k, os⟩, e0, e'⟩ := Option.map_eq_some_iff.mp (boot_open (N := 1000000) e rfl fm w)
  obtain ⟨rfl, rfl, rfl, rfl⟩ : hp = boot_heap w.params ∧ gs = Array.mk [] ∧ d = boot_drawn ∧ k = boot_toks := by simpa using e'
  obtain ⟨z1, z2, z3⟩ : _ ∧ _ ∧ _ := by simpa only [Prod.mk.injEq] using size w
  obtain ⟨⟨ta, cs, sg⟩, h1, h2⟩ := Option.map_eq_some_iff.mp (h w os)
  dsimp only at h2
  rw [ZpB] at h2
  obtain ⟨h3, h4⟩ := Prod.mk.inj h2
  obtain ⟨h5, h6⟩ := Prod.mk.inj h4
  obtain ⟨l1, h7⟩ := Prod.mk.inj h6
  obtain ⟨l2, l3⟩ := Prod.mk.inj h7
  have hcs : ∀ x ∈ cs, x = ZhE p := fun x hx => by rw [h5] at hx; exact List.eq_of_mem_replicate hx
  have run : topRun treeTable p w 11 (some (.ref 6)) 1000000 ⟨boot_heap w.params, Array.mk [], boot_drawn, boot_toks, os⟩ (topStub p) = some sg.abs := by
    rw [← ZlQ]
    unfold Zfp at h1
    split at h1
    · rename_i sa ta' ea
      split at h1
      · rename_i sb cb pb eb
        rw [ZnF, ZnG] at h1
        split at h1
        · rename_i sf pf cs' ec
          split at h1
          · rename_i sg' eg
            cases h1
            have hb := segRun_of eb
            rw [hcs cb (Ze5 ec cb (.head _))] at hb
            have c1 := ZgY ec hcs (ZgX eg)
            rw [Zir] at c1
            have c2 := piece_block hb c1
            have c3 := Zis ea
            rw [h3] at c3
            have c4 := go_top c3 c2
            have hl := Zkv 400 (behindTheImports p)
            have := topRun_mono (1000000 - (12 + (1 + ((cut 400 (behindTheImports p)).length * 2000 + 2)))) _ _ _ _ c4
            rwa [show 12 + (1 + ((cut 400 (behindTheImports p)).length * 2000 + 2)) + (1000000 - (12 + (1 + ((cut 400 (behindTheImports p)).length * 2000 + 2)))) = 1000000 by omega] at this
          · cases h1
        · cases h1
      · cases h1
    · cases h1
  have t : topFrom treeTable p w 1000000 ⟨boot_heap w.params, Array.mk [], boot_drawn, boot_toks, os⟩ = some sg.abs := by
    unfold topFrom
    dsimp only
    rw [z1, z2, z3, run]
    show (match staticsOk (importedModules p.main.body) (boot_heap w.params) sg.abs.heap && namesBound p sg.abs.heap && gensDone sg.abs && laidKept (boot_heap w.params) sg.abs.heap with | true => _ | false => _) = _
    rw [l1]
  unfold openEnds
  rw [e0]
  show (topFrom treeTable p w 1000000 _).map _ = _
  rw [t]
  exact congrArg some (Prod.ext l2 l3)
def Ztk (h : Heap) (a : Addr) : Option (Addr × Obj) := match h.get? a with
  | some o => (match o.cls, a == mainNs || a == cStatics with
    | .none, false => none
    | _, _ => some (a, o))
  | none => none
def ZpC (h : Heap) : Frag := (List.range h.objs.size).filterMap (Ztk h)
theorem lookup_mem {a : Addr} {o : Obj} : ∀ {l : Frag}, l.lookup a = some o → (a, o) ∈ l
  | [], h => by cases h
  | (b, o') :: l, h => by
    rw [List.lookup_cons] at h
    split at h
    · rename_i q
      cases h
      rw [beq_iff_eq.mp q]
      exact .head _
    · exact .tail _ (lookup_mem h)
theorem ZlR (h : Heap) : (ZpC h).In h := fun a o e => by
  obtain ⟨b, _, hb⟩ := List.mem_filterMap.mp (lookup_mem e)
  unfold Ztk at hb
  split at hb
  · rename_i o' e'
    split at hb
    · cases hb
    · cases hb; exact e'
  · cases hb
def blank (fd : FuncData) : FuncData := { fd with kwdefaults := .none, doc := .none, pyModule := .none, annotations := none, code := .none, closureTuple := .none }
def Zkw (K : Frag) (n : Str) : Option (FuncData × Bool × Bool) := match nsIn K mainGlobals n with
  | some (some (.ref f)) => (match K.lookup f with
    | some ⟨_, _, .func fd, _⟩ => some (blank fd, codeIn K fd.code n, keepIn K (.ref f))
    | _ => none)
  | _ => none
abbrev fnW (n : Str) (st : Stmt) : FuncData := fnOf n n (L2.defArgs st) (L2.defBody st) (L2.defScope st) .none .none .none .none none .none .none
inductive ZnH (K : Frag) (n : Str) (st : Stmt) : Prop where
  | mk (f : Addr) (od an : Option Addr) (sl : Array (Option Value)) (oc kV dc pm cd ct : Value) (a : nsIn K mainGlobals n = some (some (.ref f)))
      (l : K.lookup f = some ⟨oc, od, .func (fnOf n n (L2.defArgs st) (L2.defBody st) (L2.defScope st) .none kV dc pm an cd ct), sl⟩) (c : codeIn K cd n = true) (k : keepIn K (.ref f) = true) : ZnH K n st
theorem ZlS {K : Frag} {n : Str} {st : Stmt} (e : Zkw K n = some (fnW n st, true, true)) : ZnH K n st := by
  unfold Zkw at e
  split at e
  · rename_i f hf
    split at e
    · rename_i oc od fd sl hl
      obtain ⟨e1, e2⟩ := Prod.mk.inj (Option.some.inj e)
      obtain ⟨e3, e4⟩ := Prod.mk.inj e2
      obtain ⟨x1, x2, x3, x4, x5, x6, x7, x8, x9, x10, x11, x12, x13, x14, x15⟩ := fd
      replace e1 : FuncData.mk x1 x2 x3 x4 x5 x6 x7 x8 .none .none .none none .none .none x15 = fnW n st := e1
      injection e1 with y1 y2 y3 y4 y5 y6 y7 y8 y9 y10 y11 y12 y13 y14 y15
      subst x1 x2 x3 x4 x5 x6 x7 x8 x15
      exact ⟨f, od, x12, sl, oc, x9, x10, x11, x13, x14, hf, hl, e3, e4⟩
    · cases e
  · cases e
def ZnI (K : Frag) (x : Str) : Option Int := match nsIn K mainGlobals x with
  | some (some (.int v _)) => some v
  | _ => none
theorem ZlT {K : Frag} {x : Str} {v : Int} (e : ZnI K x = some v) : ∃ t, nsIn K mainGlobals x = some (some (.int v t)) := by
  unfold ZnI at e
  split at e
  · rename_i t h; cases e; exact ⟨t, h⟩
  · cases e
def Zkx (K : Frag) (h : Heap) : Option (Option Obj × Bool × Bool) := match LS.tabP K with
  | some (c, T) => some (h.get? T, codeHdIn K c T, (K.lookup T).isNone)
  | none => none
structure Want where
  fs : List (Str × Stmt)
  cs : List (Str × Int)
  bs : List Str
abbrev Ztl := List (Option (FuncData × Bool × Bool)) × List (Option Int) × List (Option (Option Value)) × Bool × Option (Option Obj × Bool × Bool)
noncomputable def obsK (W : Want) (s : Shared) : Ztl := fL (ZpC s.heap) fun K =>
  (W.fs.map fun x => Zkw K x.1, W.cs.map fun x => ZnI K x.1, W.bs.map (nsIn K mainGlobals), LS.etOk K, Zkx K s.heap)
def valK (W : Want) : Ztl := (W.fs.map fun x => some (fnW x.1 x.2, true, true), W.cs.map fun x => some x.2, W.bs.map fun _ => some none, true, some (some (tabObj #[]), true, true))
inductive Has (W : Want) (K : Frag) (c T : Addr) : Prop where
  | mk (fs : ∀ (i : Nat) n st, W.fs[i]? = some (n, st) → ZnH K n st) (cs : ∀ (i : Nat) n v, W.cs[i]? = some (n, v) → ∃ t, nsIn K mainGlobals n = some (some (.int v t))) (bs : ∀ (i : Nat) n, W.bs[i]? = some n → nsIn K mainGlobals n = some none)
      (et : LS.etOk K = true) (tb : LS.tabP K = some (c, T)) (hd : codeHdIn K c T = true) (no : K.lookup T = none) : Has W K c T
def Says (W : Want) (_ : World) (h : Heap) : Prop := ∃ (K : Frag) (c T : Addr), K.In h ∧ Has W K c T ∧ h.get? T = some (tabObj #[])
theorem Says.keeps {W : Want} (w : World) (h h' : Heap) (x : Says W w h) (k : ∀ b o, h.get? b = some o → h'.get? b = some o) : Says W w h' := by
  obtain ⟨K, c, T, h1, h2, h3⟩ := x
  exact ⟨K, c, T, h1.keeps k, h2, k _ _ h3⟩
theorem ZnJ {α β : Type} {f g : α → β} {l : List α} (e : l.map f = l.map g) {i : Nat} {x : α} (h : l[i]? = some x) : f x = g x := by
  have := congrArg (·[i]?) e
  simp only [List.getElem?_map, h, Option.map_some, Option.some.injEq] at this
  exact this
theorem says_of {W : Want} (w : World) (s : Shared) (e : obsK W s = valK W) : Says W w s.heap := by
  unfold obsK valK at e
  rw [Zku] at e
  obtain ⟨e1, e⟩ := Prod.mk.inj e
  obtain ⟨e2, e⟩ := Prod.mk.inj e
  obtain ⟨e3, e⟩ := Prod.mk.inj e
  obtain ⟨e4, e5⟩ := Prod.mk.inj e
  unfold Zkx at e5
  split at e5
  · rename_i c T hT
    obtain ⟨a1, a2⟩ := Prod.mk.inj (Option.some.inj e5)
    obtain ⟨a2, a3⟩ := Prod.mk.inj a2
    exact ⟨_, c, T, ZlR _, ⟨fun i n st h => ZlS (ZnJ e1 h), fun i n v h => ZlT (ZnJ e2 h), fun i n h => ZnJ e3 h, e4, hT, a2, Option.isNone_iff_eq_none.mp a3⟩, a1⟩
  · cases e5
theorem tab_cd {K : Frag} {c T f : Addr} {oc kV dc pm cd ct : Value} {od an : Option Addr} {sl : Array (Option Value)} {st : Stmt} (h : LS.tabP K = some (c, T)) (a : nsIn K mainGlobals "law" = some (some (.ref f)))
    (l : K.lookup f = some ⟨oc, od, .func (fnOf "law" "law" (L2.defArgs st) (L2.defBody st) (L2.defScope st) .none kV dc pm an cd ct), sl⟩) : cd = .ref c := by
  unfold LS.tabP at h
  rw [a] at h
  dsimp only at h
  rw [l] at h
  dsimp only at h
  split at h
  · split at h
    · split at h
      · cases h; rfl
      · cases h
    · cases h
  · cases h
end Tp
namespace LS
open PySem PySem.W PySem.Spec PySem.Calls PyProof.Rows L2
theorem walk_hd {l : OpenLaw} {n k : Nat} {q : Program} {loose : List Str} {XP : (Str → Option Value) → Heap → Prop} {W : Tp.Want} {d : DefRec} {x : Str} {F : List D → HD → Out D}
    (hn : l.most = some n) (hn2 : n ≤ sizeLine) (hdf : d.params.defaults = []) (hr : Room k callerA)
    (Fn : ∀ (w : World) (K : Frag) (c T : Addr) (mg : Str → Option Value) (fa : Addr) (h : Heap), Tp.Has W K c T → K.In h → h.Ns mainGlobals mg → mg d.name = some (.ref fa) →
      ∃ fd : FuncData, (∀ (s : Shared) (u : Value), BindsTo s fd ⟨[u], []⟩ [(x, u)]) ∧
        ∀ base : Heap, K.In base → base.Ns mainGlobals mg → BMb mg base → FnOk l.prog w K mg base (CXE l.prog w K) k fa fd [x] (spE K F))
    (hF : ∀ ns : List Int, ns.length ≤ n → (∀ i ∈ ns, Builtin.Int.intBits i ≤ 2 ^ 20) → ∃ h', F [.scr ns] [.tab] = .ok (.bl true) h') :
    WalkO q loose XP (Tp.Says W) l.row.toRowW d [] (fun f vs => PySem.call f vs) := by
  refine Att.attach_bits hn hdf fun w s₀ s₁ mg mb fa o pm cd doc a vs ns hbits G Y ho hd hcd' hmg hobj hints hlen hg => ?_
  obtain ⟨K, c, T, KX, HS, hT⟩ := Y
  obtain ⟨fd, hb, hF'⟩ := Fn w K c T mg fa _ HS KX G.T.g hmg
  obtain ⟨bm, ob, b1, b2, b3, b4, b5, b6⟩ := G.T.bmain
  obtain ⟨_, _, _, _, h1, h2, h3⟩ := HS
  exact Zke KX G.T.g G.T.b G.T.builtins G.T.nolimit hg ⟨bm, ob, b1, b2, b3, b4, b5, b6⟩ hobj hints (Nat.le_trans hlen hn2) hr h1 h2 hT h3 hF' hb (hF ns hlen hbits)
end LS
set_option maxHeartbeats 0
namespace LK
open PySem PySem.Spec PyProof.Rows L2 LS
def top (i : Nat) : Stmt := PySem.Challenge.pw_lineswitch_k83_halved_boards.main.body.getD i (.Pass ⟨0, 0, 0, 0⟩)
structure Bl (mg : Str → Option Value) : Prop where
  n_ValueError : mg "ValueError" = none
  n_all : mg "all" = none
  n_bool : mg "bool" = none
  n_divmod : mg "divmod" = none
  n_enumerate : mg "enumerate" = none
  n_int : mg "int" = none
  n_isinstance : mg "isinstance" = none
  n_len : mg "len" = none
  n_list : mg "list" = none
  n_max : mg "max" = none
  n_min : mg "min" = none
  n_range : mg "range" = none
  n_repr : mg "repr" = none
  n_sum : mg "sum" = none
  n_tuple : mg "tuple" = none
  n_zip : mg "zip" = none
theorem Zej : bootBuiltins "ValueError" = some (.type "ValueError") := by decide +kernel
theorem ZdH : bootBuiltins "all" = some (.builtin "all") := by decide +kernel
theorem Zi1 : bootBuiltins "bool" = some (.type "bool") := by decide +kernel
theorem ZgZ : bootBuiltins "divmod" = some (.builtin "divmod") := by decide +kernel
theorem ZdI : bootBuiltins "int" = some (.type "int") := by decide +kernel
theorem Zar : bootBuiltins "isinstance" = some (.builtin "isinstance") := by decide +kernel
theorem ZaH : bootBuiltins "len" = some (.builtin "len") := by decide +kernel
theorem ZfP : bootBuiltins "list" = some (.type "list") := by decide +kernel
theorem Zg0 : bootBuiltins "max" = some (.builtin "max") := by decide +kernel
theorem Zky : bootBuiltins "min" = some (.builtin "min") := by decide +kernel
theorem ZfQ : bootBuiltins "repr" = some (.builtin "repr") := by decide +kernel
theorem Zkz : bootBuiltins "sum" = some (.builtin "sum") := by decide +kernel
theorem ZaO : bootBuiltins "tuple" = some (.type "tuple") := by decide +kernel
abbrev Zct : Stmt := top 41
theorem Zr2 : Zps Zct := ⟨⟨rfl, rfl, rfl, by decide +kernel, rfl, by decide +kernel, by decide +kernel⟩, rfl, rfl, rfl, rfl, rfl, ⟨_, _, _, _, _, _, _, _, _, _, _, _, _, _, _, _, _, rfl⟩⟩
abbrev Zb2 : Stmt := top 14
theorem ZhF : ZaA ["thing"] ["thing"] (defScope Zb2) := ⟨rfl, rfl, rfl, by decide +kernel, rfl, by decide +kernel, by decide +kernel⟩
noncomputable abbrev ZdW : MS := Zce (ZgE (Zaf (ar2 Zbd) (Zab (Zag 0) (Zab (mC (.ty "int")) (Zal)))) (Zlg (Zaf (ar2 Zbd) (Zab (Zag 0) (Zab (mC (.ty "bool")) (Zal))))))
abbrev Za5 : Stmt := top 17
theorem Zek : ZaA ["thing"] ["thing"] (defScope Za5) := ⟨rfl, rfl, rfl, by decide +kernel, rfl, by decide +kernel, by decide +kernel⟩
noncomputable abbrev Zcu : MS := Zce (ZgE (Zaf (ar2 Zbd) (Zab (Zag 0) (Zab (mC (.ty "tuple")) (Zal)))) (Zd8 leD leD (mC (.int 1)) (Zaf (ar1 Zcl) (Zab (Zag 0) (Zal))) (mC (.int 8))))
abbrev Zba : Stmt := top 25
theorem Ze6 : ZaA ["row", "columns", "is_turned"] ["row", "columns", "is_turned"] (defScope Zba) := ⟨rfl, rfl, rfl, by decide +kernel, rfl, by decide +kernel, by decide +kernel⟩
noncomputable abbrev ZcG : MS := Zce (Zaf (ar1 Zbg) (Zab (ZbC [none, none, some 1, some 2] (ZcU (Zab (Zag 0) (Zal))) (Zdi 0 1) (ZbB) (mIf (mTb (mOp eqX (mOp (inD false) (Zag 0) (Zag 2)) (Zag 3))) (Zag 1) (mOp Zli (mC (.int 1)) (Zag 1)))) (Zal)))
abbrev Zbn : Stmt := top 29
theorem Zfq : ZaA ["one", "other"] ["one", "other"] (defScope Zbn) := ⟨rfl, rfl, rfl, by decide +kernel, rfl, by decide +kernel, by decide +kernel⟩
noncomputable abbrev ZcV : MS := Zce (Zaf (ar1 Zn7) (Zab (ZbC [none, some 0, some 1] (Zcp (Zab (mC (.int 3)) (Zal))) (Zbq 0) (ZbB) (mOp Zrz (mOp Zrz (mOp Zpr (Zag 1) (Zag 0)) (mOp Zpr (Zag 2) (Zag 0))) (mC (.int 1)))) (Zal)))
abbrev Zbo : Stmt := top 32
theorem Zfr : ZaA ["one", "other"] ["one", "other"] (defScope Zbo) := ⟨rfl, rfl, rfl, by decide +kernel, rfl, by decide +kernel, by decide +kernel⟩
noncomputable abbrev ZcW : MS := Zce (Zaf (ar1 Zcl) (Zab (ZbC [none, none, some 1] (ZcU (Zab (Zag 0) (Zal))) (Zdi 0 1) (mTb (mOp neX (Zag 1) (mOp ixD (Zag 2) (Zag 0)))) (Zag 0)) (Zal)))
abbrev ZbL : Stmt := top 35
theorem Zg1 : ZaA ["_law_script", "_law_k"] ["_law_script", "_law_k"] (defScope ZbL) := ⟨rfl, rfl, rfl, by decide +kernel, rfl, by decide +kernel, by decide +kernel⟩
noncomputable abbrev ZcX : MS := ZaR (ZdC (mTb (mOp ltD (Zag 1) (Zaf (ar1 Zcl) (Zab (Zag 0) (Zal))))) (Zce (mOp ixD (Zag 0) (Zag 1))) (ZbY)) (Zce (mOp ZbD (mOp ZdM (mC (.int 6151)) (Zag 1)) (mC (.int 29))))
abbrev Zb3 : Stmt := top 36
theorem sc__law_mix : ZaA ["_law_cell_here", "_law_k", "_law_number"] ["_law_cell_here", "_law_k"] (defScope Zb3) := ⟨rfl, rfl, rfl, by decide +kernel, rfl, by decide +kernel, by decide +kernel⟩
noncomputable abbrev ZdX : MS := ZaR (ZbG 2 (mOp ZbD (mOp ZdM (mOp ZbD (Zag 0) (mC (.int 1))) (mC (.int 40692))) (mOp ZdM (mC (.int 104729)) (Zag 1)))) (ZaR (ZbG 2 (mOp ZbD (mOp ZjH (mOp ZdM (Zag 2) (Zag 2)) (mC (.int 2147483399))) (Zag 1))) (Zce (mOp ZjH (mOp ZdM (Zag 2) (mOp ZbD (Zag 2) (mC (.int 31)))) (mC (.int 2147483563)))))
abbrev ZbM : Stmt := top 38
theorem sc__law_take : ZaA ["_law_box_here", "_law_many", "_law_left", "_law_digit"] ["_law_box_here", "_law_many"] (defScope ZbM) := ⟨rfl, rfl, rfl, by decide +kernel, rfl, by decide +kernel, by decide +kernel⟩
noncomputable abbrev Zds : MS := ZaR (Zn5 (Zdi 2 3) (Zaf (ar2 ZeM) (Zab (mOp ixD (Zag 0) (mC (.int 0))) (Zab (Zag 1) (Zal))))) (ZaR (Zid (Zag 0) (mC (.int 0)) (Zag 2)) (Zce (Zag 3)))
abbrev ZbN : Stmt := top 40
theorem sc__law_kind : ZaA ["_law_e", "_law_kinds", "_law_words"] ["_law_e"] (defScope ZbN) := ⟨rfl, rfl, rfl, by decide +kernel, rfl, by decide +kernel, by decide +kernel⟩
noncomputable abbrev Zdt : MS := ZaR (ZbG 1 (Zee (Zab (Zaf (ar2 Zbd) (Zab (Zag 0) (Zab (mC (.glo "NoBoard")) (Zal)))) (Zab (Zaf (ar2 Zbd) (Zab (Zag 0) (Zab (mC (.glo "NoLine")) (Zal)))) (Zab (Zaf (ar2 Zbd) (Zab (Zag 0) (Zab (mC (.glo "NoSwitching")) (Zal)))) (Zab (Zaf (ar2 Zbd) (Zab (Zag 0) (Zab (mC (.glo "NoNumber")) (Zal)))) (Zal))))))) (ZaR (ZbG 1 (mOp ZbD (Zag 1) (Zee (Zab (Zaf (ar2 Zbd) (Zab (Zag 0) (Zab (mC (.glo "Unlike")) (Zal)))) (Zab (Zaf (ar2 Zbd) (Zab (Zag 0) (Zab (mC (.glo "NoNet")) (Zal)))) (Zab (Zaf (ar2 Zbd) (Zab (Zag 0) (Zab (mC (.glo "NoPlace")) (Zal)))) (Zab (Zaf (ar2 Zbd) (Zab (Zag 0) (Zab (mC (.glo "NoText")) (Zal)))) (Zal)))))))) (ZaR (ZbG 1 (mOp ZbD (Zag 1) (Zee (Zab (Zaf (ar2 Zbd) (Zab (Zag 0) (Zab (mC (.glo "NoRow")) (Zal)))) (Zab (Zaf (ar2 Zbd) (Zab (Zag 0) (Zab (mC (.glo "TooMany")) (Zal)))) (Zal)))))) (ZaR (ZdC (mOr (Zhr (Zhq (Zaf (ar2 Zbd) (Zab (Zag 0) (Zab (mC (.ty "ValueError")) (Zal)))))) (mTb (mOp neX (ZiT Zdj Zdr (Zag 1) (mC (.bl true))) (mC (.int 1))))) (Zce (mC (.str "! other"))) (ZbY)) (ZaR (ZdC (Zhq (mOp ixD (Zag 1) (mC (.int 9)))) ZgJ ZbY) (ZaR (ZbG 2 (Zee (Zab (mC (.str "board")) (Zab (mC (.str "line")) (Zab (mC (.str "switching")) (Zab (mC (.str "number")) (Zab (mC (.str "unlike")) (Zab (mC (.str "net")) (Zab (mC (.str "place")) (Zab (mC (.str "text")) (Zab (mC (.str "row")) (Zal)))))))))))) (Zce (mOp ZbD (mC (.str "! ")) (mOp ixD (Zag 2) (ZiT Zdj Ze1 (Zag 1) (mC (.bl true)))))))))))
abbrev Za6 : Stmt := top 45
theorem sc__law_switched : ZaA ["_law_board_here", "_law_rows", "_law_columns", "_law_found", "_law_number", "_law_row", "_law_line", "_law_place", "_law_light"] ["_law_board_here", "_law_rows", "_law_columns"] (defScope Za6) := ⟨rfl, rfl, rfl, by decide +kernel, rfl, by decide +kernel, by decide +kernel⟩
noncomputable abbrev Zde : MS := ZaR (ZbG 3 (Zee (Zal))) (ZaR (Zf1 (ZcU (Zab (Zag 0) (Zal))) (Zdi 4 5) (ZaR (ZbG 6 (Zee (Zal))) (ZaR (Zf1 (ZcU (Zab (Zag 5) (Zal))) (Zdi 7 8) (Zc8 (Zm2 (Zag 6) (mOp ZjH (mOp ZbD (mOp ZbD (Zag 8) (Zaf (ar1 ZeN) (Zab (mOp (inD false) (Zag 4) (Zag 1)) (Zal)))) (Zaf (ar1 ZeN) (Zab (mOp (inD false) (Zag 7) (Zag 2)) (Zal)))) (mC (.int 2)))))) (Zc8 (Zm2 (Zag 3) (Zaf (ar1 Zbg) (Zab (Zag 6) (Zal)))))))) (Zce (Zaf (ar1 Zbg) (Zab (Zag 3) (Zal)))))
abbrev ZaY : Stmt := top 46
theorem sc__law_is_halved : ZaA ["_law_board_here", "_law_row", "_law_other"] ["_law_board_here"] (defScope ZaY) := ⟨rfl, rfl, rfl, by decide +kernel, rfl, by decide +kernel, by decide +kernel⟩
noncomputable abbrev Zch : MS := ZaR (Zf1 (Zcp (Zab (Zaf (ar1 Zcl) (Zab (Zag 0) (Zal))) (Zal))) (Zbq 1) (Zf1 (Zcp (Zab (Zag 1) (Zal))) (Zbq 2) (ZdC (mTb (mOp neX (mOp ZdM (mC (.int 2)) (Zaf (ar1 Zcl) (Zab (ZbC [none, none] (ZlA (Zab (mOp ixD (Zag 0) (Zag 1)) (Zab (mOp ixD (Zag 0) (Zag 2)) (Zal)))) (Zdi 0 1) (mTb (mOp neX (Zag 0) (Zag 1))) (mC (.int 1))) (Zal)))) (Zaf (ar1 Zcl) (Zab (mOp ixD (Zag 0) (mC (.int 0))) (Zal))))) (Zce (mC (.bl false))) (ZbY)))) (Zce (mC (.bl true)))
abbrev Zbx : Stmt := top 15
theorem Zgi : ZaA ["thing", "least", "most"] ["thing", "least", "most"] (defScope Zbx) := ⟨rfl, rfl, rfl, by decide +kernel, rfl, by decide +kernel, by decide +kernel⟩
noncomputable abbrev Zcz (Zaz : List D → HD → Out D) : MS := Zce (ZgE (Zaf Zaz (Zab (Zag 0) (Zal))) (Zd8 leD leD (Zag 1) (Zag 0) (Zag 2)))
abbrev ZcY : Stmt := top 22
theorem sc_is_lot : ZaA ["thing", "size", "last", "number"] ["thing", "size"] (defScope ZcY) := ⟨rfl, rfl, rfl, by decide +kernel, rfl, by decide +kernel, by decide +kernel⟩
noncomputable abbrev Zgj (Zaz : List D → HD → Out D) : MS := ZaR (ZdC (Zhr (Zhq (Zaf (ar2 Zbd) (Zab (Zag 0) (Zab (mC (.ty "tuple")) (Zal)))))) (Zce (mC (.bl false))) (ZbY)) (ZaR (ZbG 2 (Zo0 (mC (.int 1)))) (ZaR (Zf1 (Zco (Zag 0)) (Zbq 3) (ZaR (ZdC (mOr (Zhr (Zhq (Zaf Zaz (Zab (Zag 3) (Zal))))) (Zhr (mTb (Zd8 ltD ltD (Zag 2) (Zag 3) (Zag 1))))) (Zce (mC (.bl false))) (ZbY)) (ZbG 2 (Zag 3)))) (Zce (mC (.bl true)))))
abbrev Zb4 : Stmt := top 37
theorem sc__law_box : ZaA ["_law_script", "_law_k", "_law_here", "_law_number", "_law_j"] ["_law_script", "_law_k"] (defScope Zb4) := ⟨rfl, rfl, rfl, by decide +kernel, rfl, by decide +kernel, by decide +kernel⟩
noncomputable abbrev ZdY (Zbc : List D → HD → Out D) (Zbt : List D → HD → Out D) : MS := ZaR (ZbG 2 (Zaf Zbc (Zab (Zag 0) (Zab (Zag 1) (Zal))))) (ZaR (ZdC (mTb (mOp eqX (mOp ZjH (Zag 2) (mC (.int 2))) (mC (.int 0)))) (Zce (Zee (Zab (mOp Zia (Zag 2) (mC (.int 2))) (Zal)))) (ZbY)) (ZaR (ZbG 3 (mC (.int 0))) (ZaR (Zf1 (Zcp (Zab (mC (.int 24)) (Zal))) (Zbq 4) (ZbG 3 (mOp ZbD (mOp ZdM (Zag 3) (mC (.int 2147483647))) (Zaf Zbt (Zab (Zag 2) (Zab (Zag 4) (Zal))))))) (Zce (Zee (Zab (Zag 3) (Zal)))))))
abbrev Za7 : Stmt := top 39
theorem sc__law_wide_box : ZaA ["_law_box_here", "_law_number", "_law_many", "_law_j"] ["_law_box_here"] (defScope Za7) := ⟨rfl, rfl, rfl, by decide +kernel, rfl, by decide +kernel, by decide +kernel⟩
noncomputable abbrev Zcv (Zae : List D → HD → Out D) : MS := ZaR (Zn4 1 2 (Zab (Zaf Zae (Zab (Zag 0) (Zab (mC (.int 2147483647)) (Zal)))) (Zab (mC (.int 0)) (Zal)))) (ZaR (Zf1 (Zcp (Zab (mC (.int 24)) (Zal))) (Zbq 3) (ZaR (ZbG 1 (mOp ZjH (mOp ZbD (mOp ZbD (mOp ZdM (Zag 1) (mC (.int 48271))) (mC (.int 11))) (Zag 3)) (mC (.int 2147483647)))) (ZbG 2 (mOp ZbD (mOp ZdM (Zag 2) (mC (.int 2147483647))) (Zag 1))))) (Zce (Zee (Zab (Zag 2) (Zal)))))
abbrev Za8 : Stmt := top 43
theorem sc__law_no_board : ZaA ["_law_box_here", "_law_board_here", "_law_at", "_law_place", "_law_odd", "_law_row", "_law_bent", "_law_some"] ["_law_box_here", "_law_board_here"] (defScope Za8) := ⟨rfl, rfl, rfl, by decide +kernel, rfl, by decide +kernel, by decide +kernel⟩
noncomputable abbrev Zcw (Zae : List D → HD → Out D) : MS := ZaR (Zn5 (ZgU [2, 3]) (Zdm (Zab (Zaf Zae (Zab (Zag 0) (Zab (Zaf (ar1 Zcl) (Zab (Zag 1) (Zal))) (Zal)))) (Zab (Zaf Zae (Zab (Zag 0) (Zab (Zaf (ar1 Zcl) (Zab (mOp ixD (Zag 1) (mC (.int 0))) (Zal))) (Zal)))) (Zal))))) (ZaR (ZbG 4 (mOp ixD (Zee (Zab (mC (.int 2)) (Zab (Zo0 (mC (.int 1))) (Zab (mC (.bl true)) (Zab (mC (.bl false)) (Zab (mC .non) (Zab (mC (.str "0")) (Zab (Zdm (Zab (mC (.int 0)) (Zal))) (Zab (mOp ZpZ (mC (.int 10)) (mC (.int 29))) (Zab (Zee (Zab (mC (.int 0)) (Zal))) (Zab (mC .edic) (Zal)))))))))))) (Zaf Zae (Zab (Zag 0) (Zab (mC (.int 10)) (Zal)))))) (ZaR (ZbG 5 (mOp ixD (Zag 1) (Zag 2))) (ZaR (ZbG 6 (mOp ZbD (mOp ZbD (Za4 (Zag 5) (Za9) (Zcs (Zag 3))) (Zdm (Zab (Zag 4) (Zal)))) (Za4 (Zag 5) (Zcs (mOp ZbD (Zag 3) (mC (.int 1)))) (Za9)))) (ZaR (ZbG 7 (Zee (Zab (Zag 6) (Zab (Zag 6) (Zab (Zag 6) (Zab (mOp ZbD (Zag 5) (mOp ZdM (Zdm (Zab (mC (.int 0)) (Zal))) (mC (.int 8)))) (Zab (Zdm (Zal)) (Zab (Zaf (ar1 ZdU) (Zab (Zag 5) (Zal))) (Zab (mC .non) (Zab (mC (.int 1)) (Zal))))))))))) (ZaR (ZdC (mTb (mOp gtD (Zaf (ar1 Zcl) (Zab (Zag 1) (Zal))) (mC (.int 1)))) (ZbG 7 (mOp ZbD (Zag 7) (Zee (Zab (Za4 (Zag 5) (Za9) (Zcs (Zo0 (mC (.int 1))))) (Zab (mOp ZbD (Zag 5) (Zdm (Zab (mC (.int 0)) (Zal)))) (Zal)))))) (ZbY)) (ZaR (ZbG 7 (ZbC [none, some 1, some 2] (Zco (Zag 7)) (Zbq 0) (ZbB) (mOp ZbD (mOp ZbD (Za4 (Zag 1) (Za9) (Zcs (Zag 2))) (Zdm (Zab (Zag 0) (Zal)))) (Za4 (Zag 1) (Zcs (mOp ZbD (Zag 2) (mC (.int 1)))) (Za9))))) (ZaR (ZbG 7 (mOp ZbD (Zag 7) (Zee (Zab (Zaf (ar1 ZdU) (Zab (Zag 1) (Zal))) (Zab (Zdm (Zab (Zag 1) (Zal))) (Zab (mOp ZdM (Zdm (Zab (mOp ixD (Zag 1) (mC (.int 0))) (Zal))) (mC (.int 9))) (Zab (mOp ZbD (Zag 1) (Zdm (Zab (Zdm (Zal)) (Zal)))) (Zab (mOp ixD (Zag 1) (mC (.int 0))) (Zab (mC .non) (Zab (Zdm (Zal)) (Zab (mC (.int 0)) (Zab (mC (.str "")) (Zab (mC .edic) (Zal)))))))))))))) (Zce (mOp ixD (Zag 7) (Zaf Zae (Zab (Zag 0) (Zab (Zaf (ar1 Zcl) (Zab (Zag 7) (Zal))) (Zal)))))))))))))
abbrev Zb5 : Stmt := top 44
theorem ZhG : ZaA ["_law_box_here", "_law_size"] ["_law_box_here", "_law_size"] (defScope Zb5) := ⟨rfl, rfl, rfl, by decide +kernel, rfl, by decide +kernel, by decide +kernel⟩
noncomputable abbrev ZdZ (Zae : List D → HD → Out D) : MS := Zce (Zaf (ar1 Zbg) (Zab (ZbC [none, some 0] (Zcp (Zab (Zag 1) (Zal))) (Zbq 0) (mTb (mOp eqX (Zaf Zae (Zab (Zag 1) (Zab (mC (.int 2)) (Zal)))) (mC (.int 1)))) (Zag 0)) (Zal)))
abbrev Zb6 : Stmt := top 16
theorem ZhH : ZaA ["thing"] ["thing"] (defScope Zb6) := ⟨rfl, rfl, rfl, by decide +kernel, rfl, by decide +kernel, by decide +kernel⟩
noncomputable abbrev Zd0 (Zav : List D → HD → Out D) : MS := Zce (Zaf Zav (Zab (Zag 0) (Zab (mC (.int 0)) (Zab (mC (.int 1)) (Zal)))))
abbrev Zbp : Stmt := top 21
theorem Zfs : ZaA ["thing", "least", "most"] ["thing", "least", "most"] (defScope Zbp) := ⟨rfl, rfl, rfl, by decide +kernel, rfl, by decide +kernel, by decide +kernel⟩
noncomputable abbrev ZcZ (Zav : List D → HD → Out D) : MS := ZdC (Zhr (Zhq (Zaf Zav (Zab (Zag 0) (Zab (Zag 1) (Zab (Zag 2) (Zal))))))) (ZeZ "NoNumber" (Zab (ZlI (Zpp "a whole number from " (Zry (Zag 1) (Zpp " to " (Zry (Zag 2) (Zpp " was wanted" (Zrx))))))) (Zal))) (ZbY)
abbrev Zby : Stmt := top 42
theorem sc__law_board : ZaA ["_law_box_here", "_law_high", "_law_wide", "_law_way", "_law_digits", "_law_dense", "_law_rows", "_law_number"] ["_law_box_here", "_law_high", "_law_wide"] (defScope Zby) := ⟨rfl, rfl, rfl, by decide +kernel, rfl, by decide +kernel, by decide +kernel⟩
noncomputable abbrev Zdf (Zae : List D → HD → Out D) (ZaI : List D → HD → Out D) : MS := ZaR (ZbG 3 (Zaf Zae (Zab (Zag 0) (Zab (mC (.int 5)) (Zal))))) (ZaR (ZbG 4 (Zaf ZaI (Zab (Zag 0) (Zal)))) (ZaR (ZbG 5 (mOp ixD (Zee (Zab (mC (.int 3)) (Zab (mC (.int 1)) (Zab (mC (.int 5)) (Zab (mC (.int 3)) (Zab (mC (.int 2)) (Zal))))))) (Zag 3))) (ZaR (ZbG 6 (Zee (Zal))) (ZaR (Zf1 (Zcp (Zab (Zag 1) (Zal))) (Zbq 7) (Zc8 (Zm2 (Zag 6) (Zaf (ar1 Zbg) (Zab (ZbC [none, some 4, some 5] (Zcp (Zab (Zag 2) (Zal))) (Zbq 0) (ZbB) (Zaf (ar1 ZeN) (Zab (mOp ltD (Zaf Zae (Zab (Zag 1) (Zab (mC (.int 6)) (Zal)))) (Zag 2)) (Zal)))) (Zal)))))) (ZaR (ZdC (mTb (mOp eqX (Zag 3) (mC (.int 3)))) (ZbG 6 (mOp ZdM (Zee (Zab (mOp ixD (Zag 6) (mC (.int 0))) (Zal))) (Zag 1))) (ZbY)) (Zce (Zaf (ar1 Zbg) (Zab (Zag 6) (Zal)))))))))
abbrev Zc0 : Stmt := top 18
theorem ZkA : ZaA ["thing"] ["thing"] (defScope Zc0) := ⟨rfl, rfl, rfl, by decide +kernel, rfl, by decide +kernel, by decide +kernel⟩
noncomputable abbrev Zgk (Zap : List D → HD → Out D) (Zbu : List D → HD → Out D) : MS := Zce (ZgE (Zaf Zap (Zab (Zag 0) (Zal))) (Zaf (ar1 ZiK) (Zab (ZbC [none] (Zco (Zag 0)) (Zbq 0) (ZbB) (Zaf Zbu (Zab (Zag 0) (Zal)))) (Zal))))
abbrev Zcx : Stmt := top 30
theorem sc_by_bits : ZaA ["k", "side"] ["k"] (defScope Zcx) := ⟨rfl, rfl, rfl, by decide +kernel, rfl, by decide +kernel, by decide +kernel⟩
noncomputable abbrev Ze7 (ZaX : List D → HD → Out D) (ZaW : List D → HD → Out D) : MS := ZaR (Zc8 (Zaf ZaX (Zab (Zag 0) (Zab (mC (.int 0)) (Zab (mC (.int 3)) (Zal)))))) (ZaR (ZbG 1 (mOp Zh8 (mC (.int 1)) (Zag 0))) (Zce (Zaf (ar1 Zbg) (Zab (ZbC [none, some 1] (Zcp (Zab (Zag 1) (Zal))) (Zbq 0) (ZbB) (Zaf (ar1 Zbg) (Zab (ZbC [none, some 0] (Zcp (Zab (Zag 1) (Zal))) (Zbq 0) (ZbB) (mOp ZjH (Zaf ZaW (Zab (Zag 1) (Zab (Zag 0) (Zal)))) (mC (.int 2)))) (Zal)))) (Zal)))))
abbrev Zb7 : Stmt := top 19
theorem ZhI : ZaA ["thing"] ["thing"] (defScope Zb7) := ⟨rfl, rfl, rfl, by decide +kernel, rfl, by decide +kernel, by decide +kernel⟩
noncomputable abbrev Zd1 (Zap : List D → HD → Out D) (Zb9 : List D → HD → Out D) : MS := ZaR (ZdC (mOr (Zhr (Zhq (Zaf Zap (Zab (Zag 0) (Zal))))) (Zhr (Zhq (Zaf (ar1 ZiK) (Zab (ZbC [none] (Zco (Zag 0)) (Zbq 0) (ZbB) (Zaf Zb9 (Zab (Zag 0) (Zal)))) (Zal)))))) (Zce (mC (.bl false))) (ZbY)) (Zce (Zaf (ar1 ZiK) (Zab (ZbC [none, some 0] (Zco (Zag 0)) (Zbq 0) (ZbB) (mOp eqX (Zaf (ar1 Zcl) (Zab (Zag 0) (Zal))) (Zaf (ar1 Zcl) (Zab (mOp ixD (Zag 1) (mC (.int 0))) (Zal))))) (Zal))))
abbrev Zbz : Stmt := top 20
theorem Zgl : ZaA ["thing"] ["thing"] (defScope Zbz) := ⟨rfl, rfl, rfl, by decide +kernel, rfl, by decide +kernel, by decide +kernel⟩
noncomputable abbrev ZcA (Zbk : List D → HD → Out D) : MS := ZdC (Zhr (Zhq (Zaf Zbk (Zab (Zag 0) (Zal))))) (ZeZ "NoBoard" (Zab (mC (.str "this is no board")) (Zal))) (ZbY)
abbrev Zbb : Stmt := top 23
theorem Ze8 : ZaA ["board", "thing"] ["board", "thing"] (defScope Zbb) := ⟨rfl, rfl, rfl, by decide +kernel, rfl, by decide +kernel, by decide +kernel⟩
noncomputable abbrev ZcH (Zaj : List D → HD → Out D) (ZbJ : List D → HD → Out D) : MS := ZaR (Zc8 (Zaf Zaj (Zab (Zag 0) (Zal)))) (ZaR (ZdC (mOr (Zhr (Zhq (Zaf (ar2 Zbd) (Zab (Zag 1) (Zab (mC (.ty "tuple")) (Zal)))))) (mTb (mOp neX (Zaf (ar1 Zcl) (Zab (Zag 1) (Zal))) (mC (.int 2))))) (Zce (mC (.bl false))) (ZbY)) (Zce (ZgE (Zaf ZbJ (Zab (mOp ixD (Zag 1) (mC (.int 0))) (Zab (Zaf (ar1 Zcl) (Zab (Zag 0) (Zal))) (Zal)))) (Zaf ZbJ (Zab (mOp ixD (Zag 1) (mC (.int 1))) (Zab (Zaf (ar1 Zcl) (Zab (mOp ixD (Zag 0) (mC (.int 0))) (Zal))) (Zal)))))))
abbrev ZbO : Stmt := top 31
theorem sc_spread_by : ZaA ["one", "other", "many"] ["one", "other"] (defScope ZbO) := ⟨rfl, rfl, rfl, by decide +kernel, rfl, by decide +kernel, by decide +kernel⟩
noncomputable abbrev Zc1 (Zaj : List D → HD → Out D) : MS := ZaR (Zc8 (Zaf Zaj (Zab (Zag 0) (Zal)))) (ZaR (Zc8 (Zaf Zaj (Zab (Zag 1) (Zal)))) (ZaR (ZbG 2 (Zaf (ar2 Zmg) (Zab (mOp ZdM (Zaf (ar1 Zcl) (Zab (Zag 0) (Zal))) (Zaf (ar1 Zcl) (Zab (Zag 1) (Zal)))) (Zab (mOp ZdM (Zaf (ar1 Zcl) (Zab (mOp ixD (Zag 0) (mC (.int 0))) (Zal))) (Zaf (ar1 Zcl) (Zab (mOp ixD (Zag 1) (mC (.int 0))) (Zal)))) (Zal))))) (ZaR (ZdC (mTb (mOp gtD (Zag 2) (mC (.int 8)))) (ZgJ) (ZbY)) (Zce (Zaf (ar1 Zbg) (Zab (ZcN [none, none, some 1] (Zco (Zag 0)) (Zbq 0) (ZbB) (Ze4 (Zco (Zag 2)) (Zbq 1) (ZbB) (Zeh (Zaf (ar1 Zbg) (Zab (ZcN [none, none, some 1] (Zco (Zag 0)) (Zbq 0) (ZbB) (Ze4 (Zco (Zag 2)) (Zbq 1) (ZbB) (Zeh (mOp ZjH (mOp ZbD (Zag 0) (Zag 1)) (mC (.int 2)))))) (Zal)))))) (Zal)))))))
abbrev ZbP : Stmt := top 33
theorem Zg2 : ZaA ["board"] ["board"] (defScope ZbP) := ⟨rfl, rfl, rfl, by decide +kernel, rfl, by decide +kernel, by decide +kernel⟩
noncomputable abbrev Zc2 (Zaj : List D → HD → Out D) (ZaP : List D → HD → Out D) : MS := ZaR (Zc8 (Zaf Zaj (Zab (Zag 0) (Zal)))) (Zce (Zaf (ar1 ZiK) (Zab (ZcN [none, none, none, some 0] (ZcU (Zab (Zag 0) (Zal))) (Zdi 0 1) (ZbB) (Ze4 (Zco (Za4 (Zag 3) (Zcs (mOp ZbD (Zag 0) (mC (.int 1)))) (Za9))) (Zbq 2) (ZbB) (Zeh (mOp eqX (mOp ZdM (mC (.int 2)) (Zaf ZaP (Zab (Zag 1) (Zab (Zag 2) (Zal))))) (Zaf (ar1 Zcl) (Zab (Zag 1) (Zal))))))) (Zal))))
abbrev ZaZ : Stmt := top 24
theorem Zd2 : ZaA ["board", "thing"] ["board", "thing"] (defScope ZaZ) := ⟨rfl, rfl, rfl, by decide +kernel, rfl, by decide +kernel, by decide +kernel⟩
noncomputable abbrev Zci (ZaM : List D → HD → Out D) : MS := ZdC (Zhr (Zhq (Zaf ZaM (Zab (Zag 0) (Zab (Zag 1) (Zal)))))) (ZeZ "NoSwitching" (Zab (mC (.str "this is no switching of the board")) (Zal))) (ZbY)
abbrev Zb8 : Stmt := top 26
theorem sc_switched : ZaA ["board", "switching", "rows", "columns"] ["board", "switching"] (defScope Zb8) := ⟨rfl, rfl, rfl, by decide +kernel, rfl, by decide +kernel, by decide +kernel⟩
noncomputable abbrev Zd3 (ZaG : List D → HD → Out D) (ZaL : List D → HD → Out D) : MS := ZaR (Zc8 (Zaf ZaG (Zab (Zag 0) (Zab (Zag 1) (Zal))))) (ZaR (Zn5 (Zdi 2 3) (Zag 1)) (Zce (Zaf (ar1 Zbg) (Zab (ZbC [none, none, some 3, some 2] (ZcU (Zab (Zag 0) (Zal))) (Zdi 0 1) (ZbB) (Zaf ZaL (Zab (Zag 1) (Zab (Zag 2) (Zab (mOp (inD false) (Zag 0) (Zag 3)) (Zal)))))) (Zal)))))
abbrev s_law : Stmt := top 47
theorem sc_law : ZaA ["_law_script", "_law_k", "_law_box_here", "_law_bits", "_law_board_here", "_law_here", "_law_small", "_law_wide", "_law_one", "_law_at", "_law_place", "_law_line", "_law_drawn", "_law_none"] ["_law_script"] (defScope s_law) := ⟨rfl, rfl, rfl, by decide +kernel, rfl, by decide +kernel, by decide +kernel⟩
noncomputable abbrev ZlU (Zbi : List D → HD → Out D) (Zae : List D → HD → Out D) (Zbj : List D → HD → Out D) (ZaU : List D → HD → Out D) (Za2 : List D → HD → Out D) (ZaV : List D → HD → Out D) (ZaD : List D → HD → Out D) (ZaJ : List D → HD → Out D) (ZaC : List D → HD → Out D) (ZaF : List D → HD → Out D) (ZaT : List D → HD → Out D) : MS := ZaR (Zf1 (Zcp (Zab (Zaf (ar2 Zmg) (Zab (mC (.int 1)) (Zab (Zaf (ar2 ZoS) (Zab (Zaf (ar1 Zcl) (Zab (Zag 0) (Zal))) (Zab (mC (.int 4)) (Zal)))) (Zal)))) (Zal))) (Zbq 1) (ZaR (ZbG 2 (Zaf Zbi (Zab (Zag 0) (Zab (Zag 1) (Zal))))) (ZaR (ZbG 3 (mOp ZbD (mC (.int 1)) (Zaf Zae (Zab (Zag 2) (Zab (mC (.int 3)) (Zal)))))) (ZaR (ZbG 4 (Zaf Zbj (Zab (Zag 3) (Zal)))) (ZaR (ZbG 5 (Zaf Za2 (Zab (Zag 4) (Zab (Zdm (Zab (Zaf ZaU (Zab (Zag 2) (Zab (mOp Zh8 (mC (.int 1)) (Zag 3)) (Zal)))) (Zab (Zaf ZaU (Zab (Zag 2) (Zab (mOp Zh8 (mC (.int 1)) (Zag 3)) (Zal)))) (Zal)))) (Zal))))) (ZaR (ZbG 6 (Zaf Za2 (Zab (Zaf Zbj (Zab (mOp Zli (mC (.int 3)) (Zag 3)) (Zal))) (Zab (Zdm (Zab (Zaf ZaU (Zab (Zag 2) (Zab (mOp Zh8 (mC (.int 1)) (mOp Zli (mC (.int 3)) (Zag 3))) (Zal)))) (Zab (Zdm (Zal)) (Zal)))) (Zal))))) (ZaR (ZbG 7 (Zaf ZaV (Zab (Zag 5) (Zab (Zag 6) (Zal))))) (ZaR (Zf1 (Zco (Zee (Zab (Zag 4) (Zab (Zag 5) (Zab (Zag 6) (Zab (Zag 7) (Zab (Zaf ZaV (Zab (Zag 6) (Zab (Zag 5) (Zal)))) (Zal)))))))) (Zbq 8) (ZdC (mTb (mOp ZeJ (Zaf ZaD (Zab (Zag 8) (Zal))) (mC (.bl true)))) (Zce (mC (.bl false))) (ZbY))) (ZaR (Zn4 9 10 (Zab (Zaf Zae (Zab (Zag 2) (Zab (mOp Zh8 (mC (.int 1)) (Zag 3)) (Zal)))) (Zab (Zaf Zae (Zab (Zag 2) (Zab (mOp Zh8 (mC (.int 1)) (Zag 3)) (Zal)))) (Zal)))) (ZaR (ZbG 11 (mOp ZbD (mOp ZbD (Za4 (mOp ixD (Zag 5) (Zag 9)) (Za9) (Zcs (Zag 10))) (Zdm (Zab (mOp Zli (mC (.int 1)) (mOp ixD (mOp ixD (Zag 5) (Zag 9)) (Zag 10))) (Zal)))) (Za4 (mOp ixD (Zag 5) (Zag 9)) (Zcs (mOp ZbD (Zag 10) (mC (.int 1)))) (Za9)))) (ZaR (ZdC (mTb (mOp ZeJ (Zaf ZaD (Zab (mOp ZbD (mOp ZbD (Za4 (Zag 5) (Za9) (Zcs (Zag 9))) (Zdm (Zab (Zag 11) (Zal)))) (Za4 (Zag 5) (Zcs (mOp ZbD (Zag 9) (mC (.int 1)))) (Za9))) (Zal))) (mC (.bl false)))) (Zce (mC (.bl false))) (ZbY)) (ZaR (ZbG 12 (Zaf ZaJ (Zab (Zag 2) (Zab (mOp ZbD (mC (.int 1)) (Zaf Zae (Zab (Zag 2) (Zab (mC (.int 3)) (Zal))))) (Zab (mOp ZdM (mC (.int 2)) (mOp ZbD (mC (.int 1)) (Zaf Zae (Zab (Zag 2) (Zab (mC (.int 4)) (Zal)))))) (Zal)))))) (ZaR (Zf1 (Zco (Zee (Zab (Zag 12) (Zab (Zaf ZaJ (Zab (Zag 2) (Zab (mOp ZbD (mC (.int 1)) (Zaf Zae (Zab (Zag 2) (Zab (mC (.int 8)) (Zal))))) (Zab (mOp ZbD (mC (.int 1)) (Zaf Zae (Zab (Zag 2) (Zab (mC (.int 8)) (Zal))))) (Zal))))) (Zab (Za4 (Zag 7) (Za9) (Zcs (mC (.int 3)))) (Zab (Za4 (Zag 12) (Za9) (Zcs (mC (.int 1)))) (Zal))))))) (Zbq 8) (ZdC (mTb (mOp neX (Zaf (ar1 ZgT) (Zab (Zaf ZaD (Zab (Zag 8) (Zal))) (Zal))) (Zaf (ar1 ZgT) (Zab (Zaf ZaC (Zab (Zag 8) (Zal))) (Zal))))) (Zce (mC (.bl false))) (ZbY))) (ZaR (ZbG 13 (Zaf ZaF (Zab (Zag 2) (Zab (Zag 4) (Zal))))) (ZdC (mTb (mOp neX (ZgR [13] ZaT (Zaf ZaD (Zab (Zag 0) (Zal)))) (mC (.str "! board")))) (Zce (mC (.bl false))) (ZbY)))))))))))))))) (Zce (mC (.bl true)))
section
variable {P : Program} {w : World} {K : PySem.W.Frag} {mg : Str → Option Value} {base : Heap} (B : Bl mg) (et : etOk K = true)
include B et
theorem Zi2  (f : Addr) (cdv : Value) (A : Around) (outer : List Env) (s : Shared) (H : Hp) (E : XK) (hr : Room 0 (A.deeper (envOfC "is_whole" (defScope Zb2) s.heap.objs.size f cdv))) :
    Exs (Zcj (CXE P w K) P w K mg base ["thing"] "is_whole" (defScope Zb2) f cdv A outer s H E) E (defBody Zb2) (ZdW) :=
  Zam (ZaK (ZgG (Zan (Zck et) rfl B.n_isinstance Zar (Zaa (Zac (pv 0)) (Zaa (ZiJ rfl B.n_int ZdI) (Zad)))) (ZgF (ZoO (Zan (Zck et) rfl B.n_isinstance Zar (Zaa (Zac (pv 0)) (Zaa (ZiJ rfl B.n_bool Zi1) (Zad))))))))
theorem Ze9  {t_MOST_LINES : Tok} (m_MOST_LINES : mg "MOST_LINES" = some (.int 8 t_MOST_LINES)) (f : Addr) (cdv : Value) (A : Around) (outer : List Env) (s : Shared) (H : Hp) (E : XK) (hr : Room 0 (A.deeper (envOfC "is_line_tuple" (defScope Za5) s.heap.objs.size f cdv))) :
    Exs (Zcj (CXE P w K) P w K mg base ["thing"] "is_line_tuple" (defScope Za5) f cdv A outer s H E) E (defBody Za5) (Zcu) :=
  Zam (ZaK (ZgG (Zan (Zck et) rfl B.n_isinstance Zar (Zaa (Zac (pv 0)) (Zaa (ZiJ rfl B.n_tuple ZaO) (Zad)))) (ZgF (Zh7 leM leM (Zak) (Zan Zfl rfl B.n_len ZaH (Zaa (Zac (pv 0)) (Zad))) (Zev rfl m_MOST_LINES)))))
theorem Zft  (f : Addr) (cdv : Value) (A : Around) (outer : List Env) (s : Shared) (H : Hp) (E : XK) (hr : Room 0 (A.deeper (envOfC "row_switched" (defScope Zba) s.heap.objs.size f cdv))) :
    Exs (Zcj (CXE P w K) P w K mg base ["row", "columns", "is_turned"] "row_switched" (defScope Zba) f cdv A outer s H E) E (defBody Zba) (ZcG) :=
  Zam (ZaK (Zbe Zda rfl B.n_tuple ZaO (Zaa (Zcg (Nc := ["number", "light", "columns", "is_turned"]) (cs := [none, none, some 1, some 2]) rfl (CSc.ok ⟨rfl, by decide +kernel, by kernel_rfl, by decide +kernel, rfl, by kernel_rfl⟩) (ZcM rfl B.n_enumerate (Zaa (Zac (pv 0)) (Zad))) (ZdE rfl rfl) (fun C D cells fp s₀ H₀ pins => ⟨ZcT rfl (Zaw (i := 0) (show (["number", "light", "columns", "is_turned"] : List Str).Nodup from by decide +kernel) rfl (by first | exact Or.inl rfl | exact Or.inr rfl) (by first | exact .inl rfl | exact .inr rfl)) (Zaw (i := 1) (show (["number", "light", "columns", "is_turned"] : List Str).Nodup from by decide +kernel) rfl (by first | exact Or.inl rfl | exact Or.inr rfl) (by first | exact .inl rfl | exact .inr rfl)), Zbf, Zlh (ZbA (Zoc hr.units) (ZeH inM (Zac (pv 0)) (Zac (pv 2)) (by with_unfolding_all rfl)) (Zac (pv 3)) (ZbR _)) (Zac (pv 1)) (ZaB ZpY (Zak) (Zac (pv 1)))⟩)) (Zad))))
theorem Zgm  {t_MOST_BITS : Tok} (m_MOST_BITS : mg "MOST_BITS" = some (.int 3 t_MOST_BITS)) (f : Addr) (cdv : Value) (A : Around) (outer : List Env) (s : Shared) (H : Hp) (E : XK) (hr : Room 0 (A.deeper (envOfC "common_bits" (defScope Zbn) s.heap.objs.size f cdv))) :
    Exs (Zcj (CXE P w K) P w K mg base ["one", "other"] "common_bits" (defScope Zbn) f cdv A outer s H E) E (defBody Zbn) (ZcV) :=
  Zam (ZaK (Zan (ZtH rfl) rfl B.n_sum Zkz (Zaa (Zcg (Nc := ["bit", "one", "other"]) (cs := [none, some 0, some 1]) rfl (CSc.ok ⟨rfl, by decide +kernel, by kernel_rfl, by decide +kernel, rfl, by kernel_rfl⟩) (Zbh rfl B.n_range (Zaa (Zev rfl m_MOST_BITS) (Zad))) (ZbT rfl) (fun C D cells fp s₀ H₀ pins => ⟨Zaw (i := 0) (show (["bit", "one", "other"] : List Str).Nodup from by decide +kernel) rfl (by first | exact Or.inl rfl | exact Or.inr rfl) (by first | exact .inl rfl | exact .inr rfl), Zbf, ZaB Zs0 (ZaB Zs0 (ZaB ZsZ (Zac (pv 1)) (Zac (pv 0))) (ZaB ZsZ (Zac (pv 2)) (Zac (pv 0)))) (Zak)⟩)) (Zad))))
theorem Zgn  (f : Addr) (cdv : Value) (A : Around) (outer : List Env) (s : Shared) (H : Hp) (E : XK) (hr : Room 0 (A.deeper (envOfC "unlike_many" (defScope Zbo) s.heap.objs.size f cdv))) :
    Exs (Zcj (CXE P w K) P w K mg base ["one", "other"] "unlike_many" (defScope Zbo) f cdv A outer s H E) E (defBody Zbo) (ZcW) :=
  Zam (ZaK (Zan Zfl rfl B.n_len ZaH (Zaa (Zcg (Nc := ["number", "light", "other"]) (cs := [none, none, some 1]) rfl (CSc.ok ⟨rfl, by decide +kernel, by kernel_rfl, by decide +kernel, rfl, by kernel_rfl⟩) (ZcM rfl B.n_enumerate (Zaa (Zac (pv 0)) (Zad))) (ZdE rfl rfl) (fun C D cells fp s₀ H₀ pins => ⟨ZcT rfl (Zaw (i := 0) (show (["number", "light", "other"] : List Str).Nodup from by decide +kernel) rfl (by first | exact Or.inl rfl | exact Or.inr rfl) (by first | exact .inl rfl | exact .inr rfl)) (Zaw (i := 1) (show (["number", "light", "other"] : List Str).Nodup from by decide +kernel) rfl (by first | exact Or.inl rfl | exact Or.inr rfl) (by first | exact .inl rfl | exact .inr rfl)), Zf2 (ZbA (Znl hr.units) (Zac (pv 1)) (Zcc (Zac (pv 2)) (Zac (pv 0)) (fun _ _ => rfl)) (ZbR _)), Zac (pv 0)⟩)) (Zad))))
theorem ZhJ  (f : Addr) (cdv : Value) (A : Around) (outer : List Env) (s : Shared) (H : Hp) (E : XK) (hr : Room 0 (A.deeper (envOfC "_law_cell" (defScope ZbL) s.heap.objs.size f cdv))) :
    Exs (Zcj (CXE P w K) P w K mg base ["_law_script", "_law_k"] "_law_cell" (defScope ZbL) f cdv A outer s H E) E (defBody ZbL) (ZcX) :=
  Zah (ZcS (ZbA ltM (Zac (pv 1)) (Zan Zfl rfl B.n_len ZaH (Zaa (Zac (pv 0)) (Zad))) (ZbR _)) (Zam (ZaK (Zcc (Zac (pv 0)) (Zac (pv 1)) (fun _ _ => rfl)))) (Zbm)) (Zam (ZaK (ZaB Zc4 (ZaB Zdk (Zak) (Zac (pv 1))) (Zak))))
theorem Zi3  (f : Addr) (cdv : Value) (A : Around) (outer : List Env) (s : Shared) (H : Hp) (E : XK) (hr : Room 0 (A.deeper (envOfC "_law_mix" (defScope Zb3) s.heap.objs.size f cdv))) :
    Exs (Zcj (CXE P w K) P w K mg base ["_law_cell_here", "_law_k", "_law_number"] "_law_mix" (defScope Zb3) f cdv A outer s H E) E (defBody Zb3) (ZdX) :=
  Zah (ZaN (i := 2) sc__law_mix.nd rfl (by first | exact Or.inl rfl | exact Or.inr rfl) (ZaB Zc4 (ZaB Zdk (ZaB Zc4 (Zac (pv 0)) (Zak)) (Zak)) (ZaB Zdk (Zak) (Zac (pv 1))))) (Zah (ZaN (i := 2) sc__law_mix.nd rfl (by first | exact Or.inl rfl | exact Or.inr rfl) (ZaB Zc4 (ZaB ZmT (ZaB Zdk (Zac (pv 2)) (Zac (pv 2))) (Zak)) (Zac (pv 1)))) (Zam (ZaK (ZaB ZmT (ZaB Zdk (Zac (pv 2)) (ZaB Zc4 (Zac (pv 2)) (Zak))) (Zak)))))
theorem ZhK  (f : Addr) (cdv : Value) (A : Around) (outer : List Env) (s : Shared) (H : Hp) (E : XK) (hr : Room 0 (A.deeper (envOfC "_law_take" (defScope ZbM) s.heap.objs.size f cdv))) :
    Exs (Zcj (CXE P w K) P w K mg base ["_law_box_here", "_law_many", "_law_left", "_law_digit"] "_law_take" (defScope ZbM) f cdv A outer s H E) E (defBody ZbM) (Zds) :=
  Zah (ZjM (Zan ZmU rfl B.n_divmod ZgZ (Zaa (Zcc (Zac (pv 0)) (Zak) (fun _ _ => rfl)) (Zaa (Zac (pv 1)) (Zad)))) (Zex (ZcT rfl (Zaw (i := 2) (sc__law_take.nd) rfl (by first | exact Or.inl rfl | exact Or.inr rfl) (by first | exact .inl rfl | exact .inr rfl)) (Zaw (i := 3) (sc__law_take.nd) rfl (by first | exact Or.inl rfl | exact Or.inr rfl) (by first | exact .inl rfl | exact .inr rfl))))) (Zah (Zlr (Zac (pv 0)) (Zak) (Zac (pv 2))) (Zam (ZaK (Zac (pv 3)))))
theorem ZhL  (f : Addr) (cdv : Value) (A : Around) (outer : List Env) (s : Shared) (H : Hp) (hr : RoomM 0 (A.deeper (envOfC "_law_kind" (defScope ZbN) s.heap.objs.size f cdv))) :
    Exs (cxM P w K mg base ["_law_e", "_law_kinds", "_law_words"] "_law_kind" (defScope ZbN) f cdv A outer s H) E0 (defBody ZbN) (Zdt) :=
  Zah (ZaN (i := 1) sc__law_kind.nd rfl (by first | exact Or.inl rfl | exact Or.inr rfl) (ZbS (Zaa (Zan (Zck et) rfl B.n_isinstance Zar (Zaa (Zac (pv 0)) (Zaa (ZcF et (by decide +kernel)) (Zad)))) (Zaa (Zan (Zck et) rfl B.n_isinstance Zar (Zaa (Zac (pv 0)) (Zaa (ZcF et (by decide +kernel)) (Zad)))) (Zaa (Zan (Zck et) rfl B.n_isinstance Zar (Zaa (Zac (pv 0)) (Zaa (ZcF et (by decide +kernel)) (Zad)))) (Zaa (Zan (Zck et) rfl B.n_isinstance Zar (Zaa (Zac (pv 0)) (Zaa (ZcF et (by decide +kernel)) (Zad)))) (Zad))))))) (Zah (ZaN (i := 1) sc__law_kind.nd rfl (by first | exact Or.inl rfl | exact Or.inr rfl) (ZaB Zc4 (Zac (pv 1)) (ZbS (Zaa (Zan (Zck et) rfl B.n_isinstance Zar (Zaa (Zac (pv 0)) (Zaa (ZcF et (by decide +kernel)) (Zad)))) (Zaa (Zan (Zck et) rfl B.n_isinstance Zar (Zaa (Zac (pv 0)) (Zaa (ZcF et (by decide +kernel)) (Zad)))) (Zaa (Zan (Zck et) rfl B.n_isinstance Zar (Zaa (Zac (pv 0)) (Zaa (ZcF et (by decide +kernel)) (Zad)))) (Zaa (Zan (Zck et) rfl B.n_isinstance Zar (Zaa (Zac (pv 0)) (Zaa (ZcF et (by decide +kernel)) (Zad)))) (Zad)))))))) (Zah (ZaN (i := 1) sc__law_kind.nd rfl (by first | exact Or.inl rfl | exact Or.inr rfl) (ZaB Zc4 (Zac (pv 1)) (ZbS (Zaa (Zan (Zck et) rfl B.n_isinstance Zar (Zaa (Zac (pv 0)) (Zaa (ZcF et (by decide +kernel)) (Zad)))) (Zaa (Zan (Zck et) rfl B.n_isinstance Zar (Zaa (Zac (pv 0)) (Zaa (ZcF et (by decide +kernel)) (Zad)))) (Zad)))))) (Zah (ZcS (Zlf (Zh5 (ZcD (ZcC (Zan (Zck et) rfl B.n_isinstance Zar (Zaa (Zac (pv 0)) (Zaa (ZiJ rfl B.n_ValueError Zej) (Zad)))))) (ZfY (ZbA (Znl hr.units) (Zj7 PySem.F.plainAttrs_list PySem.F.slot_list_count PySem.F.type_list_count Zhz ZhA Znf (Zac (pv 1)) (Zc7)) (Zak) (ZbR _))))) (Zam (ZaK (Zca))) (Zbm)) (Zah (ZcS (ZcC (Zcc (Zac (pv 1)) (Zak) (fun _ _ => rfl))) ZjL Zbm) (Zah (ZaN (i := 2) sc__law_kind.nd rfl (by first | exact Or.inl rfl | exact Or.inr rfl) (ZbS (Zaa (Zca) (Zaa (Zca) (Zaa (Zca) (Zaa (Zca) (Zaa (Zca) (Zaa (Zca) (Zaa (Zca) (Zaa (Zca) (Zaa (Zca) (Zad)))))))))))) (Zam (ZaK (ZaB Zc4 (Zca) (Zcc (Zac (pv 2)) (Zj7 PySem.F.plainAttrs_list PySem.F.slot_list_index PySem.F.type_list_index Zhz ZiV Zpl (Zac (pv 1)) (Zc7)) (fun _ _ => rfl))))))))))
theorem Zfa  (f : Addr) (cdv : Value) (A : Around) (outer : List Env) (s : Shared) (H : Hp) (E : XK) (hr : Room 0 (A.deeper (envOfC "_law_switched" (defScope Za6) s.heap.objs.size f cdv))) :
    Exs (Zcj (CXE P w K) P w K mg base ["_law_board_here", "_law_rows", "_law_columns", "_law_found", "_law_number", "_law_row", "_law_line", "_law_place", "_law_light"] "_law_switched" (defScope Za6) f cdv A outer s H E) E (defBody Za6) (Zde) :=
  Zah (ZaN (i := 3) sc__law_switched.nd rfl (by first | exact Or.inl rfl | exact Or.inr rfl) (ZbS (Zad))) (Zah (Zdb Zj0 rfl (ZcM rfl B.n_enumerate (Zaa (Zac (pv 0)) (Zad))) (Zex (ZcT rfl (Zaw (i := 4) (sc__law_switched.nd) rfl (by first | exact Or.inl rfl | exact Or.inr rfl) (by first | exact .inl rfl | exact .inr rfl)) (Zaw (i := 5) (sc__law_switched.nd) rfl (by first | exact Or.inl rfl | exact Or.inr rfl) (by first | exact .inl rfl | exact .inr rfl)))) (Zah (ZaN (i := 6) sc__law_switched.nd rfl (by first | exact Or.inl rfl | exact Or.inr rfl) (ZbS (Zad))) (Zah (Zdb Zj0 rfl (ZcM rfl B.n_enumerate (Zaa (Zac (pv 5)) (Zad))) (Zex (ZcT rfl (Zaw (i := 7) (sc__law_switched.nd) rfl (by first | exact Or.inl rfl | exact Or.inr rfl) (by first | exact .inl rfl | exact .inr rfl)) (Zaw (i := 8) (sc__law_switched.nd) rfl (by first | exact Or.inl rfl | exact Or.inr rfl) (by first | exact .inl rfl | exact .inr rfl)))) (Zam (ZcR (ZeS (Zac (pv 6)) (ZaB ZmT (ZaB Zc4 (ZaB Zc4 (Zac (pv 8)) (Zbe ZjK rfl B.n_int ZdI (Zaa (ZeH inM (Zac (pv 4)) (Zac (pv 1)) (by with_unfolding_all rfl)) (Zad)))) (Zbe ZjK rfl B.n_int ZdI (Zaa (ZeH inM (Zac (pv 7)) (Zac (pv 2)) (by with_unfolding_all rfl)) (Zad)))) (Zak)))))) (Zam (ZcR (ZeS (Zac (pv 3)) (Zbe Zda rfl B.n_tuple ZaO (Zaa (Zac (pv 6)) (Zad))))))))) (Zam (ZaK (Zbe Zda rfl B.n_tuple ZaO (Zaa (Zac (pv 3)) (Zad))))))
theorem Zel  (f : Addr) (cdv : Value) (A : Around) (outer : List Env) (s : Shared) (H : Hp) (E : XK) (hr : Room 0 (A.deeper (envOfC "_law_is_halved" (defScope ZaY) s.heap.objs.size f cdv))) :
    Exs (Zcj (CXE P w K) P w K mg base ["_law_board_here", "_law_row", "_law_other"] "_law_is_halved" (defScope ZaY) f cdv A outer s H E) E (defBody ZaY) (Zch) :=
  Zah (Zdb Zj0 rfl (Zbh rfl B.n_range (Zaa (Zan Zfl rfl B.n_len ZaH (Zaa (Zac (pv 0)) (Zad))) (Zad))) (Zcm (Zaw (i := 1) (sc__law_is_halved.nd) rfl (by first | exact Or.inl rfl | exact Or.inr rfl) (by first | exact .inl rfl | exact .inr rfl))) (Zam (Zdb Zj0 rfl (Zbh rfl B.n_range (Zaa (Zac (pv 1)) (Zad))) (Zcm (Zaw (i := 2) (sc__law_is_halved.nd) rfl (by first | exact Or.inl rfl | exact Or.inr rfl) (by first | exact .inl rfl | exact .inr rfl))) (Zam (ZcS (ZbA (Znl hr.units) (ZaB Zdk (Zak) (Zan Zfl rfl B.n_len ZaH (Zaa (Zcg (Nc := ["_law_mine", "_law_theirs"]) (cs := [none, none]) rfl (CSc.ok ⟨rfl, by decide +kernel, by kernel_rfl, by decide +kernel, rfl, by kernel_rfl⟩) (Znb rfl B.n_zip (Zaa (Zcc (Zac (pv 0)) (Zac (pv 1)) (fun _ _ => rfl)) (Zaa (Zcc (Zac (pv 0)) (Zac (pv 2)) (fun _ _ => rfl)) (Zad)))) (ZdE rfl rfl) (fun C D cells fp s₀ H₀ pins => ⟨ZcT rfl (Zaw (i := 0) (show (["_law_mine", "_law_theirs"] : List Str).Nodup from by decide +kernel) rfl (by first | exact Or.inl rfl | exact Or.inr rfl) (by first | exact .inl rfl | exact .inr rfl)) (Zaw (i := 1) (show (["_law_mine", "_law_theirs"] : List Str).Nodup from by decide +kernel) rfl (by first | exact Or.inl rfl | exact Or.inr rfl) (by first | exact .inl rfl | exact .inr rfl)), Zf2 (ZbA (Znl hr.units) (Zac (pv 0)) (Zac (pv 1)) (ZbR _)), Zak⟩)) (Zad)))) (Zan Zfl rfl B.n_len ZaH (Zaa (Zcc (Zac (pv 0)) (Zak) (fun _ _ => rfl)) (Zad))) (ZbR _)) (Zam (ZaK (Zc7))) (Zbm)))))) (Zam (ZaK (Zc7)))
theorem Zg3  {Zaz : List D → HD → Out D} (c_is_whole : CaE P w K mg base "is_whole" 1 Zaz) (f : Addr) (cdv : Value) (A : Around) (outer : List Env) (s : Shared) (H : Hp) (E : XK) (hr : Room 1 (A.deeper (envOfC "is_between" (defScope Zbx) s.heap.objs.size f cdv))) :
    Exs (Zcj (CXE P w K) P w K mg base ["thing", "least", "most"] "is_between" (defScope Zbx) f cdv A outer s H E) E (defBody Zbx) (Zcz Zaz) :=
  Zam (ZaK (ZgG (Zax c_is_whole hr Za1 (Zaa (Zac (pv 0)) (Zad))) (ZgF (Zh7 leM leM (Zac (pv 1)) (Zac (pv 0)) (Zac (pv 2))))))
theorem ZlV  {Zaz : List D → HD → Out D} (c_is_whole : CaE P w K mg base "is_whole" 1 Zaz) (f : Addr) (cdv : Value) (A : Around) (outer : List Env) (s : Shared) (H : Hp) (E : XK) (hr : Room 1 (A.deeper (envOfC "is_lot" (defScope ZcY) s.heap.objs.size f cdv))) :
    Exs (Zcj (CXE P w K) P w K mg base ["thing", "size", "last", "number"] "is_lot" (defScope ZcY) f cdv A outer s H E) E (defBody ZcY) (Zgj Zaz) :=
  Zah (ZcS (ZcD (ZcC (Zan (Zck et) rfl B.n_isinstance Zar (Zaa (Zac (pv 0)) (Zaa (ZiJ rfl B.n_tuple ZaO) (Zad)))))) (Zam (ZaK (Zc7))) (Zbm)) (Zah (ZaN (i := 2) sc_is_lot.nd rfl (by first | exact Or.inl rfl | exact Or.inr rfl) (ZjR (Zak))) (Zah (Zdb Zj0 rfl (Zcf (Zac (pv 0))) (Zcm (Zaw (i := 3) (sc_is_lot.nd) rfl (by first | exact Or.inl rfl | exact Or.inr rfl) (by first | exact .inl rfl | exact .inr rfl))) (Zah (ZcS (Zlf (Zh5 (ZcD (ZcC (Zax c_is_whole hr Za1 (Zaa (Zac (pv 3)) (Zad))))) (ZfY (ZcD (ZjF ltM ltM (Zac (pv 2)) (Zac (pv 3)) (Zac (pv 1))))))) (Zam (ZaK (Zc7))) (Zbm)) (Zam (ZaN (i := 2) sc_is_lot.nd rfl (by first | exact Or.inl rfl | exact Or.inr rfl) (Zac (pv 3)))))) (Zam (ZaK (Zc7)))))
theorem Zi4  {Zbc : List D → HD → Out D} {Zbt : List D → HD → Out D} (c__law_cell : CaE P w K mg base "_law_cell" 1 Zbc) (c__law_mix : CaE P w K mg base "_law_mix" 1 Zbt) (f : Addr) (cdv : Value) (A : Around) (outer : List Env) (s : Shared) (H : Hp) (E : XK) (hr : Room 1 (A.deeper (envOfC "_law_box" (defScope Zb4) s.heap.objs.size f cdv))) :
    Exs (Zcj (CXE P w K) P w K mg base ["_law_script", "_law_k", "_law_here", "_law_number", "_law_j"] "_law_box" (defScope Zb4) f cdv A outer s H E) E (defBody Zb4) (ZdY Zbc Zbt) :=
  Zah (ZaN (i := 2) sc__law_box.nd rfl (by first | exact Or.inl rfl | exact Or.inr rfl) (Zax c__law_cell hr Za1 (Zaa (Zac (pv 0)) (Zaa (Zac (pv 1)) (Zad))))) (Zah (ZcS (ZbA (Zoc hr.units) (ZaB ZmT (Zac (pv 2)) (Zak)) (Zak) (ZbR _)) (Zam (ZaK (ZbS (Zaa (ZaB ZoR (Zac (pv 2)) (Zak)) (Zad))))) (Zbm)) (Zah (ZaN (i := 3) sc__law_box.nd rfl (by first | exact Or.inl rfl | exact Or.inr rfl) (Zak)) (Zah (Zdb Zj0 rfl (Zbh rfl B.n_range (Zaa (Zak) (Zad))) (Zcm (Zaw (i := 4) (sc__law_box.nd) rfl (by first | exact Or.inl rfl | exact Or.inr rfl) (by first | exact .inl rfl | exact .inr rfl))) (Zam (ZaN (i := 3) sc__law_box.nd rfl (by first | exact Or.inl rfl | exact Or.inr rfl) (ZaB Zc4 (ZaB Zdk (Zac (pv 3)) (Zak)) (Zax c__law_mix hr Za1 (Zaa (Zac (pv 2)) (Zaa (Zac (pv 4)) (Zad)))))))) (Zam (ZaK (ZbS (Zaa (Zac (pv 3)) (Zad))))))))
theorem Zfb  {Zae : List D → HD → Out D} (c__law_take : CaE P w K mg base "_law_take" 1 Zae) (f : Addr) (cdv : Value) (A : Around) (outer : List Env) (s : Shared) (H : Hp) (E : XK) (hr : Room 1 (A.deeper (envOfC "_law_wide_box" (defScope Za7) s.heap.objs.size f cdv))) :
    Exs (Zcj (CXE P w K) P w K mg base ["_law_box_here", "_law_number", "_law_many", "_law_j"] "_law_wide_box" (defScope Za7) f cdv A outer s H E) E (defBody Za7) (Zcv Zae) :=
  Zah (Zmh (i := 1) (j := 2) rfl sc__law_wide_box.nd rfl rfl (by decide) rfl rfl (Zaa (Zax c__law_take hr Za1 (Zaa (Zac (pv 0)) (Zaa (Zak) (Zad)))) (Zaa (Zak) (Zad))) (by first | rfl | with_unfolding_all rfl)) (Zah (Zdb Zj0 rfl (Zbh rfl B.n_range (Zaa (Zak) (Zad))) (Zcm (Zaw (i := 3) (sc__law_wide_box.nd) rfl (by first | exact Or.inl rfl | exact Or.inr rfl) (by first | exact .inl rfl | exact .inr rfl))) (Zah (ZaN (i := 1) sc__law_wide_box.nd rfl (by first | exact Or.inl rfl | exact Or.inr rfl) (ZaB ZmT (ZaB Zc4 (ZaB Zc4 (ZaB Zdk (Zac (pv 1)) (Zak)) (Zak)) (Zac (pv 3))) (Zak))) (Zam (ZaN (i := 2) sc__law_wide_box.nd rfl (by first | exact Or.inl rfl | exact Or.inr rfl) (ZaB Zc4 (ZaB Zdk (Zac (pv 2)) (Zak)) (Zac (pv 1))))))) (Zam (ZaK (ZbS (Zaa (Zac (pv 2)) (Zad))))))
theorem Zfc  {Zae : List D → HD → Out D} (c__law_take : CaE P w K mg base "_law_take" 1 Zae) (f : Addr) (cdv : Value) (A : Around) (outer : List Env) (s : Shared) (H : Hp) (E : XK) (hr : Room 1 (A.deeper (envOfC "_law_no_board" (defScope Za8) s.heap.objs.size f cdv))) :
    Exs (Zcj (CXE P w K) P w K mg base ["_law_box_here", "_law_board_here", "_law_at", "_law_place", "_law_odd", "_law_row", "_law_bent", "_law_some"] "_law_no_board" (defScope Za8) f cdv A outer s H E) E (defBody Za8) (Zcw Zae) :=
  Zah (ZjM (Zcb (Zaa (Zax c__law_take hr Za1 (Zaa (Zac (pv 0)) (Zaa (Zan Zfl rfl B.n_len ZaH (Zaa (Zac (pv 1)) (Zad))) (Zad)))) (Zaa (Zax c__law_take hr Za1 (Zaa (Zac (pv 0)) (Zaa (Zan Zfl rfl B.n_len ZaH (Zaa (Zcc (Zac (pv 1)) (Zak) (fun _ _ => rfl)) (Zad))) (Zad)))) (Zad)))) (Zkh (is := [2, 3]) (Zl8 rfl (Zet (Zaw (i := 2) (sc__law_no_board.nd) rfl (by first | exact Or.inl rfl | exact Or.inr rfl) (by first | exact .inl rfl | exact .inr rfl)) (Zet (Zaw (i := 3) (sc__law_no_board.nd) rfl (by first | exact Or.inl rfl | exact Or.inr rfl) (by first | exact .inl rfl | exact .inr rfl)) (Zjk)))))) (Zah (ZaN (i := 4) sc__law_no_board.nd rfl (by first | exact Or.inl rfl | exact Or.inr rfl) (Zcc (ZbS (Zaa (Zak) (Zaa (ZjR (Zak)) (Zaa (Zc7) (Zaa (Zc7) (Zaa (ZjD) (Zaa (Zca) (Zaa (Zcb (Zaa (Zak) (Zad))) (Zaa (ZaB ZtF (Zak) (Zak)) (Zaa (ZbS (Zaa (Zak) (Zad))) (Zaa (Zkm) (Zad)))))))))))) (Zax c__law_take hr Za1 (Zaa (Zac (pv 0)) (Zaa (Zak) (Zad)))) (fun _ _ => rfl))) (Zah (ZaN (i := 5) sc__law_no_board.nd rfl (by first | exact Or.inl rfl | exact Or.inr rfl) (Zcc (Zac (pv 1)) (Zac (pv 2)) (fun _ _ => rfl))) (Zah (ZaN (i := 6) sc__law_no_board.nd rfl (by first | exact Or.inl rfl | exact Or.inr rfl) (ZaB Zc4 (ZaB Zc4 (Zbs (Zac (pv 5)) (ZbH) (ZbI (Zac (pv 3)))) (Zcb (Zaa (Zac (pv 4)) (Zad)))) (Zbs (Zac (pv 5)) (ZbI (ZaB Zc4 (Zac (pv 3)) (Zak))) (ZbH)))) (Zah (ZaN (i := 7) sc__law_no_board.nd rfl (by first | exact Or.inl rfl | exact Or.inr rfl) (ZbS (Zaa (Zac (pv 6)) (Zaa (Zac (pv 6)) (Zaa (Zac (pv 6)) (Zaa (ZaB Zc4 (Zac (pv 5)) (ZaB Zdk (Zcb (Zaa (Zak) (Zad))) (Zak))) (Zaa (Zcb (Zad)) (Zaa (Zbe Zkl rfl B.n_list ZfP (Zaa (Zac (pv 5)) (Zad))) (Zaa (ZjD) (Zaa (Zak) (Zad))))))))))) (Zah (ZcS (ZbA gtM (Zan Zfl rfl B.n_len ZaH (Zaa (Zac (pv 1)) (Zad))) (Zak) (ZbR _)) (Zam (ZaN (i := 7) sc__law_no_board.nd rfl (by first | exact Or.inl rfl | exact Or.inr rfl) (ZaB Zc4 (Zac (pv 7)) (ZbS (Zaa (Zbs (Zac (pv 5)) (ZbH) (ZbI (ZjR (Zak)))) (Zaa (ZaB Zc4 (Zac (pv 5)) (Zcb (Zaa (Zak) (Zad)))) (Zad))))))) (Zbm)) (Zah (ZmZ (i := 7) (Nc := ["_law_other", "_law_board_here", "_law_at"]) (cs := [none, some 1, some 2]) rfl sc__law_no_board.nd rfl (by first | exact Or.inl rfl | exact Or.inr rfl) (CSc.ok ⟨rfl, by decide +kernel, by kernel_rfl, by decide +kernel, rfl, by kernel_rfl⟩) (Zcf (Zac (pv 7))) (ZbT rfl) (fun C D cells fp s₀ H₀ pins => ⟨Zaw (i := 0) (show (["_law_other", "_law_board_here", "_law_at"] : List Str).Nodup from by decide +kernel) rfl (by first | exact Or.inl rfl | exact Or.inr rfl) (by first | exact .inl rfl | exact .inr rfl), Zbf, ZaB Zc4 (ZaB Zc4 (Zbs (Zac (pv 1)) (ZbH) (ZbI (Zac (pv 2)))) (Zcb (Zaa (Zac (pv 0)) (Zad)))) (Zbs (Zac (pv 1)) (ZbI (ZaB Zc4 (Zac (pv 2)) (Zak))) (ZbH))⟩)) (Zah (ZaN (i := 7) sc__law_no_board.nd rfl (by first | exact Or.inl rfl | exact Or.inr rfl) (ZaB Zc4 (Zac (pv 7)) (ZbS (Zaa (Zbe Zkl rfl B.n_list ZfP (Zaa (Zac (pv 1)) (Zad))) (Zaa (Zcb (Zaa (Zac (pv 1)) (Zad))) (Zaa (ZaB Zdk (Zcb (Zaa (Zcc (Zac (pv 1)) (Zak) (fun _ _ => rfl)) (Zad))) (Zak)) (Zaa (ZaB Zc4 (Zac (pv 1)) (Zcb (Zaa (Zcb (Zad)) (Zad)))) (Zaa (Zcc (Zac (pv 1)) (Zak) (fun _ _ => rfl)) (Zaa (ZjD) (Zaa (Zcb (Zad)) (Zaa (Zak) (Zaa (Zca) (Zaa (Zkm) (Zad)))))))))))))) (Zam (ZaK (Zcc (Zac (pv 7)) (Zax c__law_take hr Za1 (Zaa (Zac (pv 0)) (Zaa (Zan Zfl rfl B.n_len ZaH (Zaa (Zac (pv 7)) (Zad))) (Zad)))) (fun _ _ => rfl)))))))))))
theorem Zi5  {Zae : List D → HD → Out D} (c__law_take : CaE P w K mg base "_law_take" 1 Zae) (f : Addr) (cdv : Value) (A : Around) (outer : List Env) (s : Shared) (H : Hp) (E : XK) (hr : Room 1 (A.deeper (envOfC "_law_lot" (defScope Zb5) s.heap.objs.size f cdv))) :
    Exs (Zcj (CXE P w K) P w K mg base ["_law_box_here", "_law_size"] "_law_lot" (defScope Zb5) f cdv A outer s H E) E (defBody Zb5) (ZdZ Zae) :=
  Zam (ZaK (Zbe Zda rfl B.n_tuple ZaO (Zaa (Zcg (Nc := ["_law_number", "_law_box_here"]) (cs := [none, some 0]) rfl (CSc.ok ⟨rfl, by decide +kernel, by kernel_rfl, by decide +kernel, rfl, by kernel_rfl⟩) (Zbh rfl B.n_range (Zaa (Zac (pv 1)) (Zad))) (ZbT rfl) (fun C D cells fp s₀ H₀ pins => ⟨Zaw (i := 0) (show (["_law_number", "_law_box_here"] : List Str).Nodup from by decide +kernel) rfl (by first | exact Or.inl rfl | exact Or.inr rfl) (by first | exact .inl rfl | exact .inr rfl), Zf2 (ZbA (Zoc hr.units) (Zax c__law_take hr Ze0 (Zaa (Zac (pv 1)) (Zaa (Zak) (Zad)))) (Zak) (ZbR _)), Zac (pv 0)⟩)) (Zad))))
theorem Zi6  {Zav : List D → HD → Out D} (c_is_between : CaE P w K mg base "is_between" 2 Zav) (f : Addr) (cdv : Value) (A : Around) (outer : List Env) (s : Shared) (H : Hp) (E : XK) (hr : Room 2 (A.deeper (envOfC "is_light" (defScope Zb6) s.heap.objs.size f cdv))) :
    Exs (Zcj (CXE P w K) P w K mg base ["thing"] "is_light" (defScope Zb6) f cdv A outer s H E) E (defBody Zb6) (Zd0 Zav) :=
  Zam (ZaK (Zax c_is_between hr Za1 (Zaa (Zac (pv 0)) (Zaa (Zak) (Zaa (Zak) (Zad))))))
theorem Zgo  {Zav : List D → HD → Out D} (c_is_between : CaE P w K mg base "is_between" 2 Zav) (f : Addr) (cdv : Value) (A : Around) (outer : List Env) (s : Shared) (H : Hp) (E : XK) (hr : Room 2 (A.deeper (envOfC "need_number" (defScope Zbp) s.heap.objs.size f cdv))) :
    Exs (Zcj (CXE P w K) P w K mg base ["thing", "least", "most"] "need_number" (defScope Zbp) f cdv A outer s H E) E (defBody Zbp) (ZcZ Zav) :=
  Zam (ZcS (ZcD (ZcC (Zax c_is_between hr Za1 (Zaa (Zac (pv 0)) (Zaa (Zac (pv 1)) (Zaa (Zac (pv 2)) (Zad))))))) (Zam (Ze2 et (by decide +kernel) (by decide +kernel) rfl rfl Zhx (Zaa (Znk (ZhB (Zkf (Zac (pv 1)) (ZhB (Zkf (Zac (pv 2)) (ZhB (Znj))))))) (Zad)))) (Zbm))
theorem Zg4  {Zae : List D → HD → Out D} {ZaI : List D → HD → Out D} (c__law_take : CaE P w K mg base "_law_take" 1 Zae) (c__law_wide_box : CaE P w K mg base "_law_wide_box" 2 ZaI) (f : Addr) (cdv : Value) (A : Around) (outer : List Env) (s : Shared) (H : Hp) (E : XK) (hr : Room 2 (A.deeper (envOfC "_law_board" (defScope Zby) s.heap.objs.size f cdv))) :
    Exs (Zcj (CXE P w K) P w K mg base ["_law_box_here", "_law_high", "_law_wide", "_law_way", "_law_digits", "_law_dense", "_law_rows", "_law_number"] "_law_board" (defScope Zby) f cdv A outer s H E) E (defBody Zby) (Zdf Zae ZaI) :=
  Zah (ZaN (i := 3) sc__law_board.nd rfl (by first | exact Or.inl rfl | exact Or.inr rfl) (Zax c__law_take hr Za1 (Zaa (Zac (pv 0)) (Zaa (Zak) (Zad))))) (Zah (ZaN (i := 4) sc__law_board.nd rfl (by first | exact Or.inl rfl | exact Or.inr rfl) (Zax c__law_wide_box hr Za1 (Zaa (Zac (pv 0)) (Zad)))) (Zah (ZaN (i := 5) sc__law_board.nd rfl (by first | exact Or.inl rfl | exact Or.inr rfl) (Zcc (ZbS (Zaa (Zak) (Zaa (Zak) (Zaa (Zak) (Zaa (Zak) (Zaa (Zak) (Zad))))))) (Zac (pv 3)) (fun _ _ => rfl))) (Zah (ZaN (i := 6) sc__law_board.nd rfl (by first | exact Or.inl rfl | exact Or.inr rfl) (ZbS (Zad))) (Zah (Zdb Zj0 rfl (Zbh rfl B.n_range (Zaa (Zac (pv 1)) (Zad))) (Zcm (Zaw (i := 7) (sc__law_board.nd) rfl (by first | exact Or.inl rfl | exact Or.inr rfl) (by first | exact .inl rfl | exact .inr rfl))) (Zam (ZcR (ZeS (Zac (pv 6)) (Zbe Zda rfl B.n_tuple ZaO (Zaa (Zcg (Nc := ["_law_place", "_law_digits", "_law_dense"]) (cs := [none, some 4, some 5]) rfl (CSc.ok ⟨rfl, by decide +kernel, by kernel_rfl, by decide +kernel, rfl, by kernel_rfl⟩) (Zbh rfl B.n_range (Zaa (Zac (pv 2)) (Zad))) (ZbT rfl) (fun C D cells fp s₀ H₀ pins => ⟨Zaw (i := 0) (show (["_law_place", "_law_digits", "_law_dense"] : List Str).Nodup from by decide +kernel) rfl (by first | exact Or.inl rfl | exact Or.inr rfl) (by first | exact .inl rfl | exact .inr rfl), Zbf, Zbe ZjK rfl B.n_int ZdI (Zaa (ZeH ltM (Zax c__law_take hr Ze0 (Zaa (Zac (pv 1)) (Zaa (Zak) (Zad)))) (Zac (pv 2)) (ZbR _)) (Zad))⟩)) (Zad))))))) (Zah (ZcS (ZbA (Zoc hr.units) (Zac (pv 3)) (Zak) (ZbR _)) (Zam (ZaN (i := 6) sc__law_board.nd rfl (by first | exact Or.inl rfl | exact Or.inr rfl) (ZaB Zdk (ZbS (Zaa (Zcc (Zac (pv 6)) (Zak) (fun _ _ => rfl)) (Zad))) (Zac (pv 1))))) (Zbm)) (Zam (ZaK (Zbe Zda rfl B.n_tuple ZaO (Zaa (Zac (pv 6)) (Zad))))))))))
theorem ZlW  {Zap : List D → HD → Out D} {Zbu : List D → HD → Out D} (c_is_line_tuple : CaE P w K mg base "is_line_tuple" 1 Zap) (c_is_light : CaE P w K mg base "is_light" 3 Zbu) (f : Addr) (cdv : Value) (A : Around) (outer : List Env) (s : Shared) (H : Hp) (E : XK) (hr : Room 3 (A.deeper (envOfC "is_row" (defScope Zc0) s.heap.objs.size f cdv))) :
    Exs (Zcj (CXE P w K) P w K mg base ["thing"] "is_row" (defScope Zc0) f cdv A outer s H E) E (defBody Zc0) (Zgk Zap Zbu) :=
  Zam (ZaK (ZgG (Zax c_is_line_tuple hr Za1 (Zaa (Zac (pv 0)) (Zad))) (ZgF (Zan (Zp2 rfl) rfl B.n_all ZdH (Zaa (Zcg (Nc := ["light"]) (cs := [none]) rfl (CSc.ok ⟨rfl, by decide +kernel, by kernel_rfl, by decide +kernel, rfl, by kernel_rfl⟩) (Zcf (Zac (pv 0))) (ZbT rfl) (fun C D cells fp s₀ H₀ pins => ⟨Zaw (i := 0) (show (["light"] : List Str).Nodup from by decide +kernel) rfl (by first | exact Or.inl rfl | exact Or.inr rfl) (by first | exact .inl rfl | exact .inr rfl), Zbf, Zax c_is_light hr Ze0 (Zaa (Zac (pv 0)) (Zad))⟩)) (Zad))))))
theorem ZkB  {ZaX : List D → HD → Out D} {ZaW : List D → HD → Out D} (c_need_number : CaE P w K mg base "need_number" 3 ZaX) (c_common_bits : CaE P w K mg base "common_bits" 1 ZaW) {t_MOST_BITS : Tok} (m_MOST_BITS : mg "MOST_BITS" = some (.int 3 t_MOST_BITS)) (f : Addr) (cdv : Value) (A : Around) (outer : List Env) (s : Shared) (H : Hp) (E : XK) (hr : Room 3 (A.deeper (envOfC "by_bits" (defScope Zcx) s.heap.objs.size f cdv))) :
    Exs (Zcj (CXE P w K) P w K mg base ["k", "side"] "by_bits" (defScope Zcx) f cdv A outer s H E) E (defBody Zcx) (Ze7 ZaX ZaW) :=
  Zah (ZcR (Zax c_need_number hr Za1 (Zaa (Zac (pv 0)) (Zaa (Zak) (Zaa (Zev rfl m_MOST_BITS) (Zad)))))) (Zah (ZaN (i := 1) sc_by_bits.nd rfl (by first | exact Or.inl rfl | exact Or.inr rfl) (ZaB Zn3 (Zak) (Zac (pv 0)))) (Zam (ZaK (Zbe Zda rfl B.n_tuple ZaO (Zaa (Zcg (Nc := ["row", "side"]) (cs := [none, some 1]) rfl (CSc.ok ⟨rfl, by decide +kernel, by kernel_rfl, by decide +kernel, rfl, by kernel_rfl⟩) (Zbh rfl B.n_range (Zaa (Zac (pv 1)) (Zad))) (ZbT rfl) (fun C D cells fp s₀ H₀ pins => ⟨Zaw (i := 0) (show (["row", "side"] : List Str).Nodup from by decide +kernel) rfl (by first | exact Or.inl rfl | exact Or.inr rfl) (by first | exact .inl rfl | exact .inr rfl), Zbf, Zbe Zda rfl B.n_tuple ZaO (Zaa (Zcg (Nc := ["column", "row"]) (cs := [none, some 0]) rfl (CSc.ok ⟨rfl, by decide +kernel, by kernel_rfl, by decide +kernel, rfl, by kernel_rfl⟩) (Zbh rfl B.n_range (Zaa (Zac (pv 1)) (Zad))) (ZbT rfl) (fun C D cells fp s₀ H₀ pins => ⟨Zaw (i := 0) (show (["column", "row"] : List Str).Nodup from by decide +kernel) rfl (by first | exact Or.inl rfl | exact Or.inr rfl) (by first | exact .inl rfl | exact .inr rfl), Zbf, ZaB ZmT (Zax c_common_bits hr Ze0 (Zaa (Zac (pv 1)) (Zaa (Zac (pv 0)) (Zad)))) (Zak)⟩)) (Zad))⟩)) (Zad))))))
theorem Zi7  {Zap : List D → HD → Out D} {Zb9 : List D → HD → Out D} (c_is_line_tuple : CaE P w K mg base "is_line_tuple" 1 Zap) (c_is_row : CaE P w K mg base "is_row" 4 Zb9) (f : Addr) (cdv : Value) (A : Around) (outer : List Env) (s : Shared) (H : Hp) (E : XK) (hr : Room 4 (A.deeper (envOfC "is_board" (defScope Zb7) s.heap.objs.size f cdv))) :
    Exs (Zcj (CXE P w K) P w K mg base ["thing"] "is_board" (defScope Zb7) f cdv A outer s H E) E (defBody Zb7) (Zd1 Zap Zb9) :=
  Zah (ZcS (Zlf (Zh5 (ZcD (ZcC (Zax c_is_line_tuple hr Za1 (Zaa (Zac (pv 0)) (Zad))))) (ZfY (ZcD (ZcC (Zan (Zp2 rfl) rfl B.n_all ZdH (Zaa (Zcg (Nc := ["row"]) (cs := [none]) rfl (CSc.ok ⟨rfl, by decide +kernel, by kernel_rfl, by decide +kernel, rfl, by kernel_rfl⟩) (Zcf (Zac (pv 0))) (ZbT rfl) (fun C D cells fp s₀ H₀ pins => ⟨Zaw (i := 0) (show (["row"] : List Str).Nodup from by decide +kernel) rfl (by first | exact Or.inl rfl | exact Or.inr rfl) (by first | exact .inl rfl | exact .inr rfl), Zbf, Zax c_is_row hr Ze0 (Zaa (Zac (pv 0)) (Zad))⟩)) (Zad)))))))) (Zam (ZaK (Zc7))) (Zbm)) (Zam (ZaK (Zan (Zp2 rfl) rfl B.n_all ZdH (Zaa (Zcg (Nc := ["row", "thing"]) (cs := [none, some 0]) rfl (CSc.ok ⟨rfl, by decide +kernel, by kernel_rfl, by decide +kernel, rfl, by kernel_rfl⟩) (Zcf (Zac (pv 0))) (ZbT rfl) (fun C D cells fp s₀ H₀ pins => ⟨Zaw (i := 0) (show (["row", "thing"] : List Str).Nodup from by decide +kernel) rfl (by first | exact Or.inl rfl | exact Or.inr rfl) (by first | exact .inl rfl | exact .inr rfl), Zbf, ZeH (Zoc hr.units) (Zan Zfl rfl B.n_len ZaH (Zaa (Zac (pv 0)) (Zad))) (Zan Zfl rfl B.n_len ZaH (Zaa (Zcc (Zac (pv 1)) (Zak) (fun _ _ => rfl)) (Zad))) (ZbR _)⟩)) (Zad)))))
theorem Zg5  {Zbk : List D → HD → Out D} (c_is_board : CaE P w K mg base "is_board" 5 Zbk) (f : Addr) (cdv : Value) (A : Around) (outer : List Env) (s : Shared) (H : Hp) (E : XK) (hr : Room 5 (A.deeper (envOfC "need_board" (defScope Zbz) s.heap.objs.size f cdv))) :
    Exs (Zcj (CXE P w K) P w K mg base ["thing"] "need_board" (defScope Zbz) f cdv A outer s H E) E (defBody Zbz) (ZcA Zbk) :=
  Zam (ZcS (ZcD (ZcC (Zax c_is_board hr Za1 (Zaa (Zac (pv 0)) (Zad))))) (Zam (Ze2 et (by decide +kernel) (by decide +kernel) rfl rfl Zhx (Zaa (Zca) (Zad)))) (Zbm))
theorem Zfu  {Zaj : List D → HD → Out D} {ZbJ : List D → HD → Out D} (c_need_board : CaE P w K mg base "need_board" 6 Zaj) (c_is_lot : CaE P w K mg base "is_lot" 2 ZbJ) (f : Addr) (cdv : Value) (A : Around) (outer : List Env) (s : Shared) (H : Hp) (E : XK) (hr : Room 6 (A.deeper (envOfC "is_switching" (defScope Zbb) s.heap.objs.size f cdv))) :
    Exs (Zcj (CXE P w K) P w K mg base ["board", "thing"] "is_switching" (defScope Zbb) f cdv A outer s H E) E (defBody Zbb) (ZcH Zaj ZbJ) :=
  Zah (ZcR (Zax c_need_board hr Za1 (Zaa (Zac (pv 0)) (Zad)))) (Zah (ZcS (Zlf (Zh5 (ZcD (ZcC (Zan (Zck et) rfl B.n_isinstance Zar (Zaa (Zac (pv 1)) (Zaa (ZiJ rfl B.n_tuple ZaO) (Zad)))))) (ZfY (ZbA (Znl hr.units) (Zan Zfl rfl B.n_len ZaH (Zaa (Zac (pv 1)) (Zad))) (Zak) (ZbR _))))) (Zam (ZaK (Zc7))) (Zbm)) (Zam (ZaK (ZgG (Zax c_is_lot hr Za1 (Zaa (Zcc (Zac (pv 1)) (Zak) (fun _ _ => rfl)) (Zaa (Zan Zfl rfl B.n_len ZaH (Zaa (Zac (pv 0)) (Zad))) (Zad)))) (ZgF (Zax c_is_lot hr Za1 (Zaa (Zcc (Zac (pv 1)) (Zak) (fun _ _ => rfl)) (Zaa (Zan Zfl rfl B.n_len ZaH (Zaa (Zcc (Zac (pv 0)) (Zak) (fun _ _ => rfl)) (Zad))) (Zad)))))))))
theorem ZhM  {Zaj : List D → HD → Out D} (c_need_board : CaE P w K mg base "need_board" 6 Zaj) {t_MOST_LINES : Tok} (m_MOST_LINES : mg "MOST_LINES" = some (.int 8 t_MOST_LINES)) (f : Addr) (cdv : Value) (A : Around) (outer : List Env) (s : Shared) (H : Hp) (E : XK) (hr : Room 6 (A.deeper (envOfC "spread_by" (defScope ZbO) s.heap.objs.size f cdv))) :
    Exs (Zcj (CXE P w K) P w K mg base ["one", "other", "many"] "spread_by" (defScope ZbO) f cdv A outer s H E) E (defBody ZbO) (Zc1 Zaj) :=
  Zah (ZcR (Zax c_need_board hr Za1 (Zaa (Zac (pv 0)) (Zad)))) (Zah (ZcR (Zax c_need_board hr Za1 (Zaa (Zac (pv 1)) (Zad)))) (Zah (ZaN (i := 2) sc_spread_by.nd rfl (by first | exact Or.inl rfl | exact Or.inr rfl) (Zan (Zsm rfl) rfl B.n_max Zg0 (Zaa (ZaB Zdk (Zan Zfl rfl B.n_len ZaH (Zaa (Zac (pv 0)) (Zad))) (Zan Zfl rfl B.n_len ZaH (Zaa (Zac (pv 1)) (Zad)))) (Zaa (ZaB Zdk (Zan Zfl rfl B.n_len ZaH (Zaa (Zcc (Zac (pv 0)) (Zak) (fun _ _ => rfl)) (Zad))) (Zan Zfl rfl B.n_len ZaH (Zaa (Zcc (Zac (pv 1)) (Zak) (fun _ _ => rfl)) (Zad)))) (Zad))))) (Zah (ZcS (ZbA gtM (Zac (pv 2)) (Zev rfl m_MOST_LINES) (ZbR _)) (Zam (Zll)) (Zbm)) (Zam (ZaK (Zbe Zda rfl B.n_tuple ZaO (Zaa (Zge (Nc := ["row", "inner_row", "other"]) (cs := [none, none, some 1]) (is := [0]) (js := [1]) rfl (CSc.ok ⟨rfl, by decide +kernel, by kernel_rfl, by decide +kernel, rfl, by kernel_rfl⟩) (Zcf (Zac (pv 0))) (fun g e => by cases e <;> rfl) (by decide) (Zdd (i := 0) (js := [1]) (by decide)) (fun C D cells fp s₀ H₀ pins ao => ⟨Zaw (i := 0) (show (["row", "inner_row", "other"] : List Str).Nodup from by decide +kernel) rfl (by first | exact Or.inl rfl | exact Or.inr rfl) (by first | exact .inl rfl | exact .inr rfl), Zbf, Zgd (is := [1]) (js := []) rfl rfl rfl (fun g e => by cases e <;> rfl) (Zcf (Zac (pv 2))) (Zaw (i := 1) (show (["row", "inner_row", "other"] : List Str).Nodup from by decide +kernel) rfl (by first | exact Or.inl rfl | exact Or.inr rfl) (by first | exact .inl rfl | exact .inr rfl)) (Zdd (i := 1) (js := []) (by decide)) (Zbf) (Zgc ao rfl rfl (Zbe Zda rfl B.n_tuple ZaO (Zaa (Zge (Nc := ["light", "inner", "inner_row"]) (cs := [none, none, some 1]) (is := [0]) (js := [1]) rfl (CSc.ok ⟨rfl, by decide +kernel, by kernel_rfl, by decide +kernel, rfl, by kernel_rfl⟩) (Zcf (Zac (pv 0))) (fun g e => by cases e <;> rfl) (by decide) (Zdd (i := 0) (js := [1]) (by decide)) (fun C D cells fp s₀ H₀ pins ao => ⟨Zaw (i := 0) (show (["light", "inner", "inner_row"] : List Str).Nodup from by decide +kernel) rfl (by first | exact Or.inl rfl | exact Or.inr rfl) (by first | exact .inl rfl | exact .inr rfl), Zbf, Zgd (is := [1]) (js := []) rfl rfl rfl (fun g e => by cases e <;> rfl) (Zcf (Zac (pv 2))) (Zaw (i := 1) (show (["light", "inner", "inner_row"] : List Str).Nodup from by decide +kernel) rfl (by first | exact Or.inl rfl | exact Or.inr rfl) (by first | exact .inl rfl | exact .inr rfl)) (Zdd (i := 1) (js := []) (by decide)) (Zbf) (Zgc ao rfl rfl (ZaB ZmT (ZaB Zc4 (Zac (pv 0)) (Zac (pv 1))) (Zak)))⟩)) (Zad))))⟩)) (Zad))))))))
theorem ZhN  {Zaj : List D → HD → Out D} {ZaP : List D → HD → Out D} (c_need_board : CaE P w K mg base "need_board" 6 Zaj) (c_unlike_many : CaE P w K mg base "unlike_many" 1 ZaP) (f : Addr) (cdv : Value) (A : Around) (outer : List Env) (s : Shared) (H : Hp) (E : XK) (hr : Room 6 (A.deeper (envOfC "is_halved" (defScope ZbP) s.heap.objs.size f cdv))) :
    Exs (Zcj (CXE P w K) P w K mg base ["board"] "is_halved" (defScope ZbP) f cdv A outer s H E) E (defBody ZbP) (Zc2 Zaj ZaP) :=
  Zah (ZcR (Zax c_need_board hr Za1 (Zaa (Zac (pv 0)) (Zad)))) (Zam (ZaK (Zan (Zp2 rfl) rfl B.n_all ZdH (Zaa (Zge (Nc := ["number", "row", "later", "board"]) (cs := [none, none, none, some 0]) (is := [0, 1]) (js := [2]) rfl (CSc.ok ⟨rfl, by decide +kernel, by kernel_rfl, by decide +kernel, rfl, by kernel_rfl⟩) (ZcM rfl B.n_enumerate (Zaa (Zac (pv 0)) (Zad))) (fun g e => by cases e <;> rfl) (by decide) (Zkr (i := 0) (j := 1) (js := [2]) (by decide) (by decide)) (fun C D cells fp s₀ H₀ pins ao => ⟨ZcT rfl (Zaw (i := 0) (show (["number", "row", "later", "board"] : List Str).Nodup from by decide +kernel) rfl (by first | exact Or.inl rfl | exact Or.inr rfl) (by first | exact .inl rfl | exact .inr rfl)) (Zaw (i := 1) (show (["number", "row", "later", "board"] : List Str).Nodup from by decide +kernel) rfl (by first | exact Or.inl rfl | exact Or.inr rfl) (by first | exact .inl rfl | exact .inr rfl)), Zbf, Zgd (is := [2]) (js := []) rfl rfl rfl (fun g e => by cases e <;> rfl) (Zcf (Zbs (Zac (pv 3)) (ZbI (ZaB Zc4 (Zac (pv 0)) (Zak))) (ZbH))) (Zaw (i := 2) (show (["number", "row", "later", "board"] : List Str).Nodup from by decide +kernel) rfl (by first | exact Or.inl rfl | exact Or.inr rfl) (by first | exact .inl rfl | exact .inr rfl)) (Zdd (i := 2) (js := []) (by decide)) (Zbf) (Zgc ao rfl rfl (ZeH (Zoc hr.units) (ZaB Zdk (Zak) (Zax c_unlike_many hr Ze0 (Zaa (Zac (pv 1)) (Zaa (Zac (pv 2)) (Zad))))) (Zan Zfl rfl B.n_len ZaH (Zaa (Zac (pv 1)) (Zad))) (ZbR _)))⟩)) (Zad)))))
theorem Zem  {ZaM : List D → HD → Out D} (c_is_switching : CaE P w K mg base "is_switching" 7 ZaM) (f : Addr) (cdv : Value) (A : Around) (outer : List Env) (s : Shared) (H : Hp) (E : XK) (hr : Room 7 (A.deeper (envOfC "need_switching" (defScope ZaZ) s.heap.objs.size f cdv))) :
    Exs (Zcj (CXE P w K) P w K mg base ["board", "thing"] "need_switching" (defScope ZaZ) f cdv A outer s H E) E (defBody ZaZ) (Zci ZaM) :=
  Zam (ZcS (ZcD (ZcC (Zax c_is_switching hr Za1 (Zaa (Zac (pv 0)) (Zaa (Zac (pv 1)) (Zad)))))) (Zam (Ze2 et (by decide +kernel) (by decide +kernel) rfl rfl Zhx (Zaa (Zca) (Zad)))) (Zbm))
theorem Zi8  {ZaG : List D → HD → Out D} {ZaL : List D → HD → Out D} (c_need_switching : CaE P w K mg base "need_switching" 8 ZaG) (c_row_switched : CaE P w K mg base "row_switched" 1 ZaL) (f : Addr) (cdv : Value) (A : Around) (outer : List Env) (s : Shared) (H : Hp) (E : XK) (hr : Room 8 (A.deeper (envOfC "switched" (defScope Zb8) s.heap.objs.size f cdv))) :
    Exs (Zcj (CXE P w K) P w K mg base ["board", "switching", "rows", "columns"] "switched" (defScope Zb8) f cdv A outer s H E) E (defBody Zb8) (Zd3 ZaG ZaL) :=
  Zah (ZcR (Zax c_need_switching hr Za1 (Zaa (Zac (pv 0)) (Zaa (Zac (pv 1)) (Zad))))) (Zah (ZjM (Zac (pv 1)) (Zex (ZcT rfl (Zaw (i := 2) (sc_switched.nd) rfl (by first | exact Or.inl rfl | exact Or.inr rfl) (by first | exact .inl rfl | exact .inr rfl)) (Zaw (i := 3) (sc_switched.nd) rfl (by first | exact Or.inl rfl | exact Or.inr rfl) (by first | exact .inl rfl | exact .inr rfl))))) (Zam (ZaK (Zbe Zda rfl B.n_tuple ZaO (Zaa (Zcg (Nc := ["number", "row", "columns", "rows"]) (cs := [none, none, some 3, some 2]) rfl (CSc.ok ⟨rfl, by decide +kernel, by kernel_rfl, by decide +kernel, rfl, by kernel_rfl⟩) (ZcM rfl B.n_enumerate (Zaa (Zac (pv 0)) (Zad))) (ZdE rfl rfl) (fun C D cells fp s₀ H₀ pins => ⟨ZcT rfl (Zaw (i := 0) (show (["number", "row", "columns", "rows"] : List Str).Nodup from by decide +kernel) rfl (by first | exact Or.inl rfl | exact Or.inr rfl) (by first | exact .inl rfl | exact .inr rfl)) (Zaw (i := 1) (show (["number", "row", "columns", "rows"] : List Str).Nodup from by decide +kernel) rfl (by first | exact Or.inl rfl | exact Or.inr rfl) (by first | exact .inl rfl | exact .inr rfl)), Zbf, Zax c_row_switched hr Ze0 (Zaa (Zac (pv 1)) (Zaa (Zac (pv 2)) (Zaa (ZeH inM (Zac (pv 0)) (Zac (pv 3)) (by with_unfolding_all rfl)) (Zad))))⟩)) (Zad))))))
theorem Zr3  {Zbi : List D → HD → Out D} {Zae : List D → HD → Out D} {Zbj : List D → HD → Out D} {ZaU : List D → HD → Out D} {Za2 : List D → HD → Out D} {ZaV : List D → HD → Out D} {ZaD : List D → HD → Out D} {ZaJ : List D → HD → Out D} {ZaC : List D → HD → Out D} {ZaF : List D → HD → Out D} {ZaT : List D → HD → Out D} (c__law_box : CaE P w K mg base "_law_box" 2 Zbi) (c__law_take : CaE P w K mg base "_law_take" 1 Zae) (c_by_bits : CaE P w K mg base "by_bits" 4 Zbj) (c__law_lot : CaE P w K mg base "_law_lot" 2 ZaU) (c_switched : CaE P w K mg base "switched" 9 Za2) (c_spread_by : CaE P w K mg base "spread_by" 7 ZaV) (c_is_halved : CaE P w K mg base "is_halved" 7 ZaD) (c__law_board : CaE P w K mg base "_law_board" 3 ZaJ) (c__law_is_halved : CaE P w K mg base "_law_is_halved" 1 ZaC) (c__law_no_board : CaE P w K mg base "_law_no_board" 2 ZaF) (c__law_kind : CaM P w K mg base "_law_kind" 1 ZaT) {cT T fsd : Addr} {fdd : FuncData} (htp : tabP K = some (cT, T)) (hcd : PySem.W.codeHdIn K cT T = true) (hbm : BMb mg base) (Sd : SaidD K mg Zct fsd fdd) (f : Addr) (A : Around) (outer : List Env) (s : Shared) (H : Hp) (E : XK) (hr : Room 9 (A.deeper (envOfC "law" (defScope s_law) s.heap.objs.size f (.ref cT)))) :
    Exs (Zcj (CXE P w K) P w K mg base ["_law_script", "_law_k", "_law_box_here", "_law_bits", "_law_board_here", "_law_here", "_law_small", "_law_wide", "_law_one", "_law_at", "_law_place", "_law_line", "_law_drawn", "_law_none"] "law" (defScope s_law) f (.ref cT) A outer s H E) E (defBody s_law) (ZlU Zbi Zae Zbj ZaU Za2 ZaV ZaD ZaJ ZaC ZaF ZaT) :=
  have LX : LamX (Zcj (CXE P w K) P w K mg base ["_law_script", "_law_k", "_law_box_here", "_law_bits", "_law_board_here", "_law_here", "_law_small", "_law_wide", "_law_one", "_law_at", "_law_place", "_law_line", "_law_drawn", "_law_none"] "law" (defScope s_law) f (.ref cT) A outer s H E) cT T := ⟨rfl, htp, hcd, (show ("law" : Str) ++ ".<locals>." = ("law.<locals>." : Str) by decide +kernel), hbm⟩
  Zah (Zdb Zj0 rfl (Zbh rfl B.n_range (Zaa (Zan (Zsm rfl) rfl B.n_max Zg0 (Zaa (Zak) (Zaa (Zan (ZtG rfl) rfl B.n_min Zky (Zaa (Zan Zfl rfl B.n_len ZaH (Zaa (Zac (pv 0)) (Zad))) (Zaa (Zak) (Zad)))) (Zad)))) (Zad))) (Zcm (Zaw (i := 1) (sc_law.nd) rfl (by first | exact Or.inl rfl | exact Or.inr rfl) (by first | exact .inl rfl | exact .inr rfl))) (Zah (ZaN (i := 2) sc_law.nd rfl (by first | exact Or.inl rfl | exact Or.inr rfl) (Zax c__law_box hr Za1 (Zaa (Zac (pv 0)) (Zaa (Zac (pv 1)) (Zad))))) (Zah (ZaN (i := 3) sc_law.nd rfl (by first | exact Or.inl rfl | exact Or.inr rfl) (ZaB Zc4 (Zak) (Zax c__law_take hr Za1 (Zaa (Zac (pv 2)) (Zaa (Zak) (Zad)))))) (Zah (ZaN (i := 4) sc_law.nd rfl (by first | exact Or.inl rfl | exact Or.inr rfl) (Zax c_by_bits hr Za1 (Zaa (Zac (pv 3)) (Zad)))) (Zah (ZaN (i := 5) sc_law.nd rfl (by first | exact Or.inl rfl | exact Or.inr rfl) (Zax c_switched hr Za1 (Zaa (Zac (pv 4)) (Zaa (Zcb (Zaa (Zax c__law_lot hr Za1 (Zaa (Zac (pv 2)) (Zaa (ZaB Zn3 (Zak) (Zac (pv 3))) (Zad)))) (Zaa (Zax c__law_lot hr Za1 (Zaa (Zac (pv 2)) (Zaa (ZaB Zn3 (Zak) (Zac (pv 3))) (Zad)))) (Zad)))) (Zad))))) (Zah (ZaN (i := 6) sc_law.nd rfl (by first | exact Or.inl rfl | exact Or.inr rfl) (Zax c_switched hr Za1 (Zaa (Zax c_by_bits hr Za1 (Zaa (ZaB ZpY (Zak) (Zac (pv 3))) (Zad))) (Zaa (Zcb (Zaa (Zax c__law_lot hr Za1 (Zaa (Zac (pv 2)) (Zaa (ZaB Zn3 (Zak) (ZaB ZpY (Zak) (Zac (pv 3)))) (Zad)))) (Zaa (Zcb (Zad)) (Zad)))) (Zad))))) (Zah (ZaN (i := 7) sc_law.nd rfl (by first | exact Or.inl rfl | exact Or.inr rfl) (Zax c_spread_by hr Za1 (Zaa (Zac (pv 5)) (Zaa (Zac (pv 6)) (Zad))))) (Zah (Zdb Zj0 rfl (Zcf (ZbS (Zaa (Zac (pv 4)) (Zaa (Zac (pv 5)) (Zaa (Zac (pv 6)) (Zaa (Zac (pv 7)) (Zaa (Zax c_spread_by hr Za1 (Zaa (Zac (pv 6)) (Zaa (Zac (pv 5)) (Zad)))) (Zad)))))))) (Zcm (Zaw (i := 8) (sc_law.nd) rfl (by first | exact Or.inl rfl | exact Or.inr rfl) (by first | exact .inl rfl | exact .inr rfl))) (Zam (ZcS (ZbA Zmf (Zax c_is_halved hr Za1 (Zaa (Zac (pv 8)) (Zad))) (Zc7) (ZbR _)) (Zam (ZaK (Zc7))) (Zbm)))) (Zah (Zmh (i := 9) (j := 10) rfl sc_law.nd rfl rfl (by decide) rfl rfl (Zaa (Zax c__law_take hr Za1 (Zaa (Zac (pv 2)) (Zaa (ZaB Zn3 (Zak) (Zac (pv 3))) (Zad)))) (Zaa (Zax c__law_take hr Za1 (Zaa (Zac (pv 2)) (Zaa (ZaB Zn3 (Zak) (Zac (pv 3))) (Zad)))) (Zad))) (by first | rfl | with_unfolding_all rfl)) (Zah (ZaN (i := 11) sc_law.nd rfl (by first | exact Or.inl rfl | exact Or.inr rfl) (ZaB Zc4 (ZaB Zc4 (Zbs (Zcc (Zac (pv 5)) (Zac (pv 9)) (fun _ _ => rfl)) (ZbH) (ZbI (Zac (pv 10)))) (Zcb (Zaa (ZaB ZpY (Zak) (Zcc (Zcc (Zac (pv 5)) (Zac (pv 9)) (fun _ _ => rfl)) (Zac (pv 10)) (fun _ _ => rfl))) (Zad)))) (Zbs (Zcc (Zac (pv 5)) (Zac (pv 9)) (fun _ _ => rfl)) (ZbI (ZaB Zc4 (Zac (pv 10)) (Zak))) (ZbH)))) (Zah (ZcS (ZbA Zmf (Zax c_is_halved hr Za1 (Zaa (ZaB Zc4 (ZaB Zc4 (Zbs (Zac (pv 5)) (ZbH) (ZbI (Zac (pv 9)))) (Zcb (Zaa (Zac (pv 11)) (Zad)))) (Zbs (Zac (pv 5)) (ZbI (ZaB Zc4 (Zac (pv 9)) (Zak))) (ZbH))) (Zad))) (Zc7) (ZbR _)) (Zam (ZaK (Zc7))) (Zbm)) (Zah (ZaN (i := 12) sc_law.nd rfl (by first | exact Or.inl rfl | exact Or.inr rfl) (Zax c__law_board hr Za1 (Zaa (Zac (pv 2)) (Zaa (ZaB Zc4 (Zak) (Zax c__law_take hr Za1 (Zaa (Zac (pv 2)) (Zaa (Zak) (Zad))))) (Zaa (ZaB Zdk (Zak) (ZaB Zc4 (Zak) (Zax c__law_take hr Za1 (Zaa (Zac (pv 2)) (Zaa (Zak) (Zad)))))) (Zad)))))) (Zah (Zdb Zj0 rfl (Zcf (ZbS (Zaa (Zac (pv 12)) (Zaa (Zax c__law_board hr Za1 (Zaa (Zac (pv 2)) (Zaa (ZaB Zc4 (Zak) (Zax c__law_take hr Za1 (Zaa (Zac (pv 2)) (Zaa (Zak) (Zad))))) (Zaa (ZaB Zc4 (Zak) (Zax c__law_take hr Za1 (Zaa (Zac (pv 2)) (Zaa (Zak) (Zad))))) (Zad))))) (Zaa (Zbs (Zac (pv 7)) (ZbH) (ZbI (Zak))) (Zaa (Zbs (Zac (pv 12)) (ZbH) (ZbI (Zak))) (Zad))))))) (Zcm (Zaw (i := 8) (sc_law.nd) rfl (by first | exact Or.inl rfl | exact Or.inr rfl) (by first | exact .inl rfl | exact .inr rfl))) (Zam (ZcS (ZbA (Znl hr.units) (Zan (Zpq hr.units hr.gd) rfl B.n_repr ZfQ (Zaa (Zax c_is_halved hr Za1 (Zaa (Zac (pv 8)) (Zad))) (Zad))) (Zan (Zpq hr.units hr.gd) rfl B.n_repr ZfQ (Zaa (Zax c__law_is_halved hr Za1 (Zaa (Zac (pv 8)) (Zad))) (Zad))) (ZbR _)) (Zam (ZaK (Zc7))) (Zbm)))) (Zah (ZaN (i := 13) sc_law.nd rfl (by first | exact Or.inl rfl | exact Or.inr rfl) (Zax c__law_no_board hr Za1 (Zaa (Zac (pv 2)) (Zaa (Zac (pv 4)) (Zad))))) (Zam (ZcS (ZbA (Znl hr.units) (ZlJ (Nc := ["_law_none"]) (cs := [13]) LX (fun _ => rfl) hr lvE et Sd Zr2 (CaM.mono (k := 7) c__law_kind (by decide)) ⟨⟨rfl, rfl, rfl, by kernel_rfl⟩, by decide +kernel, by kernel_rfl, rfl, by kernel_rfl⟩ (fun a cd cl A outer s H E' hr => Zax c_is_halved hr Zrv (Zaa (Zac (pv 0)) (Zad))) rfl) (Zca) (ZbR _)) (Zam (ZaK (Zc7))) (Zbm))))))))))))))))) (Zam (ZaK (Zc7)))
noncomputable def Zaz : List D → HD → Out D := fun ds h => if ds.length = 1 then ZaE 1 (ZdW) ds h else .stuck
theorem ZhO  {f : Addr} {fd : FuncData} (D : Dn K mg "is_whole" ["thing"] Zb2 f fd) : CaE P w K mg base "is_whole" 1 Zaz :=
  ⟨f, fd, _, Zat D.fn ZhF (fun ds h e => if_neg e) (fun ds h e => if_pos e) (fun cdv A outer s H E hr => Zi2 B et f cdv A outer s H E hr), D.bd, D.mg, D.fn.kp⟩
noncomputable def Zap : List D → HD → Out D := fun ds h => if ds.length = 1 then ZaE 1 (Zcu) ds h else .stuck
theorem Zen  {t_MOST_LINES : Tok} (m_MOST_LINES : mg "MOST_LINES" = some (.int 8 t_MOST_LINES)) {f : Addr} {fd : FuncData} (D : Dn K mg "is_line_tuple" ["thing"] Za5 f fd) : CaE P w K mg base "is_line_tuple" 1 Zap :=
  ⟨f, fd, _, Zat D.fn Zek (fun ds h e => if_neg e) (fun ds h e => if_pos e) (fun cdv A outer s H E hr => Ze9 B et m_MOST_LINES f cdv A outer s H E hr), D.bd, D.mg, D.fn.kp⟩
noncomputable def ZaL : List D → HD → Out D := fun ds h => if ds.length = 3 then ZaE 3 (ZcG) ds h else .stuck
theorem Zfd  {f : Addr} {fd : FuncData} (D : Dn K mg "row_switched" ["row", "columns", "is_turned"] Zba f fd) : CaE P w K mg base "row_switched" 1 ZaL :=
  ⟨f, fd, _, Zat D.fn Ze6 (fun ds h e => if_neg e) (fun ds h e => if_pos e) (fun cdv A outer s H E hr => Zft B et f cdv A outer s H E hr), D.bd, D.mg, D.fn.kp⟩
noncomputable def ZaW : List D → HD → Out D := fun ds h => if ds.length = 2 then ZaE 2 (ZcV) ds h else .stuck
theorem Zfv  {t_MOST_BITS : Tok} (m_MOST_BITS : mg "MOST_BITS" = some (.int 3 t_MOST_BITS)) {f : Addr} {fd : FuncData} (D : Dn K mg "common_bits" ["one", "other"] Zbn f fd) : CaE P w K mg base "common_bits" 1 ZaW :=
  ⟨f, fd, _, Zat D.fn Zfq (fun ds h e => if_neg e) (fun ds h e => if_pos e) (fun cdv A outer s H E hr => Zgm B et m_MOST_BITS f cdv A outer s H E hr), D.bd, D.mg, D.fn.kp⟩
noncomputable def ZaP : List D → HD → Out D := fun ds h => if ds.length = 2 then ZaE 2 (ZcW) ds h else .stuck
theorem Zfw  {f : Addr} {fd : FuncData} (D : Dn K mg "unlike_many" ["one", "other"] Zbo f fd) : CaE P w K mg base "unlike_many" 1 ZaP :=
  ⟨f, fd, _, Zat D.fn Zfr (fun ds h e => if_neg e) (fun ds h e => if_pos e) (fun cdv A outer s H E hr => Zgn B et f cdv A outer s H E hr), D.bd, D.mg, D.fn.kp⟩
noncomputable def Zbc : List D → HD → Out D := fun ds h => if ds.length = 2 then ZaE 2 (ZcX) ds h else .stuck
theorem Zg6  {f : Addr} {fd : FuncData} (D : Dn K mg "_law_cell" ["_law_script", "_law_k"] ZbL f fd) : CaE P w K mg base "_law_cell" 1 Zbc :=
  ⟨f, fd, _, Zat D.fn Zg1 (fun ds h e => if_neg e) (fun ds h e => if_pos e) (fun cdv A outer s H E hr => ZhJ B et f cdv A outer s H E hr), D.bd, D.mg, D.fn.kp⟩
noncomputable def Zbt : List D → HD → Out D := fun ds h => if ds.length = 2 then ZaE 3 (ZdX) ds h else .stuck
theorem ZhP  {f : Addr} {fd : FuncData} (D : Dn K mg "_law_mix" ["_law_cell_here", "_law_k"] Zb3 f fd) : CaE P w K mg base "_law_mix" 1 Zbt :=
  ⟨f, fd, _, Zat D.fn sc__law_mix (fun ds h e => if_neg e) (fun ds h e => if_pos e) (fun cdv A outer s H E hr => Zi3 B et f cdv A outer s H E hr), D.bd, D.mg, D.fn.kp⟩
noncomputable def Zae : List D → HD → Out D := fun ds h => if ds.length = 2 then ZaE 4 (Zds) ds h else .stuck
theorem Zg7  {f : Addr} {fd : FuncData} (D : Dn K mg "_law_take" ["_law_box_here", "_law_many"] ZbM f fd) : CaE P w K mg base "_law_take" 1 Zae :=
  ⟨f, fd, _, Zat D.fn sc__law_take (fun ds h e => if_neg e) (fun ds h e => if_pos e) (fun cdv A outer s H E hr => ZhK B et f cdv A outer s H E hr), D.bd, D.mg, D.fn.kp⟩
noncomputable def ZaT : List D → HD → Out D := fun ds h => if ds.length = 1 then ZaE 3 (Zdt) ds h else .stuck
theorem Zg8  {f : Addr} {fd : FuncData} (D : Dn K mg "_law_kind" ["_law_e"] ZbN f fd) : CaM P w K mg base "_law_kind" 1 ZaT :=
  ⟨f, fd, _, ZiX D.fn sc__law_kind (fun ds h e => if_neg e) (fun ds h e => if_pos e) (fun cdv A outer s H hr => ZhL B et f cdv A outer s H hr), D.bd, D.mg, D.fn.kp, fun ds h e => if_neg e⟩
noncomputable def Zfe : List D → HD → Out D := fun ds h => if ds.length = 3 then ZaE 9 (Zde) ds h else .stuck
theorem Zeo  {f : Addr} {fd : FuncData} (D : Dn K mg "_law_switched" ["_law_board_here", "_law_rows", "_law_columns"] Za6 f fd) : CaE P w K mg base "_law_switched" 1 Zfe :=
  ⟨f, fd, _, Zat D.fn sc__law_switched (fun ds h e => if_neg e) (fun ds h e => if_pos e) (fun cdv A outer s H E hr => Zfa B et f cdv A outer s H E hr), D.bd, D.mg, D.fn.kp⟩
noncomputable def ZaC : List D → HD → Out D := fun ds h => if ds.length = 1 then ZaE 3 (Zch) ds h else .stuck
theorem Zd4  {f : Addr} {fd : FuncData} (D : Dn K mg "_law_is_halved" ["_law_board_here"] ZaY f fd) : CaE P w K mg base "_law_is_halved" 1 ZaC :=
  ⟨f, fd, _, Zat D.fn sc__law_is_halved (fun ds h e => if_neg e) (fun ds h e => if_pos e) (fun cdv A outer s H E hr => Zel B et f cdv A outer s H E hr), D.bd, D.mg, D.fn.kp⟩
noncomputable def Zav : List D → HD → Out D := fun ds h => if ds.length = 3 then ZaE 3 (Zcz Zaz) ds h else .stuck
theorem Zgp  (c_is_whole : CaE P w K mg base "is_whole" 1 Zaz) {f : Addr} {fd : FuncData} (D : Dn K mg "is_between" ["thing", "least", "most"] Zbx f fd) : CaE P w K mg base "is_between" 2 Zav :=
  ⟨f, fd, _, Zat D.fn Zgi (fun ds h e => if_neg e) (fun ds h e => if_pos e) (fun cdv A outer s H E hr => Zg3 B et c_is_whole f cdv A outer s H E hr), D.bd, D.mg, D.fn.kp⟩
noncomputable def ZbJ : List D → HD → Out D := fun ds h => if ds.length = 2 then ZaE 4 (Zgj Zaz) ds h else .stuck
theorem ZkC  (c_is_whole : CaE P w K mg base "is_whole" 1 Zaz) {f : Addr} {fd : FuncData} (D : Dn K mg "is_lot" ["thing", "size"] ZcY f fd) : CaE P w K mg base "is_lot" 2 ZbJ :=
  ⟨f, fd, _, Zat D.fn sc_is_lot (fun ds h e => if_neg e) (fun ds h e => if_pos e) (fun cdv A outer s H E hr => ZlV B et c_is_whole f cdv A outer s H E hr), D.bd, D.mg, D.fn.kp⟩
noncomputable def Zbi : List D → HD → Out D := fun ds h => if ds.length = 2 then ZaE 5 (ZdY Zbc Zbt) ds h else .stuck
theorem ZhQ  (c__law_cell : CaE P w K mg base "_law_cell" 1 Zbc) (c__law_mix : CaE P w K mg base "_law_mix" 1 Zbt) {f : Addr} {fd : FuncData} (D : Dn K mg "_law_box" ["_law_script", "_law_k"] Zb4 f fd) : CaE P w K mg base "_law_box" 2 Zbi :=
  ⟨f, fd, _, Zat D.fn sc__law_box (fun ds h e => if_neg e) (fun ds h e => if_pos e) (fun cdv A outer s H E hr => Zi4 B et c__law_cell c__law_mix f cdv A outer s H E hr), D.bd, D.mg, D.fn.kp⟩
noncomputable def ZaI : List D → HD → Out D := fun ds h => if ds.length = 1 then ZaE 4 (Zcv Zae) ds h else .stuck
theorem Zep  (c__law_take : CaE P w K mg base "_law_take" 1 Zae) {f : Addr} {fd : FuncData} (D : Dn K mg "_law_wide_box" ["_law_box_here"] Za7 f fd) : CaE P w K mg base "_law_wide_box" 2 ZaI :=
  ⟨f, fd, _, Zat D.fn sc__law_wide_box (fun ds h e => if_neg e) (fun ds h e => if_pos e) (fun cdv A outer s H E hr => Zfb B et c__law_take f cdv A outer s H E hr), D.bd, D.mg, D.fn.kp⟩
noncomputable def ZaF : List D → HD → Out D := fun ds h => if ds.length = 2 then ZaE 8 (Zcw Zae) ds h else .stuck
theorem Zeq  (c__law_take : CaE P w K mg base "_law_take" 1 Zae) {f : Addr} {fd : FuncData} (D : Dn K mg "_law_no_board" ["_law_box_here", "_law_board_here"] Za8 f fd) : CaE P w K mg base "_law_no_board" 2 ZaF :=
  ⟨f, fd, _, Zat D.fn sc__law_no_board (fun ds h e => if_neg e) (fun ds h e => if_pos e) (fun cdv A outer s H E hr => Zfc B et c__law_take f cdv A outer s H E hr), D.bd, D.mg, D.fn.kp⟩
noncomputable def ZaU : List D → HD → Out D := fun ds h => if ds.length = 2 then ZaE 2 (ZdZ Zae) ds h else .stuck
theorem ZhR  (c__law_take : CaE P w K mg base "_law_take" 1 Zae) {f : Addr} {fd : FuncData} (D : Dn K mg "_law_lot" ["_law_box_here", "_law_size"] Zb5 f fd) : CaE P w K mg base "_law_lot" 2 ZaU :=
  ⟨f, fd, _, Zat D.fn ZhG (fun ds h e => if_neg e) (fun ds h e => if_pos e) (fun cdv A outer s H E hr => Zi5 B et c__law_take f cdv A outer s H E hr), D.bd, D.mg, D.fn.kp⟩
noncomputable def Zbu : List D → HD → Out D := fun ds h => if ds.length = 1 then ZaE 1 (Zd0 Zav) ds h else .stuck
theorem ZhS  (c_is_between : CaE P w K mg base "is_between" 2 Zav) {f : Addr} {fd : FuncData} (D : Dn K mg "is_light" ["thing"] Zb6 f fd) : CaE P w K mg base "is_light" 3 Zbu :=
  ⟨f, fd, _, Zat D.fn ZhH (fun ds h e => if_neg e) (fun ds h e => if_pos e) (fun cdv A outer s H E hr => Zi6 B et c_is_between f cdv A outer s H E hr), D.bd, D.mg, D.fn.kp⟩
noncomputable def ZaX : List D → HD → Out D := fun ds h => if ds.length = 3 then ZaE 3 (ZcZ Zav) ds h else .stuck
theorem Zfx  (c_is_between : CaE P w K mg base "is_between" 2 Zav) {f : Addr} {fd : FuncData} (D : Dn K mg "need_number" ["thing", "least", "most"] Zbp f fd) : CaE P w K mg base "need_number" 3 ZaX :=
  ⟨f, fd, _, Zat D.fn Zfs (fun ds h e => if_neg e) (fun ds h e => if_pos e) (fun cdv A outer s H E hr => Zgo B et c_is_between f cdv A outer s H E hr), D.bd, D.mg, D.fn.kp⟩
noncomputable def ZaJ : List D → HD → Out D := fun ds h => if ds.length = 3 then ZaE 8 (Zdf Zae ZaI) ds h else .stuck
theorem Zgq  (c__law_take : CaE P w K mg base "_law_take" 1 Zae) (c__law_wide_box : CaE P w K mg base "_law_wide_box" 2 ZaI) {f : Addr} {fd : FuncData} (D : Dn K mg "_law_board" ["_law_box_here", "_law_high", "_law_wide"] Zby f fd) : CaE P w K mg base "_law_board" 3 ZaJ :=
  ⟨f, fd, _, Zat D.fn sc__law_board (fun ds h e => if_neg e) (fun ds h e => if_pos e) (fun cdv A outer s H E hr => Zg4 B et c__law_take c__law_wide_box f cdv A outer s H E hr), D.bd, D.mg, D.fn.kp⟩
noncomputable def Zb9 : List D → HD → Out D := fun ds h => if ds.length = 1 then ZaE 1 (Zgk Zap Zbu) ds h else .stuck
theorem ZkD  (c_is_line_tuple : CaE P w K mg base "is_line_tuple" 1 Zap) (c_is_light : CaE P w K mg base "is_light" 3 Zbu) {f : Addr} {fd : FuncData} (D : Dn K mg "is_row" ["thing"] Zc0 f fd) : CaE P w K mg base "is_row" 4 Zb9 :=
  ⟨f, fd, _, Zat D.fn ZkA (fun ds h e => if_neg e) (fun ds h e => if_pos e) (fun cdv A outer s H E hr => ZlW B et c_is_line_tuple c_is_light f cdv A outer s H E hr), D.bd, D.mg, D.fn.kp⟩
noncomputable def Zbj : List D → HD → Out D := fun ds h => if ds.length = 1 then ZaE 2 (Ze7 ZaX ZaW) ds h else .stuck
theorem Zi9  (c_need_number : CaE P w K mg base "need_number" 3 ZaX) (c_common_bits : CaE P w K mg base "common_bits" 1 ZaW) {t_MOST_BITS : Tok} (m_MOST_BITS : mg "MOST_BITS" = some (.int 3 t_MOST_BITS)) {f : Addr} {fd : FuncData} (D : Dn K mg "by_bits" ["k"] Zcx f fd) : CaE P w K mg base "by_bits" 4 Zbj :=
  ⟨f, fd, _, Zat D.fn sc_by_bits (fun ds h e => if_neg e) (fun ds h e => if_pos e) (fun cdv A outer s H E hr => ZkB B et c_need_number c_common_bits m_MOST_BITS f cdv A outer s H E hr), D.bd, D.mg, D.fn.kp⟩
noncomputable def Zbk : List D → HD → Out D := fun ds h => if ds.length = 1 then ZaE 1 (Zd1 Zap Zb9) ds h else .stuck
theorem ZhT  (c_is_line_tuple : CaE P w K mg base "is_line_tuple" 1 Zap) (c_is_row : CaE P w K mg base "is_row" 4 Zb9) {f : Addr} {fd : FuncData} (D : Dn K mg "is_board" ["thing"] Zb7 f fd) : CaE P w K mg base "is_board" 5 Zbk :=
  ⟨f, fd, _, Zat D.fn ZhI (fun ds h e => if_neg e) (fun ds h e => if_pos e) (fun cdv A outer s H E hr => Zi7 B et c_is_line_tuple c_is_row f cdv A outer s H E hr), D.bd, D.mg, D.fn.kp⟩
noncomputable def Zaj : List D → HD → Out D := fun ds h => if ds.length = 1 then ZaE 1 (ZcA Zbk) ds h else .stuck
theorem Zgr  (c_is_board : CaE P w K mg base "is_board" 5 Zbk) {f : Addr} {fd : FuncData} (D : Dn K mg "need_board" ["thing"] Zbz f fd) : CaE P w K mg base "need_board" 6 Zaj :=
  ⟨f, fd, _, Zat D.fn Zgl (fun ds h e => if_neg e) (fun ds h e => if_pos e) (fun cdv A outer s H E hr => Zg5 B et c_is_board f cdv A outer s H E hr), D.bd, D.mg, D.fn.kp⟩
noncomputable def ZaM : List D → HD → Out D := fun ds h => if ds.length = 2 then ZaE 2 (ZcH Zaj ZbJ) ds h else .stuck
theorem Zff  (c_need_board : CaE P w K mg base "need_board" 6 Zaj) (c_is_lot : CaE P w K mg base "is_lot" 2 ZbJ) {f : Addr} {fd : FuncData} (D : Dn K mg "is_switching" ["board", "thing"] Zbb f fd) : CaE P w K mg base "is_switching" 7 ZaM :=
  ⟨f, fd, _, Zat D.fn Ze8 (fun ds h e => if_neg e) (fun ds h e => if_pos e) (fun cdv A outer s H E hr => Zfu B et c_need_board c_is_lot f cdv A outer s H E hr), D.bd, D.mg, D.fn.kp⟩
noncomputable def ZaV : List D → HD → Out D := fun ds h => if ds.length = 2 then ZaE 3 (Zc1 Zaj) ds h else .stuck
theorem Zg9  (c_need_board : CaE P w K mg base "need_board" 6 Zaj) {t_MOST_LINES : Tok} (m_MOST_LINES : mg "MOST_LINES" = some (.int 8 t_MOST_LINES)) {f : Addr} {fd : FuncData} (D : Dn K mg "spread_by" ["one", "other"] ZbO f fd) : CaE P w K mg base "spread_by" 7 ZaV :=
  ⟨f, fd, _, Zat D.fn sc_spread_by (fun ds h e => if_neg e) (fun ds h e => if_pos e) (fun cdv A outer s H E hr => ZhM B et c_need_board m_MOST_LINES f cdv A outer s H E hr), D.bd, D.mg, D.fn.kp⟩
noncomputable def ZaD : List D → HD → Out D := fun ds h => if ds.length = 1 then ZaE 1 (Zc2 Zaj ZaP) ds h else .stuck
theorem Zha  (c_need_board : CaE P w K mg base "need_board" 6 Zaj) (c_unlike_many : CaE P w K mg base "unlike_many" 1 ZaP) {f : Addr} {fd : FuncData} (D : Dn K mg "is_halved" ["board"] ZbP f fd) : CaE P w K mg base "is_halved" 7 ZaD :=
  ⟨f, fd, _, Zat D.fn Zg2 (fun ds h e => if_neg e) (fun ds h e => if_pos e) (fun cdv A outer s H E hr => ZhN B et c_need_board c_unlike_many f cdv A outer s H E hr), D.bd, D.mg, D.fn.kp⟩
noncomputable def ZaG : List D → HD → Out D := fun ds h => if ds.length = 2 then ZaE 2 (Zci ZaM) ds h else .stuck
theorem Zd5  (c_is_switching : CaE P w K mg base "is_switching" 7 ZaM) {f : Addr} {fd : FuncData} (D : Dn K mg "need_switching" ["board", "thing"] ZaZ f fd) : CaE P w K mg base "need_switching" 8 ZaG :=
  ⟨f, fd, _, Zat D.fn Zd2 (fun ds h e => if_neg e) (fun ds h e => if_pos e) (fun cdv A outer s H E hr => Zem B et c_is_switching f cdv A outer s H E hr), D.bd, D.mg, D.fn.kp⟩
noncomputable def Za2 : List D → HD → Out D := fun ds h => if ds.length = 2 then ZaE 4 (Zd3 ZaG ZaL) ds h else .stuck
theorem ZhU  (c_need_switching : CaE P w K mg base "need_switching" 8 ZaG) (c_row_switched : CaE P w K mg base "row_switched" 1 ZaL) {f : Addr} {fd : FuncData} (D : Dn K mg "switched" ["board", "switching"] Zb8 f fd) : CaE P w K mg base "switched" 9 Za2 :=
  ⟨f, fd, _, Zat D.fn sc_switched (fun ds h e => if_neg e) (fun ds h e => if_pos e) (fun cdv A outer s H E hr => Zi8 B et c_need_switching c_row_switched f cdv A outer s H E hr), D.bd, D.mg, D.fn.kp⟩
noncomputable def F_law : List D → HD → Out D := fun ds h => if ds.length = 1 then ZaE 14 (ZlU Zbi Zae Zbj ZaU Za2 ZaV ZaD ZaJ ZaC ZaF ZaT) ds h else .stuck
end
end LK
namespace LK
open PySem PySem.Spec PyProof.Rows L2 LS
def cnt : Nat → (Nat → Bool) → Nat
  | 0, _ => 0
  | n + 1, p => cnt n p + (p n).toNat
theorem ZkE {p : Nat → Bool} : ∀ {n : Nat}, ((List.range n).filter p).length = cnt n p
  | 0 => rfl
  | n + 1 => by
    rw [List.range_succ, List.filter_append, List.length_append, ZkE, cnt]
    cases h : p n <;> simp [h]
theorem ZcO {p q : Nat → Bool} : ∀ {n : Nat}, (∀ c < n, p c = q c) → cnt n p = cnt n q
  | 0, _ => rfl
  | n + 1, h => by rw [cnt, cnt, ZcO fun c hc => h c (by omega), h n (by omega)]
theorem ZkF {p : Nat → Bool} : ∀ {n : Nat}, cnt n (fun c => !p c) + cnt n p = n
  | 0 => rfl
  | n + 1 => by
    have := ZkF (p := p) (n := n)
    simp only [cnt]
    cases p n <;> simp <;> omega
theorem Zit {p q : Nat → Bool} {P : Nat} : ∀ {n : Nat}, P < n → (∀ c, c ≠ P → q c = p c) → q P = !p P → cnt n q ≠ cnt n p
  | 0, h, _, _ => by omega
  | n + 1, h, e, eP => by
    simp only [cnt]
    by_cases hn : P = n
    · subst hn
      rw [ZcO (q := p) fun c hc => e c (by omega), eP]
      cases p P <;> simp
    · have := Zit (n := n) (by omega) e eP
      rw [e n (Ne.symm hn)]
      omega
def hf (W : Nat) (f : Nat → Nat → Bool) (i j : Nat) : Bool := decide (2 * cnt W (fun c => f i c != f j c) = W)
def hv (H W : Nat) (f : Nat → Nat → Bool) : Bool := (List.range H).all fun i => (List.range i).all fun j => hf W f i j
theorem hv_iff {H W : Nat} {f : Nat → Nat → Bool} : hv H W f = true ↔ ∀ i < H, ∀ j < i, hf W f i j = true := by
  unfold hv
  simp only [List.all_eq_true, List.mem_range]
theorem Zgs {W : Nat} {f : Nat → Nat → Bool} {i j : Nat} : hf W f i j = hf W f j i := by
  unfold hf
  rw [ZcO (q := fun c => f j c != f i c) fun c _ => by cases f i c <;> cases f j c <;> rfl]
theorem ZlX {W : Nat} {f g : Nat → Nat → Bool} {i j : Nat} (h1 : ∀ c < W, f i c = g i c) (h2 : ∀ c < W, f j c = g j c) : hf W f i j = hf W g i j := by
  unfold hf
  rw [ZcO (q := fun c => g i c != g j c) fun c hc => by rw [h1 c hc, h2 c hc]]
theorem ZlY {H W : Nat} {f g : Nat → Nat → Bool} (h : ∀ i < H, ∀ c < W, f i c = g i c) (hv0 : hv H W f = true) : hv H W g = true := by
  rw [hv_iff] at hv0 ⊢
  intro i hi j hj
  rw [← ZlX (fun c hc => h i hi c hc) (fun c hc => h j (by omega) c hc)]
  exact hv0 i hi j hj
theorem ZlZ {H W : Nat} {f : Nat → Nat → Bool} {p q : Nat → Bool} (h : hv H W f = true) : hv H W (fun i c => Bool.xor (f i c) (Bool.xor (p i) (q c))) = true := by
  rw [hv_iff] at h ⊢
  intro i hi j hj
  have h0 := h i hi j hj
  unfold hf at h0 ⊢
  rw [decide_eq_true_eq] at h0 ⊢
  by_cases e : p i = p j
  · rw [ZcO (q := fun c => f i c != f j c) fun c _ => by dsimp only; rw [e]; cases f i c <;> cases f j c <;> cases p j <;> cases q c <;> rfl]
    exact h0
  · rw [ZcO (q := fun c => !(f i c != f j c)) fun c _ => by
      have e2 : p i = !p j := by cases h1 : p i <;> cases h2 : p j <;> simp_all
      dsimp only
      rw [e2]; cases f i c <;> cases f j c <;> cases p j <;> cases q c <;> rfl]
    have := ZkF (p := fun c => f i c != f j c) (n := W)
    omega
theorem ZnK {H W A P : Nat} {f g : Nat → Nat → Bool} (h : hv H W f = true) (hH : 2 ≤ H) (hA : A < H) (hP : P < W) (hg : ∀ i c, (i ≠ A ∨ c ≠ P) → g i c = f i c) (hg2 : g A P = !f A P) : hv H W g = false := by
  have key : ∀ j < H, j ≠ A → hf W f A j = true → hf W g A j = true → False := fun j hj ne h1 h2 => by
    unfold hf at h1 h2
    rw [decide_eq_true_eq] at h1 h2
    refine Zit (p := fun c => f A c != f j c) (q := fun c => g A c != g j c) hP (fun c hc => ?_) ?_ (by omega)
    · rw [hg A c (.inr hc), hg j c (.inl ne)]
    · show (g A P != g j P) = !(f A P != f j P)
      rw [hg2, hg j P (.inl ne)]
      cases f A P <;> cases f j P <;> rfl
  rw [← Bool.not_eq_true]
  intro hgv
  rw [hv_iff] at h hgv
  by_cases hA0 : A = 0
  · refine key 1 (by omega) (by omega) ?_ ?_
    · rw [Zgs]; exact h 1 (by omega) A (by omega)
    · rw [Zgs]; exact hgv 1 (by omega) A (by omega)
  · exact key 0 (by omega) (fun e => hA0 e.symm) (h A hA 0 (by omega)) (hgv A hA 0 (by omega))
def ZpD (a b : Int) : Int := ((List.range 3).map fun k => Builtin.bitAnd (Builtin.bitAnd (a / 2 ^ k) (b / 2 ^ k)) 1).sum
def bb (r c : Nat) : Bool := decide (ZpD r c % 2 = 1)
def sw (f : Nat → Nat → Bool) (p q : Nat → Bool) (i j : Nat) : Bool := Bool.xor (f i j) (Bool.xor (p i) (q j))
def sp (H W : Nat) (f g : Nat → Nat → Bool) (r c : Nat) : Bool := Bool.xor (f (r / H) (c / W)) (g (r % H) (c % W))
theorem ZpE : ∀ k < 4, hv (2 ^ k) (2 ^ k) bb = true := by decide +kernel
theorem ZpF : ∀ k < 4, hv 8 8 (sp (2 ^ k) (2 ^ k) bb bb) = true := by decide +kernel
theorem ZpG {H W : Nat} {f g : Nat → Nat → Bool} {p q p' q' : Nat → Bool} (h : hv 8 8 (sp H W f g) = true) : hv 8 8 (sp H W (sw f p q) (sw g p' q')) = true := by
  refine ZlY (fun i _ c _ => ?_) (ZlZ (p := fun r => Bool.xor (p (r / H)) (p' (r % H))) (q := fun c => Bool.xor (q (c / W)) (q' (c % W))) h)
  unfold sp sw
  cases f (i / H) (c / W) <;> cases g (i % H) (c % W) <;> cases p (i / H) <;> cases p' (i % H) <;> cases q (c / W) <;> cases q' (c % W) <;> rfl
theorem Zdg {α : Type} {F : Nat → Nat → α} {n : Nat} : ∀ {m : Nat}, ((List.range m).flatMap fun i => (List.range n).map fun j => F i j) = (List.range (m * n)).map fun r => F (r / n) (r % n)
  | 0 => by simp
  | m + 1 => by
    rw [List.range_succ, List.flatMap_append, Zdg (m := m), Nat.succ_mul, List.range_add, List.map_append, List.map_map]
    congr 1
    simp only [List.flatMap_cons, List.flatMap_nil, List.append_nil]
    refine List.map_congr_left fun j hj => ?_
    have hj := List.mem_range.mp hj
    simp only [Function.comp]
    rw [Nat.mul_comm m n, Nat.mul_add_div (by omega), Nat.mul_add_mod, Nat.div_eq_of_lt hj, Nat.mod_eq_of_lt hj, Nat.add_zero]
theorem ZkG {α : Type} {F : Nat → α} {n k : Nat} {x : α} (hk : k < n) : ((List.range n).map F).take k ++ [x] ++ ((List.range n).map F).drop (k + 1) = (List.range n).map fun i => if i = k then x else F i := by
  apply List.ext_getElem
  · simp; omega
  · intro i h1 h2
    simp at h2
    rw [List.getElem_map, List.getElem_range]
    rcases Nat.lt_trichotomy i k with z | z | z
    · rw [List.getElem_append_left (by simp; omega), List.getElem_append_left (by simp; omega), if_neg (by omega)]
      simp
    · subst z
      rw [List.getElem_append_left (by simp; omega), List.getElem_append_right (by simp; omega), if_pos rfl]
      simp
    · rw [List.getElem_append_right (by simp; omega), if_neg (by omega)]
      simp
      congr 1
      omega
theorem Zl0 {α : Type} {F : Nat → α} {n k : Nat} : ((List.range n).map F).drop k = (List.range (n - k)).map fun j => F (k + j) := by
  apply List.ext_getElem
  · simp
  · intro i h1 h2
    simp
theorem Ziu {α : Type} {F : Nat → α} {n k : Nat} : ((List.range n).map F).take k = (List.range (min k n)).map F := by
  apply List.ext_getElem
  · simp
  · intro i h1 h2
    simp
end LK
namespace LK
open PySem PySem.Spec PyProof.Rows L2 LS
theorem _root_.LS.Sm.len {h h' : HD} (s : Sm h h') : h.length ≤ h'.length := by
  cases e : h.length with
  | zero => exact Nat.zero_le _
  | succ n =>
    have hn : n < h.length := by omega
    have := s n h[n] (List.getElem?_eq_getElem hn)
    have := (List.getElem?_eq_some_iff.mp this).1
    omega
theorem sz {n : Nat} (hn : n ≤ 8) : (List.range n).length ≤ sizeLine := by
  rw [List.length_range]; unfold sizeLine; omega
open PySem.Builtin.Int in
theorem ZpH {ns : List Int} {k : Nat} (hb : ∀ i ∈ ns, Builtin.Int.intBits i ≤ 2 ^ 20) (hk : k ≤ 1000) : ∃ c : Int, Builtin.Int.intBits c ≤ 2 ^ 20 ∧ ∀ h, Pu (Zbc [.scr ns, .int (k : Nat)] h) h (.int c) := by
  by_cases hl : k < ns.length
  · refine ⟨ns[k], hb _ (List.getElem_mem hl), fun h => ?_⟩
    change Wp (ZaE 2 ZcX [.scr ns, .int (k : Nat)] h) _
    first | refine Eq.mpr (Zas) ?_ | rw [Zas]
    have : (k : Int) < ns.length := by omega
    simp [this]
    first | refine wpe (Zmk (List.getElem?_eq_getElem hl)) ?_ | rw [Zmk (List.getElem?_eq_getElem hl)]
    simp [Sm.refl]
  · refine ⟨6151 * (k : Int) + 29, ?_, fun h => ?_⟩
    · rw [intBits_le_iff]
      have h1 : (6151 * (k : Int) + 29).natAbs < 2 ^ 30 := by omega
      exact Nat.lt_of_lt_of_le h1 (Nat.pow_le_pow_right (by decide) (by omega))
    · change Wp (ZaE 2 ZcX [.scr ns, .int (k : Nat)] h) _
      first | refine Eq.mpr (Zas) ?_ | rw [Zas]
      have : ¬ (k : Int) < ns.length := by omega
      simp [this]
      rw [ZgO (by decide) (by decide)]
      simp [Sm.refl]
def Ztm (c : Int) (k : Nat) : Int := (((c + 1) * 40692 + 104729 * (k : Int)) * ((c + 1) * 40692 + 104729 * (k : Int))) % 2147483399 + (k : Int)
theorem ZpI {h : HD} : ZiI [.int 24] h = .ok ((List.range 24).map fun k => D.int ((k : Nat) : Int), []) h := ZcE (n := 24) (by decide)
theorem Zr4 {c : Int} {k : Nat} (hc : Builtin.Int.intBits c ≤ 2 ^ 20) (hk : k ≤ 1000) : ∃ r : Int, ∀ h, Pu (Zbt [.int c, .int (k : Nat)] h) h (.int r) := by
  refine ⟨Ztm c k * (Ztm c k + 31) % 2147483563, fun h => ?_⟩
  change Wp (ZaE 3 ZdX [.int c, .int (k : Nat)] h) _
  first | refine Eq.mpr (Zas) ?_ | rw [Zas]
  have bX : Builtin.Int.intBits ((c + 1) * 40692 + 104729 * (k : Int)) ≤ 16777216 := by
    have hk' : Builtin.Int.intBits ((k : Nat) : Int) ≤ 10 := PySem.intBits_le_iff.mpr (by omega)
    have := PySem.intBits_add_le (PySem.intBits_mul_le (PySem.intBits_add_le hc (show Builtin.Int.intBits 1 ≤ 1 by decide)) (show Builtin.Int.intBits 40692 ≤ 16 by decide)) (PySem.intBits_mul_le (show Builtin.Int.intBits 104729 ≤ 17 by decide) hk')
    exact Nat.le_trans this (by decide)
  have h1 := Int.emod_nonneg (((c + 1) * 40692 + 104729 * (k : Int)) * ((c + 1) * 40692 + 104729 * (k : Int))) (show (2147483399 : Int) ≠ 0 by decide)
  have h2 := Int.emod_lt_of_pos (((c + 1) * 40692 + 104729 * (k : Int)) * ((c + 1) * 40692 + 104729 * (k : Int))) (show (0 : Int) < 2147483399 by decide)
  simp
  rw [Zlv (by decide) (by decide)]
  simp
  rw [ZgO (by decide) (by decide)]
  simp
  rw [Zrl bX bX]
  simp
  rw [ZiM (by decide)]
  simp
  rw [ZgO (by omega) (by omega)]
  simp
  rw [ZiM (by decide)]
  simp
  exact ⟨rfl, .refl _⟩
def BoxAt (h : HD) (b : Nat) : Prop := ∃ n : Int, h[b]? = some (.lst [.int n])
inductive BxI (ns : List Int) (k : Nat) (c : Int) (h : HD) (xs : List Nat) (ρ : Rho) (h' : HD) : Prop where
  | mk (N : Int) (x : Option D) (f0 : ρ = [some (.scr ns), some (.int (k : Nat)), some (.int c), some (.int N), x]) (f1 : Sm h h') (f2 : ∀ j ∈ xs, j < 24) : BxI ns k c h xs ρ h'
theorem ZpJ {ns : List Int} {k : Nat} {h : HD} {Q : D → HD → Prop} (hb : ∀ i ∈ ns, Builtin.Int.intBits i ≤ 2 ^ 20) (hk : k ≤ 1000) (q : ∀ l h', BoxAt h' l → h.length ≤ l → Sm h h' → Q (.loc l) h') : Wp (Zbi [.scr ns, .int (k : Nat)] h) Q := by
  change Wp (ZaE 5 (ZdY Zbc Zbt) [.scr ns, .int (k : Nat)] h) _
  first | refine Eq.mpr (Zas) ?_ | rw [Zas]
  obtain ⟨c, bc, pc⟩ := ZpH (k := k) hb hk
  simp
  refine (pc h).wp fun h1 s1 => ?_
  rw [ZiM (by decide)]
  simp
  by_cases hz : c % 2 = 0
  · simp [hz]
    rw [Zo6 (by decide) (by decide)]
    simp
    exact ZaS (by simp) fun l h' s e el _ => q l h' ⟨_, e⟩ (by have := s1.len; omega) (s1.trans s)
  · simp [hz]
    refine ZeX (src := []) (xs := List.range 24) (fun i => .int ((i : Nat) : Int)) (BxI ns k c h) ?_ (fun ys ρ h' _ => Zlm) ?_ ?_
    · simp [ZpI]
      exact ⟨_, _, rfl, s1, fun j hj => List.mem_range.mp hj⟩
    · rintro x xs ρ h' ⟨N, y, rfl, sh, hx⟩
      refine ⟨_, rfl, ?_⟩
      obtain ⟨m, pm⟩ := Zr4 (k := x) bc (by have := hx x List.mem_cons_self; omega)
      simp
      rw [Zlv (by decide) (by decide)]
      simp
      refine (pm h').wp fun h2 s2 => ?_
      simp [Zdp]
      exact ⟨_, _, rfl, sh.trans s2, fun j hj => hx j (List.mem_cons_of_mem _ hj)⟩
    · rintro ρ h' ⟨N, y, rfl, sh, _⟩
      simp
      exact ZaS (by simp) fun l h' s e el _ => q l h' ⟨_, e⟩ (by have := sh.len; omega) (sh.trans s)
def Smx (b : Nat) (h h' : HD) : Prop := ∀ (l : Nat) (c : Zh2), l ≠ b → h[l]? = some c → h'[l]? = some c
theorem Smx.refl (b : Nat) (h : HD) : Smx b h h := fun _ _ _ e => e
theorem Smx.trans {b : Nat} {h h1 h2 : HD} (a : Smx b h h1) (c : Smx b h1 h2) : Smx b h h2 := fun l x n e => c l x n (a l x n e)
theorem Zc5 {b : Nat} {h h' : HD} (s : Sm h h') : Smx b h h' := fun l c _ e => s l c e
theorem Zfg {b : Nat} {m : Int} {h : HD} {Q : D → HD → Prop} (hx : BoxAt h b) (h1 : 0 < m) (h2 : m < 18446744073709551616) (q : ∀ d h', 0 ≤ d → d < m → BoxAt h' b → Smx b h h' → Q (.int d) h') : Wp (Zae [.loc b, .int m] h) Q := by
  change Wp (ZaE 4 Zds [.loc b, .int m] h) _
  first | refine Eq.mpr (Zas) ?_ | rw [Zas]
  obtain ⟨N, e⟩ := hx
  simp
  rw [show (0 : Int) = ((0 : Nat) : Int) from rfl]
  first | refine wpe (ZdF e (k := 0) rfl) ?_ | rw [ZdF e (k := 0) rfl]
  simp
  first | refine wpe (Zif h1 h2) ?_ | rw [Zif h1 h2]
  simp
  rw [show (0 : Int) = ((0 : Nat) : Int) from rfl]
  first | refine wpe (ZjW e (by simp)) ?_ | rw [ZjW e (by simp)]
  simp
  have hl : b < h.length := (List.getElem?_eq_some_iff.mp e).1
  refine q _ _ (Int.emod_nonneg _ (by omega)) (Int.emod_lt_of_pos _ h1) ⟨_, by rw [List.getElem?_set_self hl]⟩ fun l c ne el => ?_
  rw [List.getElem?_set_ne (Ne.symm ne)]
  exact el
theorem BoxAt.sm {b : Nat} {h h' : HD} (x : BoxAt h b) (s : Sm h h') : BoxAt h' b := let ⟨n, e⟩ := x; ⟨n, s _ _ e⟩
theorem BoxAt.smx {a b : Nat} {h h' : HD} (x : BoxAt h b) (s : Smx a h h') (ne : b ≠ a) : BoxAt h' b := let ⟨n, e⟩ := x; ⟨n, s _ _ ne e⟩
theorem BoxAt.new {b : Nat} {h : HD} {c : Zh2} (x : BoxAt h b) : BoxAt (h ++ [c]) b := x.sm (.app _ _)
def Plain (h : HD) : D → Prop
  | .int _ => True
  | .bl _ => True
  | .non => True
  | .str _ => True
  | .tup _ => True
  | .edic => True
  | .loc l => ∃ ds, h[l]? = some (.lst ds)
  | _ => False
theorem Plain.sm {h h' : HD} {d : D} (p : Plain h d) (s : Sm h h') : Plain h' d := by
  cases d with
  | loc l => obtain ⟨ds, e⟩ := p; exact ⟨ds, s _ _ e⟩
  | _ => exact p
def ZaQ : D → List D
  | .tup ds => ds
  | _ => []
def Plain2 (h : HD) (d : D) : Prop := Plain h d ∧ ∀ x ∈ ZaQ d, Plain h x
def Plain3 (h : HD) (d : D) : Prop := Plain h d ∧ ∀ x ∈ ZaQ d, Plain2 h x
theorem Plain2.sm {h h' : HD} {d : D} (p : Plain2 h d) (s : Sm h h') : Plain2 h' d := ⟨p.1.sm s, fun x hx => (p.2 x hx).sm s⟩
theorem Plain3.sm {h h' : HD} {d : D} (p : Plain3 h d) (s : Sm h h') : Plain3 h' d := ⟨p.1.sm s, fun x hx => (p.2 x hx).sm s⟩
def Zdl : D → Bool
  | .int i => decide (0 ≤ i) && decide (i ≤ 1)
  | _ => false
def ZcI : D → Bool
  | .tup ds => decide (1 ≤ ds.length) && decide (ds.length ≤ 8)
  | _ => false
def ZeA (d : D) : Bool := ZcI d && (ZaQ d).all Zdl
def Zja (d : D) : Nat := (ZaQ d).length
def ZbW (d : D) : Bool := ZcI d && (ZaQ d).all ZeA && (ZaQ d).all fun x => Zja x == Zja ((ZaQ d).getD 0 .non)
theorem p_is_between_int {i a b : Int} {h : HD} : Pu (Zav [.int i, .int a, .int b] h) h (.bl (decide (a ≤ i) && decide (i ≤ b))) := by
  change Wp (ZaE 3 (Zcz Zaz) [.int i, .int a, .int b] h) _
  first | refine Eq.mpr (Zas) ?_ | rw [Zas]
  have e : Zaz [.int i] h = .ok (.bl true) h := rfl
  simp [e]
  by_cases h1 : a ≤ i <;> simp [h1, Zao, Sm.refl]
theorem ZhV {d : D} {a b : Int} {h : HD} (e : Zaz [d] h = .ok (.bl false) h) : Pu (Zav [d, .int a, .int b] h) h (.bl false) := by
  change Wp (ZaE 3 (Zcz Zaz) [d, .int a, .int b] h) _
  first | refine Eq.mpr (Zas) ?_ | rw [Zas]
  simp [e, Sm.refl]
def Zhb : D → Bool
  | .int _ => true
  | _ => false
theorem Ziv {d : D} {h : HD} (p : Plain h d) : Zaz [d] h = .ok (.bl (Zhb d)) h := by
  cases d with
  | loc l =>
    obtain ⟨ds, e⟩ := p
    have i1 : Zbd (.loc l) (.ty "int") h = .ok (.bl false) h := Znq e
    have w : Wp (ZaE 1 ZdW [.loc l] h) fun d h' => d = .bl false ∧ h' = h := by
      refine Eq.mpr Zas ?_
      simp [-Znp, i1]
    obtain ⟨a, h', e', rfl, rfl⟩ := Wp.ex w
    exact e'
  | tup ds => rfl
  | int i => rfl
  | bl b => rfl
  | non => rfl
  | str x => rfl
  | edic => rfl
  | _ => exact p.elim
theorem Zhc {d : D} (h : Zhb d = true) : ∃ i, d = .int i := by cases d <;> first | exact ⟨_, rfl⟩ | cases h
theorem ZhW {d : D} {h : HD} (p : Plain h d) : Pu (Zbu [d] h) h (.bl (Zdl d)) := by
  change Wp (ZaE 1 (Zd0 Zav) [d] h) _
  refine Eq.mpr Zas ?_
  simp
  cases hw : Zhb d with
  | true =>
    obtain ⟨i, rfl⟩ := Zhc hw
    exact p_is_between_int.wp fun h' s => ⟨rfl, s⟩
  | false =>
    have e := Ziv p
    rw [hw] at e
    have e2 : Zdl d = false := by cases d <;> first | rfl | cases hw
    exact (ZhV e).wp fun h' s => ⟨by rw [e2], s⟩
def Zqu : D → Bool
  | .tup _ => true
  | _ => false
theorem Zhd {d : D} {h : HD} (p : Plain h d) : Zbd d (.ty "tuple") h = .ok (.bl (Zqu d)) h := by
  cases d with
  | loc l => obtain ⟨ds, e⟩ := p; exact Znr e
  | tup ds => rfl
  | int i => rfl
  | bl b => rfl
  | non => rfl
  | str x => rfl
  | edic => rfl
  | _ => exact p.elim
theorem Zmw {d : D} (h : Zqu d = true) : ∃ ds, d = .tup ds := by cases d <;> first | exact ⟨_, rfl⟩ | cases h
theorem Zc6 {d : D} {h : HD} (p : Plain h d) : Pu (Zap [d] h) h (.bl (ZcI d)) := by
  change Wp (ZaE 1 Zcu [d] h) _
  refine Eq.mpr Zas ?_
  cases hT : Zqu d with
  | true =>
    obtain ⟨ds, rfl⟩ := Zmw hT
    have a1 : (1 : Int) ≤ ds.length ↔ 1 ≤ ds.length := by omega
    have a2 : (ds.length : Int) ≤ 8 ↔ ds.length ≤ 8 := by omega
    by_cases h1 : 1 ≤ ds.length
    · by_cases h2 : ds.length ≤ 8
      · simp [a1.mpr h1, a2.mpr h2, Zao, Sm.refl, ZcI, h1, h2]
      · have b2 : ¬ (ds.length : Int) ≤ 8 := by omega
        simp [a1.mpr h1, b2, Zao, Sm.refl, ZcI, h1, h2]
    · have b1 : ¬ (1 : Int) ≤ ds.length := by omega
      simp [b1, Zao, Sm.refl, ZcI, h1]
  | false =>
    have : ZcI d = false := by cases d <;> first | rfl | cases hT
    simp [Zhd p, hT, this, Sm.refl]
theorem Zfh {d : D} (h : ZcI d = true) : ∃ ds, d = .tup ds ∧ 1 ≤ ds.length ∧ ds.length ≤ 8 := by
  cases d with
  | tup ds => exact ⟨ds, rfl, by simpa [ZcI] using h⟩
  | _ => cases h
theorem ZkH {d : D} {h : HD} (p : Plain2 h d) : Pu (Zb9 [d] h) h (.bl (ZeA d)) := by
  change Wp (ZaE 1 (Zgk Zap Zbu) [d] h) _
  first | refine Eq.mpr (Zas) ?_ | rw [Zas]
  simp
  refine (Zc6 p.1).wp fun h1 s1 => ?_
  cases hl : ZcI d with
  | false => simp [ZeA, hl, s1]
  | true =>
    obtain ⟨ds, rfl, l1, l2⟩ := Zfh hl
    simp
    refine Pu.wp (ZjX (src := []) (xs := ds) (φ := fun x => x) Zdl (fun x => [some x]) (by rw [List.map_id']; exact Zhw) (fun x _ => rfl) (fun x hx h' s' => ?_) (by unfold sizeLine; omega)) fun h2 s2 => ?_
    · simp [Pu]
      exact ZhW ((p.2 x hx).sm (s1.trans s'))
    · simp [ZeA, hl, ZaQ, s1.trans s2]
theorem ZkI {d : D} {h : HD} (hl : ZcI d = true) : Zcl d h = .ok (.int (Zja d : Nat)) h := by
  obtain ⟨ds, rfl, _, _⟩ := Zfh hl
  simp [Zja, ZaQ]
theorem Zhe {d : D} (h : ZeA d = true) : ZcI d = true := by unfold ZeA at h; exact (Bool.and_eq_true_iff.mp h).1
theorem Zfi {d : D} {h : HD} (p : Plain3 h d) : Pu (Zbk [d] h) h (.bl (ZbW d)) := by
  change Wp (ZaE 1 (Zd1 Zap Zb9) [d] h) _
  first | refine Eq.mpr (Zas) ?_ | rw [Zas]
  simp
  refine (Zc6 p.1).wp fun h1 s1 => ?_
  cases hl : ZcI d with
  | false => simp [ZbW, hl, s1]
  | true =>
    obtain ⟨ds, rfl, l1, l2⟩ := Zfh hl
    simp
    refine Pu.wp (ZjX (src := []) (xs := ds) (φ := fun x => x) ZeA (fun x => [some x]) (by rw [List.map_id']; exact Zhw) (fun x _ => rfl) (fun x hx h' s' => ?_) (by unfold sizeLine; omega)) fun h2 s2 => ?_
    · simp [Pu]
      exact ZkH ((p.2 x hx).sm (s1.trans s'))
    · cases ha : ds.all ZeA with
      | false => simp [ZbW, hl, ZaQ, ha, s1.trans s2]
      | true =>
        simp
        have hr : ∀ x ∈ ds, ZeA x = true := fun x hx => List.all_eq_true.mp ha x hx
        obtain ⟨d0, rest, rfl⟩ : ∃ d0 rest, ds = d0 :: rest := by
          cases ds with
          | nil => simp at l1
          | cons a r => exact ⟨a, r, rfl⟩
        refine Pu.wp (ZjX (src := []) (xs := d0 :: rest) (φ := fun x => x) (fun x => Zja x == Zja d0) (fun x => [some x, some (.tup (d0 :: rest))]) (by rw [List.map_id']; exact Zhw) (fun x _ => rfl) (fun x hx h' s' => ?_) (by unfold sizeLine; omega)) fun h3 s3 => ?_
        · simp [Pu]
          rw [ZkI (Zhe (hr x hx))]
          simp
          rw [show (0 : Int) = ((0 : Nat) : Int) from rfl]
          first | refine wpe (ix_tup (k := 0) rfl) ?_ | rw [ix_tup (k := 0) rfl]
          simp
          rw [ZkI (Zhe (hr d0 List.mem_cons_self))]
          simp [Sm.refl]
          rw [Bool.eq_iff_iff]
          simp
          omega
        · have : (d0 :: rest).all ZeA = true := ha
          simp only [ZbW, hl, ZaQ, this, Bool.true_and]
          refine ⟨?_, (s1.trans s2).trans s3⟩
          simp
theorem Zgt {d : D} {h : HD} (p : Plain3 h d) (hb : ZbW d = true) : Pu (Zaj [d] h) h .non := by
  change Wp (ZaE 1 (ZcA Zbk) [d] h) _
  first | refine Eq.mpr (Zas) ?_ | rw [Zas]
  simp
  refine (Zfi p).wp fun h1 s1 => ?_
  simp [hb, s1]
theorem Zgu {d : D} {h : HD} (p : Plain3 h d) (hb : ZbW d = false) : Er (Zaj [d] h) h "NoBoard" := by
  change We (ZaE 1 (ZcA Zbk) [d] h) _ _
  first | refine Eq.mpr (Zga) ?_ | rw [Zga]
  simp
  refine (Zfi p).we fun h1 s1 => ?_
  simp [hb, s1, Zml]
def lit (x : Bool) : D := .int (if x then 1 else 0)
def Zbv (w : Nat) (f : Nat → Bool) : D := .tup ((List.range w).map fun j => lit (f j))
def bD (h w : Nat) (f : Nat → Nat → Bool) : D := .tup ((List.range h).map fun i => Zbv w (f i))
section
variable {H W : Nat} {h : HD} {f : Nat → Nat → Bool} {r : Nat → Bool}
theorem Zjb {x : Bool} : Zdl (lit x) = true := by cases x <;> rfl
theorem Zdh : Plain2 h (Zbv W r) := ⟨trivial, fun x hx => by
  simp only [Zbv, ZaQ, List.mem_map] at hx
  obtain ⟨j, _, rfl⟩ := hx
  exact trivial⟩
theorem Zl1 : Plain3 h (bD H W f) := ⟨trivial, fun x hx => by
  simp only [bD, ZaQ, List.mem_map] at hx
  obtain ⟨j, _, rfl⟩ := hx
  exact Zdh⟩
theorem Ziw {ds : List D} (h1 : 1 ≤ ds.length) (h2 : ds.length ≤ 8) : ZcI (.tup ds) = true := by simp [ZcI, h1, h2]
theorem ZkJ (hw : 1 ≤ W ∧ W ≤ 8) : ZeA (Zbv W r) = true := by
  unfold ZeA
  rw [Bool.and_eq_true]
  refine ⟨Ziw (by simp; omega) (by simp; omega), List.all_eq_true.mpr fun x hx => ?_⟩
  simp only [Zbv, ZaQ, List.mem_map] at hx
  obtain ⟨j, _, rfl⟩ := hx
  exact Zjb
theorem ZdJ : Zja (Zbv W r) = W := by simp [Zja, Zbv, ZaQ]
theorem ZkK (hh : 1 ≤ H ∧ H ≤ 8) (hw : 1 ≤ W ∧ W ≤ 8) : ZbW (bD H W f) = true := by
  unfold ZbW
  rw [Bool.and_eq_true, Bool.and_eq_true]
  refine ⟨⟨Ziw (by simp; omega) (by simp; omega), List.all_eq_true.mpr fun x hx => ?_⟩, List.all_eq_true.mpr fun x hx => ?_⟩
  · simp only [bD, ZaQ, List.mem_map] at hx
    obtain ⟨j, _, rfl⟩ := hx
    exact ZkJ hw
  · simp only [bD, ZaQ, List.mem_map] at hx ⊢
    obtain ⟨j, _, rfl⟩ := hx
    have : ((List.range H).map fun i => Zbv W (f i)).getD 0 .non = Zbv W (f 0) := by
      rw [List.getD_eq_getElem?_getD, List.getElem?_map, List.getElem?_range (by omega)]; rfl
    rw [this, ZdJ, ZdJ]
    simp
theorem ZcB (hh : 1 ≤ H ∧ H ≤ 8) (hw : 1 ≤ W ∧ W ≤ 8) : Pu (Zaj [bD H W f] h) h .non := Zgt Zl1 (ZkK hh hw)
end
section
variable {h : HD}
theorem Zr5 : ZpZ (.int 10) (.int 29) h = .ok (.int (10 ^ 29)) h := by
  simp only [ZpZ, LS.intD]
  rw [if_pos (by decide)]
  rfl
variable {H W : Nat} {f : Nat → Nat → Bool} {r : Nat → Bool}
theorem ZfR : Zcl (bD H W f) h = .ok (.int (H : Nat)) h := by simp [bD]
theorem ZdK : Zcl (Zbv W r) h = .ok (.int (W : Nat)) h := by simp [Zbv]
theorem ZkL {k : Nat} (hk : k < H) : ixD (bD H W f) (.int (k : Nat)) h = .ok (Zbv W (f k)) h := ZjV hk
theorem Zhf (hk : 1 ≤ H) : ixD (bD H W f) (.int 0) h = .ok (Zbv W (f 0)) h := Zhv (by omega)
def NoRowD (h : HD) (H W : Nat) (x : D) : Prop := Plain2 h x ∧ (ZeA x = false ∨ (1 < H ∧ Zja x ≠ W))
def Zhl (H W : Nat) (f : Nat → Nat → Bool) (A : Nat) (x : D) : D := .tup (((List.range H).map fun i => Zbv W (f i)).take A ++ [x] ++ ((List.range H).map fun i => Zbv W (f i)).drop (A + 1))
theorem ZnL {A : Nat} {x y : D} (hy : y ∈ ZaQ (Zhl H W f A x)) : y = x ∨ ∃ i, y = Zbv W (f i) := by
  simp only [Zhl, ZaQ, List.append_assoc, List.mem_append, List.mem_cons, List.not_mem_nil, or_false] at hy
  rcases hy with hy | hy | hy
  · have := List.mem_of_mem_take hy
    simp at this
    obtain ⟨i, _, rfl⟩ := this
    exact .inr ⟨i, rfl⟩
  · exact .inl hy
  · have := List.mem_of_mem_drop hy
    simp at this
    obtain ⟨i, _, rfl⟩ := this
    exact .inr ⟨i, rfl⟩
theorem ZkM {A : Nat} {x : D} (hx : Plain2 h x) : Plain3 h (Zhl H W f A x) := ⟨trivial, fun y hy => by
  rcases ZnL hy with rfl | ⟨i, rfl⟩
  · exact hx
  · exact Zdh⟩
theorem ZpK {A : Nat} {x : D} (hA : A < H) (hx : NoRowD h H W x) : ZbW (Zhl H W f A x) = false := by
  have hm : x ∈ ZaQ (Zhl H W f A x) := by simp [Zhl, ZaQ]
  rcases hx.2 with hr | ⟨h1, hl⟩
  · unfold ZbW
    rw [show (ZaQ (Zhl H W f A x)).all ZeA = false from by
      rw [List.all_eq_false]
      exact ⟨x, hm, by rw [hr]; simp⟩]
    simp
  · unfold ZbW
    rw [show ((ZaQ (Zhl H W f A x)).all fun y => Zja y == Zja ((ZaQ (Zhl H W f A x)).getD 0 .non)) = false from ?_]
    · simp
    rw [List.all_eq_false]
    have lenA : (((List.range H).map fun i => Zbv W (f i)).take A).length = A := by simp; omega
    by_cases hA0 : A = 0
    · subst hA0
      have e0 : (ZaQ (Zhl H W f 0 x)).getD 0 .non = x := by simp [Zhl, ZaQ]
      rw [e0]
      have h2 : ((List.range H).map fun i => Zbv W (f i)).drop 1 ≠ [] := by
        intro z
        have := congrArg List.length z
        simp at this
        omega
      obtain ⟨y, hy⟩ := List.exists_mem_of_ne_nil _ h2
      refine ⟨y, by simp only [Zhl, ZaQ]; exact List.mem_append.mpr (.inr hy), ?_⟩
      have := List.mem_of_mem_drop hy
      simp at this
      obtain ⟨i, _, rfl⟩ := this
      rw [ZdJ]
      simpa using fun z => hl z.symm
    · have e0 : (ZaQ (Zhl H W f A x)).getD 0 .non = Zbv W (f 0) := by
        simp only [Zhl, ZaQ, List.append_assoc]
        rw [List.getD_eq_getElem?_getD, List.getElem?_append_left (by rw [lenA]; omega), List.getElem?_take, if_pos (by omega), List.getElem?_map, List.getElem?_range (by omega)]
        rfl
      rw [e0, ZdJ]
      exact ⟨x, hm, by simpa using hl⟩
theorem ZkN {ds : List D} {x : D} (hx : x ∈ ds) (hr : ZeA x = false) : ZbW (.tup ds) = false := by
  unfold ZbW
  rw [show (ZaQ (.tup ds)).all ZeA = false from by
    rw [List.all_eq_false]
    exact ⟨x, hx, by rw [hr]; simp⟩]
  simp
theorem ZkO {d : D} (hl : ZcI d = false) : ZbW d = false := by unfold ZbW; rw [hl]; simp
theorem ZnM (hh : 1 ≤ H) : ZeA (bD H W f) = false := by
  unfold ZeA
  rw [show (ZaQ (bD H W f)).all Zdl = false from by
    rw [List.all_eq_false]
    exact ⟨Zbv W (f 0), by simp [bD, ZaQ]; exact ⟨0, by omega, rfl⟩, by simp [Zbv, Zdl]⟩]
  simp
theorem ZnN (hw : 1 ≤ W) : ZbW (Zbv W r) = false := ZkN (x := lit (r 0)) (by simp; exact ⟨0, by omega, rfl⟩) (by simp [ZeA, lit, ZcI])
def NoB (h : HD) (d : D) : Prop := Plain3 h d ∧ ZbW d = false
theorem NoB.sm {h' : HD} {d : D} (n : NoB h d) (s : Sm h h') : NoB h' d := ⟨n.1.sm s, n.2⟩
end
theorem Plain.smx {b : Nat} {h h' : HD} {d : D} (p : Plain h d) (s : Smx b h h') (x : BoxAt h' b) : Plain h' d := by
  cases d with
  | loc l =>
    obtain ⟨ds, e⟩ := p
    by_cases hl : l = b
    · obtain ⟨n, e'⟩ := x
      exact ⟨_, hl ▸ e'⟩
    · exact ⟨ds, s _ _ hl e⟩
  | _ => exact p
theorem Plain2.smx {b : Nat} {h h' : HD} {d : D} (p : Plain2 h d) (s : Smx b h h') (x : BoxAt h' b) : Plain2 h' d := ⟨p.1.smx s x, fun y hy => (p.2 y hy).smx s x⟩
theorem Plain3.smx {b : Nat} {h h' : HD} {d : D} (p : Plain3 h d) (s : Smx b h h') (x : BoxAt h' b) : Plain3 h' d := ⟨p.1.smx s x, fun y hy => (p.2 y hy).smx s x⟩
theorem NoB.smx {b : Nat} {h h' : HD} {d : D} (n : NoB h d) (s : Smx b h h') (x : BoxAt h' b) : NoB h' d := ⟨n.1.smx s x, n.2⟩
def TabAt (h : HD) : Prop := h[0]? = some .tab
theorem TabAt.sm {h h' : HD} (t : TabAt h) (s : Sm h h') : TabAt h' := s _ _ t
theorem TabAt.smx {b : Nat} {h h' : HD} (t : TabAt h) (s : Smx b h h') (hb : 0 < b) : TabAt h' := s _ _ (by omega) t
theorem TabAt.pos {h : HD} (t : TabAt h) : 0 < h.length := (List.getElem?_eq_some_iff.mp t).1
theorem ZbV {b : Nat} {m : Int} {h : HD} {Q : D → HD → Prop} (hx : BoxAt h b) (hb : 0 < b) (ht : TabAt h) (h1 : 0 < m) (h2 : m ≤ 1000) (q : ∀ (d : Nat) h', (d : Int) < m → BoxAt h' b → TabAt h' → Smx b h h' → Q (.int (d : Nat)) h') : Wp (Zae [.loc b, .int m] h) Q :=
  Zfg hx (by omega) (by omega) fun d h' d0 d1 x s => by
    obtain ⟨k, rfl⟩ : ∃ k : Nat, d = (k : Int) := ⟨d.toNat, by omega⟩
    exact q k h' (by omega) x (ht.smx s hb) s
theorem BoxAt.lt {b : Nat} {h : HD} (x : BoxAt h b) : b < h.length := let ⟨_, e⟩ := x; (List.getElem?_eq_some_iff.mp e).1
end LK
namespace LK
open PySem PySem.Spec PyProof.Rows L2 LS
@[simp] theorem Zr6 {ρ : Rho} {a b : D} {i j : Nat} : ZgU [i, j] (.tup [a, b]) ρ = some ((ρ.set i (some a)).set j (some b)) := id rfl
theorem ZbX {xs ys : List D} {h : HD} (hz : xs.length + ys.length ≤ 1000) : ZbD (.tup xs) (.tup ys) h = .ok (.tup (xs ++ ys)) h := by
  simp only [ZbD]
  rw [if_pos (by unfold sizeLine; omega)]
theorem Zl2 {ds : List D} {x : D} (hx : x ∈ ds) (hl : Zdl x = false) : ZeA (.tup ds) = false := by
  unfold ZeA
  rw [show (ZaQ (.tup ds)).all Zdl = false from by
    rw [List.all_eq_false]
    exact ⟨x, hx, by rw [hl]; simp⟩]
  simp
theorem ZpL {d : D} (hl : ZcI d = false) : ZeA d = false := by unfold ZeA; rw [hl]; simp
theorem Zhg {ds : List D} (hl : 8 < ds.length) : ZcI (.tup ds) = false := by
  have : ¬ ds.length ≤ 8 := by omega
  simp [ZcI, this]
theorem Zjc {h : HD} {W : Nat} {r : Nat → Bool} {x : D} (hx : x ∈ (List.range W).map fun j => lit (r j)) : Plain h x := by
  simp only [List.mem_map] at hx
  obtain ⟨j, _, rfl⟩ := hx
  exact trivial
theorem Zc3 {P : D → Prop} : ∀ d ∈ ([] : List D), P d := fun d hd => by cases hd
theorem all_cons {P : D → Prop} {a : D} {l : List D} (h : P a) (t : ∀ d ∈ l, P d) : ∀ d ∈ a :: l, P d := fun d hd => by
  rcases List.mem_cons.mp hd with rfl | hd
  · exact h
  · exact t d hd
theorem ZhX {P : D → Prop} {l r : List D} (h : ∀ d ∈ l, P d) (t : ∀ d ∈ r, P d) : ∀ d ∈ l ++ r, P d := fun d hd => by
  rcases List.mem_append.mp hd with hd | hd
  · exact h d hd
  · exact t d hd
theorem Zix (P : D → Prop) {l o : Nat} {ds : List D} {h : HD} (e : h[l]? = some (.lst ds)) (ho : o < ds.length) (hp : ∀ d ∈ ds, P d) : ∃ y, ixD (.loc l) (.int (o : Nat)) h = .ok y h ∧ P y :=
  ⟨ds[o], ZdF e (List.getElem?_eq_getElem ho), hp _ (List.getElem_mem ho)⟩
theorem ZcP {h : HD} {d : D} (p : Plain h d) (e : ZaQ d = []) : Plain2 h d := ⟨p, fun x hx => by rw [e] at hx; cases hx⟩
theorem ZhY {h : HD} {d : D} (p : Plain h d) (e : ZaQ d = []) : Plain3 h d := ⟨p, fun x hx => by rw [e] at hx; cases hx⟩
def Zr7 (h : HD) (H W l : Nat) : Prop := ∃ ds : List D, h[l]? = some (.lst ds) ∧ ds.length ≤ 10 ∧ ∀ d ∈ ds, NoRowD h H W d
theorem NoRowD.sm {h h' : HD} {H W : Nat} {d : D} (n : NoRowD h H W d) (s : Sm h h') : NoRowD h' H W d := ⟨n.1.sm s, n.2⟩
noncomputable abbrev ZnO : MS := ZaR (ZbG 7 (ZbC [none, some 1, some 2] (Zco (Zag 7)) (Zbq 0) (ZbB) (mOp ZbD (mOp ZbD (Za4 (Zag 1) (Za9) (Zcs (Zag 2))) (Zdm (Zab (Zag 0) (Zal)))) (Za4 (Zag 1) (Zcs (mOp ZbD (Zag 2) (mC (.int 1)))) (Za9))))) (ZaR (ZbG 7 (mOp ZbD (Zag 7) (Zee (Zab (Zaf (ar1 ZdU) (Zab (Zag 1) (Zal))) (Zab (Zdm (Zab (Zag 1) (Zal))) (Zab (mOp ZdM (Zdm (Zab (mOp ixD (Zag 1) (mC (.int 0))) (Zal))) (mC (.int 9))) (Zab (mOp ZbD (Zag 1) (Zdm (Zab (Zdm (Zal)) (Zal)))) (Zab (mOp ixD (Zag 1) (mC (.int 0))) (Zab (mC .non) (Zab (Zdm (Zal)) (Zab (mC (.int 0)) (Zab (mC (.str "")) (Zab (mC .edic) (Zal)))))))))))))) (Zce (mOp ixD (Zag 7) (Zaf Zae (Zab (Zag 0) (Zab (Zaf (ar1 Zcl) (Zab (Zag 7) (Zal))) (Zal)))))))
theorem ZeB {R : List D} {h : HD} : ZdU (.tup R) h = Zhk R h := rfl
theorem NoB.tup {h : HD} {ds : List D} (hp : ∀ x ∈ ds, Plain2 h x) (hb : ZbW (.tup ds) = false) : NoB h (.tup ds) := ⟨⟨trivial, hp⟩, hb⟩
theorem ZkP {b H W A l : Nat} {f : Nat → Nat → Bool} {h : HD} {c3 c4 c5 c6 : Option D} {Q : D → HD → Prop} (hx : BoxAt h b) (hb : 0 < b) (ht : TabAt h) (hh : 1 ≤ H ∧ H ≤ 8) (hw : 1 ≤ W ∧ W ≤ 8) (hA : A < H) (hn : Zr7 h H W l)
    (q : ∀ d h', NoB h' d → BoxAt h' b → TabAt h' → Smx b h h' → Q d h') : Wp (ZnO [some (.loc b), some (bD H W f), some (.int (A : Nat)), c3, c4, c5, c6, some (.loc l)] h) (ZjS Q) := by
  obtain ⟨ds, el, ln, hn⟩ := hn
  try simp [-Zai]
  refine ZdT (src := [(l, ds)]) (xs := ds) (φ := fun x => x) (fun _ => true) (fun x => Zhl H W f A x) (fun x => [some x, some (bD H W f), some (.int (A : Nat))]) ?_ (by unfold sizeLine; omega) (fun x _ => rfl) (fun x hx h' s' => .ok) (fun x hx _ h' s' => ?_) fun l7 h7 s7 e7 => ?_
  · simp
    first | refine wpe (Zez el) ?_ | rw [Zez el]
    simp [Sm.refl]
    exact fun h2 s2 => Zsn (s2 _ _ el)
  · simp [Pu]
    rw [bD]
    first | refine wpe (Zeb (by simp; omega)) ?_ | rw [Zeb (by simp; omega)]
    simp
    first | refine wpe (ZbX (by simp; omega)) ?_ | rw [ZbX (by simp; omega)]
    simp
    first | refine wpe (Ze3 (k := A) (by omega) (by simp; omega)) ?_ | rw [Ze3 (k := A) (by omega) (by simp; omega)]
    simp
    first | refine wpe (ZbX (by simp; omega)) ?_ | rw [ZbX (by simp; omega)]
    simp [Zhl, Sm.refl]
  rw [ZbE] at e7
  first | refine Eq.mpr (Zai) ?_ | rw [Zai]
  simp [-Zai, Zhf hh.1]
  obtain ⟨R, eR, lR, pR⟩ : ∃ R : List D, bD H W f = .tup R ∧ R.length = H ∧ ∀ x ∈ R, ∀ h, Plain2 h x := ⟨_, rfl, by simp, fun x hx h => by
    simp only [List.mem_map] at hx
    obtain ⟨j, _, rfl⟩ := hx
    exact Zdh⟩
  rw [eR]
  first | refine wpe (ZeB) ?_ | rw [ZeB]
  refine ZaS (by unfold sizeLine; omega) fun l8 h8 s8 e8 _ _ => ?_
  rw [show (9 : Int) = ((9 : Nat) : Int) from rfl]
  first | refine wpe (Zgb (by simp) (by simp)) ?_ | rw [Zgb (by simp) (by simp)]
  try simp [-Zai]
  first | refine wpe (ZbX (by simp; omega)) ?_ | rw [ZbX (by simp; omega)]
  first | refine Eq.mpr (ZbZ) ?_ | rw [ZbZ]
  refine ZaS (by simp) fun l9 h9 s9 e9 _ _ => ?_
  try simp [-Zai]
  first | refine wpe (ZfO (s9 _ _ (s8 _ _ e7)) e9) ?_ | rw [ZfO (s9 _ _ (s8 _ _ e7)) e9]
  refine ZaS (by simp; unfold sizeLine; omega) fun l10 h10 s10 e10 el10 _ => ?_
  have s := ((s7.trans s8).trans s9).trans s10
  obtain ⟨L, eL, lL, nL⟩ : ∃ L : List D, h10[l10]? = some (.lst L) ∧ L.length = ds.length + 10 ∧ ∀ d ∈ L, NoB h10 d := by
    have s8' := s9.trans s10
    have pl : ∀ x ∈ R, Plain2 h10 x := fun x hx => pR x hx h10
    have flat : ∀ {x : D}, Plain h10 x → ZaQ x = [] → ZcI x = false → NoB h10 x := fun p e l => ⟨ZhY p e, ZkO l⟩
    refine ⟨_, e10, by simp, ZhX (fun d hm => ?_) <| all_cons (flat ⟨_, s8' _ _ e8⟩ rfl rfl) <| all_cons (.tup (all_cons ⟨trivial, fun y hy => (pl y hy).1⟩ Zc3) (ZkN (x := .tup R) List.mem_cons_self (by rw [← eR]; exact ZnM hh.1))) <|
      all_cons (.tup (fun x hx => ?_) (ZkO (Zhg (by simp)))) <| all_cons (.tup (ZhX pl (all_cons (ZcP trivial rfl) Zc3)) (ZkN (x := .tup []) (by simp) rfl)) <|
      all_cons ⟨⟨trivial, fun x hx => ?_⟩, ZnN hw.1⟩ <| all_cons (flat trivial rfl rfl) <| all_cons (flat trivial rfl rfl) <| all_cons (flat trivial rfl rfl) <| all_cons (flat trivial rfl rfl) <| all_cons (flat trivial rfl rfl) Zc3⟩
    · obtain ⟨x, hx1, ex⟩ := List.mem_map.mp hm
      rw [← ex]
      have := (hn x hx1).sm s
      exact ⟨ZkM this.1, ZpK hA this⟩
    · rw [show x = _ from List.eq_of_mem_replicate (n := 9) hx]
      exact Zdh
    · obtain ⟨j, _, rfl⟩ := List.mem_map.mp hx
      exact ZcP trivial rfl
  first | refine Eq.mpr (Zai) ?_ | rw [Zai]
  try simp [-Zai]
  first | refine wpe (Zf6 eL) ?_ | rw [Zf6 eL]
  try simp [-Zai]
  refine ZbV (hx.sm s) hb (ht.sm s) (by omega) (by omega) fun d h11 ld x11 t11 s11 => ?_
  have n10 : l10 ≠ b := by have := (((hx.sm s7).sm s8).sm s9).lt; omega
  have hd : d < L.length := by omega
  first | refine wpe (ZdF (s11 _ _ n10 eL) (List.getElem?_eq_getElem hd)) ?_ | rw [ZdF (s11 _ _ n10 eL) (List.getElem?_eq_getElem hd)]
  exact q _ _ ((nL _ (List.getElem_mem hd)).smx s11 x11) x11 t11 ((Zc5 s).trans s11)
theorem ZhZ {b H W : Nat} {f : Nat → Nat → Bool} {h : HD} {Q : D → HD → Prop} (hx : BoxAt h b) (hb : 0 < b) (ht : TabAt h) (hh : 1 ≤ H ∧ H ≤ 8) (hw : 1 ≤ W ∧ W ≤ 8) (q : ∀ d h', NoB h' d → BoxAt h' b → TabAt h' → Smx b h h' → Q d h') : Wp (ZaF [.loc b, bD H W f] h) Q := by
  change Wp (ZaE 8 (Zcw Zae) [.loc b, bD H W f] h) _
  first | refine Eq.mpr (Zas) ?_ | rw [Zas]
  simp [-Zai, ZfR, Zhf hh.1, ZdK]
  refine ZbV hx hb ht (by omega) (by omega) fun A h1 lA x1 t1 s1 => ?_
  refine ZbV x1 hb t1 (by omega) (by omega) fun B h2 lB x2 t2 s2 => ?_
  have hA : A < H := by omega
  have hB : B < W := by omega
  try simp [-Zai]
  first | refine Eq.mpr (Zai) ?_ | rw [Zai]
  try simp [-Zai, Zr5]
  refine ZaS (by simp) fun l3 h3 s3 e3 el3 _ => ?_
  try simp [-Zai]
  refine ZaS (by simp) fun l4 h4 s4 e4 el4 _ => ?_
  have x4 : BoxAt h4 b := (x2.sm s3).sm s4
  have t4 : TabAt h4 := (t2.sm s3).sm s4
  have n3 : l3 ≠ b := by have := x2.lt; omega
  have n4 : l4 ≠ b := by have := (x2.sm s3).lt; omega
  try simp [-Zai]
  refine ZbV x4 hb t4 (by decide) (by decide) fun o h5 l2 x5 t5 s5 => ?_
  have e4' := s5 _ _ n4 e4
  have e3' := s5 _ _ n3 (s4 _ _ e3)
  obtain ⟨y, ey, py, ly⟩ := Zix (fun y => Plain h5 y ∧ Zdl y = false) (o := o) e4' (by simp; omega) <| all_cons ⟨trivial, rfl⟩ <| all_cons ⟨trivial, rfl⟩ <| all_cons ⟨trivial, rfl⟩ <| all_cons ⟨trivial, rfl⟩ <| all_cons ⟨trivial, rfl⟩ <| all_cons ⟨trivial, rfl⟩ <| all_cons ⟨trivial, rfl⟩ <| all_cons ⟨trivial, by decide⟩ <| all_cons ⟨⟨_, e3'⟩, rfl⟩ <| all_cons ⟨trivial, rfl⟩ Zc3
  first | refine wpe (ey) ?_ | rw [ey]
  first | refine Eq.mpr (ZbZ) ?_ | rw [ZbZ]
  first | refine Eq.mpr (Zai) ?_ | rw [Zai]
  try simp [-Zai]
  first | refine wpe (ZkL hA) ?_ | rw [ZkL hA]
  first | refine Eq.mpr (ZbZ) ?_ | rw [ZbZ]
  first | refine Eq.mpr (Zai) ?_ | rw [Zai]
  have S : Smx b h h5 := (((s1.trans s2).trans (Zc5 s3)).trans (Zc5 s4)).trans s5
  clear ey
  generalize hr : f A = r
  obtain ⟨R, eR, lR, pR⟩ : ∃ R : List D, Zbv W r = .tup R ∧ R.length = W ∧ ∀ x ∈ R, ∀ h, Plain h x := ⟨_, rfl, by simp, fun x hx h => Zjc hx⟩
  rw [eR]
  try simp [-Zai]
  first | refine wpe (Zeb (by omega)) ?_ | rw [Zeb (by omega)]
  try simp [-Zai]
  first | refine wpe (ZbX (by simp; omega)) ?_ | rw [ZbX (by simp; omega)]
  try simp [-Zai]
  first | refine wpe (Ze3 (k := B) (by omega) (by omega)) ?_ | rw [Ze3 (k := B) (by omega) (by omega)]
  try simp [-Zai]
  first | refine wpe (ZbX (by simp; omega)) ?_ | rw [ZbX (by simp; omega)]
  first | refine Eq.mpr (ZbZ) ?_ | rw [ZbZ]
  first | refine Eq.mpr (Zai) ?_ | rw [Zai]
  try simp [-Zai]
  rw [show (8 : Int) = ((8 : Nat) : Int) from rfl]
  first | refine wpe (Zgb (by simp) (by simp)) ?_ | rw [Zgb (by simp) (by simp)]
  try simp [-Zai]
  first | refine wpe (ZbX (by simp; omega)) ?_ | rw [ZbX (by simp; omega)]
  first | refine Eq.mpr (ZbZ) ?_ | rw [ZbZ]
  first | refine wpe (ZeB) ?_ | rw [ZeB]
  refine ZaS (by unfold sizeLine; omega) fun l6 h6 s6 e6 _ _ => ?_
  refine ZaS (by simp) fun l7 h7 s7 e7 _ _ => ?_
  first | refine Eq.mpr (Zai) ?_ | rw [Zai]
  have hS7 : Smx b h h7 := (S.trans (Zc5 s6)).trans (Zc5 s7)
  have x7 := (x5.sm s6).sm s7
  have t7 := (t5.sm s6).sm s7
  have py7 : Plain h7 y := (py.sm s6).sm s7
  have base : ∀ d ∈ [D.tup (List.take B R ++ y :: List.drop (B + 1) R), D.tup (List.take B R ++ y :: List.drop (B + 1) R), D.tup (List.take B R ++ y :: List.drop (B + 1) R), D.tup (R ++ [D.int 0, D.int 0, D.int 0, D.int 0, D.int 0, D.int 0, D.int 0, D.int 0]), D.tup [], D.loc l6, D.non, D.int 1], NoRowD h7 H W d := by
    have pt : ∀ ds : List D, (∀ x ∈ ds, Plain h7 x) → ZeA (.tup ds) = false → NoRowD h7 H W (.tup ds) := fun ds hd hr => ⟨⟨trivial, hd⟩, .inl hr⟩
    have bent : NoRowD h7 H W (.tup (List.take B R ++ y :: List.drop (B + 1) R)) := by
      refine pt _ (fun x hx => ?_) (Zl2 (x := y) (by simp) ly)
      rcases List.mem_append.mp hx with z | z
      · exact pR x (List.mem_of_mem_take z) _
      · rcases List.mem_cons.mp z with z | z
        · exact z ▸ py7
        · exact pR x (List.mem_of_mem_drop z) _
    refine all_cons bent <| all_cons bent <| all_cons bent <| all_cons (pt _ (ZhX (fun x z => pR x z _) fun x hx => ?_) (ZpL (Zhg (by simp; omega)))) <| all_cons (pt _ Zc3 rfl) <| all_cons ⟨ZcP ⟨_, s7 _ _ e6⟩ rfl, .inl rfl⟩ <| all_cons ⟨ZcP trivial rfl, .inl rfl⟩ <| all_cons ⟨ZcP trivial rfl, .inl rfl⟩ Zc3
    rw [show x = _ from List.eq_of_mem_replicate (n := 8) hx]
    exact trivial
  first | refine Eq.mpr (ZbU) ?_ | rw [ZbU]
  by_cases h1 : 1 < H
  · have h1' : (1 : Int) < (H : Int) := by omega
    simp [-Zai, ZfR, h1', h1]
    first | refine wpe (Zms (by omega)) ?_ | rw [Zms (by omega)]
    try simp [-Zai]
    first | refine wpe (ZbX (by simp; omega)) ?_ | rw [ZbX (by simp; omega)]
    try simp [-Zai]
    refine ZaS (by simp) fun l8 h8 s8 e8 _ _ => ?_
    try simp [-Zai]
    first | refine wpe (ZfO (s8 _ _ e7) e8) ?_ | rw [ZfO (s8 _ _ e7) e8]
    refine ZaS (by simp) fun l9 h9 s9 e9 _ _ => ?_
    first | refine Eq.mpr (Zai) ?_ | rw [Zai]
    have s79 := s8.trans s9
    refine ZkP (x7.sm s79) hb (t7.sm s79) hh hw hA ⟨_, e9, by simp, fun d hd => ?_⟩ fun d h' n x t s' => q d h' n x t ((hS7.trans (Zc5 s79)).trans s')
    rcases List.mem_append.mp hd with z | z
    · exact (base d z).sm s79
    · simp only [List.mem_cons, List.not_mem_nil, or_false] at z
      rcases z with rfl | rfl
      · refine ⟨⟨trivial, fun x hx => pR x (List.mem_of_mem_take hx) _⟩, .inr ⟨h1, ?_⟩⟩
        simp [Zja, ZaQ]
        omega
      · refine ⟨⟨trivial, fun x hx => ?_⟩, .inr ⟨h1, ?_⟩⟩
        · rcases List.mem_append.mp hx with z | z
          · exact pR x z _
          · simp only [List.mem_cons, List.not_mem_nil, or_false] at z
            subst z
            exact trivial
        · simp [Zja, ZaQ]
          omega
  · have h1' : ¬ (1 : Int) < (H : Int) := by omega
    simp [-Zai, ZfR, h1', h1]
    first | refine Eq.mpr (Zai) ?_ | rw [Zai]
    exact ZkP x7 hb t7 hh hw hA ⟨_, e7, by simp, base⟩ fun d h' n x t s' => q d h' n x t (hS7.trans s')
end LK
namespace LK
open PySem PySem.Spec PyProof.Rows L2 LS
theorem Zd6 {i : Int} {h : HD} : Zaz [.int i] h = .ok (.bl true) h := rfl
def ZkQ (n : Nat) : Int → List D → Bool
  | _, [] => true
  | last, .int i :: ds => decide (last < i ∧ i < (n : Int)) && ZkQ n i ds
  | _, _ :: _ => false
def ZnP (n : Nat) (d : D) : Bool := match d with
  | .tup ds => ZkQ n (-1) ds
  | _ => false
theorem ZnQ {n : Nat} {last : Int} {x : D} {xs : List D} (h : Zhb x = false) : ZkQ n last (x :: xs) = false := by
  cases x <;> first | rfl | (cases h)
inductive LoI (ds : List D) (n : Nat) (h : HD) (xs : List D) (ρ : Rho) (h' : HD) : Prop where
  | mk (last : Int) (x : Option D) (f0 : ρ = [some (.tup ds), some (.int (n : Nat)), some (.int last), x]) (f1 : h' = h) (f2 : ZkQ n last xs = ZkQ n (-1) ds) (f3 : ∀ y ∈ xs, Plain h y) : LoI ds n h xs ρ h'
theorem ZkR {d : D} {n : Nat} {h : HD} (p : Plain2 h d) : Pu (ZbJ [d, .int (n : Nat)] h) h (.bl (ZnP n d)) := by
  change Wp (ZaE 4 (Zgj Zaz) [d, .int (n : Nat)] h) _
  refine Eq.mpr Zas ?_
  cases hT : Zqu d with
  | true =>
    obtain ⟨ds, rfl⟩ := Zmw hT
    simp
    refine ZeX (src := []) (xs := ds) (fun x => x) (LoI ds n h) ?_ (fun ys ρ h' _ => Zlm) ?_ ?_
    · simp
      exact ⟨-1, _, rfl, rfl, rfl, p.2⟩
    · rintro x xs ρ h' ⟨last, y, rfl, rfl, e, pl⟩
      refine ⟨_, rfl, ?_⟩
      have px := pl x List.mem_cons_self
      cases hx : Zhb x with
      | false =>
        simp [Ziv px, hx, Zdp, Sm.refl]
        rw [ZnQ hx] at e
        simp [ZnP, ← e]
      | true =>
        obtain ⟨i, rfl⟩ := Zhc hx
        by_cases h1 : last < i
        · by_cases h2 : i < (n : Int)
          · simp [Zd6, h1, h2, Zao, Zdp]
            exact ⟨i, _, rfl, rfl, by rw [← e]; simp [ZkQ, h1, h2], fun y hy => pl y (List.mem_cons_of_mem _ hy)⟩
          · simp [Zd6, h1, h2, Zao, Zdp, Sm.refl]
            simp [ZnP, ← e, ZkQ, h1, h2]
        · simp [Zd6, h1, Zao, Zdp, Sm.refl]
          simp [ZnP, ← e, ZkQ, h1]
    · rintro ρ h' ⟨last, y, rfl, rfl, e, _⟩
      simp [Sm.refl, ZnP, ← e, ZkQ]
  | false =>
    have e : ZnP n d = false := by cases d <;> first | rfl | cases hT
    simp [Zhd p.1, hT, e, Sm.refl]
end LK
namespace LK
open PySem PySem.Spec PyProof.Rows L2 LS
def Zhh (n : Nat) (p : Nat → Bool) : D := .tup (((List.range n).filter p).map fun i => .int ((i : Nat) : Int))
section
variable {H W n : Nat} {h : HD} {f : Nat → Nat → Bool} {r p q p' q' : Nat → Bool}
theorem Ziy : ∀ {ks : List Nat} {last : Int}, ks.Pairwise (· < ·) → (∀ k ∈ ks, last < (k : Int) ∧ k < n) → ZkQ n last (ks.map fun i => .int ((i : Nat) : Int)) = true
  | [], _, _, _ => rfl
  | k :: ks, last, hp, hb => by
    rw [List.pairwise_cons] at hp
    have h0 := hb k List.mem_cons_self
    rw [List.map_cons, ZkQ, Ziy hp.2 fun j hj => ⟨Int.ofNat_lt.mpr (hp.1 j hj), (hb j (List.mem_cons_of_mem _ hj)).2⟩, decide_eq_true ⟨h0.1, Int.ofNat_lt.mpr h0.2⟩]
    rfl
theorem Zl3 : ZnP n (Zhh n p) = true := Ziy (List.Pairwise.filter _ List.pairwise_lt_range) fun k hk => ⟨by omega, List.mem_range.mp (List.mem_filter.mp hk).1⟩
theorem Zjd : Plain2 h (Zhh n p) := ⟨trivial, fun x hx => by
  obtain ⟨k, _, rfl⟩ := List.mem_map.mp hx
  exact trivial⟩
theorem p_is_lot : Pu (ZbJ [Zhh n p, .int (n : Nat)] h) h (.bl true) := Zl3 (n := n) (p := p) ▸ ZkR Zjd
theorem ZnR {k : Nat} (hk : k < n) : ((List.range n).filter p).contains k = p k := by
  rw [Bool.eq_iff_iff]
  simp [hk]
theorem Zmx {neg : Bool} {k : Nat} (hk : k < n) : inD neg (.int (k : Nat)) (Zhh n p) h = .ok (.bl (if neg then !p k else p k)) h := by
  unfold Zhh
  rw [Zm8, ZnR hk]
end
theorem Smx.over {a b : Nat} {h h1 h2 : HD} (s : Smx b h h1) (s2 : Smx a h1 h2) (hl : h.length ≤ a) : Smx b h h2 := fun l c n e => s2 l c (by have := (List.getElem?_eq_some_iff.mp e).1; omega) (s l c n e)
theorem Smx.put {a b : Nat} {c : Zh2} {h h1 : HD} (s : Smx b h h1) (hl : h.length ≤ a) : Smx b h (h1.set a c) := fun l x n e => by
  rw [List.getElem?_set_ne (by have := (List.getElem?_eq_some_iff.mp e).1; omega)]
  exact s l x n e
theorem Smx.new {b : Nat} {c : Zh2} {h h1 : HD} (s : Smx b h h1) : Smx b h (h1 ++ [c]) := s.trans (Zc5 (.app _ _))
theorem Smx.len {b : Nat} {h h' : HD} (s : Smx b h h') (hb : b < h'.length) : h.length ≤ h'.length := by
  cases e : h.length with
  | zero => exact Nat.zero_le _
  | succ n =>
    have hn : n < h.length := by omega
    by_cases hz : n = b
    · omega
    · have := s n h[n] hz (List.getElem?_eq_getElem hn)
      have := (List.getElem?_eq_some_iff.mp this).1
      omega
inductive WbI (b : Nat) (h1 : HD) (xs : List Nat) (ρ : Rho) (h' : HD) : Prop where
  | mk (N M : Int) (x : Option D) (f0 : ρ = [some (.loc b), some (.int N), some (.int M), x]) (f1 : h' = h1) : WbI b h1 xs ρ h'
theorem Zh0 {b : Nat} {h : HD} {Q : D → HD → Prop} (hx : BoxAt h b) (q : ∀ l h', BoxAt h' b → BoxAt h' l → l ≠ b → h.length ≤ l → Smx b h h' → Q (.loc l) h') : Wp (ZaI [.loc b] h) Q := by
  change Wp (ZaE 4 (Zcv Zae) [.loc b] h) _
  first | refine Eq.mpr (Zas) ?_ | rw [Zas]
  simp
  refine Zfg hx (by decide) (by decide) fun d h1 d0 d1 x1 s1 => ?_
  refine ZeX (src := []) (xs := List.range 24) (fun i => .int ((i : Nat) : Int)) (WbI b h1) ?_ (fun ys ρ h' _ => Zlm) ?_ ?_
  · simp [ZpI]
    exact ⟨_, _, _, rfl, rfl⟩
  · rintro x xs ρ h' ⟨N, M, y, rfl, rfl⟩
    refine ⟨_, rfl, ?_⟩
    simp
    rw [Zlv (by decide) (by decide)]
    simp
    rw [ZiM (by decide)]
    simp
    rw [Zlv (by decide) (by decide)]
    simp [Zdp]
    exact ⟨_, _, _, rfl, rfl⟩
  · rintro ρ h' ⟨N, M, y, rfl, rfl⟩
    simp
    refine ZaS (by simp) fun l h2 s e el _ => ?_
    exact q l h2 (x1.sm s) ⟨_, e⟩ (by have := x1.lt; omega) (by have := s1.len x1.lt; omega) (s1.trans (Zc5 s))
theorem ZnS {W : Nat} {rows : List (Nat → Bool)} {H : Nat} (e : rows.length = H) : D.tup (rows.map (Zbv W)) = bD H W fun i => rows.getD i fun _ => false := by
  unfold bD
  congr 1
  apply List.ext_getElem
  · simp [e]
  · intro i h1 h2
    simp at h1 h2
    simp [List.getD_eq_getElem?_getD, List.getElem?_eq_getElem h1]
inductive BoI (b H W : Nat) (way dense : Int) (l2 l3 : Nat) (h : HD) (xs : List Nat) (ρ : Rho) (h' : HD) : Prop where
  | mk (x : Option D) (rows : List (Nat → Bool)) (f0 : ρ = [some (.loc b), some (.int (H : Nat)), some (.int (W : Nat)), some (.int way), some (.loc l2), some (.int dense), some (.loc l3), x]) (f1 : BoxAt h' b) (f2 : BoxAt h' l2) (f3 : h'[l3]? = some (.lst (rows.map (Zbv W)))) (f4 : rows.length + xs.length = H) (f5 : Smx b h h') : BoI b H W way dense l2 l3 h xs ρ h'
inductive BrI (b W l2 l3 : Nat) (rows : List (Nat → Bool)) (h h' : HD) : Prop where
  | mk (f1 : BoxAt h' b) (f2 : BoxAt h' l2) (f3 : h'[l3]? = some (.lst (rows.map (Zbv W)))) (f4 : Smx b h h') : BrI b W l2 l3 rows h h'
theorem Ziz {b H W : Nat} {h : HD} {Q : D → HD → Prop} (hx : BoxAt h b) (hh : 1 ≤ H ∧ H ≤ 8) (hw : 1 ≤ W ∧ W ≤ 8) (q : ∀ f h', BoxAt h' b → Smx b h h' → Q (bD H W f) h') : Wp (ZaJ [.loc b, .int (H : Nat), .int (W : Nat)] h) Q := by
  change Wp (ZaE 8 (Zdf Zae ZaI) [.loc b, .int (H : Nat), .int (W : Nat)] h) _
  first | refine Eq.mpr (Zas) ?_ | rw [Zas]
  simp [-Zai]
  refine Zfg hx (by decide) (by decide) fun way h1 d0 d1 x1 z1 => ?_
  simp [-Zai, Zai (g := ZaR (ZbG 4 _) _)]
  refine Zh0 x1 fun l2 h2 x2 y2 n2 k2 z2 => ?_
  have kl2 : h.length ≤ l2 := by have := z1.len x1.lt; omega
  first | refine Eq.mpr (Zai) ?_ | rw [Zai]
  simp [-Zai]
  refine ZaS (by simp) fun l h3 s3 e3 el3 _ => ?_
  obtain ⟨dense, ed⟩ : ∃ dense : Int, ixD (.loc l) (.int way) h3 = .ok (.int dense) h3 := by
    obtain ⟨w, rfl⟩ : ∃ w : Nat, way = (w : Int) := ⟨way.toNat, by omega⟩
    obtain ⟨y, ey, z, rfl⟩ := Zix (fun y => ∃ i, y = .int i) (o := w) e3 (by simp; omega) <| all_cons ⟨_, rfl⟩ <| all_cons ⟨_, rfl⟩ <| all_cons ⟨_, rfl⟩ <| all_cons ⟨_, rfl⟩ <| all_cons ⟨_, rfl⟩ Zc3
    exact ⟨z, ey⟩
  first | refine wpe (ed) ?_ | rw [ed]
  first | refine Eq.mpr (ZbZ) ?_ | rw [ZbZ]
  first | refine Eq.mpr (Zai) ?_ | rw [Zai]
  simp [-Zai]
  refine ZaS (by simp) fun l3 h4 s4 e4 el4 _ => ?_
  have x4 : BoxAt h4 b := (x2.sm s3).sm s4
  have y4 : BoxAt h4 l2 := (y2.sm s3).sm s4
  have z4 : Smx b h h4 := ((z1.trans z2).trans (Zc5 s3)).trans (Zc5 s4)
  have kl3 : h.length ≤ l3 := by have := (z1.trans z2).len x2.lt; have := s3.len; omega
  have n3 : l3 ≠ b := by
    obtain ⟨n, e⟩ := x2.sm s3
    have := (List.getElem?_eq_some_iff.mp e).1
    omega
  have n4 : l3 ≠ l2 := by
    obtain ⟨n, e⟩ := y2.sm s3
    have := (List.getElem?_eq_some_iff.mp e).1
    omega
  first | refine Eq.mpr (Zai) ?_ | rw [Zai]
  simp [-Zai]
  refine ZeX (src := []) (xs := List.range H) (fun i => .int ((i : Nat) : Int)) (BoI b H W way dense l2 l3 h) ?_ (fun ys ρ h' _ => Zlm) ?_ ?_
  · simp [ZcE (show H ≤ 1000 by omega)]
    exact ⟨_, [], rfl, x4, y4, e4, by simp, z4⟩
  · rintro x xs ρ h' ⟨y, rows, rfl, x5, y5, e5, hl, z5⟩
    refine ⟨_, rfl, ?_⟩
    simp [ZeY e5]
    refine ZgP (src := []) (xs := List.range W) (fun i => .int ((i : Nat) : Int)) (BrI b W l2 l3 rows h) (fun _ b => b = true) (fun i d => ∃ r : Bool, d = lit r) (fun i => [some (.int ((i : Nat) : Int)), some (.loc l2), some (.int dense)]) ?_ (fun _ _ => Zlm) (fun h c x => by obtain ⟨a1, a2, a3, a4⟩ := x; exact ⟨a1.new, a2.new, Sm.app _ _ _ _ a3, a4.new⟩) List.nodup_range (sz hw.2) (fun x _ => rfl) ?_ ?_
    · simp [ZcE (show W ≤ 1000 by omega)]
      exact ⟨x5, y5, e5, z5⟩
    · intro x hx h i
      simp
      obtain ⟨a1, a2, a3, a4⟩ := i
      refine Zfg a2 (by decide) (by decide) fun d h1 d0 d1 x1 s1 => ?_
      simp only [ZbZ, Zm5, Zm4, Zm6, ZeW, Zq4, Zo1, Zlu]
      exact ⟨⟨a1.smx s1 (Ne.symm n2), x1, s1 _ _ n4 a3, a4.over s1 kl2⟩, by cases decide (d < dense) <;> simp [lit]⟩
    · intro h6 g e x6 hr tr
      obtain ⟨x61, x62, x63, x64⟩ := x6
      have hr' : ∃ r : Nat → Bool, ∀ x ∈ List.range W, e x = lit (r x) := by
        refine ⟨fun x => if h : x ∈ List.range W then (hr x h (tr x h)).choose else false, fun x hx => ?_⟩
        simp only [dif_pos hx]
        exact (hr x hx (tr x hx)).choose_spec
      obtain ⟨r, er⟩ := hr'
      have ef : (List.range W).filter g = List.range W := List.filter_eq_self.mpr tr
      have em : D.tup (((List.range W).filter g).map e) = Zbv W r := by
        rw [ef]; unfold Zbv; congr 1; exact List.map_congr_left er
      rw [em]
      simp [Zm7 x63 (show (rows.map (Zbv W)).length < sizeLine by simp; unfold sizeLine; omega), Zdp]
      have hl3 : l3 < h6.length := (List.getElem?_eq_some_iff.mp x63).1
      refine ⟨_, rows ++ [r], rfl, ?_, ?_, ?_, ?_, x64.put kl3⟩
      · obtain ⟨n, e⟩ := x61
        exact ⟨n, by rw [List.getElem?_set_ne n3]; exact e⟩
      · obtain ⟨n, e⟩ := x62
        exact ⟨n, by rw [List.getElem?_set_ne n4]; exact e⟩
      · rw [List.getElem?_set_self hl3]
        simp
      · simp at hl ⊢
        omega
  · rintro ρ h' ⟨y, rows, rfl, x5, y5, e5, hl, z5⟩
    simp at hl
    simp
    by_cases h3 : way = 3
    · simp [h3]
      obtain ⟨r0, rest, rfl⟩ : ∃ r0 rest, rows = r0 :: rest := by
        cases rows with
        | nil => simp at hl; omega
        | cons a r => exact ⟨a, r, rfl⟩
      rw [show (0 : Int) = ((0 : Nat) : Int) from rfl]
      first | refine wpe (ZdF e5 (k := 0) (a := Zbv W r0) rfl) ?_ | rw [ZdF e5 (k := 0) (a := Zbv W r0) rfl]
      simp
      refine ZaS (by simp) fun l5 h5 s5 e6 _ _ => ?_
      first | refine wpe (Zmr) ?_ | rw [Zmr]
      first | refine wpe (Zj5 e6 (by omega)) ?_ | rw [Zj5 e6 (by omega)]
      refine ZaS (by simp; unfold sizeLine; omega) fun l6 h6 s6 e7 _ _ => ?_
      simp [ZjU e7]
      have : D.tup (List.replicate H (Zbv W r0)) = bD H W fun _ => r0 := by
        unfold bD
        congr 1
        apply List.ext_getElem
        · simp
        · intro i h1 h2; simp
      rw [this]
      exact q _ _ ((x5.sm s5).sm s6) ((z5.trans (Zc5 s5)).trans (Zc5 s6))
    · simp [h3, ZjU e5]
      rw [ZnS hl]
      exact q _ _ x5 z5
end LK
namespace LK
open PySem PySem.Spec PyProof.Rows L2 LS
def swD (h w : Nat) (p q : Nat → Bool) : D := .tup [Zhh h p, Zhh w q]
section
variable {H W n : Nat} {h : HD} {f : Nat → Nat → Bool} {r p q p' q' : Nat → Bool}
theorem Zfy (hh : 1 ≤ H ∧ H ≤ 8) (hw : 1 ≤ W ∧ W ≤ 8) : Pu (ZaM [bD H W f, swD H W p q] h) h (.bl true) := by
  change Wp (ZaE 2 (ZcH Zaj ZbJ) [bD H W f, swD H W p q] h) _
  first | refine Eq.mpr (Zas) ?_ | rw [Zas]
  simp
  refine (ZcB hh hw).wp fun h1 s1 => ?_
  simp [swD]
  simp [bD]
  refine p_is_lot.wp fun h2 s2 => ?_
  simp
  first | refine wpe (Zhv (by omega)) ?_ | rw [Zhv (by omega)]
  simp [Zbv]
  refine p_is_lot.wp fun h3 s3 => ?_
  simp [(s1.trans s2).trans s3]
theorem Zer (hh : 1 ≤ H ∧ H ≤ 8) (hw : 1 ≤ W ∧ W ≤ 8) : Pu (ZaG [bD H W f, swD H W p q] h) h .non := by
  change Wp (ZaE 2 (Zci ZaM) [bD H W f, swD H W p q] h) _
  first | refine Eq.mpr (Zas) ?_ | rw [Zas]
  simp
  refine (Zfy hh hw).wp fun h1 s1 => ?_
  simp [s1]
theorem Zfz {b : Bool} (hw : W ≤ 8) : Pu (ZaL [Zbv W r, Zhh W q, .bl b] h) h (Zbv W fun j => Bool.xor (r j) (Bool.xor b (q j))) := by
  change Wp (ZaE 3 ZcG [Zbv W r, Zhh W q, .bl b] h) _
  first | refine Eq.mpr (Zas) ?_ | rw [Zas]
  simp
  refine Pu.wp (Zf4 (src := []) (xs := List.range W) (φ := fun j => .tup [.int ((j : Nat) : Int), lit (r j)]) (fun j => lit (Bool.xor (r j) (Bool.xor b (q j)))) (fun j => [some (.int ((j : Nat) : Int)), some (lit (r j)), some (Zhh W q), some (.bl b)]) ?_ (fun x _ => rfl) (fun x hx h' s' => ?_) (sz hw)) fun h2 s2 => ?_
  · simp [It0, Zbv, Zey, Sm.refl, Zbw]
  · simp [Pu, Zmx (show x < W by simpa using hx)]
    cases r x <;> cases b <;> cases q x <;> simp [lit, Sm.refl]
  · exact ⟨rfl, s2⟩
theorem ZfS (hh : 1 ≤ H ∧ H ≤ 8) (hw : 1 ≤ W ∧ W ≤ 8) : Pu (Za2 [bD H W f, swD H W p q] h) h (bD H W (sw f p q)) := by
  change Wp (ZaE 4 (Zd3 ZaG ZaL) [bD H W f, swD H W p q] h) _
  first | refine Eq.mpr (Zas) ?_ | rw [Zas]
  simp
  refine (Zer hh hw).wp fun h1 s1 => ?_
  simp [swD]
  refine Pu.wp (Zf4 (src := []) (xs := List.range H) (φ := fun i => .tup [.int ((i : Nat) : Int), Zbv W (f i)]) (fun i => Zbv W fun j => Bool.xor (f i j) (Bool.xor (p i) (q j))) (fun i => [some (.int ((i : Nat) : Int)), some (Zbv W (f i)), some (Zhh W q), some (Zhh H p)]) ?_ (fun x _ => rfl) (fun x hx h' s' => ?_) (sz hh.2)) fun h2 s2 => ?_
  · simp [It0, bD, Zey, Sm.refl, Zbw]
  · simp [Pu, Zmx (show x < H by simpa using hx)]
    exact Zfz hw.2
  · exact ⟨rfl, s1.trans s2⟩
end
theorem ZkS {b n : Nat} {h : HD} {Q : D → HD → Prop} (hx : BoxAt h b) (hn : n ≤ 8) (q : ∀ p h', BoxAt h' b → Smx b h h' → Q (Zhh n p) h') : Wp (ZaU [.loc b, .int (n : Nat)] h) Q := by
  change Wp (ZaE 2 (ZdZ Zae) [.loc b, .int (n : Nat)] h) _
  first | refine Eq.mpr (Zas) ?_ | rw [Zas]
  simp
  refine ZgP (src := []) (xs := List.range n) (fun i => .int ((i : Nat) : Int)) (fun h' => BoxAt h' b ∧ Smx b h h') (fun _ _ => True) (fun i d => d = .int ((i : Nat) : Int)) (fun i => [some (.int ((i : Nat) : Int)), some (.loc b)]) ?_ (fun _ _ => Zlm) (fun h c x => ⟨x.1.new, x.2.new⟩) List.nodup_range (sz hn) (fun x _ => rfl) ?_ ?_
  · simp [ZcE (show n ≤ 1000 by omega), hx, Smx.refl]
  · intro x hx h i
    simp
    refine Zfg i.1 (by decide) (by decide) fun d h1 d0 d1 x1 s1 => ?_
    simp [x1, i.2.trans s1]
  · intro h' g e x1 hr _
    have : ((List.range n).filter g).map e = ((List.range n).filter g).map fun i => D.int ((i : Nat) : Int) := List.map_congr_left fun x hx => hr x (List.mem_filter.mp hx).1 (List.mem_filter.mp hx).2
    rw [this]
    exact q g h' x1.1 x1.2
theorem Zgv {i a b : Int} {h : HD} (h1 : a ≤ i) (h2 : i ≤ b) : Pu (ZaX [.int i, .int a, .int b] h) h .non := by
  change Wp (ZaE 3 (ZcZ Zav) [.int i, .int a, .int b] h) _
  rw [Zas]
  simp
  refine p_is_between_int.wp fun h' s => ?_
  simp [h1, h2, s]
theorem ZpM {i : Int} {k : Nat} {h : HD} : Zpr (.int i) (.int (k : Nat)) h = .ok (.int (i / 2 ^ k)) h := by
  simp only [Zpr, LS.intD]
  rw [if_pos (by omega)]
  simp
theorem p_common_bits {a b : Int} {h : HD} : Pu (ZaW [.int a, .int b] h) h (.int (ZpD a b)) := by
  change Wp (ZaE 2 ZcV [.int a, .int b] h) _
  rw [Zas]
  simp
  refine Pu.wp (Zph (src := []) (xs := List.range 3) (φ := fun j => .int ((j : Nat) : Int)) (fun k : Nat => Builtin.bitAnd (Builtin.bitAnd (a / 2 ^ k) (b / 2 ^ k)) 1) (fun k => [some (.int ((k : Nat) : Int)), some (.int a), some (.int b)]) ?_ (fun x _ => rfl) (fun x hx h' s' => ?_) (sz (by decide))) fun h2 s2 => ⟨rfl, s2⟩
  · simp [It0]
    rw [show (3 : Int) = ((3 : Nat) : Int) from rfl, ZcE (by decide)]
    simp [Sm.refl, Zbw]
  · simp [Pu]
    rw [ZpM]
    simp
    rw [ZpM]
    simp [Sm.refl]
theorem Zr8 {k : Nat} {h : HD} (hk : k ≤ 3) : Zh8 (.int 1) (.int (k : Nat)) h = .ok (.int ((2 ^ k : Nat) : Int)) h := by
  match k, hk with
  | 0, _ => rfl
  | 1, _ => rfl
  | 2, _ => rfl
  | 3, _ => rfl
theorem Zl4 {k S : Nat} {h : HD} (hk : k ≤ 3) (hS : 2 ^ k = S) : Zh8 (.int 1) (.int (k : Nat)) h = .ok (.int (S : Nat)) h := by rw [← hS]; exact Zr8 hk
theorem ZkT {k : Nat} (hk : k ≤ 3) : 1 ≤ 2 ^ k ∧ 2 ^ k ≤ 8 := by
  match k, hk with
  | 0, _ => decide
  | 1, _ => decide
  | 2, _ => decide
  | 3, _ => decide
theorem ZpN {r c : Nat} : lit (bb r c) = .int (ZpD r c % 2) := by
  unfold lit bb
  have : ZpD r c % 2 = 0 ∨ ZpD r c % 2 = 1 := by omega
  rcases this with e | e <;> rw [e] <;> rfl
theorem Zhi {k : Nat} {h : HD} (hk : k ≤ 3) : Pu (Zbj [.int (k : Nat)] h) h (bD (2 ^ k) (2 ^ k) bb) := by
  change Wp (ZaE 2 (Ze7 ZaX ZaW) [.int (k : Nat)] h) _
  rw [Zas]
  have hw := ZkT hk
  obtain ⟨S, hS⟩ : ∃ S, 2 ^ k = S := ⟨_, rfl⟩
  rw [hS] at hw ⊢
  simp
  refine (Zgv (by omega) (by omega)).wp fun h1 s1 => ?_
  rw [Zl4 hk hS]
  simp
  refine Pu.wp (Zf4 (src := []) (xs := List.range S) (φ := fun j => .int ((j : Nat) : Int)) (fun r : Nat => Zbv S (bb r)) (fun r => [some (.int ((r : Nat) : Int)), some (.int (S : Nat))]) ?_ (fun x _ => rfl) (fun x hx h' s' => ?_) (sz hw.2)) fun h2 s2 => ?_
  · simp [It0]
    rw [ZcE (by omega)]
    simp [Sm.refl, Zbw]
  · simp [Pu]
    refine (Zf4 (src := []) (xs := List.range S) (φ := fun i => .int ((i : Nat) : Int)) (fun c : Nat => lit (bb x c)) (fun c => [some (.int ((c : Nat) : Int)), some (.int ((x : Nat) : Int))]) ?_ (fun x _ => rfl) (fun y hy h' s' => ?_) (sz hw.2))
    · simp [It0]
      rw [ZcE (by omega)]
      simp [Sm.refl, Zbw]
    · simp [Pu]
      refine p_common_bits.wp fun h3 s3 => ?_
      rw [ZiM (by decide)]
      rw [← ZpN]
      simp [s3]
  · exact ⟨rfl, s1.trans s2⟩
end LK
namespace LK
open PySem PySem.Spec PyProof.Rows L2 LS
theorem nsz {n : Nat} (hn : n ≤ 1000) : n ≤ sizeLine := by unfold sizeLine; omega
section
variable {H W : Nat} {h : HD} {f : Nat → Nat → Bool} {r r' : Nat → Bool}
theorem ZkU {c : Nat} (hc : c < W) : ixD (Zbv W r) (.int (c : Nat)) h = .ok (lit (r c)) h := ZjV hc
theorem Zmy {a b : Bool} : neX (lit a) (lit b) h = .ok (.bl (a != b)) h := by cases a <;> cases b <;> simp [lit]
theorem Zgw (hw : W ≤ 8) : Pu (ZaP [Zbv W r, Zbv W r'] h) h (.int (cnt W fun c => r c != r' c : Nat)) := by
  change Wp (ZaE 2 ZcW [Zbv W r, Zbv W r'] h) _
  first | refine Eq.mpr (Zas) ?_ | rw [Zas]
  simp
  refine ZdT (src := []) (xs := List.range W) (φ := fun j => .tup [.int ((j : Nat) : Int), lit (r j)]) (fun j => r j != r' j) (fun j => .int ((j : Nat) : Int)) (fun j => [some (.int ((j : Nat) : Int)), some (lit (r j)), some (Zbv W r')]) ?_ (sz hw) (fun x _ => rfl) (fun x hx h' s' => ?_) (fun x hx _ h' s' => ?_) fun l h' s' e' => ?_
  · simp [Zbv, Zey, Sm.refl, Zbw]
  · simp [Pu, ZkU (show x < W by simpa using hx), Zmy, Sm.refl]
  · simp [Pu, Sm.refl]
  · rw [Zf6 e', List.length_map, ZkE]
    exact ⟨rfl, s'⟩
theorem ZnT : ((List.range H).flatMap fun i => (List.range (H - (i + 1))).map fun k => hf W f i (i + 1 + k)).all id = hv H W f := by
  rw [Bool.eq_iff_iff, hv_iff, List.all_eq_true]
  constructor
  · intro z i hi j hj
    rw [Zgs]
    refine z _ (List.mem_flatMap.mpr ⟨j, List.mem_range.mpr (by omega), List.mem_map.mpr ⟨i - (j + 1), List.mem_range.mpr (by omega), ?_⟩⟩)
    rw [show j + 1 + (i - (j + 1)) = i by omega]
    rfl
  · intro z x hx
    obtain ⟨i, hi, hx⟩ := List.mem_flatMap.mp hx
    obtain ⟨k, hk, rfl⟩ := List.mem_map.mp hx
    have := List.mem_range.mp hi
    have := List.mem_range.mp hk
    show hf W f i (i + 1 + k) = true
    rw [Zgs]
    exact z (i + 1 + k) (by omega) i (by omega)
theorem Zmz {α : Type} {F : Nat → List α} : ∀ {n : Nat}, (∀ i < n, (F i).length ≤ 8) → ((List.range n).flatMap F).length ≤ n * 8
  | 0, _ => by simp
  | n + 1, hF => by
    rw [List.range_succ, List.flatMap_append, List.length_append]
    have := Zmz (n := n) fun i hi => hF i (by omega)
    have := hF n (by omega)
    rw [List.flatMap_cons, List.flatMap_nil, List.append_nil]
    omega
theorem Zdu (hh : 1 ≤ H ∧ H ≤ 8) (hw : 1 ≤ W ∧ W ≤ 8) : Pu (ZaD [bD H W f] h) h (.bl (hv H W f)) := by
  change Wp (ZaE 1 (Zc2 Zaj ZaP) [bD H W f] h) _
  first | refine Eq.mpr (Zas) ?_ | rw [Zas]
  simp
  refine (ZcB hh hw).wp fun h1 s1 => ?_
  refine Pu.wp (ZnD (src := []) (xs := List.range H) (φ := fun i => .tup [.int ((i : Nat) : Int), Zbv W (f i)]) (fun i => (List.range (H - (i + 1))).map fun k => hf W f i (i + 1 + k)) (fun i => [some (.int ((i : Nat) : Int)), some (Zbv W (f i)), none, some (bD H W f)]) ?_ (fun x _ => rfl) (fun x hx h' acc s' z => ?_) ?_) fun h2 s2 => ?_
  · simp [It0, bD, Zey, Sm.refl, Zbw]
  · have hx' : x < H := by simpa using hx
    rw [List.map_map]
    refine ZdV (src := []) (xs := List.range (H - (x + 1))) (φ := fun k => Zbv W (f (x + 1 + k))) (fun k => .bl (hf W f x (x + 1 + k))) (fun k => [some (.int ((x : Nat) : Int)), some (Zbv W (f x)), some (Zbv W (f (x + 1 + k))), some (bD H W f)]) ?_ (fun y _ => rfl) (fun y hy h2 s2 => ?_) (by simpa using z)
    · simp [It0]
      refine wpe (Ze3 (k := x) (by simp) (by simpa using hx')) ?_
      simp only [ZbZ]
      rw [Zl0]
      simp [Sm.refl, Zbw]
    · simp [Pu]
      refine (Zgw hw.2).wp fun h3 s3 => ?_
      rw [Zno, ZgO (by decide) (by decide)]
      simp [ZdK]
      refine ⟨?_, s3⟩
      unfold hf
      rw [Bool.eq_iff_iff]
      simp
      omega
  · refine Nat.le_trans (Zmz fun i hi => by simp; omega) (nsz (by omega))
  · rw [ZnT]
    exact ⟨rfl, s1.trans s2⟩
def LhI (H W : Nat) (f : Nat → Nat → Bool) (h : HD) (xs : List Nat) (ρ : Rho) (h' : HD) : Prop := ∃ a b, ρ = [some (bD H W f), a, b] ∧ Sm h h' ∧ (∀ i ∈ xs, i < H) ∧ ∀ i < H, i ∉ xs → ∀ j < i, hf W f i j = true
def LjI (H W : Nat) (f : Nat → Nat → Bool) (h : HD) (i : Nat) (xs : List Nat) (ρ : Rho) (h' : HD) : Prop := ∃ b, ρ = [some (bD H W f), some (.int (i : Nat)), b] ∧ Sm h h' ∧ (∀ j ∈ xs, j < i) ∧ ∀ j < i, j ∉ xs → hf W f i j = true
theorem Zfj (hh : 1 ≤ H ∧ H ≤ 8) (hw : 1 ≤ W ∧ W ≤ 8) : Pu (ZaC [bD H W f] h) h (.bl (hv H W f)) := by
  change Wp (ZaE 3 Zch [bD H W f] h) _
  first | refine Eq.mpr (Zas) ?_ | rw [Zas]
  rw [ZbU]
  refine ZeX (src := []) (xs := List.range H) (fun i => .int ((i : Nat) : Int)) (LhI H W f h) ?_ (fun ys ρ h' _ => Zlm) ?_ ?_
  · simp [ZfR, ZcE (show H ≤ 1000 by omega)]
    exact ⟨_, _, rfl, .refl _, fun i hi => List.mem_range.mp hi, fun i hi hn => absurd (List.mem_range.mpr hi) hn⟩
  · rintro i xs ρ h1 ⟨a, b, rfl, s1, hx, hd⟩
    refine ⟨_, rfl, ?_⟩
    have hi := hx i List.mem_cons_self
    refine ZeX (src := []) (xs := List.range i) (fun i => .int ((i : Nat) : Int)) (LjI H W f h i) ?_ (fun ys ρ h' _ => Zlm) ?_ ?_
    · simp [ZcE (show i ≤ 1000 by omega)]
      exact ⟨_, rfl, s1, fun j hj => List.mem_range.mp hj, fun j hj hn => absurd (List.mem_range.mpr hj) hn⟩
    · rintro j ys ρ h2 ⟨b, rfl, s2, hy, he⟩
      refine ⟨_, rfl, ?_⟩
      have hj := hy j List.mem_cons_self
      simp
      refine ZdT (src := []) (xs := List.range W) (φ := fun c => .tup [lit (f i c), lit (f j c)]) (fun c => f i c != f j c) (fun _ => .int 1) (fun c => [some (lit (f i c)), some (lit (f j c))]) ?_ (sz hw.2) (fun x _ => rfl) (fun x hx h' s' => ?_) (fun x hx _ h' s' => ?_) fun l h3 s3 e3 => ?_
      · simp [ZkL hi, ZkL (show j < H by omega)]
        refine wpe (Zpe (n := W) (e := fun c => lit (f i c)) (e' := fun c => lit (f j c)) rfl rfl) ?_
        simp [Sm.refl, Zbw]
      · simp [Pu, Zmy, Sm.refl]
      · simp [Pu, Sm.refl]
      · rw [Zf6 e3, List.length_map, ZkE]
        simp
        rw [ZgO (by decide) (by decide)]
        simp [Zhf hh.1, ZdK]
        by_cases hg : hf W f i j = true
        · have hg2 := hg
          unfold hf at hg2
          rw [decide_eq_true_eq] at hg2
          have e : (2 : Int) * ((cnt W fun c => f i c != f j c : Nat) : Int) = (W : Int) := by omega
          simp [e, Zdp]
          exact ⟨_, rfl, s2.trans s3, fun k hk => hy k (List.mem_cons_of_mem _ hk), fun k hk hn => by
            by_cases z : k = j
            · subst z; exact hg
            · exact he k hk (by simp [z, hn])⟩
        · have hg2 := hg
          unfold hf at hg2
          rw [decide_eq_true_eq] at hg2
          have e : ¬ (2 : Int) * ((cnt W fun c => f i c != f j c : Nat) : Int) = (W : Int) := by omega
          have hF : hv H W f = false := by
            rw [← Bool.not_eq_true, hv_iff]
            exact fun z => hg (z i hi j hj)
          simp [e, Zdp, hF]
          exact s2.trans s3
    · rintro ρ h2 ⟨b, rfl, s2, _, he⟩
      simp [Zdp]
      exact ⟨_, _, rfl, s2, fun k hk => hx k (List.mem_cons_of_mem _ hk), fun k hk hn j hj => by
        by_cases z : k = i
        · subst z; exact he j hj (by simp)
        · exact hd k hk (by simp [z, hn]) j hj⟩
  · rintro ρ h1 ⟨a, b, rfl, s1, _, hd⟩
    have hT : hv H W f = true := hv_iff.mpr fun i hi j hj => hd i hi (by simp) j hj
    simp [hT, s1]
theorem ZnU {a b : Bool} : ZbD (lit a) (lit b) h = .ok (.int ((if a then 1 else 0) + (if b then 1 else 0))) h := by cases a <;> cases b <;> rfl
theorem ZnV {x y x0 y0 : D} {a b c d M : Int} {z : Option D} {Q : Fl × Rho → HD → Prop} (la : ∀ h, Zcl x h = .ok (.int a) h) (lb : ∀ h, Zcl y h = .ok (.int b) h) (ix : ∀ h, ixD x (.int 0) h = .ok x0 h) (iy : ∀ h, ixD y (.int 0) h = .ok y0 h) (lc : ∀ h, Zcl x0 h = .ok (.int c) h) (ld : ∀ h, Zcl y0 h = .ok (.int d) h)
    (ha : 0 ≤ a ∧ a < 100) (hc : 0 ≤ c ∧ c < 100) (eM : (if a * b < c * d then c * d else a * b) = M) (q : Q (.nx, [some x, some y, some (.int M)]) h) :
    Wp (ZbG 2 (Zaf (ar2 Zmg) (Zab (mOp ZdM (Zaf (ar1 Zcl) (Zab (Zag 0) (Zal))) (Zaf (ar1 Zcl) (Zab (Zag 1) (Zal)))) (Zab (mOp ZdM (Zaf (ar1 Zcl) (Zab (mOp ixD (Zag 0) (mC (.int 0))) (Zal))) (Zaf (ar1 Zcl) (Zab (mOp ixD (Zag 1) (mC (.int 0))) (Zal)))) (Zal)))) [some x, some y, z] h) Q := by
  simp [la, lb, ix, iy, lc, ld]
  rw [ZgO (by omega) (by omega)]
  simp [la, lb, ix, iy, lc, ld]
  rw [ZgO (by omega) (by omega)]
  simp
  rw [eM]
  exact q
theorem ZnW {a b : Bool} : ((if a = true then (1 : Int) else 0) + (if b = true then 1 else 0)) % 2 = if Bool.xor a b = true then 1 else 0 := by cases a <;> cases b <;> rfl
@[irreducible] noncomputable def spR : MS := ZaR (ZdC (mTb (mOp gtD (Zag 2) (mC (.int 8)))) (ZgJ) (ZbY)) (Zce (Zaf (ar1 Zbg) (Zab (ZcN [none, none, some 1] (Zco (Zag 0)) (Zbq 0) (ZbB) (Ze4 (Zco (Zag 2)) (Zbq 1) (ZbB) (Zeh (Zaf (ar1 Zbg) (Zab (ZcN [none, none, some 1] (Zco (Zag 0)) (Zbq 0) (ZbB) (Ze4 (Zco (Zag 2)) (Zbq 1) (ZbB) (Zeh (mOp ZjH (mOp ZbD (Zag 0) (Zag 1)) (mC (.int 2)))))) (Zal)))))) (Zal))))
@[irreducible] noncomputable def spT : MS := ZaR (ZbG 2 (Zaf (ar2 Zmg) (Zab (mOp ZdM (Zaf (ar1 Zcl) (Zab (Zag 0) (Zal))) (Zaf (ar1 Zcl) (Zab (Zag 1) (Zal)))) (Zab (mOp ZdM (Zaf (ar1 Zcl) (Zab (mOp ixD (Zag 0) (mC (.int 0))) (Zal))) (Zaf (ar1 Zcl) (Zab (mOp ixD (Zag 1) (mC (.int 0))) (Zal)))) (Zal))))) spR
section
variable {H' W' : Nat} {g : Nat → Nat → Bool} (hh : 1 ≤ H ∧ H ≤ 8) (hw : 1 ≤ W ∧ W ≤ 8) (hh' : 1 ≤ H' ∧ H' ≤ 8) (hw' : 1 ≤ W' ∧ W' ≤ 8) (zh : H * H' ≤ 8) (zw : W * W' ≤ 8)
include hh hw hh' hw' zh zw
theorem Zr9 {M : Int} {Q : Fl × Rho → HD → Prop} (hM : M ≤ 8) (q : ∀ ρ h', Sm h h' → Q (.rt (bD (H * H') (W * W') (sp H' W' f g)), ρ) h') : Wp (spR [some (bD H W f), some (bD H' W' g), some (.int M)] h) Q := by
  unfold spR
  have : ¬ M > 8 := by omega
  simp [this, -Zai]
  refine Eq.mpr Zai ?_
  simp
  refine Pu.wp (Zkt (src := []) (xs := List.range H) (φ := fun i => Zbv W (f i)) (fun i => (List.range H').map fun i' => Zbv (W * W') fun c => Bool.xor (f i (c / W')) (g i' (c % W'))) (fun i => [some (Zbv W (f i)), none, some (bD H' W' g)]) ?_ (fun x _ => rfl) (fun x hx h3 acc s3 z => ?_) ?_) fun h4 s4 => ?_
  · simp [It0, bD, Sm.refl, Zbw]
  · refine ZdV (src := []) (xs := List.range H') (φ := fun i' => Zbv W' (g i')) _ (fun i' => [some (Zbv W (f x)), some (Zbv W' (g i')), some (bD H' W' g)]) ?_ (fun y _ => rfl) (fun y hy h5 s5 => ?_) z
    · simp [It0, bD, Sm.refl, Zbw]
    · simp [Pu]
      refine Pu.wp (Zkt (src := []) (xs := List.range W) (φ := fun c => lit (f x c)) (fun c => (List.range W').map fun c' => lit (Bool.xor (f x c) (g y c'))) (fun c => [some (lit (f x c)), none, some (Zbv W' (g y))]) ?_ (fun x _ => rfl) (fun u hu h6 acc s6 z => ?_) ?_) fun h7 s7 => ?_
      · simp [It0, Zbv, Sm.refl, Zbw]
      · refine ZdV (src := []) (xs := List.range W') (φ := fun c' => lit (g y c')) _ (fun c' => [some (lit (f x u)), some (lit (g y c')), some (Zbv W' (g y))]) ?_ (fun y _ => rfl) (fun v hv h8 s8 => ?_) z
        · simp [It0, Zbv, Sm.refl, Zbw]
        · simp [Pu, ZnU]
          rw [ZiM (by decide), ZnW]
          simp [lit, Sm.refl]
      · rw [Zdg]
        exact nsz (by simp; omega)
      · rw [Zdg (F := fun c c' => lit (Bool.xor (f x c) (g y c')))]
        exact ⟨rfl, s7⟩
  · rw [Zdg]
    exact nsz (by simp; omega)
  · rw [Zdg (F := fun i i' => Zbv (W * W') fun c => Bool.xor (f i (c / W')) (g i' (c % W')))]
    exact q _ _ s4
omit hh hw hh' hw' zh zw in
theorem Zsa {x y x0 y0 : D} {a b c d M : Int} {z : Option D} {Q : Fl × Rho → HD → Prop} (la : ∀ h, Zcl x h = .ok (.int a) h) (lb : ∀ h, Zcl y h = .ok (.int b) h) (ix : ∀ h, ixD x (.int 0) h = .ok x0 h) (iy : ∀ h, ixD y (.int 0) h = .ok y0 h) (lc : ∀ h, Zcl x0 h = .ok (.int c) h) (ld : ∀ h, Zcl y0 h = .ok (.int d) h)
    (ha : 0 ≤ a ∧ a < 100) (hc : 0 ≤ c ∧ c < 100) (eM : (if a * b < c * d then c * d else a * b) = M) (q : Wp (spR [some x, some y, some (.int M)] h) Q) : Wp (spT [some x, some y, z] h) Q := by
  unfold spT
  rw [ZbU]
  refine ZnV la lb ix iy lc ld ha hc eM ?_
  rw [Zai]
  exact q
omit hh hw hh' hw' zh zw in
theorem ZmA {a b : MS} {ρ ρ1 : Rho} {Q : Fl × Rho → HD → Prop} (P : HD → Prop) (ha : Wp (a ρ h) fun y h1 => y = (.nx, ρ1) ∧ P h1) (hb : ∀ h1, P h1 → Wp (b ρ1 h1) Q) : Wp (ZaR a b ρ h) Q := by
  rw [ZbU]
  refine Wp.mono ha fun y h1 z => ?_
  obtain ⟨rfl, p⟩ := z
  rw [Zai]
  exact hb h1 p
omit hh hw hh' hw' zh zw in
theorem ZpO : Zc1 Zaj = ZaR (Zc8 (Zaf Zaj (Zab (Zag 0) (Zal)))) (ZaR (Zc8 (Zaf Zaj (Zab (Zag 1) (Zal)))) spT) := by unfold spT spR; rfl
theorem Zsb {Q : Fl × Rho → HD → Prop} (q : ∀ ρ h', Sm h h' → Q (.rt (bD (H * H') (W * W') (sp H' W' f g)), ρ) h') : Wp (ZaR (Zc8 (Zaf Zaj (Zab (Zag 0) (Zal)))) (ZaR (Zc8 (Zaf Zaj (Zab (Zag 1) (Zal)))) spT) [some (bD H W f), some (bD H' W' g), none] h) Q := by
  obtain ⟨M, eM, hM⟩ : ∃ M : Int, (if (H : Int) * (H' : Int) < (W : Int) * (W' : Int) then (W : Int) * (W' : Int) else (H : Int) * (H' : Int)) = M ∧ M ≤ 8 := ⟨_, rfl, by
    have z1 : (H : Int) * (H' : Int) ≤ 8 := by exact_mod_cast zh
    have z2 : (W : Int) * (W' : Int) ≤ 8 := by exact_mod_cast zw
    split <;> assumption⟩
  refine ZmA (ρ1 := [some (bD H W f), some (bD H' W' g), none]) (Sm h) ?_ fun h1 s1 => ZmA (ρ1 := [some (bD H W f), some (bD H' W' g), none]) (Sm h) ?_ fun h2 s2 => Zsa (fun _ => ZfR) (fun _ => ZfR) (fun _ => Zhf hh.1) (fun _ => Zhf hh'.1) (fun _ => ZdK) (fun _ => ZdK) (by omega) (by omega) eM (Zr9 hh hw hh' hw' zh zw hM fun ρ h' s' => q ρ h' (s2.trans s'))
  · simp
    exact (ZcB hh hw).wp fun h1 s1 => s1
  · simp
    exact (ZcB hh' hw').wp fun h2 s2 => s1.trans s2
theorem Zfk : Pu (ZaV [bD H W f, bD H' W' g] h) h (bD (H * H') (W * W') (sp H' W' f g)) := by
  change Wp (ZaE 3 (Zc1 Zaj) [bD H W f, bD H' W' g] h) _
  rw [ZpO]
  refine Eq.mpr (Zas) ?_
  exact Zsb hh hw hh' hw' zh zw fun ρ h' s' => ⟨rfl, s'⟩
end
end
end LK
namespace LK
open PySem PySem.Spec PyProof.Rows L2 LS
theorem Sm.put {h h' : HD} {l : Nat} {c : Zh2} (s : Sm h h') (hl : h.length ≤ l) : Sm h (h'.set l c) := fun k d ek => by
  have := (List.getElem?_eq_some_iff.mp ek).1
  rw [List.getElem?_set_ne (by omega)]
  exact s k d ek
def Zud (f : Nat → Nat → Bool) (p q : Nat → Bool) : Nat → Nat → Bool := fun i j => Bool.xor (f i j) (Bool.xor (p i) (q j))
inductive SwO (H W : Nat) (f : Nat → Nat → Bool) (p q : Nat → Bool) (h : HD) (l : Nat) (xs : List Nat) (ρ : Rho) (h' : HD) : Prop where
  | mk (k : Nat) (d4 d5 d6 d7 d8 : Option D) (f0 : xs = (List.range H).drop k) (f1 : k ≤ H) (f2 : ρ = [some (bD H W f), some (Zhh H p), some (Zhh W q), some (.loc l), d4, d5, d6, d7, d8]) (f3 : Sm h h') (f4 : h'[l]? = some (.lst ((List.range k).map fun i => Zbv W (Zud f p q i)))) : SwO H W f p q h l xs ρ h'
def ZkV (c : Str) : List V := [.bl (Zbr c "NoBoard"), .bl (Zbr c "NoLine"), .bl (Zbr c "NoSwitching"), .bl (Zbr c "NoNumber"), .bl (Zbr c "Unlike"), .bl (Zbr c "NoNet"), .bl (Zbr c "NoPlace"), .bl (Zbr c "NoText"), .bl (Zbr c "NoRow"), .bl (Zbr c "TooMany")]
def ZpP : List D := [.str "board", .str "line", .str "switching", .str "number", .str "unlike", .str "net", .str "place", .str "text", .str "row"]
theorem ZnX {c w t : Str} {j : Nat} {h : HD} (hc : c ∈ excNames) (hn : ZfJ (.bl true) (ZkV c) = 1) (h9 : Zbr c "TooMany" = false) (hj : Zqm (.bl true) (ZkV c) = some j) (hw : ZpP[j]? = some (.str w)) (hz : ((("! " : String) : Str)).length + w.length ≤ 1000) (ht : ((("! " : String) : Str)) ++ w = t) : Pu (ZaT [.exc c []] h) h (.str t) := by
  have i0 : ∀ h, Zbd (.exc c []) (.glo "NoBoard") h = .ok (.bl (Zbr c "NoBoard")) h := fun h => ZbF hc (by decide +kernel)
  have i1 : ∀ h, Zbd (.exc c []) (.glo "NoLine") h = .ok (.bl (Zbr c "NoLine")) h := fun h => ZbF hc (by decide +kernel)
  have i2 : ∀ h, Zbd (.exc c []) (.glo "NoSwitching") h = .ok (.bl (Zbr c "NoSwitching")) h := fun h => ZbF hc (by decide +kernel)
  have i3 : ∀ h, Zbd (.exc c []) (.glo "NoNumber") h = .ok (.bl (Zbr c "NoNumber")) h := fun h => ZbF hc (by decide +kernel)
  have i4 : ∀ h, Zbd (.exc c []) (.glo "Unlike") h = .ok (.bl (Zbr c "Unlike")) h := fun h => ZbF hc (by decide +kernel)
  have i5 : ∀ h, Zbd (.exc c []) (.glo "NoNet") h = .ok (.bl (Zbr c "NoNet")) h := fun h => ZbF hc (by decide +kernel)
  have i6 : ∀ h, Zbd (.exc c []) (.glo "NoPlace") h = .ok (.bl (Zbr c "NoPlace")) h := fun h => ZbF hc (by decide +kernel)
  have i7 : ∀ h, Zbd (.exc c []) (.glo "NoText") h = .ok (.bl (Zbr c "NoText")) h := fun h => ZbF hc (by decide +kernel)
  have i8 : ∀ h, Zbd (.exc c []) (.glo "NoRow") h = .ok (.bl (Zbr c "NoRow")) h := fun h => ZbF hc (by decide +kernel)
  have i9 : ∀ h, Zbd (.exc c []) (.glo "TooMany") h = .ok (.bl (Zbr c "TooMany")) h := fun h => ZbF hc (by decide +kernel)
  have iv : ∀ h, Zbd (.exc c []) (.ty "ValueError") h = .ok (.bl true) h := fun h => ZlK hc
  change Wp (ZaE 3 Zdt [.exc c []] h) _
  refine Eq.mpr Zas ?_
  simp [-Zai, i0, i1, i2, i3]
  refine ZaS (by simp) fun l1 h1 s1 e1 _ _ => ?_
  refine Eq.mpr Zai ?_
  simp [-Zai, i4, i5, i6, i7]
  refine ZaS (by simp) fun l2 h2 s2 e2 _ _ => ?_
  refine wpe (ZfO (s2 _ _ e1) e2) ?_
  refine ZaS (by simp) fun l3 h3 s3 e3 _ _ => ?_
  refine Eq.mpr Zai ?_
  simp [-Zai, i8, i9]
  refine ZaS (by simp) fun l4 h4 s4 e4 _ _ => ?_
  refine wpe (ZfO (s4 _ _ e3) e4) ?_
  refine ZaS (by simp) fun l5 h5 s5 e5 _ _ => ?_
  refine Eq.mpr Zai ?_
  simp [-Zai, iv, ZeY e5]
  refine wpe ((Zkj (vs := ZkV c) e5 rfl rfl).trans (by rw [hn])) ?_
  simp [-Zai]
  refine Eq.mpr Zai ?_
  simp [-Zai]
  rw [show (9 : Int) = ((9 : Nat) : Int) from rfl]
  refine wpe (ZdF e5 (k := 9) rfl) ?_
  simp [-Zai, h9]
  refine Eq.mpr Zai ?_
  simp [-Zai]
  refine ZaS (by simp) fun l6 h6 s6 e6 _ _ => ?_
  refine Eq.mpr Zai ?_
  simp [ZeY (s6 _ _ e5)]
  refine wpe (Zkk (s6 _ _ e5) rfl rfl hj) ?_
  simp only [ZbZ]
  refine wpe (ZdF e6 hw) ?_
  simp only [ZbZ]
  refine wpe (Zpt hz) ?_
  exact ⟨congrArg D.str ht, ((((s1.trans s2).trans s3).trans s4).trans s5).trans s6⟩
theorem p_kind_board {h : HD} : Pu (ZaT [.exc "NoBoard" []] h) h (.str "! board") := ZnX (w := "board") (j := 0) (by decide +kernel) (by decide +kernel) (by decide +kernel) (by decide +kernel) rfl (by decide +kernel) (by decide +kernel)
theorem Zje {cs : List Nat} {f : ME} {ρ : Rho} {h : HD} {ds : List D} {Q : D → HD → Prop} (ht : TabAt h) (hd : Zay (cs.map fun j => (ρ[j]?).join) = some ds) (he : Er (f (ds.map some) h) h "NoBoard")
    (q : ∀ h', Sm h h' → Q (.str "! board") h') : Wp (ZgR cs ZaT f ρ h) Q :=
  Znn ht hd (he.we fun h' s => ⟨by decide +kernel, p_kind_board.wp fun h2 s2 => q h2 (s.trans s2)⟩)
end LK
namespace LK
open PySem PySem.Spec PyProof.Rows L2 LS
@[irreducible] noncomputable def gs0 : MS := ZbG 2 (Zaf Zbi (Zab (Zag 0) (Zab (Zag 1) (Zal))))
@[irreducible] noncomputable def gs1 : MS := ZbG 3 (mOp ZbD (mC (.int 1)) (Zaf Zae (Zab (Zag 2) (Zab (mC (.int 3)) (Zal)))))
@[irreducible] noncomputable def gs2 : MS := ZbG 4 (Zaf Zbj (Zab (Zag 3) (Zal)))
@[irreducible] noncomputable def gs3 : MS := ZbG 5 (Zaf Za2 (Zab (Zag 4) (Zab (Zdm (Zab (Zaf ZaU (Zab (Zag 2) (Zab (mOp Zh8 (mC (.int 1)) (Zag 3)) (Zal)))) (Zab (Zaf ZaU (Zab (Zag 2) (Zab (mOp Zh8 (mC (.int 1)) (Zag 3)) (Zal)))) (Zal)))) (Zal))))
@[irreducible] noncomputable def gs4 : MS := ZbG 6 (Zaf Za2 (Zab (Zaf Zbj (Zab (mOp Zli (mC (.int 3)) (Zag 3)) (Zal))) (Zab (Zdm (Zab (Zaf ZaU (Zab (Zag 2) (Zab (mOp Zh8 (mC (.int 1)) (mOp Zli (mC (.int 3)) (Zag 3))) (Zal)))) (Zab (Zdm (Zal)) (Zal)))) (Zal))))
@[irreducible] noncomputable def gs5 : MS := ZbG 7 (Zaf ZaV (Zab (Zag 5) (Zab (Zag 6) (Zal))))
@[irreducible] noncomputable def gs6 : MS := Zf1 (Zco (Zee (Zab (Zag 4) (Zab (Zag 5) (Zab (Zag 6) (Zab (Zag 7) (Zab (Zaf ZaV (Zab (Zag 6) (Zab (Zag 5) (Zal)))) (Zal)))))))) (Zbq 8) (ZdC (mTb (mOp ZeJ (Zaf ZaD (Zab (Zag 8) (Zal))) (mC (.bl true)))) (Zce (mC (.bl false))) (ZbY))
@[irreducible] noncomputable def gs7 : MS := Zn4 9 10 (Zab (Zaf Zae (Zab (Zag 2) (Zab (mOp Zh8 (mC (.int 1)) (Zag 3)) (Zal)))) (Zab (Zaf Zae (Zab (Zag 2) (Zab (mOp Zh8 (mC (.int 1)) (Zag 3)) (Zal)))) (Zal)))
@[irreducible] noncomputable def gs8 : MS := ZbG 11 (mOp ZbD (mOp ZbD (Za4 (mOp ixD (Zag 5) (Zag 9)) (Za9) (Zcs (Zag 10))) (Zdm (Zab (mOp Zli (mC (.int 1)) (mOp ixD (mOp ixD (Zag 5) (Zag 9)) (Zag 10))) (Zal)))) (Za4 (mOp ixD (Zag 5) (Zag 9)) (Zcs (mOp ZbD (Zag 10) (mC (.int 1)))) (Za9)))
@[irreducible] noncomputable def gs9 : MS := ZdC (mTb (mOp ZeJ (Zaf ZaD (Zab (mOp ZbD (mOp ZbD (Za4 (Zag 5) (Za9) (Zcs (Zag 9))) (Zdm (Zab (Zag 11) (Zal)))) (Za4 (Zag 5) (Zcs (mOp ZbD (Zag 9) (mC (.int 1)))) (Za9))) (Zal))) (mC (.bl false)))) (Zce (mC (.bl false))) (ZbY)
@[irreducible] noncomputable def ZpQ : MS := ZbG 12 (Zaf ZaJ (Zab (Zag 2) (Zab (mOp ZbD (mC (.int 1)) (Zaf Zae (Zab (Zag 2) (Zab (mC (.int 3)) (Zal))))) (Zab (mOp ZdM (mC (.int 2)) (mOp ZbD (mC (.int 1)) (Zaf Zae (Zab (Zag 2) (Zab (mC (.int 4)) (Zal)))))) (Zal)))))
@[irreducible] noncomputable def ZpR : MS := Zf1 (Zco (Zee (Zab (Zag 12) (Zab (Zaf ZaJ (Zab (Zag 2) (Zab (mOp ZbD (mC (.int 1)) (Zaf Zae (Zab (Zag 2) (Zab (mC (.int 8)) (Zal))))) (Zab (mOp ZbD (mC (.int 1)) (Zaf Zae (Zab (Zag 2) (Zab (mC (.int 8)) (Zal))))) (Zal))))) (Zab (Za4 (Zag 7) (Za9) (Zcs (mC (.int 3)))) (Zab (Za4 (Zag 12) (Za9) (Zcs (mC (.int 1)))) (Zal))))))) (Zbq 8) (ZdC (mTb (mOp neX (Zaf (ar1 ZgT) (Zab (Zaf ZaD (Zab (Zag 8) (Zal))) (Zal))) (Zaf (ar1 ZgT) (Zab (Zaf ZaC (Zab (Zag 8) (Zal))) (Zal))))) (Zce (mC (.bl false))) (ZbY))
@[irreducible] noncomputable def ZpS : MS := ZbG 13 (Zaf ZaF (Zab (Zag 2) (Zab (Zag 4) (Zal))))
@[irreducible] noncomputable def ZpT : MS := ZdC (mTb (mOp neX (ZgR [13] ZaT (Zaf ZaD (Zab (Zag 0) (Zal)))) (mC (.str "! board")))) (Zce (mC (.bl false))) (ZbY)
theorem ZkW {it : MI} {sg : MG} {body : MS} {Q : Fl × Rho → HD → Prop} {ρ : Rho} {h : HD} (I : List D → Rho → HD → Prop) (hi : Wp (it ρ h) fun x h' => ∃ l ds, x = (ds, [(l, ds)]) ∧ h'[l]? = some (.lst ds) ∧ I ds ρ h')
    (step : ∀ d ds ρ h, I (d :: ds) ρ h → ∃ ρ1, sg d ρ = some ρ1 ∧ Wp (body ρ1 h) (fun y h' => Sm h h' ∧ Zdp (I ds) Q y h')) (done : ∀ ρ h, I [] ρ h → Q (.nx, ρ) h) : Wp (Zf1 it sg body ρ h) Q := by
  unfold Zf1
  rw [Zao]
  refine Wp.mono hi fun x h1 z => ?_
  obtain ⟨l, ds, rfl, el, i⟩ := z
  have := Zf3 (src := [(l, ds)]) (items := ds) (sg := sg) (body := body) (Q := Q) (fun d : D => d) (fun xs ρ h => h[l]? = some (.lst ds) ∧ I xs ρ h) (fun xs ρ h z => Zsn z.1) (fun d xs ρ h z => by
    obtain ⟨ρ1, e, w⟩ := step d xs ρ h z.2
    refine ⟨ρ1, e, Wp.mono w fun y h' zz => ?_⟩
    obtain ⟨s, kk⟩ := zz
    obtain ⟨fl, ρ2⟩ := y
    cases fl with
    | nx => exact ⟨s _ _ z.1, kk⟩
    | ct => exact ⟨s _ _ z.1, kk⟩
    | bk => exact kk
    | rt d => exact kk) (fun ρ h z => done ρ h z.2) ds ρ h1 ⟨el, i⟩
  rwa [List.map_id''] at this
  exact fun _ => rfl
def rho (ns : List Int) (k b n : Nat) (x4 x5 x6 x7 : D) (c8 c9 c10 c11 c12 c13 : Option D) : Rho := [some (.scr ns), some (.int (k : Nat)), some (.loc b), some (.int (n : Nat)), some x4, some x5, some x6, some x7, c8, c9, c10, c11, c12, c13]
section
variable {ns : List Int} {k b n : Nat} {h : HD} {x4 x5 x6 x7 : D} {c2 c3 c4 c5 c6 c7 c8 c9 c10 c11 c12 c13 : Option D} {Q : Fl × Rho → HD → Prop}
theorem st0 (hb : ∀ i ∈ ns, Builtin.Int.intBits i ≤ 2 ^ 20) (hk : k ≤ 1000) (ht : TabAt h) (q : ∀ b h', 0 < b → BoxAt h' b → TabAt h' → Q (.nx, [some (.scr ns), some (.int (k : Nat)), some (.loc b), c3, c4, c5, c6, c7, c8, c9, c10, c11, c12, c13]) h') : Wp (gs0 [some (.scr ns), some (.int (k : Nat)), c2, c3, c4, c5, c6, c7, c8, c9, c10, c11, c12, c13] h) Q := by
  unfold gs0
  simp
  refine ZpJ hb hk fun b h1 x1 lb s1 => q b h1 (by have := ht.pos; omega) x1 (ht.sm s1)
theorem st1 (hb : 0 < b) (bx : BoxAt h b) (ht : TabAt h) (q : ∀ n h', 1 ≤ n → n ≤ 3 → BoxAt h' b → TabAt h' → Q (.nx, [some (.scr ns), some (.int (k : Nat)), some (.loc b), some (.int (n : Nat)), c4, c5, c6, c7, c8, c9, c10, c11, c12, c13]) h') : Wp (gs1 [some (.scr ns), some (.int (k : Nat)), some (.loc b), c3, c4, c5, c6, c7, c8, c9, c10, c11, c12, c13] h) Q := by
  unfold gs1
  simp
  refine ZbV bx hb ht (by decide) (by decide) fun d h1 l1 x1 t1 s1 => ?_
  simp
  have := q (1 + d) h1 (by omega) (by omega) x1 t1
  rwa [show ((1 + d : Nat) : Int) = 1 + (d : Int) by omega] at this
theorem st2 {T : Nat} (hn : n ≤ 3) (hT : 2 ^ n = T) (q : ∀ h', Sm h h' → Q (.nx, [some (.scr ns), some (.int (k : Nat)), some (.loc b), some (.int (n : Nat)), some (bD T T bb), c5, c6, c7, c8, c9, c10, c11, c12, c13]) h') : Wp (gs2 [some (.scr ns), some (.int (k : Nat)), some (.loc b), some (.int (n : Nat)), c4, c5, c6, c7, c8, c9, c10, c11, c12, c13] h) Q := by
  unfold gs2
  simp
  refine (Zhi hn).wp fun h1 s1 => ?_
  rw [hT]
  exact q h1 s1
theorem st3 {T : Nat} (hn : n ≤ 3) (hT : 2 ^ n = T) (h8 : 1 ≤ T ∧ T ≤ 8) (hb : 0 < b) (bx : BoxAt h b) (ht : TabAt h) (q : ∀ p q h', BoxAt h' b → TabAt h' → Q (.nx, [some (.scr ns), some (.int (k : Nat)), some (.loc b), some (.int (n : Nat)), some (bD T T bb), some (bD T T (sw bb p q)), c6, c7, c8, c9, c10, c11, c12, c13]) h') : Wp (gs3 [some (.scr ns), some (.int (k : Nat)), some (.loc b), some (.int (n : Nat)), some (bD T T bb), c5, c6, c7, c8, c9, c10, c11, c12, c13] h) Q := by
  unfold gs3
  simp [Zl4 hn hT]
  refine ZkS bx h8.2 fun p h1 x1 s1 => ?_
  refine ZkS x1 h8.2 fun p' h2 x2 s2 => ?_
  refine (ZfS h8 h8 (p := p) (q := p')).wp fun h3 s3 => ?_
  exact q p p' h3 (x2.sm s3) (((ht.smx s1 hb).smx s2 hb).sm s3)
theorem ZnY {S : Nat} : D.tup [] = Zhh S fun _ => false := by unfold Zhh; simp
theorem st4 {S m : Nat} (hn : (3 : Int) - (n : Int) = (m : Nat)) (hm : m ≤ 3) (hS : 2 ^ m = S) (h8 : 1 ≤ S ∧ S ≤ 8) (hb : 0 < b) (bx : BoxAt h b) (ht : TabAt h) (q : ∀ p h', BoxAt h' b → TabAt h' → Q (.nx, [some (.scr ns), some (.int (k : Nat)), some (.loc b), some (.int (n : Nat)), some x4, some x5, some (bD S S (sw bb p fun _ => false)), c7, c8, c9, c10, c11, c12, c13]) h') : Wp (gs4 [some (.scr ns), some (.int (k : Nat)), some (.loc b), some (.int (n : Nat)), some x4, some x5, c6, c7, c8, c9, c10, c11, c12, c13] h) Q := by
  unfold gs4
  simp [hn]
  refine (Zhi hm).wp fun h1 s1 => ?_
  simp [hn, Zl4 hm hS, hS]
  refine ZkS (bx.sm s1) h8.2 fun p h2 x2 s2 => ?_
  rw [ZnY (S := S)]
  refine (ZfS h8 h8 (p := p) (q := fun _ => false)).wp fun h3 s3 => ?_
  exact q p h3 (x2.sm s3) (((ht.sm s1).smx s2 hb).sm s3)
def Bd (d : D) : Prop := ∃ H W f, d = bD H W f ∧ (1 ≤ H ∧ H ≤ 8) ∧ (1 ≤ W ∧ W ≤ 8)
def Hd (d : D) : Prop := ∃ H W f, d = bD H W f ∧ (1 ≤ H ∧ H ≤ 8) ∧ (1 ≤ W ∧ W ≤ 8) ∧ hv H W f = true
theorem st5 {T S : Nat} {f g : Nat → Nat → Bool} (hT : 1 ≤ T ∧ T ≤ 8) (hS : 1 ≤ S ∧ S ≤ 8) (hz : T * S = 8) (q : ∀ h', Sm h h' → Q (.nx, rho ns k b n x4 (bD T T f) (bD S S g) (bD 8 8 (sp S S f g)) c8 c9 c10 c11 c12 c13) h') : Wp (gs5 [some (.scr ns), some (.int (k : Nat)), some (.loc b), some (.int (n : Nat)), some x4, some (bD T T f), some (bD S S g), c7, c8, c9, c10, c11, c12, c13] h) Q := by
  unfold gs5
  simp
  refine (Zfk hT hT hS hS (by omega) (by omega)).wp fun h1 s1 => ?_
  rw [hz]
  exact q h1 s1
def L6 (ns : List Int) (k b n : Nat) (x4 x5 x6 x7 : D) (c9 c10 c11 c12 c13 : Option D) (P : D → Prop) (h : HD) (xs : List D) (ρ : Rho) (h' : HD) : Prop := ∃ c, ρ = rho ns k b n x4 x5 x6 x7 c c9 c10 c11 c12 c13 ∧ Sm h h' ∧ ∀ d ∈ xs, P d
theorem st6 {T S : Nat} {f g : Nat → Nat → Bool} (hT : 1 ≤ T ∧ T ≤ 8) (hS : 1 ≤ S ∧ S ≤ 8) (hz : T * S = 8) (h4 : Hd x4) (h5 : hv T T f = true) (h6 : hv S S g = true) (h7 : Hd x7) (h8 : hv 8 8 (sp T T g f) = true) (q : ∀ c8 h', Sm h h' → Q (.nx, rho ns k b n x4 (bD T T f) (bD S S g) x7 c8 c9 c10 c11 c12 c13) h') : Wp (gs6 (rho ns k b n x4 (bD T T f) (bD S S g) x7 c8 c9 c10 c11 c12 c13) h) Q := by
  unfold gs6
  have hz' : S * T = 8 := by rw [Nat.mul_comm]; exact hz
  refine ZkW (L6 ns k b n x4 (bD T T f) (bD S S g) x7 c9 c10 c11 c12 c13 Hd h) ?_ ?_ ?_
  · simp [rho]
    refine (Zfk hS hS hT hT (by omega) (by omega)).wp fun h1 s1 => ?_
    refine ZaS (by simp) fun l h2 s2 e2 _ _ => ?_
    rw [Zez e2]
    refine ⟨l, _, rfl, e2, c8, rfl, s1.trans s2, ?_⟩
    rw [hz']
    exact all_cons h4 <| all_cons ⟨_, _, _, rfl, hT, hT, h5⟩ <| all_cons ⟨_, _, _, rfl, hS, hS, h6⟩ <| all_cons h7 <| all_cons ⟨_, _, _, rfl, by decide, by decide, h8⟩ Zc3
  · rintro d xs ρ h1 ⟨c, rfl, s1, hd⟩
    refine ⟨_, rfl, ?_⟩
    obtain ⟨H, W, f', rfl, hh, hw, hv1⟩ := hd d List.mem_cons_self
    simp
    refine (Zdu hh hw).wp fun h2 s2 => ?_
    simp [hv1, Zdp]
    exact ⟨s2, _, rfl, s1.trans s2, fun d hd' => hd d (List.mem_cons_of_mem _ hd')⟩
  · rintro ρ h1 ⟨c, rfl, s1, hd⟩
    exact q _ _ s1
theorem st7 {T : Nat} (hn : n ≤ 3) (hT : 2 ^ n = T) (h8 : 1 ≤ T ∧ T ≤ 8) (hb : 0 < b) (bx : BoxAt h b) (ht : TabAt h) (q : ∀ (A P : Nat) h', A < T → P < T → BoxAt h' b → TabAt h' → Q (.nx, rho ns k b n x4 x5 x6 x7 c8 (some (.int (A : Nat))) (some (.int (P : Nat))) c11 c12 c13) h') : Wp (gs7 (rho ns k b n x4 x5 x6 x7 c8 c9 c10 c11 c12 c13) h) Q := by
  unfold gs7
  simp [rho, Zl4 hn hT]
  refine ZbV bx hb ht (by omega) (by omega) fun A h1 l1 x1 t1 s1 => ?_
  refine ZbV x1 hb t1 (by omega) (by omega) fun P h2 l2 x2 t2 s2 => ?_
  exact q A P h2 (by omega) (by omega) x2 t2
theorem ZnZ {a : Bool} : Zli (.int 1) (lit a) h = .ok (lit (!a)) h := by cases a <;> rfl
theorem st8 {T A P : Nat} {f : Nat → Nat → Bool} (hT : 1 ≤ T ∧ T ≤ 8) (hA : A < T) (hP : P < T) (q : Q (.nx, rho ns k b n x4 (bD T T f) x6 x7 c8 (some (.int (A : Nat))) (some (.int (P : Nat))) (some (Zbv T fun c => if c = P then !f A c else f A c)) c12 c13) h) : Wp (gs8 (rho ns k b n x4 (bD T T f) x6 x7 c8 (some (.int (A : Nat))) (some (.int (P : Nat))) c11 c12 c13) h) Q := by
  unfold gs8
  simp [rho, ZkL hA, ZkU hP, ZnZ]
  unfold Zbv
  refine wpe (Zeb (by simp; omega)) ?_
  rw [ZbZ]
  refine wpe (ZbX (by simp; omega)) ?_
  rw [ZbZ]
  refine wpe (Ze3 (k := P) (by simp) (by simpa using hP)) ?_
  rw [ZbZ]
  refine wpe (ZbX (by simp; omega)) ?_
  rw [ZbZ, ZkG hP]
  have e : ((List.range T).map fun i => if i = P then lit (!f A P) else lit (f A i)) = (List.range T).map fun j => lit (if j = P then !f A j else f A j) := List.map_congr_left fun i _ => by
    by_cases z : i = P
    · subst z; simp
    · simp [z]
  rw [e]
  exact q
theorem st9 {T A P : Nat} {f : Nat → Nat → Bool} (hT : 2 ≤ T ∧ T ≤ 8) (hA : A < T) (hP : P < T) (h5 : hv T T f = true) (q : ∀ h', Sm h h' → Q (.nx, rho ns k b n x4 (bD T T f) x6 x7 c8 (some (.int (A : Nat))) c10 (some (Zbv T fun c => if c = P then !f A c else f A c)) c12 c13) h') : Wp (gs9 (rho ns k b n x4 (bD T T f) x6 x7 c8 (some (.int (A : Nat))) c10 (some (Zbv T fun c => if c = P then !f A c else f A c)) c12 c13) h) Q := by
  unfold gs9
  have e : D.tup (((List.range T).map fun i => Zbv T (f i)).take A ++ [Zbv T fun c => if c = P then !f A c else f A c] ++ ((List.range T).map fun i => Zbv T (f i)).drop (A + 1)) = bD T T fun i c => if i = A then (if c = P then !f A c else f A c) else f i c := by
    rw [ZkG hA]
    unfold bD
    congr 1
    refine List.map_congr_left fun i _ => ?_
    by_cases z : i = A
    · simp [z]
    · simp [z]
  have ev : hv T T (fun i c => if i = A then (if c = P then !f A c else f A c) else f i c) = false := ZnK (A := A) (P := P) h5 hT.1 hA hP (fun i c z => by
    by_cases zi : i = A
    · subst zi
      rcases z with z | z
      · exact absurd rfl z
      · simp [z]
    · simp [zi]) (by simp)
  simp [rho]
  refine wpe (Zeb (k := A) (by simp; omega)) ?_
  rw [ZbZ]
  refine wpe (ZbX (by simp; omega)) ?_
  rw [ZbZ]
  refine wpe (Ze3 (k := A) (by simp) (by simpa using hA)) ?_
  rw [ZbZ]
  refine wpe (ZbX (by simp; omega)) ?_
  rw [ZbZ, e]
  refine (Zdu ⟨by omega, hT.2⟩ ⟨by omega, hT.2⟩).wp fun h2 s2 => ?_
  simp [ev]
  exact q h2 s2
theorem Zue (hb : 0 < b) (bx : BoxAt h b) (ht : TabAt h) (q : ∀ H W f h', (1 ≤ H ∧ H ≤ 8) → (1 ≤ W ∧ W ≤ 8) → BoxAt h' b → TabAt h' → Q (.nx, rho ns k b n x4 x5 x6 x7 c8 c9 c10 c11 (some (bD H W f)) c13) h') : Wp (ZpQ (rho ns k b n x4 x5 x6 x7 c8 c9 c10 c11 c12 c13) h) Q := by
  unfold ZpQ
  simp [rho]
  refine ZbV bx hb ht (by omega) (by omega) fun A h1 l1 x1 t1 s1 => ?_
  simp
  refine ZbV x1 hb t1 (by omega) (by omega) fun P h2 l2 x2 t2 s2 => ?_
  simp
  refine wpe (ZgO (by decide) (by decide)) ?_
  rw [ZbZ, show (1 : Int) + (A : Int) = ((1 + A : Nat) : Int) by omega, show (2 : Int) * (1 + (P : Int)) = ((2 * (1 + P) : Nat) : Int) by omega]
  refine Ziz x2 (by omega) (by omega) fun f h3 x3 s3 => ?_
  exact q _ _ f h3 (by omega) (by omega) x3 (t2.smx s3 hb)
theorem Zsc {b : Bool} : ∃ x : Str, ∀ h, ZgT (.bl b) h = .ok (.str x) h := by cases b <;> exact ⟨_, fun h => rfl⟩
def L11 (ns : List Int) (k b n : Nat) (x4 x5 x6 x7 : D) (c9 c10 c11 c12 c13 : Option D) (xs : List D) (ρ : Rho) (h' : HD) : Prop := ∃ c, ρ = rho ns k b n x4 x5 x6 x7 c c9 c10 c11 c12 c13 ∧ BoxAt h' b ∧ TabAt h' ∧ ∀ d ∈ xs, Bd d
theorem Zuf {H W : Nat} {f g : Nat → Nat → Bool} (hh : 1 ≤ H ∧ H ≤ 8) (hw : 1 ≤ W ∧ W ≤ 8) (hb : 0 < b) (bx : BoxAt h b) (ht : TabAt h) (q : ∀ c8 h', BoxAt h' b → TabAt h' → Q (.nx, rho ns k b n x4 x5 x6 (bD 8 8 g) c8 c9 c10 c11 (some (bD H W f)) c13) h') : Wp (ZpR (rho ns k b n x4 x5 x6 (bD 8 8 g) c8 c9 c10 c11 (some (bD H W f)) c13) h) Q := by
  unfold ZpR
  refine ZkW (L11 ns k b n x4 x5 x6 (bD 8 8 g) c9 c10 c11 (some (bD H W f)) c13) ?_ ?_ ?_
  · simp [rho]
    refine ZbV bx hb ht (by omega) (by omega) fun A h1 l1 x1 t1 s1 => ?_
    simp
    refine ZbV x1 hb t1 (by omega) (by omega) fun P h2 l2 x2 t2 s2 => ?_
    simp
    rw [show (1 : Int) + (A : Int) = ((1 + A : Nat) : Int) by omega, show (1 : Int) + (P : Int) = ((1 + P : Nat) : Int) by omega]
    refine Ziz x2 (by omega) (by omega) fun f2 h3 x3 s3 => ?_
    unfold bD
    rw [show (3 : Int) = ((3 : Nat) : Int) from rfl, show (1 : Int) = ((1 : Nat) : Int) from rfl]
    refine wpe (Zeb (k := 3) (by simp)) ?_
    simp only [ZbZ]
    refine wpe (Zeb (k := 1) (by simp; omega)) ?_
    simp only [ZbZ]
    refine ZaS (by simp) fun l h4 s4 e4 _ _ => ?_
    rw [Zez e4]
    refine ⟨l, _, rfl, e4, c8, rfl, x3.sm s4, (t2.smx s3 hb).sm s4, ?_⟩
    rw [Ziu, Ziu]
    exact all_cons ⟨H, W, f, rfl, hh, hw⟩ <| all_cons ⟨1 + A, 1 + P, f2, rfl, by omega, by omega⟩ <| all_cons ⟨min 3 8, 8, g, rfl, by decide, by decide⟩ <| all_cons ⟨min 1 H, W, f, rfl, by omega, hw⟩ Zc3
  · rintro d xs ρ h1 ⟨c, rfl, x1, t1, hd⟩
    refine ⟨_, rfl, ?_⟩
    obtain ⟨H, W, f', rfl, hh, hw⟩ := hd d List.mem_cons_self
    simp
    refine (Zdu hh hw).wp fun h2 s2 => ?_
    obtain ⟨y, ry⟩ := Zsc (b := hv H W f')
    simp [ry]
    refine (Zfj hh hw).wp fun h3 s3 => ?_
    simp [ry, Zdp]
    exact ⟨s2.trans s3, _, rfl, (x1.sm s2).sm s3, (t1.sm s2).sm s3, fun d hd' => hd d (List.mem_cons_of_mem _ hd')⟩
  · rintro ρ h1 ⟨c, rfl, x1, t1, hd⟩
    exact q _ _ x1 t1
theorem Zug {T : Nat} {f : Nat → Nat → Bool} (hT : 1 ≤ T ∧ T ≤ 8) (hb : 0 < b) (bx : BoxAt h b) (ht : TabAt h) (q : ∀ d h', NoB h' d → TabAt h' → Q (.nx, rho ns k b n (bD T T f) x5 x6 x7 c8 c9 c10 c11 c12 (some d)) h') : Wp (ZpS (rho ns k b n (bD T T f) x5 x6 x7 c8 c9 c10 c11 c12 c13) h) Q := by
  unfold ZpS
  simp [rho]
  exact ZhZ bx hb ht hT hT fun d h1 nb x1 t1 s1 => q d h1 nb t1
theorem Zhj {d : D} (nb : NoB h d) : Er (ZaD [d] h) h "NoBoard" := by
  change We (ZaE 1 (Zc2 Zaj ZaP) [d] h) _ _
  first | refine Eq.mpr (Zga) ?_ | rw [Zga]
  simp
  exact (Zgu nb.1 nb.2).we fun h' s => ⟨rfl, s⟩
theorem Zuh {d : D} (ht : TabAt h) (nb : NoB h d) (q : ∀ h', Sm h h' → Q (.nx, rho ns k b n x4 x5 x6 x7 c8 c9 c10 c11 c12 (some d)) h') : Wp (ZpT (rho ns k b n x4 x5 x6 x7 c8 c9 c10 c11 c12 (some d)) h) Q := by
  unfold ZpT
  simp [rho]
  refine Zje (ds := [d]) ht rfl ?_ fun h2 s2 => ?_
  · unfold Er
    simp
    exact Zhj nb
  · simp
    exact q h2 s2
theorem ZkX {ns : List Int} {k : Nat} {h : HD} {a2 a3 a4 a5 a6 a7 a8 a9 a10 a11 a12 a13 : Option D} {Q : Fl × Rho → HD → Prop} (hb : ∀ i ∈ ns, Builtin.Int.intBits i ≤ 2 ^ 20) (hk : k ≤ 1000) (ht : TabAt h)
    (q : ∀ (b2 b3 b4 b5 b6 b7 b8 b9 b10 b11 b12 b13 : Option D) h', TabAt h' → Q (.nx, [some (.scr ns), some (.int (k : Nat)), b2, b3, b4, b5, b6, b7, b8, b9, b10, b11, b12, b13]) h') :
    Wp (ZaR gs0 (ZaR gs1 (ZaR gs2 (ZaR gs3 (ZaR gs4 (ZaR gs5 (ZaR gs6 (ZaR gs7 (ZaR gs8 (ZaR gs9 (ZaR ZpQ (ZaR ZpR (ZaR ZpS ZpT)))))))))))) [some (.scr ns), some (.int (k : Nat)), a2, a3, a4, a5, a6, a7, a8, a9, a10, a11, a12, a13] h) Q := by
  rw [ZbU]
  refine st0 hb hk ht fun b h1 hb0 x1 t1 => ?_
  rw [Zai, ZbU]
  refine st1 hb0 x1 t1 fun n h2 n1 n3 x2 t2 => ?_
  obtain ⟨T, eT⟩ : ∃ T, 2 ^ n = T := ⟨_, rfl⟩
  obtain ⟨S, eS⟩ : ∃ S, 2 ^ (3 - n) = S := ⟨_, rfl⟩
  have hz : T * S = 8 := by rw [← eT, ← eS, ← Nat.pow_add, show n + (3 - n) = 3 by omega]
  have hT : 2 ≤ T ∧ T ≤ 8 := by
    refine ⟨?_, eT ▸ (ZkT n3).2⟩
    rw [← eT]
    exact Nat.le_trans (by decide : 2 ≤ 2 ^ 1) (Nat.pow_le_pow_right (by decide) n1)
  have hT' : 1 ≤ T ∧ T ≤ 8 := ⟨by omega, hT.2⟩
  have hS : 1 ≤ S ∧ S ≤ 8 := eS ▸ ZkT (by omega)
  have vT : hv T T bb = true := eT ▸ ZpE n (by omega)
  have vS : hv S S bb = true := eS ▸ ZpE (3 - n) (by omega)
  have v8 : hv 8 8 (sp S S bb bb) = true := eS ▸ ZpF (3 - n) (by omega)
  have v9 : hv 8 8 (sp T T bb bb) = true := eT ▸ ZpF n (by omega)
  rw [Zai, ZbU]
  refine st2 n3 eT fun h3 s3 => ?_
  rw [Zai, ZbU]
  refine st3 n3 eT hT' hb0 (x2.sm s3) (t2.sm s3) fun p p' h4 x4 t4 => ?_
  rw [Zai, ZbU]
  refine st4 (m := 3 - n) (by omega) (by omega) eS hS hb0 x4 t4 fun p2 h5 x5 t5 => ?_
  rw [Zai, ZbU]
  refine st5 hT' hS hz fun h6 s6 => ?_
  rw [Zai, ZbU]
  refine st6 hT' hS hz ⟨_, _, _, rfl, hT', hT', vT⟩ (ZlZ vT) (ZlZ vS) ⟨_, _, _, rfl, by decide, by decide, ZpG v8⟩ (ZpG v9) fun d8 h7 s7 => ?_
  have x7 := (x5.sm s6).sm s7
  have t7 := (t5.sm s6).sm s7
  rw [Zai, ZbU]
  refine st7 n3 eT hT' hb0 x7 t7 fun A P h8 hA hP x8 t8 => ?_
  rw [Zai, ZbU]
  refine st8 hT' hA hP ?_
  rw [Zai, ZbU]
  refine st9 hT hA hP (ZlZ vT) fun h9 s9 => ?_
  rw [Zai, ZbU]
  refine Zue hb0 (x8.sm s9) (t8.sm s9) fun H W f h10 hh hw x10 t10 => ?_
  rw [Zai, ZbU]
  refine Zuf hh hw hb0 x10 t10 fun e8 h11 x11 t11 => ?_
  rw [Zai, ZbU]
  refine Zug hT' hb0 x11 t11 fun d h12 nb t12 => ?_
  rw [Zai]
  refine Zuh t12 nb fun h13 s13 => ?_
  exact q _ _ _ _ _ _ _ _ _ _ _ _ h13 (t12.sm s13)
end
def IL (ns : List Int) (xs : List Nat) (ρ : Rho) (h' : HD) : Prop := ∃ d1 d2 d3 d4 d5 d6 d7 d8 d9 d10 d11 d12 d13, ρ = [some (.scr ns), d1, d2, d3, d4, d5, d6, d7, d8, d9, d10, d11, d12, d13] ∧ TabAt h' ∧ ∀ k ∈ xs, k ≤ 1000
theorem ZpU : ZlU Zbi Zae Zbj ZaU Za2 ZaV ZaD ZaJ ZaC ZaF ZaT = ZaR (Zf1 (Zcp (Zab (Zaf (ar2 Zmg) (Zab (mC (.int 1)) (Zab (Zaf (ar2 ZoS) (Zab (Zaf (ar1 Zcl) (Zab (Zag 0) (Zal))) (Zab (mC (.int 4)) (Zal)))) (Zal)))) (Zal))) (Zbq 1) (ZaR gs0 (ZaR gs1 (ZaR gs2 (ZaR gs3 (ZaR gs4 (ZaR gs5 (ZaR gs6 (ZaR gs7 (ZaR gs8 (ZaR gs9 (ZaR ZpQ (ZaR ZpR (ZaR ZpS ZpT)))))))))))))) (Zce (mC (.bl true))) := by
  unfold gs0 gs1 gs2 gs3 gs4 gs5 gs6 gs7 gs8 gs9 ZpQ ZpR ZpS ZpT
  rfl
theorem law_true (ns : List Int) (hl : ns.length ≤ 63) (hb : ∀ i ∈ ns, Builtin.Int.intBits i ≤ 2 ^ 20) : ∃ h', F_law [.scr ns] [.tab] = .ok (.bl true) h' := by
  have main : Wp (F_law [.scr ns] [.tab]) fun d _ => d = .bl true := by
    change Wp (ZaE 14 (ZlU Zbi Zae Zbj ZaU Za2 ZaV ZaD ZaJ ZaC ZaF ZaT) [.scr ns] [.tab]) _
    rw [ZpU, Zas, ZbU]
    obtain ⟨n, en, hn⟩ : ∃ n : Nat, (if (if (4 : Int) < (ns.length : Int) then (4 : Int) else (ns.length : Int)) > 1 then (if (4 : Int) < (ns.length : Int) then (4 : Int) else (ns.length : Int)) else 1) = (n : Int) ∧ n ≤ 5 := by
      have h0 : 0 ≤ (if (if (4 : Int) < (ns.length : Int) then (4 : Int) else (ns.length : Int)) > 1 then (if (4 : Int) < (ns.length : Int) then (4 : Int) else (ns.length : Int)) else 1) ∧ (if (if (4 : Int) < (ns.length : Int) then (4 : Int) else (ns.length : Int)) > 1 then (if (4 : Int) < (ns.length : Int) then (4 : Int) else (ns.length : Int)) else 1) ≤ 5 := by
        constructor <;> (split <;> split <;> omega)
      generalize (if (if (4 : Int) < (ns.length : Int) then (4 : Int) else (ns.length : Int)) > 1 then (if (4 : Int) < (ns.length : Int) then (4 : Int) else (ns.length : Int)) else 1) = E at h0
      exact ⟨E.toNat, by omega, by omega⟩
    refine ZeX (src := []) (xs := List.range n) (fun i => .int ((i : Nat) : Int)) (IL ns) ?_ (fun ys ρ h' _ => Zlm) ?_ ?_
    · simp
      rw [en, ZcE (by omega)]
      exact ⟨rfl, _, _, _, _, _, _, _, _, _, _, _, _, _, rfl, rfl, fun k hk => by have := List.mem_range.mp hk; omega⟩
    · rintro x xs ρ h' ⟨d1, d2, d3, d4, d5, d6, d7, d8, d9, d10, d11, d12, d13, rfl, t, hx⟩
      refine ⟨_, rfl, ?_⟩
      exact ZkX hb (hx x List.mem_cons_self) t fun b2 b3 b4 b5 b6 b7 b8 b9 b10 b11 b12 b13 h2 t2 =>
        ⟨_, _, _, _, _, _, _, _, _, _, _, _, _, rfl, t2, fun k hk => hx k (List.mem_cons_of_mem _ hk)⟩
    · rintro ρ h' ⟨d1, d2, d3, d4, d5, d6, d7, d8, d9, d10, d11, d12, d13, rfl, t, hx⟩
      simp
  obtain ⟨a, h', e, rfl⟩ := Wp.ex main
  exact ⟨h', e⟩
end LK
set_option maxHeartbeats 0
namespace LK
open PySem PySem.Spec PyProof.Rows L2 LS
def Zsd : Tp.Want := ⟨[(("is_whole" : Str), Zb2), (("is_line_tuple" : Str), Za5), (("row_switched" : Str), Zba), (("common_bits" : Str), Zbn), (("unlike_many" : Str), Zbo), (("_law_cell" : Str), ZbL), (("_law_mix" : Str), Zb3), (("_law_take" : Str), ZbM), (("_law_kind" : Str), ZbN), (("_law_switched" : Str), Za6), (("_law_is_halved" : Str), ZaY), (("is_between" : Str), Zbx), (("is_lot" : Str), ZcY), (("_law_box" : Str), Zb4), (("_law_wide_box" : Str), Za7), (("_law_no_board" : Str), Za8), (("_law_lot" : Str), Zb5), (("is_light" : Str), Zb6), (("need_number" : Str), Zbp), (("_law_board" : Str), Zby), (("is_row" : Str), Zc0), (("by_bits" : Str), Zcx), (("is_board" : Str), Zb7), (("need_board" : Str), Zbz), (("is_switching" : Str), Zbb), (("spread_by" : Str), ZbO), (("is_halved" : Str), ZbP), (("need_switching" : Str), ZaZ), (("switched" : Str), Zb8), (("law" : Str), s_law), (("_law_said" : Str), Zct)], [(("MOST_BITS" : Str), (3 : Int)), (("MOST_LINES" : Str), (8 : Int))], ["ValueError", "all", "bool", "divmod", "enumerate", "int", "isinstance", "len", "list", "max", "min", "range", "repr", "sum", "tuple", "zip"]⟩
theorem all_mk {l : PySem.W.OpenLaw} {w : World} {K : PySem.W.Frag} {h : Heap} {mg : Str → Option Value} {fa c T : Addr} (HS : Tp.Has Zsd K c T) (X : K.In h) (G : h.Ns mainGlobals mg) (hfa : mg "law" = some (.ref fa)) :
    ∃ fd : FuncData, (∀ (s : Shared) (v : Value), BindsTo s fd ⟨[v], []⟩ [("_law_script", v)]) ∧ ∀ base : Heap, K.In base → base.Ns mainGlobals mg → BMb mg base → FnOk l.prog w K mg base (CXE l.prog w K) 10 fa fd ["_law_script"] (spE K F_law) := by
  obtain ⟨fs, cs, bs, et, tb, hd, no⟩ := HS
  obtain ⟨_, _, _, _, _, _, _, _, _, _, a0, l0, c0, k0⟩ := fs 0 "is_whole" Zb2 rfl
  obtain ⟨_, _, _, _, _, _, _, _, _, _, a1, l1, c1, k1⟩ := fs 1 "is_line_tuple" Za5 rfl
  obtain ⟨_, _, _, _, _, _, _, _, _, _, a2, l2, c2, k2⟩ := fs 2 "row_switched" Zba rfl
  obtain ⟨_, _, _, _, _, _, _, _, _, _, a3, l3, c3, k3⟩ := fs 3 "common_bits" Zbn rfl
  obtain ⟨_, _, _, _, _, _, _, _, _, _, a4, l4, c4, k4⟩ := fs 4 "unlike_many" Zbo rfl
  obtain ⟨_, _, _, _, _, _, _, _, _, _, a5, l5, c5, k5⟩ := fs 5 "_law_cell" ZbL rfl
  obtain ⟨_, _, _, _, _, _, _, _, _, _, a6, l6, c6, k6⟩ := fs 6 "_law_mix" Zb3 rfl
  obtain ⟨_, _, _, _, _, _, _, _, _, _, a7, l7, c7, k7⟩ := fs 7 "_law_take" ZbM rfl
  obtain ⟨_, _, _, _, _, _, _, _, _, _, a8, l8, c8, k8⟩ := fs 8 "_law_kind" ZbN rfl
  obtain ⟨_, _, _, _, _, _, _, _, _, _, a9, l9, c9, k9⟩ := fs 9 "_law_switched" Za6 rfl
  obtain ⟨_, _, _, _, _, _, _, _, _, _, a10, l10, c10, k10⟩ := fs 10 "_law_is_halved" ZaY rfl
  obtain ⟨_, _, _, _, _, _, _, _, _, _, a11, l11, c11, k11⟩ := fs 11 "is_between" Zbx rfl
  obtain ⟨_, _, _, _, _, _, _, _, _, _, a12, l12, c12, k12⟩ := fs 12 "is_lot" ZcY rfl
  obtain ⟨_, _, _, _, _, _, _, _, _, _, a13, l13, c13, k13⟩ := fs 13 "_law_box" Zb4 rfl
  obtain ⟨_, _, _, _, _, _, _, _, _, _, a14, l14, c14, k14⟩ := fs 14 "_law_wide_box" Za7 rfl
  obtain ⟨_, _, _, _, _, _, _, _, _, _, a15, l15, c15, k15⟩ := fs 15 "_law_no_board" Za8 rfl
  obtain ⟨_, _, _, _, _, _, _, _, _, _, a16, l16, c16, k16⟩ := fs 16 "_law_lot" Zb5 rfl
  obtain ⟨_, _, _, _, _, _, _, _, _, _, a17, l17, c17, k17⟩ := fs 17 "is_light" Zb6 rfl
  obtain ⟨_, _, _, _, _, _, _, _, _, _, a18, l18, c18, k18⟩ := fs 18 "need_number" Zbp rfl
  obtain ⟨_, _, _, _, _, _, _, _, _, _, a19, l19, c19, k19⟩ := fs 19 "_law_board" Zby rfl
  obtain ⟨_, _, _, _, _, _, _, _, _, _, a20, l20, c20, k20⟩ := fs 20 "is_row" Zc0 rfl
  obtain ⟨_, _, _, _, _, _, _, _, _, _, a21, l21, c21, k21⟩ := fs 21 "by_bits" Zcx rfl
  obtain ⟨_, _, _, _, _, _, _, _, _, _, a22, l22, c22, k22⟩ := fs 22 "is_board" Zb7 rfl
  obtain ⟨_, _, _, _, _, _, _, _, _, _, a23, l23, c23, k23⟩ := fs 23 "need_board" Zbz rfl
  obtain ⟨_, _, _, _, _, _, _, _, _, _, a24, l24, c24, k24⟩ := fs 24 "is_switching" Zbb rfl
  obtain ⟨_, _, _, _, _, _, _, _, _, _, a25, l25, c25, k25⟩ := fs 25 "spread_by" ZbO rfl
  obtain ⟨_, _, _, _, _, _, _, _, _, _, a26, l26, c26, k26⟩ := fs 26 "is_halved" ZbP rfl
  obtain ⟨_, _, _, _, _, _, _, _, _, _, a27, l27, c27, k27⟩ := fs 27 "need_switching" ZaZ rfl
  obtain ⟨_, _, _, _, _, _, _, _, _, _, a28, l28, c28, k28⟩ := fs 28 "switched" Zb8 rfl
  obtain ⟨f_law, _, an_law, _, _, kV_law, dc_law, pm_law, _, ct_law, a_law, l_law, c_law, k_law⟩ := fs 29 "law" s_law rfl
  obtain ⟨_, _, _, _, _, _, _, _, _, _, a30, l30, c30, k30⟩ := fs 30 "_law_said" Zct rfl
  cases Tp.tab_cd tb a_law l_law
  have e := hfa.symm.trans (PySem.W.mg_of X G a_law)
  cases e
  have S_D : SaidD K mg Zct _ _ := SaidD.of (dn1 X G l30 c30 k30 a30 (fun _ _ _ _ _ _ _ => rfl))
  have B : Bl mg := ⟨PySem.W.mg_none_of X G (bs 0 "ValueError" rfl), PySem.W.mg_none_of X G (bs 1 "all" rfl), PySem.W.mg_none_of X G (bs 2 "bool" rfl), PySem.W.mg_none_of X G (bs 3 "divmod" rfl), PySem.W.mg_none_of X G (bs 4 "enumerate" rfl), PySem.W.mg_none_of X G (bs 5 "int" rfl), PySem.W.mg_none_of X G (bs 6 "isinstance" rfl), PySem.W.mg_none_of X G (bs 7 "len" rfl), PySem.W.mg_none_of X G (bs 8 "list" rfl), PySem.W.mg_none_of X G (bs 9 "max" rfl), PySem.W.mg_none_of X G (bs 10 "min" rfl), PySem.W.mg_none_of X G (bs 11 "range" rfl), PySem.W.mg_none_of X G (bs 12 "repr" rfl), PySem.W.mg_none_of X G (bs 13 "sum" rfl), PySem.W.mg_none_of X G (bs 14 "tuple" rfl), PySem.W.mg_none_of X G (bs 15 "zip" rfl)⟩
  obtain ⟨t_MOST_BITS, v_MOST_BITS⟩ := cs 0 "MOST_BITS" 3 rfl
  have M_MOST_BITS := PySem.W.mg_of X G v_MOST_BITS
  obtain ⟨t_MOST_LINES, v_MOST_LINES⟩ := cs 1 "MOST_LINES" 8 rfl
  have M_MOST_LINES := PySem.W.mg_of X G v_MOST_LINES
  refine ⟨PySem.W.fnOf "law" "law" (defArgs s_law) (defBody s_law) (defScope s_law) .none kV_law dc_law pm_law an_law (.ref c) ct_law, fun s v => .of_eq rfl, fun base _ _ hbm => ?_⟩
  have C0 := ZhO (P := l.prog) (w := w) (base := base) B et (dn1 X G l0 c0 k0 a0 fun _ _ _ _ _ _ _ => rfl)
  have C1 := Zen (P := l.prog) (w := w) (base := base) B et M_MOST_LINES (dn1 X G l1 c1 k1 a1 fun _ _ _ _ _ _ _ => rfl)
  have C2 := Zfd (P := l.prog) (w := w) (base := base) B et (dn3 X G l2 c2 k2 a2 fun _ _ _ _ _ _ _ _ _ => rfl)
  have C3 := Zfv (P := l.prog) (w := w) (base := base) B et M_MOST_BITS (dn2 X G l3 c3 k3 a3 fun _ _ _ _ _ _ _ _ => rfl)
  have C4 := Zfw (P := l.prog) (w := w) (base := base) B et (dn2 X G l4 c4 k4 a4 fun _ _ _ _ _ _ _ _ => rfl)
  have C5 := Zg6 (P := l.prog) (w := w) (base := base) B et (dn2 X G l5 c5 k5 a5 fun _ _ _ _ _ _ _ _ => rfl)
  have C6 := ZhP (P := l.prog) (w := w) (base := base) B et (dn2 X G l6 c6 k6 a6 fun _ _ _ _ _ _ _ _ => rfl)
  have C7 := Zg7 (P := l.prog) (w := w) (base := base) B et (dn2 X G l7 c7 k7 a7 fun _ _ _ _ _ _ _ _ => rfl)
  have C8 := Zg8 (P := l.prog) (w := w) (base := base) B et (dn1 X G l8 c8 k8 a8 fun _ _ _ _ _ _ _ => rfl)
  have C9 := Zeo (P := l.prog) (w := w) (base := base) B et (dn3 X G l9 c9 k9 a9 fun _ _ _ _ _ _ _ _ _ => rfl)
  have C10 := Zd4 (P := l.prog) (w := w) (base := base) B et (dn1 X G l10 c10 k10 a10 fun _ _ _ _ _ _ _ => rfl)
  have C11 := Zgp (P := l.prog) (w := w) (base := base) B et C0 (dn3 X G l11 c11 k11 a11 fun _ _ _ _ _ _ _ _ _ => rfl)
  have C12 := ZkC (P := l.prog) (w := w) (base := base) B et C0 (dn2 X G l12 c12 k12 a12 fun _ _ _ _ _ _ _ _ => rfl)
  have C13 := ZhQ (P := l.prog) (w := w) (base := base) B et C5 C6 (dn2 X G l13 c13 k13 a13 fun _ _ _ _ _ _ _ _ => rfl)
  have C14 := Zep (P := l.prog) (w := w) (base := base) B et C7 (dn1 X G l14 c14 k14 a14 fun _ _ _ _ _ _ _ => rfl)
  have C15 := Zeq (P := l.prog) (w := w) (base := base) B et C7 (dn2 X G l15 c15 k15 a15 fun _ _ _ _ _ _ _ _ => rfl)
  have C16 := ZhR (P := l.prog) (w := w) (base := base) B et C7 (dn2 X G l16 c16 k16 a16 fun _ _ _ _ _ _ _ _ => rfl)
  have C17 := ZhS (P := l.prog) (w := w) (base := base) B et C11 (dn1 X G l17 c17 k17 a17 fun _ _ _ _ _ _ _ => rfl)
  have C18 := Zfx (P := l.prog) (w := w) (base := base) B et C11 (dn3 X G l18 c18 k18 a18 fun _ _ _ _ _ _ _ _ _ => rfl)
  have C19 := Zgq (P := l.prog) (w := w) (base := base) B et C7 C14 (dn3 X G l19 c19 k19 a19 fun _ _ _ _ _ _ _ _ _ => rfl)
  have C20 := ZkD (P := l.prog) (w := w) (base := base) B et C1 C17 (dn1 X G l20 c20 k20 a20 fun _ _ _ _ _ _ _ => rfl)
  have C21 := Zi9 (P := l.prog) (w := w) (base := base) B et C18 C3 M_MOST_BITS (dn1 X G l21 c21 k21 a21 fun _ _ _ _ _ _ _ => rfl)
  have C22 := ZhT (P := l.prog) (w := w) (base := base) B et C1 C20 (dn1 X G l22 c22 k22 a22 fun _ _ _ _ _ _ _ => rfl)
  have C23 := Zgr (P := l.prog) (w := w) (base := base) B et C22 (dn1 X G l23 c23 k23 a23 fun _ _ _ _ _ _ _ => rfl)
  have C24 := Zff (P := l.prog) (w := w) (base := base) B et C23 C12 (dn2 X G l24 c24 k24 a24 fun _ _ _ _ _ _ _ _ => rfl)
  have C25 := Zg9 (P := l.prog) (w := w) (base := base) B et C23 M_MOST_LINES (dn2 X G l25 c25 k25 a25 fun _ _ _ _ _ _ _ _ => rfl)
  have C26 := Zha (P := l.prog) (w := w) (base := base) B et C23 C4 (dn1 X G l26 c26 k26 a26 fun _ _ _ _ _ _ _ => rfl)
  have C27 := Zd5 (P := l.prog) (w := w) (base := base) B et C24 (dn2 X G l27 c27 k27 a27 fun _ _ _ _ _ _ _ _ => rfl)
  have C28 := ZhU (P := l.prog) (w := w) (base := base) B et C27 C2 (dn2 X G l28 c28 k28 a28 fun _ _ _ _ _ _ _ _ => rfl)
  exact ZiY l_law c_law sc_law (fun ds h e => if_neg e) (fun ds h e => if_pos e) (fun A outer s H E hr => Zr3 B et C13 C7 C21 C16 C28 C25 C26 C19 C10 C15 C8 tb hd hbm S_D _ A outer s H E hr)
end LK
namespace LK
open PySem PySem.W
abbrev top_q : Program := view PySem.Challenge.pw_lineswitch_k83_halved_boards [47]
abbrev top_loose : List Str := (PySem.Challenge.pw_lineswitch_k83_halved_boards.main.scope.names.map (·.1)).filter fun x => !(x == "law")
set_option maxHeartbeats 0 in
theorem top_left : LeftO PySem.Challenge.pw_lineswitch_k83_halved_boards top_q top_loose (fun _ => true) (Tp.obsK Zsd) (fun _ => Tp.valK Zsd) 1000000 :=
  Tp.left_of (n := 49) (by kernel_rfl) (fun s => by kernel_rfl) (fun w => by kernel_rfl) (fun w os => by
    rw [PySem.W.Fast.te10156331382660048174, PySem.W.Fast.te11892475500146522536, PySem.W.Fast.te14364793385576792824, PySem.W.Fast.te10110043849684766642, PySem.W.Fast.te6613529449190102663, PySem.W.Fast.te4187177175401517315, PySem.W.Fast.te5923862056798008813]
    kernel_rfl)
end LK
open PySem PySem.W PyProof.Rows
set_option maxRecDepth 100000 in
set_option maxHeartbeats 0 in
theorem PySem.Challenge.cw_lineswitch_k83_halved_boards_holds : PySem.Challenge.rw_lineswitch_k83_halved_boards.Holds := by
  w_on; o_law
  refine PySem.W.holds_open (q := LK.top_q) (loose := LK.top_loose) (d := ⟨"law", L2.defArgs LK.s_law, L2.defBody LK.s_law, L2.defScope LK.s_law, _⟩) (kwd := []) (Xt := fun _ => true) (XP := fun _ _ => True) (N := 1000000) LK.top_left Tp.says_of Tp.Says.keeps (fun _ _ => trivial) (fun _ _ _ _ _ => trivial) (by rfl) (by kernel_rfl) (by kernel_rfl) (fun s _ => recFacts_nil (by rfl)) (by rfl) (by assumption) (by kernel_rfl) ⟨rfl, rfl, rfl, rfl, rfl, by decide +kernel⟩ ?hw ?hc
  case hw => w_witness2
  case hc => exact LS.walk_hd (n := 63) (k := 10) (x := "_law_script") (F := LK.F_law) rfl (by decide) rfl ⟨rfl, by decide, by decide, rfl⟩ (fun w K c T mg fa h HS X G hfa => LK.all_mk HS X G hfa) LK.law_true
