import PyProof.Rows.All
import Wide.All
import OpenK.AllK
import Wide.FinOn
import Lean
import PyProof.EqAt
import PyProof.EqKinds
import PyProof.TupleCall
import PyProof.ExcBaseAll.ValueError
import PyProof.ZipIter
import KE.KIsAll
import KE.KTryMore
import PyProof.ExcArgsOwn
import PyProof.ExcAttrAll.ValueError
import KE.KLam
import KE.KNestM
import PyProof.NsDelKeeps
import PyProof.Rows.CatchPack
import PyProof.ReprRoads
import PyProof.Rows.FStr
import PyProof.ListRange
import PyProof.CollectIter
import KE.KRevSl
import PyProof.ExcInit
import PyProof.ExcClass2
import PyProof.InstStore
import PyProof.InstStoreFacts
import PyProof.InstLoad
import OpenK.KMore
import PyProof.Rows.StrKeys3
import PyProof.MeetsStr
import PyProof.Rows.AttrNodeAny
import PyProof.ReprLen
import PySem.Challenge.RW_lineswitch_k94_errors_made
set_option Elab.async false
set_option linter.all false
set_option maxRecDepth 100000
abbrev AA:=@List.mem_cons_of_mem
abbrev Ax:=@List.mem_cons_self
abbrev AR:=@PySem.Heap.get?_push_of_some
abbrev Au:=@List.prefix_refl
abbrev Ap:=@PySem.Heap.lt_size
abbrev AC:=@Nat.lt_of_lt_of_le
abbrev qa6:=@List.mem_cons
abbrev qa7:=@List.getElem?_eq_some_iff
abbrev AS:=@Bool.false_ne_true
abbrev AN:=@List.size_toArray
abbrev A8:=@List.getElem?_eq_getElem
abbrev Bh:=@List.mem_append_right
abbrev AJ:=@Nat.le_refl
abbrev qaD:=@List.mem_singleton
abbrev BD:=@PySem.Heap.get?_push_size
abbrev A6:=@Nat.ne_of_lt
abbrev BN:=@Bool.false_eq_true
abbrev BE:=@Bool.and_eq_true
abbrev Bi:=@Nat.le_trans
abbrev CW:=@List.getElem?_append_left
abbrev CB:=@List.getElem?_set_ne
abbrev qaL:=@List.all_eq_true
abbrev BF:=@List.map_cons
abbrev qaN:=@Option.map_eq_some_iff
abbrev BO:=@Nat.lt_irrefl
abbrev B7:=@PySem.Heap.size_push
abbrev CC:=@List.getElem?_map
abbrev CY:=@List.replicate_succ
abbrev Dt:=@List.getElem?_set_self
abbrev CD:=@List.lookup_cons
abbrev Du:=@List.mem_of_getElem?
abbrev Dv:=@List.filterMap_cons
abbrev DZ:=@PySem.Heap.get?_update_self
abbrev EJ:=@List.getElem?_append_right
abbrev Dw:=@List.flatten_cons
abbrev qaZ:=@Option.isSome_iff_exists
abbrev Dx:=@List.length_cons
abbrev qb1:=@List.nodup_cons
abbrev Dy:=@List.length_map
abbrev Dz:=@Option.map_some
abbrev EK:=@PySem.Heap.get?_update_other
abbrev CF:=@Nat.zero_le
abbrev D0:=@Nat.le_of_not_lt
abbrev qb7:=@List.mem_append
abbrev D1:=@List.append_nil
abbrev D2:=@List.length_nil
abbrev EL:=@List.length_append
abbrev EN:=@Int.natAbs_natCast
abbrev Gr:=@List.length_filter_le
abbrev qbD:=@List.mem_filter
abbrev Gs:=@PySem.Heap.get?_none_of_le
abbrev Gu:=@List.mem_append_left
abbrev EO:=@Bool.eq_iff_iff
abbrev ES:=@List.nil_append
abbrev Gv:=@List.mem_of_mem_tail
namespace L2
open PySem PySem.Spec PyProof.Rows
abbrev Lk:=Sum Int Str
inductive V where
 |non |bl (b:Bool) |int (i:Int) |str (x:Str) |byt (b:Array UInt8) |flt (b:UInt64) |ref (a:Addr) |ty (n:String)
 deriving DecidableEq
def RelV:V→Value→Prop
 |.non,u=>u=Value.none
 |.bl b,u=>u=Value.bool b
 |.int i,u=>∃t,u=Value.int i t
 |.str x,u=>∃t,u=Value.str x t
 |.byt b,u=>∃t,u=Value.bytes b t
 |.flt b,u=>∃t,u=Value.float b t
 |.ref a,u=>u=Value.ref a
 |.ty n,u=>u=Value.type n
abbrev Vals:List V→List Value→Prop:=Paired RelV
theorem Vals.length {xs:List V} {us:List Value} (r:Vals xs us):xs.length=us.length:=Paired.length r
theorem Vals.get:∀{xs:List V} {us:List Value} {i:Nat} {x:V},Vals xs us→xs[i]?=some x→∃u,us[i]?=some u∧RelV x u
 |_,_,_,_,.nil,e=>by simp at e
 |_,_,0,_,.cons r _,e=>by simp at e;subst e;exact ⟨_,rfl,r⟩
 |_,_,i+1,x,.cons _ t,e=>by
  obtain ⟨u,h1,h2⟩:=Vals.get (i:=i) (x:=x) t (by simpa using e)
  exact ⟨u,by simpa using h1,h2⟩
theorem Vals.set {x:V} {u:Value} (r:RelV x u):∀{xs:List V} {us:List Value} (i:Nat),Vals xs us→Vals (xs.set i x) (us.set i u)
 |_,_,_,.nil=>.nil
 |_,_,0,.cons _ t=>.cons r t
 |_,_,i+1,.cons q t=>.cons q (Vals.set r i t)
theorem Vals.append:∀{xs ys:List V} {us ws:List Value},Vals xs us→Vals ys ws→Vals (xs++ys) (us++ws)
 |_,_,_,_,.nil,s=>s
 |_,_,_,_,.cons r t,s=>.cons r (Vals.append t s)
theorem Vals.take:∀{xs:List V} {us:List Value} (n:Nat),Vals xs us→Vals (xs.take n) (us.take n)
 |_,_,0,_=>.nil
 |_,_,_+1,.nil=>.nil
 |_,_,n+1,.cons r t=>.cons r (Vals.take n t)
theorem Vals.drop:∀{xs:List V} {us:List Value} (n:Nat),Vals xs us→Vals (xs.drop n) (us.drop n)
 |_,_,0,r=>r
 |_,_,_+1,.nil=>.nil
 |_,_,n+1,.cons _ t=>Vals.drop n t
def RelO:Option V→Option Value→Prop
 |some v,some u=>RelV v u
 |none,none=>True
 |_,_=>False
def kV:Lk→V
 |.inl i=>.int i
 |.inr x=>.str x
inductive HO where
 |lst (xs:List V)
 |tup (xs:List V)
 |own (x:Addr)
 |xd (fs:List (Str×V))
 |frz (o:Obj) (u:HO)
 |tbl (ps:Array Value)
 |ext (φ:Heap→Prop)
 |mex (φ:Heap→Prop)
abbrev Hp:=Addr→Option HO
def Ag (H:Hp) (a:Addr) (o:HO):Hp:=fun b=>if b=a then some o else H b
theorem AU {H:Hp} {a:Addr} {o:HO}:Ag H a o a=some o:=by unfold Ag;rw [if_pos rfl]
theorem Af {H:Hp} {a b:Addr} {o:HO} (h:b≠a):Ag H a o b=H b:=by unfold Ag;rw [if_neg h]
theorem Gw {H:Hp} {a:Addr} {o u:HO}:Ag (Ag H a o) a u=Ag H a u:=by
 funext b;unfold Ag;split<;>rfl
theorem Ll {H:Hp} {a b:Addr} {o u:HO} (h:H a=some o) (h':H b=some u) (d:o≠u):a≠b:=by
 intro e;subst e;rw [h] at h';exact d (Option.some.inj h')
theorem AZ {H:Hp} {a b:Addr} {o:HO} (h:H a=some o) (h':H b=none):a≠b:=by
 intro e;subst e;rw [h] at h';cases h'
section
variable (P:Program) (w:World)
inductive HM (h:Heap) (a:Addr) (xs:List V):Prop where
 |mk (f1:xs.length≤sizeLine) (its:List Value) (n:Nat) (f2:Vals xs its) (f3:h.get? a=some {cls:=.type "list",data:=.seq its.toArray n}):HM h a xs
def NoDict (h:Heap) (a:Addr):Prop:=∀o,h.get? a=some o→o.dict=none
inductive HN (h:Heap) (a:Addr) (xs:List V):Prop where
 |mk (f1:xs.length≤sizeLine) (its:List Value) (f2:Vals xs its) (f3:IsTup h a its.toArray) (f4:NoDict h a):HN h a xs
theorem NoDict.new {h:Heap} {o:Obj} (hd:o.dict=none:=by rfl) (hf:o.isFreed=false:=by rfl):NoDict (h.push o) h.objs.size:=fun u e=>by
 rw [BD _ hf] at e
 cases e
 exact hd
def ObjOk (P:Program) (w:World) (H:Hp) (h:Heap) (a:Addr):HO→Prop
 |.lst xs=>HM h a xs
 |.tup xs=>HN h a xs
 |.own _=>∃o,h.get? a=some o
 |.xd fs=>∃mA,h.Ns1 a mA∧∀f,RelO (fs.lookup f) (mA f)
 |.frz o u=>h.get? a=some o∧ObjOk P w H h a u
 |.tbl ps=>h.get? a=some {cls:=.none,data:=.fields ps}
 |.ext φ=>φ h∧(∃o,h.get? a=some o)∧∀h1 h2:Heap,φ h1→(∀o,h1.get? a=some o→h2.get? a=some o)→φ h2
 |.mex φ=>φ h∧(∃o,h.get? a=some o)∧∀h1 h2:Heap,φ h1→(∀o,h1.get? a=some o→h2.get? a=some o)→φ h2
def HOk (H:Hp) (h:Heap):Prop:=∀a o,H a=some o→ObjOk P w H h a o
end
section
variable {P:Program} {w:World} {H H':Hp} {h h':Heap} {a:Addr} {o:HO}
theorem ObjOk.lt (x:ObjOk P w H h a o):a<h.objs.size:=by
 cases o with
 |lst xs=>obtain ⟨_,_,_,_,e⟩:=x;exact Ap e
 |tup xs=>obtain ⟨_,_,_,p,_⟩:=x;exact p.lt
 |own y=>obtain ⟨_,e⟩:=x;exact Ap e
 |xd fs=>obtain ⟨_,⟨_,_,_,e,_⟩,_⟩:=x;exact Ap e
 |frz ob u=>obtain ⟨e,_⟩:=x;exact Ap e
 |tbl ps=>exact Ap (show h.get? a=some _ from x)
 |ext φ=>obtain ⟨_,⟨_,e⟩,_⟩:=x;exact Ap e
 |mex φ=>obtain ⟨_,⟨_,e⟩,_⟩:=x;exact Ap e
theorem ObjOk.stay (x:ObjOk P w H h a o) (k:∀b u,(b=a∨H b=some (.own a))→h.get? b=some u→h'.get? b=some u)
 (ho:∀b,H b=some (.own a)→H' b=some (.own a)) (ht:∀b xs,H b=some (.tup xs)→H' b=some (.tup xs)):ObjOk P w H' h' a o:=by
 induction o with
 |lst xs=>obtain ⟨z,its,n,r,e⟩:=x;exact ⟨z,its,n,r,k _ _ (.inl rfl) e⟩
 |tup xs=>obtain ⟨z,its,r,⟨ob,e,c⟩,nd⟩:=x;exact ⟨z,its,r,⟨ob,k _ _ (.inl rfl) e,c⟩,fun o e2=>by rw [k _ _ (.inl rfl) e] at e2;cases e2;exact nd _ e⟩
 |own y=>obtain ⟨ob,e⟩:=x;exact ⟨ob,k _ _ (.inl rfl) e⟩
 |xd fs=>obtain ⟨mA,⟨od,es,ep,e,c⟩,r⟩:=x;exact ⟨mA,⟨od,es,ep,k _ _ (.inl rfl) e,c⟩,r⟩
 |frz ob u ih=>obtain ⟨e,q⟩:=x;exact ⟨k _ _ (.inl rfl) e,ih q⟩
 |tbl ps=>
  have e:h.get? a=some {cls:=.none,data:=.fields ps}:=x
  show h'.get? a=some {cls:=.none,data:=.fields ps}
  exact k a _ (.inl rfl) e
 |ext φ=>obtain ⟨p,⟨o,e⟩,st⟩:=x;exact ⟨st _ _ p fun o q=>k _ _ (.inl rfl) q,⟨o,k _ _ (.inl rfl) e⟩,st⟩
 |mex φ=>obtain ⟨p,⟨o,e⟩,st⟩:=x;exact ⟨st _ _ p fun o q=>k _ _ (.inl rfl) q,⟨o,k _ _ (.inl rfl) e⟩,st⟩
theorem HOk.lt (x:HOk P w H h) (e:H a=some o):a<h.objs.size:=(x a o e).lt
theorem HOk.fresh (x:HOk P w H h) (e:h.objs.size≤a):H a=none:=by
 cases q:H a with
 |none=>rfl
 |some u=>exact absurd (AC (x.lt q) e) (BO _)
theorem HOk.kept (x:HOk P w H h) (k:∀b u,h.get? b=some u→h'.get? b=some u):HOk P w H h':=fun a o e=>
 (x a o e).stay (fun b u _ q=>k b u q) (fun _ q=>q) fun _ _ q=>q
theorem HOk.laid (x:HOk P w H h) (k:∀b u,h.get? b=some u→h'.get? b=some u) (hp:h.objs.size≤a) (new:ObjOk P w (Ag H a o) h' a o):HOk P w (Ag H a o) h':=fun b u e=>by
 have hn:=x.fresh hp
 by_cases hb:b=a
 ·subst hb;rw [AU] at e;cases e;exact new
 ·rw [Af hb] at e
  exact (x b u e).stay (fun c v _ q=>k c v q) (fun c q=>by rw [Af (AZ q hn)];exact q) fun c xs q=>by rw [Af (AZ q hn)];exact q
end
def Rd (H:Hp) (a:Addr) (u:HO):Prop:=H a=some u∨∃o,H a=some (.frz o u)
theorem Rd.ok {P:Program} {w:World} {H:Hp} {h:Heap} {a:Addr} {u:HO} (r:Rd H a u) (x:HOk P w H h):ObjOk P w H h a u:=by
 rcases r with r |⟨o,r⟩
 ·exact x a u r
 ·obtain ⟨_,q⟩:=x a _ r
  exact q
def EU:Option HO→Prop
 |some (.lst _)=>True
 |some (.ext _)=>True
 |some (.mex _)=>True
 |_=>False
section
variable {P:Program} {w:World} {H:Hp} {h h':Heap} {x e:Addr} {o':HO}
theorem HOk.write (ok:HOk P w H h) (mu:EU (H x)) (he:e=x∨H e=some (.own x)) (k:∀b u,b≠e→h.get? b=some u→h'.get? b=some u) (heo:∃u,h'.get? e=some u)
 (new:ObjOk P w (Ag H x o') h' x o'):HOk P w (Ag H x o') h':=fun b u q=>by
 have nown:∀c y,H c=some (.own y)→c≠x:=fun c y r z=>by subst z;rw [r] at mu;exact mu
 have ntup:∀c xs,H c=some (.tup xs)→c≠x:=fun c xs r z=>by subst z;rw [r] at mu;exact mu
 by_cases hb:b=x
 ·subst hb;rw [AU] at q;cases q;exact new
 ·rw [Af hb] at q
  by_cases hbe:b=e
  ·have q':H b=some (.own x):=by
    rcases he with z |z
    ·exact absurd (hbe.trans z) hb
    ·rw [hbe];exact z
   rw [q] at q';cases q'
   obtain ⟨v,hv⟩:=heo
   exact ⟨v,by rw [hbe];exact hv⟩
  ·refine (ok b u q).stay (fun c v hc r=>k c v ?_ r) (fun c r=>by rw [Af (nown c b r)];exact r) fun c xs r=>by rw [Af (ntup c xs r)];exact r
   rcases hc with rfl |hc
   ·exact hbe
   ·rintro rfl
    rcases he with z |z
    ·exact nown c b hc z
    ·rw [hc] at z;cases z;exact hb rfl
end
structure Un (fs ex:List Addr) (H H':Hp) (h h':Heap):Prop where
 keep:∀b o,h.get? b=some o→H b=none→b∉fs→b∉ex→h'.get? b=some o
 slot:∀b o,h.get? b=some o→H b=none→b∈fs→b∉ex→∃sl,h'.get? b=some {o with slots:=sl}
 free:∀b o,h.get? b=some o→H b=none→b∉ex→H' b=none
 there:∀b o,h.get? b=some o→b∉ex→∃o',h'.get? b=some o'
 tups:∀b xs,H b=some (.tup xs)→H' b=some (.tup xs)
 frzs:∀b o u,H b=some (.frz o u)→H' b=some (.frz o u)
 tbls:∀b ps,H b=some (.tbl ps)→∃more,H' b=some (.tbl (ps++more))
section
variable {fs fs' ex ex':List Addr} {H H1 H2:Hp} {h h1 h2 h':Heap} {a x e:Addr} {o:HO}
theorem Un.any (u:Un fs ex H H1 h h1) {b:Addr} {ob:Obj} (q:h.get? b=some ob) (n:H b=none) (hx:b∉ex):∃sl,h1.get? b=some {ob with slots:=sl}:=by
 by_cases hb:b∈fs
 ·exact u.slot b ob q n hb hx
 ·exact ⟨ob.slots,u.keep b ob q n hb hx⟩
theorem Un.kept (k:∀b u,h.get? b=some u→h'.get? b=some u):Un fs ex H H h h':=
 ⟨fun b ob q _ _ _=>k b ob q,fun b ob q _ _ _=>⟨ob.slots,k b ob q⟩,fun _ _ _ n _=>n,fun b ob q _=>⟨ob,k b ob q⟩,fun _ _ q=>q,fun _ _ _ q=>q,fun _ ps q=>⟨#[],by rw [q];simp⟩⟩
theorem Un.refl:Un fs ex H H h h:=Un.kept fun _ _ q=>q
theorem Un.laid (k:∀b u,h.get? b=some u→h'.get? b=some u) (hp:h.objs.size≤a) (hn:H a=none):Un fs ex H (Ag H a o) h h' where
 keep:=fun b u q _ _ _=>k b u q
 slot:=fun b u q _ _ _=>⟨u.slots,k b u q⟩
 free:=fun b u q n _=>by rw [Af (A6 (AC (Ap q) hp))];exact n
 there:=fun b u q _=>⟨u,k b u q⟩
 tups:=fun b xs q=>by rw [Af (AZ q hn)];exact q
 frzs:=fun b u xs q=>by rw [Af (AZ q hn)];exact q
 tbls:=fun b ps q=>⟨#[],by rw [Af (AZ q hn),q];simp⟩
theorem Un.write (mu:EU (H x)) (he:e=x∨H e=some (.own x)) (k:∀b u,b≠e→h.get? b=some u→h'.get? b=some u) (heo:∃u,h'.get? e=some u):Un fs ex H (Ag H x o) h h':=by
 have hx:∀b,H b=none→b≠x:=fun b n z=>by subst z;rw [n] at mu;exact mu
 have hb:∀b,H b=none→b≠e:=fun b n z=>by
  subst z
  rcases he with r |r
  ·exact hx b n r
  ·rw [n] at r;cases r
 have hm:∀b u,H b=some u→¬EU (some u)→b≠x:=fun b u q nm z=>by subst z;rw [q] at mu;exact nm mu
 refine ⟨fun b u q n _ _=>k b u (hb b n) q,fun b u q n _ _=>⟨u.slots,k b u (hb b n) q⟩,fun b u q n _=>by rw [Af (hx b n)];exact n,fun b u q _=>?_,
  fun b xs q=>by rw [Af (hm b _ q fun z=>z)];exact q,fun b u xs q=>by rw [Af (hm b _ q fun z=>z)];exact q,fun b ps q=>⟨#[],by rw [Af (hm b _ q fun z=>z),q];simp⟩⟩
 by_cases hbe:b=e
 ·subst hbe;exact heo
 ·exact ⟨u,k b u hbe q⟩
end
def EV (h:Heap) (H:Hp):List Addr:=(List.range h.objs.size).filter fun a=>(H a).isSome
def B8 (h:Heap) (H:Hp):Heap:=PySem.W.hideAll h (EV h H)
theorem Lm (h:Heap) (H:Hp):(B8 h H).objs.size=h.objs.size:=PySem.W.hideAll_size _ _
theorem Ln {h:Heap} {H:Hp} {b:Addr} {o:Obj} (e:h.get? b=some o) (n:H b=none):(B8 h H).get? b=some o:=
 PySem.W.hideAll_get _ e fun hm=>by
  have q:(H b).isSome=true:=(qbD.mp hm).2
  rw [n] at q;simp at q
theorem Lo {h:Heap} {H:Hp} {b:Addr} {o:Obj} (e:(B8 h H).get? b=some o):h.get? b=some o∧H b=none:=by
 have e':h.get? b=some o:=PySem.W.of_hideAll (EV h H) e
 refine ⟨e',?_⟩
 cases q:H b with
 |none=>rfl
 |some x=>
  have hm:b∈EV h H:=qbD.mpr ⟨List.mem_range.mpr (Ap e'),by simp [q]⟩
  have z:(B8 h H).get? b=none:=PySem.W.hideAll_none (EV h H) hm
  rw [z] at e;cases e
def Lp (g h:Heap) (L:Addr):List (Addr×Obj):=(List.range h.objs.size).filterMap fun a=>if a=L∨(g.get? a).isSome=true then none else (h.get? a).map fun o=>(a,o)
def rest (g h:Heap) (L d:Addr):List (Addr×Obj):=(Lp g h L).filter fun p=>decide (p.1≠d)
structure Mod (K:PySem.W.Frag) (mg:Str→Option Value) (base:Heap):Prop where
 kin:K.In base
 glob:base.Ns mainGlobals mg
 blt:∃mb,base.Ns builtinsNs mb∧∀x:Str,x≠"__name__"→mb x=bootBuiltins x
 nolimit:base.NoLimit
structure Cx where
 prog:Program
 w:World
 K:PySem.W.Frag
 mg:Str→Option Value
 base:Heap
 A:Around
 N:List Str
 s₀:Shared
 H₀:Hp
 env:Env
 outer:List Env
 stack:List Env
 ex:List Addr
 fn:Str→Bool
 calm:Bool
 pn:List (Addr×Obj)
 xe:Value→Shared→Prop
def frs (l:List Env):List Addr:=l.filterMap (·.frame)
abbrev Cx.fs (X:Cx):List Addr:=frs X.outer
def BP (sc:Scope) (x:Str):Prop:=sc.names.lookup x=some .local∨sc.names.lookup x=some .cell∨sc.names.lookup x=some .free
def D3 (sc:Scope) (x:Str):Prop:=sc.names.lookup x=some .local∨sc.names.lookup x=some .cell
def HP (env:Env) (h:Heap) (m:Str→Option Value) (x:Str) (u:Value):Prop:=
 (env.kindOf x=some .local∧m x=some u)∨((env.kindOf x=some .cell∨env.kindOf x=some .free)∧∃c,env.cells.lookup x=some c∧h.IsCell c (some u))
structure Cx.Ok (X:Cx):Prop where
 mod:Mod X.K X.mg X.base
 kind:X.env.scope.kind=.function
 glob:X.env.globals=mainGlobals
 blt:X.env.builtins=builtinsNs
 above:X.s₀.heap.objs.size≤X.env.locals
 inj:∀x y c,X.env.cells.lookup x=some c→X.env.cells.lookup y=some c→x=y
 has:∀x,(X.env.kindOf x=some .cell∨X.env.kindOf x=some .free)→∃c,X.env.cells.lookup x=some c
 cab:∀x c,X.fn x=true→X.env.cells.lookup x=some c→X.s₀.heap.objs.size≤c
 hd:X.calm=true→X.A.handled=none
 frames:X.A.frames=some X.stack
 stk:X.stack=X.outer∨(X.stack=X.env::X.outer∧X.env.frame=some X.env.locals)
 exf:∀b∈X.ex,b≠X.env.locals∧∀x c,X.env.cells.lookup x=some c→c≠b
 bs:∀b o,X.base.get? b=some o→X.s₀.heap.get? b=some o∧X.H₀ b=none
 bsz:X.base.objs.size≤X.s₀.heap.objs.size
 noex:∀b o,X.base.get? b=some o→b∉X.ex
 exfs:∀b∈X.ex,b∉X.fs
 funs:X.s₀.heap.FunFrames X.base X.outer
 frf:∀b∈X.fs,X.H₀ b=none
structure Inv (X:Cx) (pins:List (Addr×Obj)) (σ:List (Option V)) (H:Hp) (s:Shared):Prop where
 ok:X.Ok
 os:s.os=X.s₀.os
 bare:AllBare s.gens
 base:Un X.fs X.ex X.H₀ H X.s₀.heap s.heap
 loc:∃m,s.heap.Ns X.env.locals m∧∀(i:Nat) (x:Str) (v:V),X.N[i]?=some x→σ[i]?=some (some v)→BP X.env.scope x→∃u,RelV v u∧HP X.env s.heap m x u
 cell:∀x c,X.env.cells.lookup x=some c→∃v,s.heap.IsCell c v
 free:H X.env.locals=none
 freeC:∀x c,X.env.cells.lookup x=some c→H c=none
 pin:∀p∈X.pn++pins,s.heap.get? p.1=some p.2∧H p.1=none∧p.1≠X.env.locals∧p.1∉X.fs∧∀v,p.2.data≠.cell v
 hok:HOk X.prog X.w H s.heap
 len:σ.length=X.N.length
section
variable {X:Cx} {pins:List (Addr×Obj)} {σ:List (Option V)} {H H':Hp} {s:Shared} {h':Heap}
theorem Cx.Ok.nofr (ok:X.Ok) {b:Addr} {o:Obj} (e:X.base.get? b=some o):b∉X.fs:=fun hb=>by
 have:=(ok.funs.mem hb).1
 rw [e] at this;cases this
theorem Inv.bs (I:Inv X pins σ H s):∀b o,X.base.get? b=some o→s.heap.get? b=some o∧H b=none:=fun b o e=>
 ⟨I.base.keep b o (I.ok.bs b o e).1 (I.ok.bs b o e).2 (I.ok.nofr e) (I.ok.noex b o e),I.base.free b o (I.ok.bs b o e).1 (I.ok.bs b o e).2 (I.ok.noex b o e)⟩
theorem Inv.bk (I:Inv X pins σ H s):∀b o,X.base.get? b=some o→s.heap.get? b=some o:=fun b o e=>(I.bs b o e).1
theorem Inv.mod (I:Inv X pins σ H s):Mod X.K X.mg X.base:=I.ok.mod
theorem Inv.kIn (I:Inv X pins σ H s):X.K.In s.heap:=I.ok.mod.kin.keeps I.bk
theorem Inv.nolimit (I:Inv X pins σ H s):s.heap.NoLimit:=I.ok.mod.nolimit.keeps I.bk
theorem Inv.lt (I:Inv X pins σ H s):X.env.locals<s.heap.objs.size:=let ⟨_,hn,_⟩:=I.loc;hn.lt
theorem Inv.sz (I:Inv X pins σ H s):X.s₀.heap.objs.size≤s.heap.objs.size:=Bi I.ok.above (Nat.le_of_lt I.lt)
theorem Inv.nofs (I:Inv X pins σ H s) {a:Addr} (h:s.heap.objs.size≤a):a∉X.fs:=fun hb=>by
 obtain ⟨_,o,ho,_⟩:=I.ok.funs.mem hb
 exact absurd (AC (Ap ho) (Bi I.sz h)) (BO _)
theorem Inv.cne (I:Inv X pins σ H s):∀x c,X.env.cells.lookup x=some c→c≠X.env.locals:=fun x c e z=>by
 obtain ⟨v,o,ho,hd⟩:=I.cell x c e
 obtain ⟨m,⟨o',es,ep,ho',hd',_⟩,_⟩:=I.loc
 rw [z,ho'] at ho;cases ho;rw [hd'] at hd;cases hd
theorem Inv.funs (I:Inv X pins σ H s):s.heap.FunFrames X.base X.outer:=by
 have all:∀(l:List Env),(∀b∈frs l,b∈X.fs)→X.s₀.heap.FunFrames X.base l→s.heap.FunFrames X.base l:=by
  intro l
  induction l with
  |nil=>intro _ _;trivial
  |cons env r ih=>
   intro hs hl
   obtain ⟨hk,⟨L,o,hf,hn,ho,hd⟩,hr⟩:=hl
   have hL:L∈X.fs:=hs L (by unfold frs;rw [Dv,hf];exact Ax)
   obtain ⟨sl,e⟩:=I.base.slot L o ho (I.ok.frf L hL) hL fun z=>I.ok.exfs L z hL
   exact ⟨hk,⟨L,_,hf,hn,e,hd⟩,ih (fun b hb=>hs b (by unfold frs;rw [Dv,hf];exact AA _ hb)) hr⟩
 exact all X.outer (fun _ hb=>hb) I.ok.funs
theorem Inv.stack (I:Inv X pins σ H s):s.heap.FunFrames X.base X.stack:=by
 rcases I.ok.stk with e |⟨e,hf⟩
 ·rw [e];exact I.funs
 ·rw [e]
  obtain ⟨m,hn,_⟩:=I.loc
  refine .cons (by rw [I.ok.kind];decide) hf hn ?_ I.funs
  exact Gs (Bi I.ok.bsz I.ok.above)
theorem Inv.stkSub (I:Inv X pins σ H s):∀b∈frs X.stack,b∈X.env.locals::X.fs:=fun b hb=>by
 rcases I.ok.stk with e |⟨e,hf⟩
 ·rw [e] at hb;exact AA _ hb
 ·rw [e] at hb
  unfold frs at hb
  rw [Dv,hf] at hb
  exact hb
theorem Inv.stkFree (I:Inv X pins σ H s):∀b∈frs X.stack,H b=none:=fun b hb=>by
 rcases qa6.mp (I.stkSub b hb) with e |hb
 ·rw [e];exact I.free
 ·obtain ⟨_,o,ho,_⟩:=I.ok.funs.mem hb
  exact I.base.free b o ho (I.ok.frf b hb) fun z=>I.ok.exfs b z hb
theorem Inv.step {g':Array GenState} {t':Nat} {d':Drawn} {ch:List Addr} (I:Inv X pins σ H s)
 (hch:∀b∈ch,(b∈X.ex∨X.s₀.heap.objs.size≤b)∧b≠X.env.locals∧(∀x c,X.env.cells.lookup x=some c→c≠b)∧∀p∈X.pn++pins,p.1≠b)
 (keep:∀b o,b≠X.env.locals→b∉X.fs→b∉ch→s.heap.get? b=some o→H b=none→h'.get? b=some o)
 (slot:∀b o,b≠X.env.locals→b∈X.fs→b∉ch→s.heap.get? b=some o→H b=none→∃sl,h'.get? b=some {o with slots:=sl}) (free:∀b o,b∉ch→s.heap.get? b=some o→H b=none→H' b=none)
 (there:∀b o,b∉ch→s.heap.get? b=some o→∃o',h'.get? b=some o')
 (tups:∀b xs,H b=some (.tup xs)→H' b=some (.tup xs)) (frzs:∀b o u,H b=some (.frz o u)→H' b=some (.frz o u)) (tbls:∀b ps,H b=some (.tbl ps)→∃more,H' b=some (.tbl (ps++more)))
 (ns:∀m,s.heap.Ns X.env.locals m→h'.Ns X.env.locals m) (hok:HOk X.prog X.w H' h') (hg:AllBare g'):
 Inv X pins σ H' {s with heap:=h',gens:=g',drawn:=d',toks:=t'}:=by
 have neL:∀b o,X.s₀.heap.get? b=some o→b≠X.env.locals:=fun b o e=>A6 (AC (Ap e) I.ok.above)
 have neC:∀b o,X.s₀.heap.get? b=some o→b∉X.ex→b∉ch:=fun b o e hx hb=>by
  rcases (hch b hb).1 with z |z
  ·exact hx z
  ·exact absurd (AC (Ap e) z) (BO _)
 have cellK:∀x c,X.env.cells.lookup x=some c→∀v,s.heap.IsCell c v→h'.IsCell c v:=fun x c e v z1_=>by
  obtain ⟨o,ho,hd⟩:=z1_
  have nch:c∉ch:=fun z=>(hch c z).2.2.1 x c e rfl
  by_cases hc:c∈X.fs
  ·obtain ⟨sl,q⟩:=slot c o (I.cne x c e) hc nch ho (I.freeC x c e)
   exact ⟨_,q,hd⟩
  ·exact ⟨o,keep c o (I.cne x c e) hc nch ho (I.freeC x c e),hd⟩
 refine ⟨I.ok,I.os,hg,⟨fun b o e n hb hx=>?_,fun b o e n hb hx=>?_,fun b o e n hx=>?_,fun b o e hx=>?_,fun b xs e=>tups b xs (I.base.tups b xs e),fun b o xs e=>frzs b o xs (I.base.frzs b o xs e),fun b ps e=>?_⟩,?_,fun x c e=>?_,?_,fun x c e=>?_,fun p hp=>?_,hok,I.len⟩
 ·exact keep b o (neL b o e) hb (neC b o e hx) (I.base.keep b o e n hb hx) (I.base.free b o e n hx)
 ·obtain ⟨sl,e1⟩:=I.base.slot b o e n hb hx
  obtain ⟨sl',e2⟩:=slot b _ (neL b o e) hb (neC b o e hx) e1 (I.base.free b o e n hx)
  exact ⟨sl',e2⟩
 ·obtain ⟨o',e1⟩:=I.base.there b o e hx
  exact free b o' (neC b o e hx) e1 (I.base.free b o e n hx)
 ·obtain ⟨o',e1⟩:=I.base.there b o e hx
  exact there b o' (neC b o e hx) e1
 ·obtain ⟨m1,e1⟩:=I.base.tbls b ps e
  obtain ⟨m2,e2⟩:=tbls b _ e1
  exact ⟨m1++m2,by rw [e2,Array.append_assoc]⟩
 ·obtain ⟨m,hn,hl⟩:=I.loc
  refine ⟨m,ns m hn,fun i x v e1 e2 e3=>?_⟩
  obtain ⟨u,r,l⟩:=hl i x v e1 e2 e3
  refine ⟨u,r,?_⟩
  rcases l with l |⟨k,c,e,z⟩
  ·exact .inl l
  ·exact .inr ⟨k,c,e,cellK x c e _ z⟩
 ·obtain ⟨v,z⟩:=I.cell x c e
  exact ⟨v,cellK x c e v z⟩
 ·obtain ⟨m,⟨o,_,_,ho,_⟩,_⟩:=I.loc
  exact free _ o (fun z=>(hch _ z).2.1 rfl) ho I.free
 ·obtain ⟨v,o,ho,hd⟩:=I.cell x c e
  exact free c o (fun z=>(hch c z).2.2.1 x c e rfl) ho (I.freeC x c e)
 ·obtain ⟨e,n,ne,nf,d⟩:=I.pin p hp
  have nch:p.1∉ch:=fun z=>(hch p.1 z).2.2.2 p hp rfl
  exact ⟨keep p.1 p.2 ne nf nch e n,free p.1 p.2 nch e n,ne,nf,d⟩
theorem Inv.un {t':Nat} (I:Inv X pins σ H s) (u:Un X.fs [] H H' s.heap h') (hok:HOk X.prog X.w H' h'):Inv X pins σ H' {s with heap:=h',toks:=t'}:=by
 obtain ⟨m,⟨o,es,ep,ho,r⟩,_⟩:=id I.loc
 obtain ⟨sl,hL⟩:=u.any ho I.free (by simp)
 exact I.step (g':=s.gens) (d':=s.drawn) (ch:=[]) (fun _ z=>nomatch z) (fun b o _ hb _ e n=>u.keep b o e n hb (by simp)) (fun b o _ hb _ e n=>u.slot b o e n hb (by simp)) (fun b o _ e n=>u.free b o e n (by simp)) (fun b o _ e=>u.there b o e (by simp)) u.tups u.frzs u.tbls (fun m' hm=>by
  obtain ⟨o',es',ep',ho',r'⟩:=hm
  rw [ho] at ho';cases ho'
  exact ⟨_,es',ep',hL,r'⟩) hok I.bare
theorem Inv.call {g':Array GenState} {t':Nat} {d':Drawn} {ch:List Addr} (I:Inv X pins σ H s) (u:Un (frs X.stack) ch H H' s.heap h') (hok:HOk X.prog X.w H' h') (hg:AllBare g')
 (hch:∀b∈ch,(b∈X.ex∨X.s₀.heap.objs.size≤b)∧b≠X.env.locals∧(∀x c,X.env.cells.lookup x=some c→c≠b)∧∀p∈X.pn++pins,p.1≠b):
 Inv X pins σ H' {s with heap:=h',gens:=g',drawn:=d',toks:=t'}:=by
 obtain ⟨m,⟨o,es,ep,ho,r⟩,_⟩:=id I.loc
 obtain ⟨sl,hL⟩:=u.any ho I.free fun z=>(hch _ z).2.1 rfl
 exact I.step (ch:=ch) hch (fun b o hL hb hc e n=>u.keep b o e n (fun z=>(qa6.mp (I.stkSub b z)).elim hL hb) hc) (fun b o _ _ hc e n=>u.any e n hc) (fun b o hc e n=>u.free b o e n hc) (fun b o hc e=>u.there b o e hc) u.tups u.frzs u.tbls (fun m' hm=>by
  obtain ⟨o',es',ep',ho',r'⟩:=hm
  rw [ho] at ho';cases ho'
  exact ⟨_,es',ep',hL,r'⟩) hok hg
theorem Inv.turned {t':Nat} {it:Addr} (I:Inv X pins σ H s) (k:∀b o,b≠it→s.heap.get? b=some o→h'.get? b=some o) (hn:H it=none) (hL:it≠X.env.locals)
 (h1:it∈X.ex∨X.s₀.heap.objs.size≤it) (h2:∀x c,X.env.cells.lookup x=some c→c≠it) (h3:∀p∈X.pn++pins,p.1≠it):Inv X pins σ H {s with heap:=h',toks:=t'}:=by
 have nit:∀b u,H b=some u→b≠it:=fun b u e z=>by rw [z,hn] at e;cases e
 refine I.step (g':=s.gens) (d':=s.drawn) (ch:=[it]) (fun b hb=>?_) (fun b o _ _ hc e _=>k b o (fun z=>hc (by simp [z])) e) (fun b o _ _ hc e _=>⟨o.slots,k b o (fun z=>hc (by simp [z])) e⟩) (fun _ _ _ _ n=>n)
  (fun b o hc e=>⟨o,k b o (fun z=>hc (by simp [z])) e⟩) (fun _ _ e=>e) (fun _ _ _ e=>e) (fun b ps e=>⟨#[],by rw [e];simp⟩) (fun m hm=>?_) (fun b u e=>?_) I.bare
 ·have e:b=it:=by simpa using hb
  subst e
  exact ⟨h1,hL,h2,h3⟩
 ·obtain ⟨o,es,ep,ho,r⟩:=hm
  exact ⟨o,es,ep,k _ o (Ne.symm hL) ho,r⟩
 ·refine (I.hok b u e).stay (fun c v hc q=>k c v ?_ q) (fun _ q=>q) fun _ _ q=>q
  rcases hc with z |z
  ·rw [z];exact nit b u e
  ·exact nit c _ z
theorem Inv.tok (I:Inv X pins σ H s) (t:Nat):Inv X pins σ H {s with toks:=t}:=I.un (h':=s.heap) (t':=t) Un.refl I.hok
theorem Inv.kept {t':Nat} (I:Inv X pins σ H s) (k:∀b u,s.heap.get? b=some u→h'.get? b=some u):Inv X pins σ H {s with heap:=h',toks:=t'}:=I.un (Un.kept k) (I.hok.kept k)
theorem Inv.laid {a:Addr} {o:HO} {t':Nat} (I:Inv X pins σ H s) (k:∀b u,s.heap.get? b=some u→h'.get? b=some u) (hp:s.heap.objs.size≤a) (new:ObjOk X.prog X.w (Ag H a o) h' a o):
 Inv X pins σ (Ag H a o) {s with heap:=h',toks:=t'}:=I.un (Un.laid k hp (I.hok.fresh hp)) (I.hok.laid k hp new)
theorem Inv.write {x e:Addr} {o:HO} {t':Nat} (I:Inv X pins σ H s) (mu:EU (H x)) (he:e=x∨H e=some (.own x)) (k:∀b u,b≠e→s.heap.get? b=some u→h'.get? b=some u) (heo:∃u,h'.get? e=some u)
 (new:ObjOk X.prog X.w (Ag H x o) h' x o):Inv X pins σ (Ag H x o) {s with heap:=h',toks:=t'}:=I.un (Un.write mu he k heo) (I.hok.write mu he k heo new)
theorem Inv.weak {σ':List (Option V)} (I:Inv X pins σ H s) (hl:σ'.length=σ.length) (w:∀(i:Nat) v,σ'[i]?=some (some v)→σ[i]?=some (some v)):Inv X pins σ' H s:=
 ⟨I.ok,I.os,I.bare,I.base,let ⟨m,hn,hl'⟩:=I.loc;⟨m,hn,fun i x v e1 e2 e3=>hl' i x v e1 (w i v e2) e3⟩,I.cell,I.free,I.freeC,I.pin,I.hok,hl.trans I.len⟩
theorem Inv.pins_of {pins':List (Addr×Obj)} (I:Inv X pins σ H s) (h:∀p∈pins',s.heap.get? p.1=some p.2∧H p.1=none∧p.1≠X.env.locals∧p.1∉X.fs∧∀v,p.2.data≠.cell v):Inv X pins' σ H s:=
 ⟨I.ok,I.os,I.bare,I.base,I.loc,I.cell,I.free,I.freeC,fun p hp=>(qb7.mp hp).elim (fun z=>I.pin p (Gu _ z)) (h p),I.hok,I.len⟩
theorem HQ {N:List Str} (hN:N.Nodup) {i j:Nat} {x:Str} (a:N[i]?=some x) (b:N[j]?=some x):i=j:=by
 obtain ⟨h1,e1⟩:=qa7.mp a
 obtain ⟨h2,e2⟩:=qa7.mp b
 exact (List.getElem_inj hN).mp (e1.trans e2.symm)
theorem Lq {M:Model} {A:Around} {E:Value→Shared→Prop} {i:Nat} {x:Str} {v:V} {u:Value} {Q:Unit→Shared→Prop} (I:Inv X pins σ H s) (hN:X.N.Nodup) (hi:X.N[i]?=some x) (hx:D3 X.env.scope x) (r:RelV v u)
 (h:∀s',Inv X pins (σ.set i (some v)) H s'→(∃a,Heap.SameBut a s.heap s'.heap∧(a=X.env.locals∨X.env.cells.lookup x=some a))→Q () s') (hf:X.fn x=true∨X.env.scope.names.lookup x=some .local:=by first |exact .inl rfl |exact .inr rfl |assumption):wpAny M A (storeName X.env x u) Q E s:=by
 obtain ⟨m,hn,hl⟩:=id I.loc
 have hcls:(X.env.scope.kind==.class||(X.env.scope.kind==.module&&X.env.locals != X.env.globals))=false:=by rw [I.ok.kind];rfl
 have hiσ:i < σ.length:=by rw [I.len];exact (qa7.mp hi).1
 have cne:=I.cne
 have tracked:∀{a:Addr} {h':Heap},(∃o,s.heap.get? a=some o∧H a=none)→Heap.SameBut a s.heap h'→HOk X.prog X.w H h':=fun {a h'} ha hs b ob e=>by
  obtain ⟨_,_,hfree⟩:=ha
  refine (I.hok b ob e).stay (fun c w' hc q=>(hs.2 c ?_).trans q) (fun _ q=>q) fun _ _ q=>q
  rintro rfl
  rcases hc with rfl |hc
  ·rw [hfree] at e;cases e
  ·rw [hfree] at hc;cases hc
 rcases hx with hk |hk
 ·refine wpAny_storeName_local hk hn (fun h' hn' hs=>?_) hcls
  obtain ⟨oL,_,_,hoL,_⟩:=id hn
  refine h _ ⟨I.ok,I.os,I.bare,⟨fun b o e n hb hx=>?_,fun b o e n hb hx=>?_,I.base.free,fun b o e hx=>?_,I.base.tups,I.base.frzs,I.base.tbls⟩,⟨_,hn',fun j y v' e1 e2 e3=>?_⟩,fun y c e=>?_,I.free,I.freeC,fun p hp=>?_,tracked ⟨oL,hoL,I.free⟩ hs,by simpa using I.len⟩ ⟨_,hs,.inl rfl⟩
  ·exact (hs.2 b (A6 (AC (Ap e) I.ok.above))).trans (I.base.keep b o e n hb hx)
  ·obtain ⟨sl,e1⟩:=I.base.slot b o e n hb hx
   exact ⟨sl,(hs.2 b (A6 (AC (Ap e) I.ok.above))).trans e1⟩
  ·obtain ⟨o',e1⟩:=I.base.there b o e hx
   exact ⟨o',(hs.2 b (A6 (AC (Ap e) I.ok.above))).trans e1⟩
  ·by_cases hj:j=i
   ·subst hj
    rw [hi] at e1;cases e1
    rw [Dt hiσ] at e2
    cases e2
    exact ⟨u,r,.inl ⟨hk,by simp⟩⟩
   ·rw [CB (Ne.symm hj)] at e2
    obtain ⟨u',r',q⟩:=hl j y v' e1 e2 e3
    refine ⟨u',r',?_⟩
    rcases q with ⟨k,e⟩ |⟨k,c,e,z⟩
    ·refine .inl ⟨k,?_⟩
     have:y≠x:=fun e=>hj (HQ hN e1 (e ▸ hi))
     simp [this,e]
    ·exact .inr ⟨k,c,e,z.sameBut hs (cne y c e)⟩
  ·obtain ⟨w',z⟩:=I.cell y c e
   exact ⟨w',z.sameBut hs (cne y c e)⟩
  ·obtain ⟨e,n,ne,nf,d⟩:=I.pin p hp
   exact ⟨(hs.2 p.1 ne).trans e,n,ne,nf,d⟩
 ·have hfn:X.fn x=true:=by
   rcases hf with z |z
   ·exact z
   ·rw [z] at hk;cases hk
  obtain ⟨c,hc⟩:=I.ok.has x (.inl hk)
  obtain ⟨w',z⟩:=I.cell x c hc
  refine wpAny_storeName_cell I.ok.kind hk hc z (fun h' hc' hs=>?_)
  obtain ⟨oc,hoc,hocd⟩:=id z
  refine h {s with heap:=h'} ⟨I.ok,I.os,I.bare,⟨fun b o e n hb hx=>?_,fun b o e n hb hx=>?_,I.base.free,fun b o e hx=>?_,I.base.tups,I.base.frzs,I.base.tbls⟩,⟨m,hn.sameBut hs (Ne.symm (cne x c hc)),fun j y v' e1 e2 e3=>?_⟩,fun y c' e=>?_,I.free,I.freeC,fun p hp=>?_,tracked ⟨oc,hoc,I.freeC x c hc⟩ hs,by simpa using I.len⟩ ⟨c,hs,.inr hc⟩
  ·exact (hs.2 b (A6 (AC (Ap e) (I.ok.cab x c hfn hc)))).trans (I.base.keep b o e n hb hx)
  ·obtain ⟨sl,e1⟩:=I.base.slot b o e n hb hx
   exact ⟨sl,(hs.2 b (A6 (AC (Ap e) (I.ok.cab x c hfn hc)))).trans e1⟩
  ·obtain ⟨o',e1⟩:=I.base.there b o e hx
   exact ⟨o',(hs.2 b (A6 (AC (Ap e) (I.ok.cab x c hfn hc)))).trans e1⟩
  ·by_cases hj:j=i
   ·subst hj
    rw [hi] at e1;cases e1
    rw [Dt hiσ] at e2
    cases e2
    exact ⟨u,r,.inr ⟨.inl hk,c,hc,hc'⟩⟩
   ·rw [CB (Ne.symm hj)] at e2
    obtain ⟨u',r',q⟩:=hl j y v' e1 e2 e3
    refine ⟨u',r',?_⟩
    rcases q with q |⟨k,c',e,z'⟩
    ·exact .inl q
    ·refine .inr ⟨k,c',e,z'.sameBut hs ?_⟩
     rintro rfl
     exact hj (HQ hN e1 (I.ok.inj _ _ _ e hc ▸ hi))
  ·by_cases hcc:c'=c
   ·subst hcc;exact ⟨_,hc'⟩
   ·obtain ⟨w2,z2⟩:=I.cell y c' e
    exact ⟨w2,z2.sameBut hs hcc⟩
  ·obtain ⟨e,n,ne,nf,d⟩:=I.pin p hp
   refine ⟨(hs.2 p.1 ?_).trans e,n,ne,nf,d⟩
   intro q
   rw [q,hoc] at e
   have q':oc=p.2:=Option.some.inj e
   exact d w' (by rw [←q'];exact hocd)
theorem EW {M:Model} {A:Around} {E:Value→Shared→Prop} {i:Nat} {x:Str} {v:V} {u:Value} {Q:Unit→Shared→Prop} (I:Inv X pins σ H s) (hN:X.N.Nodup) (hi:X.N[i]?=some x) (hx:D3 X.env.scope x) (r:RelV v u)
 (h:∀s',Inv X pins (σ.set i (some v)) H s'→Q () s') (hf:X.fn x=true∨X.env.scope.names.lookup x=some .local:=by first |exact .inl rfl |exact .inr rfl |assumption):wpAny M A (storeName X.env x u) Q E s:=
 Lq I hN hi hx r (fun s' I' _=>h s' I') hf
theorem Inv.call' {s':Shared} {ch:List Addr} (I:Inv X pins σ H s) (ho:s'.os=s.os) (u:Un (frs X.stack) ch H H' s.heap s'.heap) (hok:HOk X.prog X.w H' s'.heap) (hg:AllBare s'.gens)
 (hch:∀b∈ch,(b∈X.ex∨X.s₀.heap.objs.size≤b)∧b≠X.env.locals∧(∀x c,X.env.cells.lookup x=some c→c≠b)∧∀p∈X.pn++pins,p.1≠b):Inv X pins σ H' s':=by
 obtain ⟨h',g',d',t',o'⟩:=s'
 have e:o'=s.os:=ho
 subst e
 exact I.call (g':=g') (t':=t') (d':=d') u hok hg hch
end
abbrev XK:=Value→Option Addr→Hp→Prop
abbrev St:=List (Option V)
abbrev VK:=V→Hp→Prop
abbrev TE:=St→Hp→VK→Prop
abbrev TT:=St→Hp→(Bool→Hp→Prop)→Prop
abbrev TA:=St→Hp→(List V→Hp→Prop)→Prop
structure BG where
 nx:St→Hp→Prop
 rt:VK
 bk:St→Hp→Prop:=fun _ _=>False
 ct:St→Hp→Prop:=fun _ _=>False
abbrev TS:=BG→St→Hp→Prop
inductive EP (X:Cx) (pins:List (Addr×Obj)) (σ:St) (Q:VK) (u:Value) (s':Shared):Prop where
 |mk (v:V) (H':Hp) (i:Inv X pins σ H' s') (r:RelV v u) (q:Q v H'):EP X pins σ Q u s'
inductive TP (X:Cx) (pins:List (Addr×Obj)) (σ:St) (Q:Bool→Hp→Prop) (b:Bool) (s':Shared):Prop where
 |mk (H':Hp) (i:Inv X pins σ H' s') (q:Q b H'):TP X pins σ Q b s'
inductive AP (X:Cx) (pins:List (Addr×Obj)) (σ:St) (Q:List V→Hp→Prop) (us:List Value) (s':Shared):Prop where
 |mk (vs:List V) (H':Hp) (i:Inv X pins σ H' s') (r:Vals vs us) (q:Q vs H'):AP X pins σ Q us s'
inductive SN (X:Cx) (pins:List (Addr×Obj)) (q:St→Hp→Prop) (s':Shared):Prop where
 |mk (σ':St) (H':Hp) (i:Inv X pins σ' H' s') (p:q σ' H'):SN X pins q s'
inductive SR (X:Cx) (pins:List (Addr×Obj)) (q:V→Hp→Prop) (u:Value) (s':Shared):Prop where
 |mk (v:V) (σ':St) (H':Hp) (i:Inv X pins σ' H' s') (r:RelV v u) (p:q v H'):SR X pins q u s'
def SP (X:Cx) (pins:List (Addr×Obj)) (D:BG) (f:Flow) (s':Shared):Prop:=
 match f with
 |.next=>SN X pins D.nx s'
 |.brk=>SN X pins D.bk s'
 |.cont=>SN X pins D.ct s'
 |.ret u=>SR X pins D.rt u s'
def PE (X:Cx) (e:Expr) (t:TE):Prop:=
 ∀(pins:List (Addr×Obj)) (s:Shared) (σ:St) (H:Hp) (Q:VK),Inv X pins σ H s→t σ H Q→wpAny (model X.prog X.w) X.A (eval e X.env) (EP X pins σ Q) X.xe s
def PT (X:Cx) (e:Expr) (t:TT):Prop:=
 ∀(pins:List (Addr×Obj)) (s:Shared) (σ:St) (H:Hp) (Q:Bool→Hp→Prop),Inv X pins σ H s→t σ H Q→wpAny (model X.prog X.w) X.A (isTrue e X.env (eval e X.env)) (TP X pins σ Q) X.xe s
def PW (X:Cx) (e:Expr) (t:TT):Prop:=
 ∀(Cn:Sem Value) (pins:List (Addr×Obj)) (s:Shared) (σ:St) (H:Hp) (Q:Bool→Hp→Prop),Inv X pins σ H s→t σ H Q→wpAny (model X.prog X.w) X.A (isTrue e X.env Cn) (TP X pins σ Q) X.xe s
theorem PW.pt {X:Cx} {e:Expr} {t:TT} (h:PW X e t):PT X e t:=h _
def PA (X:Cx) (es:List Expr) (t:TA):Prop:=
 ∀(pos:Pos) (pins:List (Addr×Obj)) (s:Shared) (σ:St) (H:Hp) (Q:List V→Hp→Prop),Inv X pins σ H s→t σ H Q→wpAny (model X.prog X.w) X.A (spliced (backTo pos (starEach es X.env))) (AP X pins σ Q) X.xe s
def PS (X:Cx) (st:Stmt) (t:TS):Prop:=
 ∀(pins:List (Addr×Obj)) (s:Shared) (σ:St) (H:Hp) (D:BG),Inv X pins σ H s→t D σ H→wpAny (model X.prog X.w) X.A (exec st X.env) (SP X pins D) X.xe s
def BQ (X:Cx) (st:List Stmt) (t:TS):Prop:=
 ∀(pins:List (Addr×Obj)) (s:Shared) (σ:St) (H:Hp) (D:BG),Inv X pins σ H s→t D σ H→wpAny (model X.prog X.w) X.A (execs st X.env) (SP X pins D) X.xe s
theorem Am {α:Type} {t:Sem α} {Q Q':α→Shared→Prop} {M:Model} {A:Around} {E:Value→Shared→Prop} {s:Shared} (h:wpAny M A t Q E s) (hQ:∀a s,Q a s→Q' a s):wpAny M A t Q' E s:=wpAny_mono h hQ fun _ _ x=>x
section
variable {X:Cx}
def Gx (i:Nat):TE:=fun σ H Q=>∃v,σ[i]?=some (some v)∧Q v H
def tC (v:V):TE:=fun _ H Q=>Q v H
theorem D4 {i:Nat} {x:Str} {pos:Pos} (hN:X.N[i]?=some x) (hv:BP X.env.scope x) (hd:(x==("__debug__":Str))=false:=by decide) (hcd:(x==("__classdict__":Str))=false:=by decide):PE X (.Name x pos) (Gx i):=by
 intro pins s σ H Q I h
 obtain ⟨v,e,h⟩:=h
 obtain ⟨m,hn,hl⟩:=I.loc
 obtain ⟨u,r,l⟩:=hl i x v hN e hv
 have Aq:EP X pins σ Q u s:=⟨v,H,I,r,h⟩
 rcases l with ⟨hk,hm⟩ |⟨hk,c,hc,hcell⟩
 ·exact wpAny_Name (wpAny_loadName_local I.ok.kind hk hn hm Aq) hd
 ·rcases hk with hk |hk
  ·exact wpAny_Name (wpAny_loadName_cell I.ok.kind hk hc hcell Aq) hd
  ·exact wpAny_Name (wpAny_loadName_free I.ok.kind hk hc hcell Aq hcd) hd
theorem Lr {i j pos}:PE X (.Constant (.int i) j pos) (tC (.int i)):=fun _ _ _ H _ I h=>wpAny_Constant_int ⟨.int i,H,I.tok _,⟨_,rfl⟩,h⟩
theorem Ls {b j pos}:PE X (.Constant (.bool b) j pos) (tC (.bl b)):=fun _ _ _ H _ I h=>Constant_bool ⟨.bl b,H,I,rfl,h⟩
theorem Lu {x j pos}:PE X (.Constant (.str x) j pos) (tC (.str x)):=fun _ _ _ H _ I h=>Calls.Constant_str ⟨.str x,H,I.tok _,⟨_,rfl⟩,h⟩
def Gl (X:Cx) (x:Str):Prop:=X.env.kindOf x=some .globalImplicit
theorem D5 {E:Value→Shared→Prop} {pins:List (Addr×Obj)} {s:Shared} {σ:St} {H:Hp} {x:Str} {u:Value} {pos:Pos} {Q:Value→Shared→Prop} (I:Inv X pins σ H s) (hg:Gl X x) (hm:X.mg x=some u) (h:Q u s)
 (hd:(x==("__debug__":Str))=false:=by decide):wpAny (model X.prog X.w) X.A (eval (.Name x pos) X.env) Q E s:=
 Calls.Name_function_global I.ok.kind hg (Calls.loadGlobal_global (by rw [I.ok.glob];exact I.mod.glob.keeps I.bk) hm h) hd
theorem EX {E:Value→Shared→Prop} {pins:List (Addr×Obj)} {s:Shared} {σ:St} {H:Hp} {x:Str} {u:Value} {pos:Pos} {Q:Value→Shared→Prop} (I:Inv X pins σ H s) (hg:Gl X x) (hm:X.mg x=none) (hv:bootBuiltins x=some u) (h:Q u s)
 (hn:x≠"__name__":=by decide) (hd:(x==("__debug__":Str))=false:=by decide):wpAny (model X.prog X.w) X.A (eval (.Name x pos) X.env) Q E s:=by
 obtain ⟨mb,h1,h2⟩:=I.mod.blt
 exact Calls.Name_function_global I.ok.kind hg (Calls.loadGlobal_builtin (by rw [I.ok.glob];exact I.mod.glob.keeps I.bk) hm (by rw [I.ok.blt];exact h1.keeps I.bk) ((h2 x hn).trans hv) h) hd
theorem Lw {x:Str} {v:V} {u:Value} {pos:Pos} (hg:Gl X x) (hm:X.mg x=none) (hv:bootBuiltins x=some u) (r:RelV v u) (hn:x≠"__name__":=by decide) (hd:(x==("__debug__":Str))=false:=by decide):PE X (.Name x pos) (tC v):=
 fun _ _ _ H _ I h=>EX I hg hm hv ⟨v,H,I,r,h⟩ hn hd
variable {a b:Expr} {ta tb:TE} {pos:Pos}
variable {tA tB':TT} {rest:List Expr}
def Lx (t u:TT):TT:=fun σ H Q=>t σ H fun c H1=>if c=true then Q true H1 else u σ H1 Q
def Ly (t:TT):TT:=fun σ H Q=>t σ H fun c H1=>Q (!c) H1
theorem Lz (ha:PT X a tA):PW X (.BoolOp .Or [a] pos) tA:=by
 intro wh pins s σ H Q I h
 refine isTrue_or (Am (ha pins s σ H Q I h) fun c s1 e=>?_)
 cases c with
 |false=>exact isTrue_or_nil e
 |true=>exact e
theorem LA (ha:PT X a tA) (hb:PW X (.BoolOp .Or (b::rest) pos) tB'):PW X (.BoolOp .Or (a::b::rest) pos) (Lx tA tB'):=by
 intro wh pins s σ H Q I h
 refine isTrue_or (Am (ha pins s σ H _ I h) fun c s1 z9_=>?_)
 obtain ⟨H1,I1,q1⟩:=z9_
 cases c with
 |true=>exact ⟨H1,I1,q1⟩
 |false=>exact hb wh pins s1 σ H1 Q I1 q1
theorem LC (ha:PT X a tA):PT X (.UnaryOp .Not a pos) (Ly tA):=by
 intro pins s σ H Q I h
 exact isTrue_not (Am (ha pins s σ H (fun c H1=>Q (!c) H1) I h) fun c s1 z=>by cases z with |mk H1 I1 q=>exact ⟨H1,I1,q⟩)
def Q7 (ta tb:TE):TE:=fun σ H Q=>ta σ H fun x H1=>∃c,x=.bl c∧if c=true then tb σ H1 Q else Q (.bl false) H1
def Q8 (ta tb:TE):TE:=fun σ H Q=>ta σ H fun x H1=>∃c,x=.bl c∧if c=true then Q (.bl true) H1 else tb σ H1 Q
def Q9 (ta:TE):TE:=fun σ H Q=>ta σ H fun x H1=>∃c,x=.bl c∧Q (.bl (!c)) H1
def Ra (t:TT) (ta tb:TE):TE:=fun σ H Q=>t σ H fun c H1=>if c=true then ta σ H1 Q else tb σ H1 Q
end
def SqL (K:PySem.W.Frag) (H:Hp) (a:Addr) (xs:List V):Prop:=
 Rd H a (.lst xs)∨
  ∃(o:Obj) (its:Array Value) (n:Nat),K.lookup a=some o∧o.cls=.type "list"∧o.dict=none∧o.data=.seq its n∧its.size≤sizeLine∧Vals xs its.toList
def SqT (K:PySem.W.Frag) (H:Hp) (a:Addr) (xs:List V):Prop:=
 Rd H a (.tup xs)∨
  ∃(o:Obj) (its:Array Value) (n:Nat),K.lookup a=some o∧o.cls=.type "tuple"∧o.data=.seq its n∧its.size≤sizeLine∧Vals xs its.toList
def LD:Value→Option V
 |.none=>some .non
 |.bool b=>some (.bl b)
 |.int i _=>some (.int i)
 |.str x _=>some (.str x)
 |.bytes b _=>some (.byt b)
 |.float b _=>some (.flt b)
 |.ref a=>some (.ref a)
 |.type n=>some (.ty n)
 |_=>none
theorem RelV.abs {x:V} {u:Value} (r:RelV x u):LD u=some x:=by
 cases x with
 |non=>cases r;rfl
 |bl _=>cases r;rfl
 |int _=>obtain ⟨t,rfl⟩:=r;rfl
 |str _=>obtain ⟨t,rfl⟩:=r;rfl
 |byt _=>obtain ⟨t,rfl⟩:=r;rfl
 |flt _=>obtain ⟨t,rfl⟩:=r;rfl
 |ref _=>cases r;rfl
 |ty _=>cases r;rfl
theorem RelV.inj {x y:V} {u:Value} (r:RelV x u) (q:RelV y u):x=y:=Option.some.inj (r.abs.symm.trans q.abs)
theorem Vals.inj {xs ys:List V} {us:List Value} (h:Vals xs us) (g:Vals ys us):xs=ys:=by
 induction h generalizing ys with
 |nil=>cases g;rfl
 |cons r t ih=>cases g with |cons r' t'=>rw [r.inj r',ih t']
section
variable {X:Cx} {pins:List (Addr×Obj)} {σ:St} {H:Hp} {s:Shared} {a:Addr} {xs ys:List V}
theorem SqL.of {K:PySem.W.Frag} (h:H a=some (.lst xs)):SqL K H a xs:=.inl (.inl h)
theorem SqT.of {K:PySem.W.Frag} (h:H a=some (.tup xs)):SqT K H a xs:=.inl (.inl h)
theorem Inv.list (I:Inv X pins σ H s) (h:SqL X.K H a xs):∃its:List Value,Vals xs its∧PlainL s.heap a its.toArray∧xs.length≤sizeLine:=by
 rcases h with h |⟨o,its,n,hk,hc,hd,hs,hz,r⟩
 ·obtain ⟨z,its,n,r,e⟩:=h.ok I.hok
  exact ⟨its,r,⟨_,n,e,rfl,rfl,rfl⟩,z⟩
 ·refine ⟨its.toList,r,⟨o,n,I.kIn a o hk,hc,hd,by simpa using hs⟩,?_⟩
  have e:=r.length
  simp only [Array.length_toList] at e
  omega
theorem Inv.tuple (I:Inv X pins σ H s) (h:SqT X.K H a xs):∃its:List Value,Vals xs its∧IsTup s.heap a its.toArray∧xs.length≤sizeLine:=by
 rcases h with h |⟨o,its,n,hk,hc,hs,hz,r⟩
 ·obtain ⟨z,its,r,p,_⟩:=h.ok I.hok
  exact ⟨its,r,p,z⟩
 ·refine ⟨its.toList,r,⟨o,I.kIn a o hk,hc,n,by simpa using hs⟩,?_⟩
  have e:=r.length
  simp only [Array.length_toList] at e
  omega
theorem Inv.list_inj (I:Inv X pins σ H s) (h:SqL X.K H a xs) (h':SqL X.K H a ys):xs=ys:=by
 obtain ⟨its,r,⟨o,n,e,_,_,d⟩,_⟩:=I.list h
 obtain ⟨its',r',⟨o',n',e',_,_,d'⟩,_⟩:=I.list h'
 rw [e] at e';cases e'
 rw [d] at d'
 injection d' with d1 _
 have:its=its':=by simpa using congrArg Array.toList d1
 subst this
 exact r.inj r'
end
section
variable {X:Cx} {pins:List (Addr×Obj)} {σ:St} {H:Hp} {s:Shared} {E:Value→Shared→Prop}
end
section
variable {X:Cx} {st:Stmt} {rest:List Stmt} {t u:TS} {e:Expr} {te:TE} {pos:Pos}
def LG:TS:=fun D σ H=>D.nx σ H
def LH (t u:TS):TS:=fun D σ H=>t {D with nx:=u D} σ H
theorem LI:BQ X [] LG:=fun _ _ σ H _ I h=>wpAny_execs_nil ⟨σ,H,I,h⟩
theorem Gy (h1:PS X st t) (h2:BQ X rest u):BQ X (st::rest) (LH t u):=by
 intro pins s σ H D I h
 refine wpAny_execs_cons (Am (h1 pins s σ H {D with nx:=u D} I h) fun f s1 q=>?_)
 cases f with
 |next=>
  obtain ⟨σ',H',I',q⟩:=q
  exact h2 pins s1 σ' H' D I' q
 |ret v=>exact q
 |brk=>exact q
 |cont=>exact q
theorem HU (h1:PS X st t):BQ X [st] t:=by
 intro pins s σ H D I h
 refine wpAny_execs_cons (Am (h1 pins s σ H D I h) fun f s1 q=>?_)
 cases f with
 |next=>exact wpAny_execs_nil q
 |ret v=>exact q
 |brk=>exact q
 |cont=>exact q
theorem Inv.quiet {pins:List (Addr×Obj)} {σ:St} {H:Hp} {s:Shared} (I:Inv X pins σ H s):interactive X.env=false:=by simp [interactive,I.ok.kind]
def LJ (te:TE):TS:=fun D σ H=>te σ H fun _ H1=>D.nx σ H1
theorem LL (he:PE X e te) (hs:swapsWith e none pos.line X.env=pure false:=by rfl):PS X (.Expr e pos) (LJ te):=by
 intro pins s σ H D I h
 exact wpAny_Expr_any (Am (he pins s σ H _ I h) fun v s1 z16_=>by obtain ⟨x,H1,I1,r1,q1⟩:=z16_;exact (⟨σ,H1,I1,q1⟩)) I.quiet hs
def LM (te:TE):TS:=fun D σ H=>te σ H D.rt
theorem LN (he:PE X e te):PS X (.Return (some e) pos) (LM te):=by
 intro pins s σ H D I h
 exact wpAny_Return_some (Am (he pins s σ H _ I h) fun v s1 z17_=>by obtain ⟨x,H1,I1,r1,q1⟩:=z17_;exact (⟨x,σ,H1,I1,r1,q1⟩))
def LO (c:TT) (t u:TS):TS:=fun D σ H=>c σ H fun b H1=>if b=true then t D σ H1 else u D σ H1
theorem LP {c:Expr} {a b:List Stmt} {tc:TT} (hc:PT X c tc) (ha:BQ X a t) (hb:BQ X b u):PS X (.If c a b pos) (LO tc t u):=by
 intro pins s σ H D I h
 refine wpAny_If (Am (hc pins s σ H _ I h) fun d s1 z18_=>?_)
 obtain ⟨H1,I1,q1⟩:=z18_
 cases d with
 |true=>exact ha pins s1 σ H1 D I1 q1
 |false=>exact hb pins s1 σ H1 D I1 q1
def Rb:TS:=fun _ _ _=>False
end
abbrev TG:=V→St→Hp→(St→Hp→Prop)→Prop
abbrev CG:=List V→St→Hp→(St→Hp→Prop)→Prop
def PG (X:Cx) (target:Expr) (t:TG):Prop:=
 ∀(pins:List (Addr×Obj)) (s:Shared) (σ:St) (H:Hp) (v:V) (u:Value) (Q:St→Hp→Prop),Inv X pins σ H s→RelV v u→t v σ H Q→
  wpAny (model X.prog X.w) X.A (assign target X.env u) (fun _ s'=>SN X pins Q s') X.xe s
def EY (X:Cx) (ts:List Expr) (t:CG):Prop:=
 ∀(pins:List (Addr×Obj)) (s:Shared) (σ:St) (H:Hp) (vs:List V) (us:List Value) (Q:St→Hp→Prop),Inv X pins σ H s→Vals vs us→t vs σ H Q→
  wpAny (model X.prog X.w) X.A (assignInOrder ((assignEach ts X.env).map (·.2)) us) (fun _ s'=>SN X pins Q s') X.xe s
abbrev Gz:=V→V→V→Hp→(Hp→Prop)→Prop
def HV (X:Cx) (t:Gz):Prop:=
 ∀(pins:List (Addr×Obj)) (s:Shared) (σ:St) (H:Hp) (o i v:V) (ov iv u:Value) (Q:Hp→Prop),Inv X pins σ H s→RelV o ov→RelV i iv→RelV v u→t o i v H Q→
  wpAny (model X.prog X.w) X.A (setItem ov iv u) (fun _ s'=>∃H',Inv X pins σ H' s'∧Q H') X.xe s
section
variable {X:Cx} {pos:Pos}
def Br (i:Nat):TG:=fun v σ H Q=>Q (σ.set i (some v)) H
theorem Cr {i:Nat} {x:Str} (hN:X.N.Nodup) (hi:X.N[i]?=some x) (hx:D3 X.env.scope x) (hf:X.fn x=true∨X.env.scope.names.lookup x=some .local:=by first |exact .inl rfl |exact .inr rfl |assumption):PG X (.Name x pos) (Br i):=by
 intro pins s σ H v u Q I r h
 exact wpAny_assign_Name (EW I hN hi hx r (fun s' I'=>⟨_,H,I',h⟩) hf)
def DA:CG:=fun vs σ H Q=>vs=[]∧Q σ H
def B9 (t:TG) (u:CG):CG:=fun vs σ H Q=>∃v r,vs=v::r∧t v σ H fun σ' H'=>u r σ' H' Q
theorem LQ:EY X [] DA:=by
 intro pins s σ H vs us Q I r h
 obtain ⟨e,h⟩:=h
 subst e
 cases r
 exact assignInOrder_nil ⟨σ,H,I,h⟩
theorem HW {e:Expr} {es:List Expr} {t:TG} {u:CG} (h1:PG X e t) (h2:EY X es u)
 (hs:(assignEach (e::es) X.env).map (·.2)=assign e X.env::(assignEach es X.env).map (·.2):=by rfl):EY X (e::es) (B9 t u):=by
 intro pins s σ H vs us Q I r h
 obtain ⟨v,vr,e1,h⟩:=h
 subst e1
 cases r with
 |cons r rr=>
  rw [hs]
  refine assignInOrder_cons (Am (h1 pins s σ H _ _ _ I r h) fun _ s1 z19_=>?_)
  obtain ⟨σ1,H1,I1,q1⟩:=z19_
  exact h2 pins s1 σ1 H1 _ _ Q I1 rr q1
def D6 (K:PySem.W.Frag) (n:Nat) (t:CG):TG:=fun v σ H Q=>∃a xs,v=.ref a∧SqT K H a xs∧xs.length=n∧t xs σ H Q
theorem LR {es:List Expr} {k:Nat} {t:CG} {n:Nat} (hc:X.calm=true) (h:EY X es t)
 (hn:(assignEach es X.env).length=n:=by rfl) (hst:(assignEach es X.env).findIdx? (·.1)=none:=by rfl):PG X (.Tuple es k pos) (D6 X.K n t):=by
 intro pins s σ H v u Q I r hw
 obtain ⟨a,xs,e1,hq,hl,hw⟩:=hw
 subst e1
 cases r
 obtain ⟨its,rv,ht,hz⟩:=I.tuple hq
 refine assign_Tuple_tuple (I.ok.hd hc) ht (by simp [hn,←hl,rv.length]) hst fun h' hx=>?_
 have I1:Inv X pins σ H {s with heap:=h'}:=I.kept (t':=s.toks) fun b o e=>hx b o (A6 (Ap e)) e
 exact h pins _ σ H xs _ Q I1 (by simpa using rv) hw
def LU (to ti:TE) (t:Gz):TG:=fun v σ H Q=>to σ H fun o H1=>ti σ H1 fun i H2=>t o i v H2 fun H3=>Q σ H3
theorem LV {o i:Expr} {to ti:TE} {t:Gz} (ho:PE X o to) (hi:PE X i ti) (hs:HV X t)
 (ha:∀v,assign (.Subscript o i pos) X.env v=(do
  let ov ←holding [v] (eval o X.env)
  let iv ←holding [v,ov] (eval i X.env)
  standAt pos
  holding [v,ov,iv] (setItem ov iv v)
  release [v,ov,iv] []):=by intro _;rfl):PG X (.Subscript o i pos) (LU to ti t):=by
 intro pins s σ H v u Q I r h
 rw [ha]
 refine wpAny_bind (wpAny_holding (Am (ho pins s σ H _ I h) fun ov s1 z20_=>?_))
 obtain ⟨x,H1,I1,r1,q1⟩:=z20_
 refine wpAny_bind (wpAny_holding (Am (hi pins s1 σ H1 _ I1 q1) fun iv s2 z21_=>?_))
 obtain ⟨y,H2,I2,r2,q2⟩:=z21_
 refine wpAny_bind (wpAny_standAt (wpAny_bind (wpAny_holding (Am (hs pins s2 σ H2 x y v ov iv u _ I2 r1 r2 r q2) fun _ s3 z22_=>?_))))
 obtain ⟨H3,I3,q3⟩:=z22_
 exact wpAny_release ⟨σ,H3,I3,q3⟩
def HX (te:TE) (g:TG):TS:=fun D σ H=>te σ H fun x H1=>g x σ H1 D.nx
theorem HY {tg e:Expr} {te:TE} {g:TG} (he:PE X e te) (hg:PG X tg g) (hs:swapsWithSole [tg] e pos.line X.env=pure false:=by rfl) (hw:swappedStores [tg] e X.env=pure none:=by rfl)
 (h1:(assignEach [tg] X.env).map (·.2)=[assign tg X.env]:=by rfl):PS X (.Assign [tg] e pos) (HX te g):=by
 intro pins s σ H D I h
 refine wpAny_Assign_stores (Am (he pins s σ H _ I h) fun v s1 z23_=>?_) hs hw
 obtain ⟨x,H1,I1,r1,q1⟩:=z23_
 rw [h1]
 exact Am (hg pins s1 σ H1 x v _ I1 r1 q1) fun _ s2 q=>q
theorem LW {i:Nat} {x:Str} {e:Expr} {te:TE} {pos':Pos} (hN:X.N.Nodup) (hi:X.N[i]?=some x) (hx:D3 X.env.scope x) (he:PE X e te) (hs:swapsWith e (some (.Name x pos')) pos.line X.env=pure false:=by rfl) (hf:X.fn x=true∨X.env.scope.names.lookup x=some .local:=by first |exact .inl rfl |exact .inr rfl |assumption):
 PS X (.Assign [.Name x pos'] e pos) (HX te (Br i)):=by
 intro pins s σ H D I h
 refine wpAny_Assign_Name (Am (he pins s σ H _ I h) fun v s1 z24_=>?_) hs
 obtain ⟨y,H1,I1,r1,q1⟩:=z24_
 exact EW I1 hN hi hx r1 (fun s2 I2=>⟨_,H1,I2,q1⟩) hf
def LX (i j:Nat) (ta:TA):TS:=fun D σ H=>ta σ H fun vs H1=>∃v w,vs=[v,w]∧D.nx ((σ.set i (some v)).set j (some w)) H1
theorem LY {i j:Nat} {x y:Str} {a b:Expr} {ta:TA} {px py pt:Pos} {kt k2 pt2} (hc:X.calm=true) (hN:X.N.Nodup) (hi:X.N[i]?=some x) (hj:X.N[j]?=some y) (hij:i≠j)
 (hx:X.env.scope.names.lookup x=some .local) (hy:X.env.scope.names.lookup y=some .local) (ha:PA X [a,b] ta)
 (hw:swappedStores [.Tuple [.Name x px,.Name y py] kt pt] (.Tuple [a,b] k2 pt2) X.env=pure (some [x,y]))
 (hs:swapsWithSole [.Tuple [.Name x px,.Name y py] kt pt] (.Tuple [a,b] k2 pt2) pos.line X.env=pure false:=by rfl):
 PS X (.Assign [.Tuple [.Name x px,.Name y py] kt pt] (.Tuple [a,b] k2 pt2) pos) (LX i j ta):=by
 intro pins s σ H D I h
 rw [exec_Assign_arm]
 refine wpAny_bind (wpAny_standAt ?_)
 rw [hs]
 refine wpAny_bind (wpAny_pure ?_)
 rw [if_neg (by decide)]
 refine wpAny_bind (Tuple_ (Am (ha _ pins s σ H _ I h) fun us s1 z25_=>?_))
 obtain ⟨vs,H1,I1,r1,q1⟩:=z25_
 obtain ⟨v,w,e1,q1⟩:=q1
 subst e1
 obtain ⟨u1,u2,rfl,rv,rw'⟩:∃u1 u2,us=[u1,u2]∧RelV v u1∧RelV w u2:=by
  cases r1 with
  |cons p q=>
   cases q with
   |cons p' q'=>
    cases q'
    exact ⟨_,_,rfl,p,p'⟩
 refine wpAny_newObj_type ?_ (by show 2≤sizeLine;decide)
 have I2:Inv X pins σ H1 {s1 with heap:=s1.heap.push {cls:=.type "tuple",data:=.seq [u1,u2].toArray}}:=I1.kept (t':=s1.toks) fun b o e=>AR _ e
 rw [hw]
 refine wpAny_bind (wpAny_pure ?_)
 show wpAny (model X.prog X.w) X.A (do rule "assign.swapped-stores";let items ←unpackItems (.ref s1.heap.objs.size) 2 none;assignInOrder [fun v=>bindName X.env y v,fun v=>bindName X.env x v] items.reverse;pure Flow.next) _ _ _
 refine wpAny_bind (wpAny_rule (wpAny_bind (unpackItems_tuple (items:=#[u1,u2]) (I.ok.hd hc) (IsTup.new s1.heap _) fun h' hx'=>?_)))
 have I3:=I2.kept (h':=h') (t':=s1.toks) fun b o e=>hx' b o (A6 (Ap e)) e
 show wpAny _ _ (assignInOrder [fun v=>bindName X.env y v,fun v=>bindName X.env x v] [u2,u1] >>=fun _=>pure Flow.next) _ _ _
 refine wpAny_bind (assignInOrder_cons (wpAny_bindName (EW I3 hN hj (.inl hy) rw' (fun s2 I4=>?_) (.inr hy))))
 refine assignInOrder_cons (wpAny_bindName (EW I4 hN hi (.inl hx) rv (fun s3 I5=>assignInOrder_nil (wpAny_pure ?_)) (.inr hx)))
 rw [List.set_comm _ _ (Ne.symm hij)] at I5
 exact ⟨_,H1,I5,q1⟩
end
section
variable {X:Cx} {pos:Pos}
end
structure It where
 go:Nat→Hp→Prop
 yld:Nat→Hp→V→Hp→Prop
 stop:Nat→Hp→Prop
def Cs (X:Cx) (pins:List (Addr×Obj)) (H:Hp) (b:Addr):Prop:=
 H b=none∧b≠X.env.locals∧b∉X.fs∧(b∈X.ex∨X.s₀.heap.objs.size≤b)∧(∀x c,X.env.cells.lookup x=some c→c≠b)∧∀p∈X.pn++pins,p.1≠b
theorem Inv.fpOk {X:Cx} {pins:List (Addr×Obj)} {σ:St} {H H':Hp} {s:Shared} {b:Addr} (I:Inv X pins σ H s) (hb:s.heap.objs.size≤b) (hn:H' b=none):Cs X pins H' b:=by
 refine ⟨hn,Nat.ne_of_gt (AC I.lt hb),I.nofs hb,.inr (Bi I.sz hb),fun x c e z=>?_,fun p hp z=>?_⟩
 ·obtain ⟨v,q⟩:=I.cell x c e
  exact absurd (AC q.lt (by rw [z];exact hb)) (BO _)
 ·exact absurd (AC (Ap (I.pin p hp).1) (by rw [z];exact hb)) (BO _)
structure EZ (P:Program) (w:World) (K:PySem.W.Frag) (tg:Expr) (J:It) (fp:List Addr) (it:Addr) (tn:Nat→Heap→Prop):Prop where
 mem:it∈fp
 obj:∀i h,tn i h→∀b∈fp,∃o,h.get? b=some o∧∀v,o.data≠.cell v
 keep:∀i h h',tn i h→(∀b∈fp,∀o,h.get? b=some o→h'.get? b=some o)→tn i h'
 item:∀(X:Cx),X.prog=P→X.w=w→X.K=K→X.calm=true→∀(i:Nat) (pins:List (Addr×Obj)) (s:Shared) (σ:St) (H:Hp) (E:Value→Shared→Prop),Inv X pins σ H s→(∀b∈fp,Cs X pins H b)→tn i s.heap→J.go i H→
  wpAny (model P w) X.A (pyNext (.ref it)) (fun r s1=>∃u,r=some u∧
   wpAny (model P w) X.A (letOwnedTupleGo tg (.ref it) u) (fun _ s2=>∃x H',Inv X pins σ H' s2∧RelV x u∧J.yld i H x H'∧tn (i+1) s2.heap∧∀b∈fp,H' b=none) E s1) E s
 done:∀(X:Cx),X.prog=P→X.w=w→X.K=K→X.calm=true→∀(i:Nat) (pins:List (Addr×Obj)) (s:Shared) (σ:St) (H:Hp) (E:Value→Shared→Prop),Inv X pins σ H s→(∀b∈fp,Cs X pins H b)→tn i s.heap→J.stop i H→
  wpAny (model P w) X.A (pyNext (.ref it)) (fun r s1=>r=none∧Inv X pins σ H s1) E s
 self:∀(A:Around) (i:Nat) (s:Shared) (Q:Value→Shared→Prop) (E:Value→Shared→Prop),tn i s.heap→Q (.ref it) s→wpAny (model P w) A (pyIter (.ref it)) Q E s
abbrev TI:=St→Hp→(It→Hp→Prop)→Prop
inductive GA (X:Cx) (pins:List (Addr×Obj)) (σ:St) (tg:Expr) (R:It→Hp→Prop) (itv:Value) (s2:Shared):Prop where
 |mk (it:Addr) (fp:List Addr) (tn:Nat→Heap→Prop) (J:It) (H':Hp) (e:itv=.ref it) (i:Inv X pins σ H' s2) (t:EZ X.prog X.w X.K tg J fp it tn) (st:tn 0 s2.heap) (f:∀b∈fp,Cs X pins H' b) (r:R J H'):GA X pins σ tg R itv s2
def PI (X:Cx) (tg iter:Expr) (wi:TI):Prop:=
 ∀(pins:List (Addr×Obj)) (s:Shared) (σ:St) (H:Hp) (R:It→Hp→Prop),Inv X pins σ H s→wi σ H R→
  wpAny (model X.prog X.w) X.A (eval iter X.env) (fun v s1=>wpAny (model X.prog X.w) X.A (pyIter v) (GA X pins σ tg R) X.xe s1) X.xe s
theorem LZ {M:Model} {A:Around} {E:Value→Shared→Prop} {s:Shared} {tg:Expr} {it:Addr} {u:Value} {o:Obj} {n:String} {vs:Array Value} {Q:Unit→Shared→Prop} (ho:s.heap.get? it=some o) (hc:o.cls=.type n) (hd:o.data=.fields vs)
 (hn:["enumerate","zip","dict_itemiterator","dict_reverseitemiterator","odict_iterator","itertools.zip_longest","itertools.pairwise"].contains n=false) (hQ:Q () s):wpAny M A (letOwnedTupleGo tg (.ref it) u) Q E s:=by
 unfold letOwnedTupleGo
 cases tg<;>first
  |exact wpAny_pure hQ
  |(cases u<;>first
   |exact wpAny_pure hQ
   |(refine wpAny_bind (wpAny_load ho ?_)
     rw [hc,hd]
     show wpAny M A (if (["enumerate","zip","dict_itemiterator","dict_reverseitemiterator","odict_iterator","itertools.zip_longest","itertools.pairwise"].contains n&&vs[0]?==some (rawInt _))=true then _ else _) Q E s
     rw [if_neg (by intro h;rw [hn,Bool.false_and] at h;cases h)]
     exact wpAny_pure hQ))
def Rc (K:PySem.W.Frag) (a:Addr):It:=
 ⟨fun i H=>∃xs x,SqL K H a xs∧xs[i]?=some x,fun i H x H'=>H'=H∧∀xs,SqL K H a xs→xs[i]?=some x,fun i H=>∃xs,SqL K H a xs∧xs.length≤i⟩
def Re (K:PySem.W.Frag) (a:Addr):It:=
 ⟨fun i H=>∃xs x,SqT K H a xs∧xs[i]?=some x,fun i H x H'=>H'=H∧∀xs,SqT K H a xs→xs[i]?=some x,fun i H=>∃xs,SqT K H a xs∧xs.length≤i⟩
def E1 (lo:Int) (n:Nat):It:=⟨fun i _=>i<n,fun i H x H'=>H'=H∧x=.int (lo+i),fun i _=>n≤i⟩
theorem L4 {P:Program} {w:World} {K:PySem.W.Frag} {tg:Expr} (it:Addr) (lo:Int) (n:Nat):EZ P w K tg (E1 lo n) [it] it (fun i h=>IsRangeIter h it (lo+(i:Nat)*1) ((n:Int) - (i:Nat)) 1) where
 mem:=by simp
 obj:=fun i h st b hb=>by
  have e:b=it:=by simpa using hb
  subst e
  exact ⟨_,st,fun v z=>by
   have z':Data.fields _=Data.cell v:=z
   cases z'⟩
 keep:=fun i h h' st k=>k it (by simp) _ st
 item:=by
  intro X hP hw hK hc i pins s σ H E I hf st hg
  subst hP hw hK
  obtain ⟨f0,f1,f2,f3,f4,f5⟩:=hf it (by simp)
  have W:=Walks.range (prog:=X.prog) (w:=X.w) (I.ok.hd hc) it lo 1 n
  refine W.item i s _ _ hg st fun v h' tk hv st' kk=>?_
  obtain ⟨t,rfl⟩:=hv
  have I1:Inv X pins σ H {s with heap:=h',toks:=tk}:=I.turned (fun b o hb e=>kk b o (by simpa using hb) e) f0 f1 f3 f4 f5
  refine ⟨_,rfl,LZ (s:={s with heap:=h',toks:=tk}) (n:="range_iterator") st' rfl rfl (by decide) ⟨.int (lo+i),H,I1,⟨t,?_⟩,⟨rfl,rfl⟩,st',fun b hb=>(hf b hb).1⟩⟩
  rw [Int.mul_one]
 done:=by
  intro X hP hw hK hc i pins s σ H E I hf st hg
  subst hP hw hK
  obtain ⟨f0,f1,f2,f3,f4,f5⟩:=hf it (by simp)
  exact wpAny_pyNext_range_end (I.ok.hd hc) st (by have:n≤i:=hg;omega) fun h' eb=>⟨rfl,I.turned (t':=s.toks) (fun b o hb e=>eb b o hb e) f0 f1 f3 f4 f5⟩
 self:=fun _ _ _ _ _ st h=>wpAny_pyIter_rangeiter st h
section
variable {X:Cx} {tg:Expr}
theorem L5 {pins:List (Addr×Obj)} {σ:St} {H:Hp} {s:Shared} {R:It→Hp→Prop} {E:Value→Shared→Prop} {lo hi:Int} {t u v:Tok} {tk:Nat} (I:Inv X pins σ H s) (h1:-(2^62)≤lo) (h2:lo<2^62) (h3:-(2^62)≤hi) (h4:hi<2^62)
 (q:R (E1 lo (hi - lo).toNat) H):wpAny (model X.prog X.w) X.A (pyIter (.ref s.heap.objs.size)) (GA X pins σ tg R) E {s with heap:=s.heap.push {cls:=.type "range",data:=.fields #[.int lo t,.int hi u,.int 1 v]},toks:=tk}:=by
 refine wpAny_pyIter_range (IsRange.new ..) (small_one h1 h2 h3 h4) ?_
 have I1:Inv X pins σ H {s with heap:=s.heap.push {cls:=.type "range",data:=.fields #[.int lo t,.int hi u,.int 1 v]},toks:=tk}:=I.kept fun b o e=>AR _ e
 refine ⟨(s.heap.push {cls:=.type "range",data:=.fields #[.int lo t,.int hi u,.int 1 v]}).objs.size,[(s.heap.push {cls:=.type "range",data:=.fields #[.int lo t,.int hi u,.int 1 v]}).objs.size],_,_,H,rfl,
  I1.kept (t':=tk) fun b o e=>AR _ e,L4 _ lo (hi - lo).toNat,?_,fun b hb=>?_,q⟩
 ·have e1:lo+((0:Nat):Int)*1=lo:=by simp
  have e2:(((hi - lo).toNat:Nat):Int) - ((0:Nat):Int)=Builtin.Range.rangeSize lo hi 1:=by rw [rangeSize_one];split<;>omega
  show IsRangeIter _ _ (lo+((0:Nat):Int)*1) ((((hi - lo).toNat:Nat):Int) - ((0:Nat):Int)) 1
  rw [e1,e2]
  exact BD _ rfl
 ·have e:b=(s.heap.push {cls:=.type "range",data:=.fields #[.int lo t,.int hi u,.int 1 v]}).objs.size:=by simpa using hb
  subst e
  exact I1.fpOk (AJ _) (I1.hok.fresh (AJ _))
def L6 (ta:TA):TI:=fun σ H R=>ta σ H fun vs H1=>∃j:Int,vs=[.int j]∧-(2^62)≤j∧j<2^62∧R (E1 0 j.toNat) H1
theorem L7 {a:Expr} {ta:TA} {p pos:Pos} (hg:Gl X "range") (hm:X.mg "range"=none) (ha:PA X [a] ta) (hs:starEach [a] X.env=[(false,eval a X.env)]:=by rfl):PI X tg (.Call (.Name "range" p) [a] [] pos) (L6 ta):=by
 intro pins s σ H R I h
 refine Call_ (EX I hg hm boot_range (PyProof.Rows.callWith_type1 (Am (ha pos pins s σ H _ I h) fun us s1 z37_=>?_) hs rfl))
 obtain ⟨vs,H1,I1,r1,q1⟩:=z37_
 obtain ⟨j,e,q1,q2,q⟩:=q1
 subst e
 cases r1 with
 |cons r rr=>
  cases rr
  obtain ⟨t,rfl⟩:=r
  exact call_range_1 (L5 I1 (by omega) (by omega) q1 q2 (by simpa using q))
def L8 (wi:TI) (g:TG) (tb:TS):TS:=fun D σ H=>wi σ H fun J H1=>∃W:Nat→Nat→St→Hp→Prop,(∃m,W 0 m σ H1)∧∀i m σ H,W i m σ H→
 (J.stop i H∧D.nx σ H)∨(J.go i H∧∃N:St→Hp→Prop,(∀σ' H',N σ' H'→∃m',m' < m∧W (i+1) m' σ' H')∧∀x H',J.yld i H x H'→g x σ H' fun σ2 H2=>tb {D with nx:=N,ct:=N,bk:=D.nx} σ2 H2)
def D7 (fp:List Addr) (h:Heap):List (Addr×Obj):=fp.filterMap fun b=>(h.get? b).map fun o=>(b,o)
theorem E2 {fp:List Addr} {h:Heap} {b:Addr} {o:Obj} (hb:b∈fp) (e:h.get? b=some o):(b,o)∈D7 fp h:=List.mem_filterMap.mpr ⟨b,hb,by rw [e];rfl⟩
theorem L9 {fp:List Addr} {h:Heap} {p:Addr×Obj} (hp:p∈D7 fp h):p.1∈fp∧h.get? p.1=some p.2:=by
 obtain ⟨b,hb,e⟩:=List.mem_filterMap.mp hp
 cases q:h.get? b with
 |none=>rw [q] at e;cases e
 |some o=>
  rw [q] at e
  have e':(b,o)=p:=Option.some.inj e
  subst e'
  exact ⟨hb,q⟩
theorem Inv.pinned {pins:List (Addr×Obj)} {σ:St} {H:Hp} {s:Shared} {fp:List Addr} (I:Inv X pins σ H s) (hf:∀b∈fp,Cs X pins H b) (ho:∀b∈fp,∃o,s.heap.get? b=some o∧∀v,o.data≠.cell v):Inv X (pins++D7 fp s.heap) σ H s:=
 I.pins_of fun p hp=>(qb7.mp hp).elim (fun z=>I.pin p (Bh _ z)) fun z=>by
  obtain ⟨hb,e⟩:=L9 z
  obtain ⟨f0,f1,f2,_⟩:=hf p.1 hb
  obtain ⟨o,e',d⟩:=ho p.1 hb
  rw [e] at e';cases e'
  exact ⟨e,f0,f1,f2,d⟩
theorem Inv.unpinned {pins pl:List (Addr×Obj)} {σ:St} {H:Hp} {s:Shared} (I:Inv X (pins++pl) σ H s):Inv X pins σ H s:=I.pins_of fun p hp=>I.pin p (Bh _ (Gu _ hp))
inductive GB (X:Cx) (pins:List (Addr×Obj)) (tn:Nat→Heap→Prop) (fp:List Addr) (W:Nat→Nat→St→Hp→Prop) (n:Nat) (s':Shared):Prop where
 |mk (i:Nat) (σ':St) (H':Hp) (ii:Inv X pins σ' H' s') (st:tn i s'.heap) (fr:∀b∈fp,H' b=none) (w:W i n σ' H'):GB X pins tn fp W n s'
theorem Ma {iter:Expr} {body:List Stmt} {wi:TI} {g:TG} {tb:TS} {pos:Pos} (hp:PassesOwn (model X.prog X.w) X.A X.env X.xe) (hc:X.calm=true) (hi:PI X tg iter wi) (hg:PG X tg g) (hb:BQ X body tb)
 (hs:∀x,foldedSetIterable iter X.env x=pure x:=by intro _;rfl):PS X (.For tg iter body [] pos) (L8 wi g tb):=by
 intro pins s σ H D I h
 refine wpAny_For (Am (hi pins s σ H _ I h) fun v s1 h1=>Am h1 fun itv s2 h2=>?_) hs
 obtain ⟨it,fp,tn,J,H2,e,I2,T,Ds,f2,W,⟨m0,w0⟩,turn⟩:=h2
 subst e
 have stat:∀{H':Hp},(∀b∈fp,H' b=none)→∀b∈fp,Cs X pins H' b:=fun hn b hb=>⟨hn b hb,(f2 b hb).2⟩
 refine codeAny_forLoop_any (GB X pins tn fp W) ?_ m0 ⟨0,σ,H2,I2,Ds,fun b hb=>(f2 b hb).1,w0⟩
 rintro n s3 ⟨i,σ3,H3,I3,Gq,fr3,w3⟩
 rcases turn i n σ3 H3 w3 with ⟨stop,qn⟩ |⟨go,N,hN,step⟩
 ·refine wpAny_passesOwn hp (Am (T.done X rfl rfl rfl hc i pins s3 σ3 H3 X.xe I3 (stat fr3) Gq stop) fun r s4 z39_=>?_)
  obtain ⟨hr,I4⟩:=z39_
  subst hr
  exact wpAny_execs_nil ⟨σ3,H3,I4,qn⟩
 ·refine wpAny_passesOwn hp (Am (T.item X rfl rfl rfl hc i pins s3 σ3 H3 X.xe I3 (stat fr3) Gq go) fun r s4 z40_=>?_)
  obtain ⟨u,hr,h4⟩:=z40_
  subst hr
  refine wpAny_passesOwn hp (Am h4 fun _ s5 z41_=>?_)
  obtain ⟨x,H5,I5,r5,y5,CV,fr5⟩:=z41_
  have I5':=I5.pinned (stat fr5) (T.obj _ _ CV)
  refine wpAny_passesOwn hp (Am (hg _ s5 σ3 H5 x u _ I5' r5 (step x H5 y5)) fun _ s6 z42_=>?_)
  obtain ⟨σ6,H6,I6,q6⟩:=z42_
  refine wpAny_passesOwn hp (Am (hb _ s6 σ6 H6 _ I6 q6) fun f s7 q7=>?_)
  have again:∀{σ7:St} {H7:Hp},Inv X (pins++D7 fp s5.heap) σ7 H7 s7→N σ7 H7→∃m,m<n∧GB X pins tn fp W m s7:=fun {σ7 H7} I7 n7=>by
   obtain ⟨m',hm,w7⟩:=hN σ7 H7 n7
   refine ⟨m',hm,i+1,σ7,H7,I7.unpinned,T.keep _ _ _ CV fun b hb o e=>(I7.pin (b,o) (Bh _ (Bh _ (E2 hb e)))).1,fun b hb=>?_,w7⟩
   obtain ⟨o,e,d⟩:=T.obj _ _ CV b hb
   exact (I7.pin (b,o) (Bh _ (Bh _ (E2 hb e)))).2.1
  cases f with
  |next=>obtain ⟨σ7,H7,I7,n7⟩:=q7;exact again I7 n7
  |cont=>obtain ⟨σ7,H7,I7,n7⟩:=q7;exact again I7 n7
  |brk=>obtain ⟨σ7,H7,I7,q7⟩:=q7;exact ⟨σ7,H7,I7.unpinned,q7⟩
  |ret v=>obtain ⟨x7,σ7,H7,I7,r7,q7⟩:=q7;exact ⟨x7,σ7,H7,I7.unpinned,r7,q7⟩
end
abbrev R2:=V→V→Hp→VK→Prop
def OpR (X:Cx) (f:Value→Value→Sem Value) (r:R2):Prop:=
 ∀(pins:List (Addr×Obj)) (s:Shared) (σ:St) (H:Hp) (x y:V) (v u:Value) (Q:VK),Inv X pins σ H s→RelV x v→RelV y u→r x y H Q→
  wpAny (model X.prog X.w) X.A (f v u) (EP X pins σ Q) X.xe s
def Rf (X:Cx) (f:Value→Sem Value) (r:V→Hp→VK→Prop):Prop:=
 ∀(pins:List (Addr×Obj)) (s:Shared) (σ:St) (H:Hp) (x:V) (v:Value) (Q:VK),Inv X pins σ H s→RelV x v→r x H Q→
  wpAny (model X.prog X.w) X.A (f v) (EP X pins σ Q) X.xe s
def DB (X:Cx) (f:Value) (r:List V→Hp→VK→Prop):Prop:=
 ∀(pins:List (Addr×Obj)) (s:Shared) (σ:St) (H:Hp) (xs:List V) (us:List Value) (Q:VK),Inv X pins σ H s→Vals xs us→r xs H Q→
  wpAny (model X.prog X.w) X.A (call f us) (EP X pins σ Q) X.xe s
def Mb (X:Cx) (r:V→Hp→(Bool→Hp→Prop)→Prop):Prop:=
 ∀(pins:List (Addr×Obj)) (s:Shared) (σ:St) (H:Hp) (x:V) (v:Value) (Q:Bool→Hp→Prop),Inv X pins σ H s→RelV x v→r x H Q→
  wpAny (model X.prog X.w) X.A (truthy v) (TP X pins σ Q) X.xe s
def E3 (r:R2) (ta tb:TE):TE:=fun σ H Q=>ta σ H fun x H1=>tb σ H1 fun y H2=>r x y H2 Q
def Rg (r:V→Hp→VK→Prop) (ta:TE):TE:=fun σ H Q=>ta σ H fun x H1=>r x H1 Q
def rI (C:Int→Int→Prop) (g:Int→Int→V):R2:=fun x y H Q=>∃i j,x=.int i∧y=.int j∧C i j∧Q (g i j) H
def D8 (g:Int→Int→V):R2:=fun x y H Q=>∃i j,x=.int i∧y=.int j∧Q (g i j) H
def rU (g:Int→V):V→Hp→VK→Prop:=fun x H Q=>∃i,x=.int i∧Q (g i) H
section
variable {X:Cx} {a b c:Expr} {ta tb tc:TE} {pos:Pos}
theorem GC (ha:PE X a ta) (hb:PE X b tb) {pins:List (Addr×Obj)} {s:Shared} {σ:St} {H:Hp} {R:V→V→Hp→Prop} (I:Inv X pins σ H s)
 (h:ta σ H fun x H1=>tb σ H1 fun y H2=>R x y H2) {Q:Value→Shared→Prop} {f:Value→Value→Sem Value}
 (hf:∀v u s2 x y H2,Inv X pins σ H2 s2→RelV x v→RelV y u→R x y H2→wpAny (model X.prog X.w) X.A (f v u) Q X.xe s2):
 wpAny (model X.prog X.w) X.A (eval a X.env) (fun v s₁=>wpAny (model X.prog X.w) X.A (eval b X.env) (fun u s₂=>wpAny (model X.prog X.w) X.A (f v u) Q X.xe s₂) X.xe s₁) X.xe s:=by
 refine Am (ha pins s σ H _ I h) fun v s1 z44_=>?_
 obtain ⟨x,H1,I1,r1,q1⟩:=z44_
 refine Am (hb pins s1 σ H1 _ I1 q1) fun u s2 z45_=>?_
 obtain ⟨y,H2,I2,r2,q2⟩:=z45_
 exact hf v u s2 x y H2 I2 r1 r2 q2
theorem Mc {op:Operator} {r:R2} (ho:OpR X (binaryOp op) r) (ha:PE X a ta) (hb:PE X b tb):PE X (.BinOp a op b pos) (E3 r ta tb):=by
 intro pins s σ H Q I h
 exact wpAny_BinOp (GC ha hb I h fun v u s2 x y H2 I2 rx ry q=>ho pins s2 σ H2 x y v u Q I2 rx ry q)
theorem E4 {f:Value→Value→Sem Value} {C:Int→Int→Prop} {g:Int→Int→Int}
 (rule:∀(i j:Int) (t u:Tok) (s:Shared) (Q:Value→Shared→Prop) (E:Value→Shared→Prop),C i j→Q (.int (g i j) s.toks) {s with toks:=s.toks+1}→wpAny (model X.prog X.w) X.A (f (.int i t) (.int j u)) Q E s):
 OpR X f (rI C fun i j=>.int (g i j)):=by
 intro pins s σ H x y v u Q I rx ry h
 obtain ⟨i,j,rfl,rfl,hc,q⟩:=h
 obtain ⟨t,rfl⟩:=rx
 obtain ⟨t',rfl⟩:=ry
 exact rule i j t t' s _ _ hc ⟨.int (g i j),H,I.tok _,⟨_,rfl⟩,q⟩
theorem Md {f:Value→Value→Sem Value} {g:Int→Int→Int}
 (rule:∀(i j:Int) (t u:Tok) (s:Shared) (Q:Value→Shared→Prop) (E:Value→Shared→Prop),Q (.int (g i j) s.toks) {s with toks:=s.toks+1}→wpAny (model X.prog X.w) X.A (f (.int i t) (.int j u)) Q E s):
 OpR X f (D8 fun i j=>.int (g i j)):=by
 intro pins s σ H x y v u Q I rx ry h
 obtain ⟨i,j,rfl,rfl,q⟩:=h
 obtain ⟨t,rfl⟩:=rx
 obtain ⟨t',rfl⟩:=ry
 exact rule i j t t' s _ _ ⟨.int (g i j),H,I.tok _,⟨_,rfl⟩,q⟩
theorem Me {f:Value→Value→Sem Value} {g:Int→Int→Bool}
 (rule:∀(i j:Int) (t u:Tok) (s:Shared) (Q:Value→Shared→Prop) (E:Value→Shared→Prop),Q (.bool (g i j)) s→wpAny (model X.prog X.w) X.A (f (.int i t) (.int j u)) Q E s):
 OpR X f (D8 fun i j=>.bl (g i j)):=by
 intro pins s σ H x y v u Q I rx ry h
 obtain ⟨i,j,rfl,rfl,q⟩:=h
 obtain ⟨t,rfl⟩:=rx
 obtain ⟨t',rfl⟩:=ry
 exact rule i j t t' s _ _ ⟨.bl (g i j),H,I,rfl,q⟩
def HZ (i j:Int):Prop:=0<j∧j<1073741824
def E5 (i j:Int):Prop:=0≤j∧j≤1000000∧i.natAbs<2^64
def CMul (i j:Int):Prop:=(-(2^64)<i∧i<2^64)∨(-(2^64)<j∧j<2^64)
theorem CMul.ok {i j:Int} (h:CMul i j):IntMulOk i j:=by
 rcases h with ⟨h1,h2⟩ |⟨h1,h2⟩
 ·exact .of_left (intBits_le_64 h1 h2)
 ·exact .of_right (intBits_le_64 h1 h2)
theorem op_add:OpR X (binaryOp .Add) (D8 fun i j=>.int (i+j)):=Md fun _ _ _ _ _ _ _ q=>add_int q
theorem Mf:OpR X (binaryOp .Mod) (rI (fun _ j=>0<j) fun i j=>.int (i % j)):=E4 fun i j _ _ _ _ _ hc q=>by
 have h1:(0:Int)<j:=hc
 exact mod_int' (by omega) (by rw [Int.fmod_eq_emod_of_nonneg i (by omega)];exact q)
theorem Mg:OpR X (binaryOp .Pow) (rI E5 fun i j=>.int (i^j.toNat)):=E4 fun _ _ _ _ _ _ _ hc q=>pow_int_small hc.1 hc.2.1 hc.2.2 q
end
def H0:V→V→Bool
 |.non,.non=>true |.non,.int _=>true |.int _,.non=>true |.non,.bl _=>true |.bl _,.non=>true |.non,.str _=>true |.str _,.non=>true
 |.int _,.int _=>true |.bl _,.bl _=>true |.str _,.str _=>true |.byt _,.byt _=>true
 |.int _,.str _=>true |.str _,.int _=>true |.bl _,.str _=>true |.str _,.bl _=>true
 |_,_=>false
def Mh:R2:=fun x y H Q=>H0 x y=true∧Q (.bl (decide (x=y))) H
def Mi:R2:=fun x y H Q=>H0 x y=true∧Q (.bl (!decide (x=y))) H
theorem Ia {i j:Int}:decide (V.int i=V.int j)=(i==j):=by
 rw [EO]
 simp
theorem Ib {i j:Bool}:decide (V.bl i=V.bl j)=(i==j):=by
 rw [EO]
 simp
theorem E6 {i j:Str}:decide (V.str i=V.str j)=(i==j):=by
 rw [EO]
 simp
theorem Ic {i j:Array UInt8}:decide (V.byt i=V.byt j)=(i.toList==j.toList):=by
 rw [EO]
 cases i
 cases j
 simp
section
variable {X:Cx} {a b c:Expr} {ta tb tc:TE} {pos:Pos}
theorem Az {pins:List (Addr×Obj)} {σ:St} {H:Hp} {s:Shared} {Q:VK} {k k':Bool} (I:Inv X pins σ H s) (q:Q (.bl k) H) (e:k=k'):EP X pins σ Q (.bool k') s:=by
 subst e
 exact ⟨.bl k,H,I,rfl,q⟩
theorem op_eq:OpR X (compareOp .Eq) Mh:=by
 intro pins s σ H x y v u Q I rx ry h
 obtain ⟨hs,q⟩:=h
 cases x with
 |non=>
  cases rx
  cases y with
  |non=>cases ry;exact PySem.EqNone.eq_none_none (Az I q (by simp))
  |bl j=>cases ry;exact PySem.EqNone.eq_none_bool (Az I q (by simp))
  |int j=>obtain ⟨t',rfl⟩:=ry;exact PySem.EqNone.eq_none_int (Az I q (by simp))
  |str j=>obtain ⟨t',rfl⟩:=ry;exact PySem.EqNone.eq_none_str (Az I q (by simp))
  |_=>exact absurd (show false=true from hs) AS
 |bl i=>
  cases rx
  cases y with
  |non=>cases ry;exact PySem.EqNone.eq_bool_none (Az I q (by simp))
  |bl j=>cases ry;exact eq_bool (Az I q Ib)
  |str j=>obtain ⟨t',rfl⟩:=ry;exact PySem.EqMixed.eq_bool_str (Az I q (by simp))
  |_=>exact absurd (show false=true from hs) AS
 |int i=>
  obtain ⟨t,rfl⟩:=rx
  cases y with
  |non=>cases ry;exact PySem.EqNone.eq_int_none (Az I q (by simp))
  |int j=>obtain ⟨t',rfl⟩:=ry;exact eq_int (Az I q Ia)
  |str j=>obtain ⟨t',rfl⟩:=ry;exact PySem.EqMixed.eq_int_str (Az I q (by simp))
  |_=>exact absurd (show false=true from hs) AS
 |str i=>
  obtain ⟨t,rfl⟩:=rx
  cases y with
  |non=>cases ry;exact PySem.EqNone.eq_str_none (Az I q (by simp))
  |bl j=>cases ry;exact PySem.EqMixed.eq_str_bool (Az I q (by simp))
  |int j=>obtain ⟨t',rfl⟩:=ry;exact PySem.EqMixed.eq_str_int (Az I q (by simp))
  |str j=>obtain ⟨t',rfl⟩:=ry;exact eq_str (Az I q E6)
  |_=>exact absurd (show false=true from hs) AS
 |byt i=>
  obtain ⟨t,rfl⟩:=rx
  cases y with
  |byt j=>obtain ⟨t',rfl⟩:=ry;exact PySem.W.eq_bytes (Az I q Ic)
  |_=>exact absurd (show false=true from hs) AS
 |_=>cases y<;>exact absurd (show false=true from hs) AS
theorem op_ne:OpR X (compareOp .NotEq) Mi:=by
 intro pins s σ H x y v u Q I rx ry h
 obtain ⟨hs,q⟩:=h
 cases x with
 |non=>
  cases rx
  cases y with
  |non=>cases ry;exact PySem.EqNone.ne_none_none (Az I q (by simp))
  |bl j=>cases ry;exact PySem.EqNone.ne_none_bool (Az I q (by simp))
  |int j=>obtain ⟨t',rfl⟩:=ry;exact PySem.EqNone.ne_none_int (Az I q (by simp))
  |str j=>obtain ⟨t',rfl⟩:=ry;exact PySem.EqNone.ne_none_str (Az I q (by simp))
  |_=>exact absurd (show false=true from hs) AS
 |bl i=>
  cases rx
  cases y with
  |non=>cases ry;exact PySem.EqNone.ne_bool_none (Az I q (by simp))
  |bl j=>cases ry;exact ne_bool (Az I q (congrArg not Ib))
  |str j=>obtain ⟨t',rfl⟩:=ry;exact PySem.EqMixed.ne_bool_str (Az I q (by simp))
  |_=>exact absurd (show false=true from hs) AS
 |int i=>
  obtain ⟨t,rfl⟩:=rx
  cases y with
  |non=>cases ry;exact PySem.EqNone.ne_int_none (Az I q (by simp))
  |int j=>obtain ⟨t',rfl⟩:=ry;exact ne_int (Az I q (congrArg not Ia))
  |str j=>obtain ⟨t',rfl⟩:=ry;exact PySem.EqMixed.ne_int_str (Az I q (by simp))
  |_=>exact absurd (show false=true from hs) AS
 |str i=>
  obtain ⟨t,rfl⟩:=rx
  cases y with
  |non=>cases ry;exact PySem.EqNone.ne_str_none (Az I q (by simp))
  |bl j=>cases ry;exact PySem.EqMixed.ne_str_bool (Az I q (by simp))
  |int j=>obtain ⟨t',rfl⟩:=ry;exact PySem.EqMixed.ne_str_int (Az I q (by simp))
  |str j=>obtain ⟨t',rfl⟩:=ry;exact ne_str (Az I q (congrArg not E6))
  |_=>exact absurd (show false=true from hs) AS
 |byt i=>
  obtain ⟨t,rfl⟩:=rx
  cases y with
  |byt j=>obtain ⟨t',rfl⟩:=ry;exact PySem.W.ne_bytes (Az I q (congrArg not Ic))
  |_=>exact absurd (show false=true from hs) AS
 |_=>cases y<;>exact absurd (show false=true from hs) AS
theorem Mj:OpR X (compareOp .Lt) (D8 fun i j=>.bl (decide (i<j))):=Me fun _ _ _ _ _ _ _ q=>lt_int q
theorem OpR.or {f:Value→Value→Sem Value} {r r':R2} (h:OpR X f r) (h':OpR X f r'):OpR X f (fun x y H Q=>r x y H Q∨r' x y H Q):=by
 intro pins s σ H x y v u Q I rx ry q
 rcases q with q |q
 ·exact h pins s σ H x y v u Q I rx ry q
 ·exact h' pins s σ H x y v u Q I rx ry q
theorem D9 (b:Expr) {op:CmpOp} (h:op≠.In:=by decide) (h2:op≠.NotIn:=by decide):behindInMarks op b=false:=by
 have e1:(op==CmpOp.In)=false:=by cases op<;>first |rfl |exact absurd rfl h
 have e2:(op==CmpOp.NotIn)=false:=by cases op<;>first |rfl |exact absurd rfl h2
 cases b with
 |Set elts k p=>
  show (k==0&&(op==.In||op==.NotIn)&&elts.all (constantsAlone 8))=false
  rw [e1,e2,Bool.or_self,Bool.and_false,Bool.false_and]
 |_=>rfl
theorem Mk {op:CmpOp} {r:R2} (ho:OpR X (compareOp op) r) (ha:PE X a ta) (hb:PE X b tb) (hm:behindInMarks op b=false):PE X (.Compare a [op] [b] pos) (E3 r ta tb):=by
 intro pins s σ H Q I h
 exact wpAny_Compare1 (GC ha hb I h fun v u s2 x y H2 I2 rx ry q=>ho pins s2 σ H2 x y v u Q I2 rx ry q) hm
def Ml (t:TE):TT:=fun σ H Q=>t σ H fun x H'=>∃k,x=.bl k∧Q k H'
theorem Mm {op:CmpOp} {r:R2} (ho:OpR X (compareOp op) r) (ha:PE X a ta) (hb:PE X b tb) (hm:behindInMarks op b=false):PT X (.Compare a [op] [b] pos) (Ml (E3 r ta tb)):=by
 intro pins s σ H Q I h
 refine wpAny_isTrue_Compare1 (Am (ha pins s σ H _ I h) fun v s1 ⟨x,H1,I1,r1,q1⟩=>Am (hb pins s1 σ H1 _ I1 q1) ?_) hm
 rintro u s2 ⟨y,H2,I2,r2,q2⟩
 refine Am (ho pins s2 σ H2 x y v u _ I2 r1 r2 q2) fun c s3 z49_=>?_
 obtain ⟨z,H3,I3,r3,k,e,q3⟩:=z49_
 subst e
 cases r3
 exact wpAny_truthy_bool ⟨H3,I3,q3⟩
def Rh (r r':R2) (ta tb tc:TE):TE:=fun σ H Q=>ta σ H fun x H1=>tb σ H1 fun y H2=>r x y H2 fun z H3=>∃k,z=.bl k∧
 (if k=true then tc σ H3 fun w' H4=>r' y w' H4 Q else Q (.bl false) H3)
def GD (K:PySem.W.Frag) (x:V) (H:Hp) (k:Bool):Prop:=
 match x with
 |.non=>k=false
 |.bl b=>k=b
 |.int i=>k=(i != 0)
 |.str y=>y.length≤sizeLine∧k=((y.length:Int) != 0)
 |.byt y=>y.size≤sizeLine∧k=((y.size:Int) != 0)
 |.ref p=>(∃xs,SqL K H p xs∧k=!xs.isEmpty)∨(∃xs,SqT K H p xs∧k=!xs.isEmpty)
 |_=>False
theorem Ie {xs:List V} {its:List Value} (r:Vals xs its):(!its.toArray.isEmpty)=!xs.isEmpty:=by
 cases r<;>simp
theorem DD:(sizeLine:Nat)<2^63:=by rw [sizeLine_eq];decide
theorem Mn:Mb X (fun x H Q=>∃k,GD X.K x H k∧Q k H):=by
 intro pins s σ H x v Q I rx h
 obtain ⟨k,e,q⟩:=h
 have hl:=DD
 have hs:sizeLine=16777216:=sizeLine_eq
 cases x with
 |non=>
  cases rx
  have e':k=false:=e
  subst e'
  exact truthy_none ⟨H,I,q⟩
 |bl b=>
  cases rx
  have e':k=b:=e
  subst e'
  exact wpAny_truthy_bool ⟨H,I,q⟩
 |int i=>
  obtain ⟨t,rfl⟩:=rx
  have e':k=(i != 0):=e
  subst e'
  exact PySem.P.truthy_int ⟨H,I,q⟩
 |str y=>
  obtain ⟨t,rfl⟩:=rx
  obtain ⟨hy,e'⟩:y.length≤sizeLine∧k=((y.length:Int) != 0):=e
  subst e'
  exact PySem.P.truthy_str (by omega) ⟨H,I.tok _,q⟩
 |byt y=>
  obtain ⟨t,rfl⟩:=rx
  obtain ⟨hy,e'⟩:y.size≤sizeLine∧k=((y.size:Int) != 0):=e
  subst e'
  exact PySem.W.truthy_bytes (by omega) ⟨H,I.tok _,q⟩
 |ref p=>
  cases rx
  have e':(∃xs,SqL X.K H p xs∧k=!xs.isEmpty)∨(∃xs,SqT X.K H p xs∧k=!xs.isEmpty):=e
  rcases e' with ⟨xs,hx,e'⟩ |⟨xs,hx,e'⟩
  ·subst e'
   obtain ⟨its,r,pl,hz⟩:=I.list hx
   have hlen:=r.length
   exact wpAny_truthy_list pl.isList (by simp only [AN];omega) ⟨H,I.tok _,by rw [Ie r];exact q⟩
  ·subst e'
   obtain ⟨its,r,pl,hz⟩:=I.tuple hx
   have hlen:=r.length
   exact truthy_tuple pl (by simp only [AN];omega) ⟨H,I.tok _,by rw [Ie r];exact q⟩
 |_=>exact (show False from e).elim
theorem Mo (ha:PE X a ta) (he:∀Cn,isTrue a X.env Cn=(do let v ←Cn;standAt a.pos;holding [v] (truthy v))):
 PT X a (fun σ H Q=>ta σ H fun x H'=>∃k,GD X.K x H' k∧Q k H'):=by
 intro pins s σ H Q I h
 exact isTrue_plain (Am (ha pins s σ H _ I h) fun v s1 z59_=>by obtain ⟨x,H1,I1,r1,q1⟩:=z59_;exact (Mn pins s1 σ H1 x v Q I1 r1 q1)) (he _)
theorem Mp:OpR X (binaryOp .Add) (fun x y H Q=>∃i j,x=.str i∧y=.str j∧i.length+j.length≤sizeLine∧Q (.str (i++j)) H):=by
 intro pins s σ H x y v u Q I rx ry h
 obtain ⟨i,j,rfl,rfl,hz,q⟩:=h
 obtain ⟨t,rfl⟩:=rx
 obtain ⟨t',rfl⟩:=ry
 exact add_str (fun t' tk=>⟨.str (i++j),H,I.tok _,⟨_,rfl⟩,q⟩) hz
theorem GE {x:V} {us:List Value} (r:Vals [x] us):∃u,us=[u]∧RelV x u:=by
 cases r with
 |cons r1 r2=>cases r2;exact ⟨_,rfl,r1⟩
theorem E7 {x y:V} {us:List Value} (r:Vals [x,y] us):∃u w',us=[u,w']∧RelV x u∧RelV y w':=by
 cases r with
 |cons r1 r2=>
  cases r2 with
  |cons r3 r4=>cases r4;exact ⟨_,_,rfl,r1,r3⟩
theorem Mq (hc:X.calm=true):DB X (.builtin "max") (fun xs H Q=>∃i j,xs=[.int i,.int j]∧Q (.int (if j>i then j else i)) H):=by
 intro pins s σ H xs us Q I r h
 obtain ⟨i,j,rfl,q⟩:=h
 obtain ⟨u,w',rfl,⟨t,rfl⟩,⟨t',rfl⟩⟩:=E7 r
 refine max_two_ints (I.ok.hd hc) fun h' tk k=>⟨_,H,I.kept k,?_,q⟩
 by_cases hj:j>i
 ·rw [if_pos hj,if_pos hj];exact ⟨_,rfl⟩
 ·rw [if_neg hj,if_neg hj];exact ⟨_,rfl⟩
theorem Mr (hc:X.calm=true):DB X (.builtin "min") (fun xs H Q=>∃i j,xs=[.int i,.int j]∧Q (.int (if j<i then j else i)) H):=by
 intro pins s σ H xs us Q I r h
 obtain ⟨i,j,rfl,q⟩:=h
 obtain ⟨u,w',rfl,⟨t,rfl⟩,⟨t',rfl⟩⟩:=E7 r
 refine min_two_ints (I.ok.hd hc) fun h' tk k=>⟨_,H,I.kept k,?_,q⟩
 by_cases hj:j<i
 ·rw [if_pos hj,if_pos hj];exact ⟨_,rfl⟩
 ·rw [if_neg hj,if_neg hj];exact ⟨_,rfl⟩
end
section
variable {prog:Program} {w:World} {A:Around} {E:Value→Shared→Prop} {s:Shared} {K:PySem.W.Frag} {x dx C f:Addr} {mA:Str→Option Value} {name:Str} {v:Value}
end
theorem RelO.some_of {v:V} {o:Option Value} (r:RelO (some v) o):∃u,o=some u∧RelV v u:=by
 cases o with
 |none=>exact (show False from r).elim
 |some u=>exact ⟨u,rfl,r⟩
section
variable {P:Program} {w:World} {H H':Hp} {h h':Heap} {a C dx:Addr} {fs fs':List (Str×V)}
end
section
variable {X:Cx} {pins:List (Addr×Obj)} {σ:St} {H:Hp} {s:Shared} {a C dx:Addr} {fs:List (Str×V)} {f:Str} {v:V} {A:Around} {E:Value→Shared→Prop}
end
section
variable {X:Cx} {o e value:Expr} {f:Str} {pos pos' tpos:Pos} {ta tv:TE}
end
section
variable {X:Cx} {pins:List (Addr×Obj)} {σ:St} {H:Hp} {s:Shared} {A:Around} {E:Value→Shared→Prop} {Q:Value→Shared→Prop} {c:Value} {b:Bool}
inductive Ca (K:PySem.W.Frag) (H:Hp):V→Value→Prop where
 |non:Ca K H .non (.type "NoneType")
 |bl (x:Bool):Ca K H (.bl x) (.type "bool")
 |int (i:Int):Ca K H (.int i) (.type "int")
 |str (x:Str):Ca K H (.str x) (.type "str")
 |flt (x:UInt64):Ca K H (.flt x) (.type "float")
 |lst {a:Addr} {xs:List V} (e:H a=some (.lst xs)):Ca K H (.ref a) (.type "list")
 |frz {a:Addr} {o:Obj} {xs:List V} (e:H a=some (.frz o (.lst xs))):Ca K H (.ref a) (.type "list")
 |tup {a:Addr} {xs:List V} (e:H a=some (.tup xs)):Ca K H (.ref a) (.type "tuple")
theorem Ms {x:V} {u t:Value} (I:Inv X pins σ H s) (rx:RelV x u) (ty:Ca X.K H x t) (e:PySem.W.kitOne X.K t c=some b) (h:∀tk,Q (.bool b) {s with toks:=tk}):
 wpAny (model X.prog X.w) A (call (.builtin "isinstance") [u,c]) Q E s:=by
 cases ty with
 |non=>cases (show u=Value.none from rx);exact PySem.W.kia_one PySem.W.kitx_none I.kIn True.intro e (fun z=>nomatch z) h
 |bl y=>cases (show u=Value.bool y from rx);exact PySem.W.kia_one PySem.W.kitx_bool I.kIn True.intro e (fun z=>nomatch z) h
 |int i=>obtain ⟨t,q⟩:=(show ∃t,u=Value.int i t from rx);cases q;exact PySem.W.kia_one PySem.W.kitx_int I.kIn True.intro e (fun z=>nomatch z) h
 |str y=>obtain ⟨t,q⟩:=(show ∃t,u=Value.str y t from rx);cases q;exact PySem.W.kia_one PySem.W.kitx_str I.kIn True.intro e (fun z=>nomatch z) h
 |flt y=>obtain ⟨t,q⟩:=(show ∃t,u=Value.float y t from rx);cases q;exact PySem.W.kia_one PySem.W.kitx_float I.kIn True.intro e (fun z=>nomatch z) h
 |@lst a xs ea=>
  cases (show u=Value.ref a from rx)
  obtain ⟨_,_,n,_,h1⟩:=(show ObjOk X.prog X.w H s.heap a (.lst xs) from I.hok a _ ea)
  exact PySem.W.kia_one PySem.W.kitx_list I.kIn ⟨_,h1,rfl⟩ e (fun z=>nomatch z) h
 |@frz a ob xs ea=>
  cases (show u=Value.ref a from rx)
  obtain ⟨_,_,_,n,_,h1⟩:=(show ObjOk X.prog X.w H s.heap a (.frz ob (.lst xs)) from I.hok a _ ea)
  exact PySem.W.kia_one PySem.W.kitx_list I.kIn ⟨_,h1,rfl⟩ e (fun z=>nomatch z) h
 |@tup a xs ea=>
  cases (show u=Value.ref a from rx)
  obtain ⟨_,_,_,p,_⟩:=(show ObjOk X.prog X.w H s.heap a (.tup xs) from I.hok a _ ea)
  obtain ⟨o,h1,h2,_⟩:=p
  exact PySem.W.kia_one PySem.W.kitx_tuple I.kIn ⟨o,h1,h2⟩ e (fun z=>nomatch z) h
end
structure Room (k:Nat) (A:Around):Prop where
 hd:A.handled=none
 dp:A.depth+3*k+5<recursionLimit
 un:A.units+16*k+200<cLine
 gd:A.guards=some []
theorem Room.mono {j k:Nat} {A:Around} (r:Room k A) (h:j≤k):Room j A:=⟨r.hd,by have:=r.dp;omega,by have:=r.un;omega,r.gd⟩
theorem Room.deeper {k:Nat} {A:Around} (r:Room (k+1) A) (env:Env):Room k (A.deeper env):=
 ⟨r.hd,by have:=r.dp;show A.depth+1+3*k+5<_;omega,by have:=r.un;show A.units+3+16*k+200<_;omega,r.gd⟩
theorem Mt {A:Around} {C:Addr} {us:List Value} {kw:List (Str×Value)}:(A.under (.builtin "type.__call__" ⟨.ref C::us,kw⟩)).depth=A.depth+1:=by
 first |rfl |simp [Around.under,Code.weight,Code.isCreation,Code.isGuard,Code.isCaller,Code.frames,Code.isFrame,guardIds]
theorem Mu {A:Around} {C:Addr} {us:List Value} {kw:List (Str×Value)}:(A.under (.builtin "type.__call__" ⟨.ref C::us,kw⟩)).units=A.units+1:=by
 first |rfl |simp [Around.under,Code.cUnits,Code.frames,Code.isFrame]
theorem Room.make {k:Nat} {A:Around} (r:Room (k+1) A) (C:Addr) (us:List Value) (kw:List (Str×Value)):Room k (A.under (.builtin "type.__call__" ⟨.ref C::us,kw⟩)):=
 ⟨r.hd,by have:=r.dp;rw [Mt];omega,by have:=r.un;rw [Mu];omega,by first |exact r.gd |(show pushGuards _ _=_;rw [r.gd];rfl)⟩
theorem Room.depth {k:Nat} {A:Around} (r:Room k A):A.depth<recursionLimit:=by have:=r.dp;omega
theorem Room.units {k:Nat} {A:Around} (r:Room k A):A.units+64<cLine:=by have:=r.un;omega
def Mv:TA:=fun _ H Q=>Q [] H
def Mw (ta:TE) (tr:TA):TA:=fun σ H Q=>ta σ H fun x H1=>tr σ H1 fun xs H2=>Q (x::xs) H2
section
variable {X:Cx} {e:Expr} {es:List Expr} {te:TE} {t:TA} {pos:Pos}
theorem Mx:PA X [] Mv:=fun _ _ _ _ H Q I h=>Calls.spliced_nil ⟨[],H,I,.nil,h⟩
theorem My (ha:PE X e te) (hr:PA X es t) (hs:starEach (e::es) X.env=(false,eval e X.env)::starEach es X.env:=by rfl):PA X (e::es) (Mw te t):=by
 intro pos pins s σ H Q I h
 rw [hs]
 show wpAny _ _ (spliced ((false,eval e X.env)::backTo pos (starEach es X.env))) _ _ s
 refine Calls.spliced_cons (Am (ha pins s σ H _ I h) fun u s1 z68_=>?_)
 obtain ⟨x,H1,I1,r1,q1⟩:=z68_
 exact Am (hr pos pins s1 σ H1 _ I1 q1) fun us s2 z69_=>by obtain ⟨xs,H2,I2,r2,q2⟩:=z69_;exact (⟨x::xs,H2,I2,.cons r1 r2,q2⟩)
def Ri (t:TA):TE:=fun σ H Q=>t σ H fun xs H1=>xs.length≤sizeLine∧∀p,H1 p=none→Q (.ref p) (Ag H1 p (.tup xs))
def Mz (t:TA):TE:=fun σ H Q=>t σ H fun xs H1=>xs.length≤sizeLine∧∀p,H1 p=none→Q (.ref p) (Ag H1 p (.lst xs))
theorem MB (h:PA X es t):PE X (.List es pos) (Mz t):=by
 intro pins s σ H Q I hq
 refine wpAny_List_spliced (Am (h pos pins s σ H _ I hq) fun us s1 ⟨xs,H1,I1,r,z,q⟩=>⟨by rw [←r.length];exact z,?_⟩)
 have hf:H1 s1.heap.objs.size=none:=I1.hok.fresh (AJ _)
 refine ⟨.ref s1.heap.objs.size,Ag H1 s1.heap.objs.size (.lst xs),I1.laid (t':=s1.toks) (fun b u e=>AR _ e) (AJ _) ?_,rfl,q _ hf⟩
 exact ⟨z,us,0,r,BD _ rfl⟩
end
abbrev Sp:=List V→Hp→VK→XK→Prop
abbrev Cb:=List Env→Hp→Shared→XK→Value→Shared→Prop
structure Env0 (P:Program) (w:World) (K:PySem.W.Frag) (mg:Str→Option Value) (base:Heap) (A:Around) (outer:List Env) (s:Shared) (H:Hp):Prop where
 frames:A.frames=some outer
 mod:Mod K mg base
 bs:∀b o,base.get? b=some o→s.heap.get? b=some o∧H b=none
 bsz:base.objs.size≤s.heap.objs.size
 funs:s.heap.FunFrames base outer
 frf:∀b∈frs outer,H b=none
 hok:HOk P w H s.heap
 bare:AllBare s.gens
inductive CE (outer:List Env) (P:Program) (w:World) (H:Hp) (s:Shared) (Q:VK) (u:Value) (s':Shared):Prop where
 |mk (v:V) (H':Hp) (os:s'.os=s.os) (bare:AllBare s'.gens) (un:Un (frs outer) [] H H' s.heap s'.heap) (hok:HOk P w H' s'.heap) (r:RelV v u) (q:Q v H'):CE outer P w H s Q u s'
def CR (CX:Cb) (outer:List Env) (P:Program) (w:World) (H:Hp) (s:Shared) (Q:VK) (E:XK) (r:Result) (s':Shared):Prop:=
 match r with
 |.ok (.ret u)=>CE outer P w H s Q u s'
 |.ok _=>False
 |.error e=>CX outer H s E e s'
structure FnOk (P:Program) (w:World) (K:PySem.W.Frag) (mg:Str→Option Value) (base:Heap) (CX:Cb) (k:Nat) (f:Addr) (fd:FuncData) (ps:List Str) (sp:Sp):Prop where
 len:∀vs H Q E,sp vs H Q E→vs.length=ps.length
 run:∀(A:Around) (outer:List Env) (s:Shared) (H:Hp) (args:Args) (us:List Value) (vs:List V) (Q:VK) (E:XK),Room k A→Env0 P w K mg base A outer s H→BindsTo s fd args (ps.zip us)→Vals vs us→sp vs H Q E→
  codeAny (model P w) A (.call (.ref f) args) (CR CX outer P w H s Q E) s
theorem FnOk.mono {P:Program} {w:World} {K:PySem.W.Frag} {mg:Str→Option Value} {base:Heap} {CX:Cb} {j k:Nat} {f:Addr} {fd:FuncData} {ps:List Str} {sp:Sp} (F:FnOk P w K mg base CX j f fd ps sp) (h:j≤k):
 FnOk P w K mg base CX k f fd ps sp:=⟨F.len,fun A outer s H args us vs Q E hr=>F.run A outer s H args us vs Q E (hr.mono h)⟩
theorem Env0.make {P:Program} {w:World} {K:PySem.W.Frag} {mg:Str→Option Value} {base:Heap} {A:Around} {outer:List Env} {s:Shared} {H:Hp} (e:Env0 P w K mg base A outer s H) (C:Addr) (us:List Value) (kw:List (Str×Value)):
 Env0 P w K mg base (A.under (.builtin "type.__call__" ⟨.ref C::us,kw⟩)) outer s H:=⟨by first |exact e.frames |(simpa [Around.under,Code.envs,Code.isFrame,pushEnvs] using e.frames),e.mod,e.bs,e.bsz,e.funs,e.frf,e.hok,e.bare⟩
section
variable {X:Cx} {pins:List (Addr×Obj)} {σ:St} {H:Hp} {s s':Shared}
theorem Inv.env0 (I:Inv X pins σ H s):Env0 X.prog X.w X.K X.mg X.base X.A X.stack s H:=
 ⟨I.ok.frames,I.ok.mod,I.bs,Bi I.ok.bsz I.sz,I.stack,I.stkFree,I.hok,I.bare⟩
theorem Inv.after {Q:VK} {u:Value} (I:Inv X pins σ H s) (h:CE X.stack X.prog X.w H s Q u s'):EP X pins σ Q u s':=by
 obtain ⟨v,H',os,bare,un,hok,r,q⟩:=h
 obtain ⟨hh,g,d,t,os'⟩:=s'
 obtain rfl:os'=s.os:=os
 exact ⟨v,H',I.call (h':=hh) (g':=g) (d':=d) (t':=t) (ch:=[]) un hok bare (fun b z=>absurd z (by simp)),r,q⟩
end
def MC (sp:Sp) (dvs:List V) (E:XK) (t:TA):TE:=fun σ H Q=>t σ H fun vs H1=>sp (vs++dvs) H1 Q E
def Binds (K:PySem.W.Frag) (fd:FuncData) (ps:List Str) (ds:List Value):Prop:=
 ∀(s:Shared) (us:List Value),K.In s.heap→(us++ds).length=ps.length→BindsTo s fd ⟨us,[]⟩ (ps.zip (us++ds))
theorem Binds.all {K:PySem.W.Frag} {fd:FuncData} {ps:List Str} (h:∀us:List Value,us.length=ps.length→bindArgs fd ⟨us,[]⟩=pure (ps.zip us)):Binds K fd ps []:=fun s us _ hl=>by
 rw [D1] at hl ⊢
 exact .of_eq (h us hl)
def DE (CX:Cb) (X:Cx) (E:XK):Prop:=∀(pins:List (Addr×Obj)) (σ:St) (H:Hp) (s:Shared) (e:Value) (s':Shared),Inv X pins σ H s→CX X.stack H s E e s'→X.xe e s'
section
variable {X:Cx} {CX:Cb} {k:Nat} {f C:Addr} {fd:FuncData} {ps:List Str} {sp:Sp} {dvs:List V} {ds:List Value} {E:XK} {x m:Str} {p pos apos:Pos} {e o:Expr} {es:List Expr} {ta:TE} {t:TA}
theorem MD {pins:List (Addr×Obj)} {σ:St} {H:Hp} {s:Shared} {Q:VK} {us:List Value} {vs:List V} (F:FnOk X.prog X.w X.K X.mg X.base CX k f fd ps sp) (hr:Room k X.A) (hb:Binds X.K fd ps ds) (hd:Vals dvs ds) (hx:DE CX X E)
 (I:Inv X pins σ H s) (r:Vals vs us) (h:sp (vs++dvs) H Q E):wpAny (model X.prog X.w) X.A (call (.ref f) us) (EP X pins σ Q) X.xe s:=by
 have r2:Vals (vs++dvs) (us++ds):=r.append hd
 have hl:(us++ds).length=ps.length:=by rw [←r2.length];exact F.len _ _ _ _ h
 refine wpAny_call (codeAny_mono (F.run X.A X.stack s H ⟨us,[]⟩ (us++ds) (vs++dvs) Q E hr I.env0 (hb s us I.kIn hl) r2 h) fun r s' hq=>?_)
 cases r with
 |error e=>exact hx pins σ H s e s' I hq
 |ok fl=>
  cases fl with
  |ret u=>exact I.after hq
  |next=>exact False.elim hq
  |brk=>exact False.elim hq
  |cont=>exact False.elim hq
theorem MF (F:FnOk X.prog X.w X.K X.mg X.base CX k f fd ps sp) (hr:Room k X.A) (hg:Gl X x) (hm:X.mg x=some (.ref f)) (hk:PySem.W.keepIn X.K (.ref f)=true) (hb:Binds X.K fd ps ds) (hd:Vals dvs ds) (hx:DE CX X E)
 (ha:PA X (e::es) t) (hdb:(x==("__debug__":Str))=false:=by decide) (he:starEach (e::es) X.env=(false,eval e X.env)::starEach es X.env:=by rfl) (hpl:(backTo pos (starEach es X.env)).any (·.1)=false:=by rfl):
 PE X (.Call (.Name x p) (e::es) [] pos) (MC sp dvs E t):=by
 intro pins s σ H Q I h
 refine wpAny_Call_Name_kw (D5 I hg hm ?_ hdb)
 refine PySem.W.callWith_K (h₀:=X.base) I.ok.mod.kin hk (Am (ha pos pins s σ H _ I h) ?_) he hpl
 rintro us s1 ⟨vs,H1,I1,r,q⟩
 refine ⟨I1.kIn,?_⟩
 exact MD F hr hb hd hx I1 r q
end
section
variable {X:Cx} {CX:Cb} {k:Nat} {f C:Addr} {fd:FuncData} {ps ks:List Str} {sp:Sp} {E:XK} {x m:Str} {p pos apos kpos:Pos} {e o:Expr} {es:List Expr} {kws:List Keyword} {te ta:TE} {t tk:TA} {nm:Option Str}
variable {g:List Value→List Value→List Value} {gV:List V→List V→List V}
end
structure Bt (N P:List Str) (sc:Scope):Prop where
 kind:sc.kind=.function
 co:sc.isCoroutine=false
 gen:sc.isGenerator=false
 nd:N.Nodup
 pre:N.take P.length=P
 par:∀x∈P,sc.names.lookup x=some .local∨sc.names.lookup x=some .cell
 nofree:∀y∈sc.names,y.2≠.free
theorem Ig {kindOf:Str→Option NameKind} {x:Str}:∀{binds:List (Str×Value)} {m:Str→Option Value},(∀v,(x,v)∉binds)→bindL kindOf binds m x=m x
 |[],_,_=>rfl
 |(n,v)::r,m,h=>by
  unfold bindL
  rw [Ig fun w hw=>h w (AA _ hw)]
  split
  ·have:x≠n:=by rintro rfl;exact h v Ax
   simp [this]
  ·rfl
theorem Ih {kindOf:Str→Option NameKind} {x:Str}:∀{binds:List (Str×Value)} {m:Str→Option Value},(∀v,(x,v)∉binds)→bindC kindOf binds m x=m x
 |[],_,_=>rfl
 |(n,v)::r,m,h=>by
  unfold bindC
  rw [Ih fun w hw=>h w (AA _ hw)]
  split
  ·rfl
  ·have:x≠n:=by rintro rfl;exact h v Ax
   simp [this]
theorem Ii {kindOf:Str→Option NameKind} {x:Str} {v:Value}:∀{P:List Str} {vs:List Value} {i:Nat} {m:Str→Option Value},P.Nodup→P[i]?=some x→vs[i]?=some v→kindOf x=some .local→
 bindL kindOf (P.zip vs) m x=some v
 |[],_,_,_,_,h,_,_=>by simp at h
 |_::_,[],_,_,_,_,h,_=>by simp at h
 |p::P,w::vs,0,m,nd,h1,h2,hk=>by
  simp at h1 h2;subst h1;subst h2
  show bindL kindOf ((p,w)::P.zip vs) m p=_
  unfold bindL
  rw [Ig fun v hv=>(qb1.mp nd).1 (List.of_mem_zip hv).1,if_pos hk]
  simp
 |p::P,w::vs,i+1,m,nd,h1,h2,hk=>by
  show bindL kindOf ((p,w)::P.zip vs) m x=_
  unfold bindL
  exact Ii (i:=i) (qb1.mp nd).2 (by simpa using h1) (by simpa using h2) hk
theorem Ij {kindOf:Str→Option NameKind} {x:Str} {v:Value}:∀{P:List Str} {vs:List Value} {i:Nat} {m:Str→Option Value},P.Nodup→P[i]?=some x→vs[i]?=some v→kindOf x≠some .local→
 bindC kindOf (P.zip vs) m x=some v
 |[],_,_,_,_,h,_,_=>by simp at h
 |_::_,[],_,_,_,_,h,_=>by simp at h
 |p::P,w::vs,0,m,nd,h1,h2,hk=>by
  simp at h1 h2;subst h1;subst h2
  show bindC kindOf ((p,w)::P.zip vs) m p=_
  unfold bindC
  rw [Ih fun v hv=>(qb1.mp nd).1 (List.of_mem_zip hv).1,if_neg hk]
  simp
 |p::P,w::vs,i+1,m,nd,h1,h2,hk=>by
  show bindC kindOf ((p,w)::P.zip vs) m x=_
  unfold bindC
  exact Ij (i:=i) (qb1.mp nd).2 (by simpa using h1) (by simpa using h2) hk
def start (N:List Str) (vs:List V):St:=vs.map some++List.replicate (N.length - vs.length) none
def A0 (CX:Cb) (P:Program) (w:World) (K:PySem.W.Frag) (mg:Str→Option Value) (base:Heap) (N:List Str) (qual:Str) (scope:Scope) (f:Addr) (cd:Value) (A:Around) (outer:List Env) (s:Shared) (H:Hp) (E:XK):Cx where
 prog:=P
 w:=w
 K:=K
 mg:=mg
 base:=base
 A:=A.deeper (envOfC qual scope s.heap.objs.size f cd)
 N:=N
 s₀:=s
 H₀:=H
 env:=envOfC qual scope s.heap.objs.size f cd
 outer:=outer
 stack:=envOfC qual scope s.heap.objs.size f cd::outer
 ex:=[]
 calm:=true
 fn:=fun _=>true
 pn:=[]
 xe:=fun e s'=>wpAny (model P w) (A.deeper (envOfC qual scope s.heap.objs.size f cd)) (leaving (envOfC qual scope s.heap.objs.size f cd) e) (fun _ s''=>CX outer H s E e s'') (fun e' s''=>CX outer H s E e' s'') s'
theorem Ik {sc:Scope} {n:Nat} {x:Str} (h:sc.names.lookup x=some .cell):∃c,(cellsFrom n sc.names []).lookup x=some c:=by
 have q:=PySem.W.cellsFrom_some sc.names n [] (.inl h)
 exact qaZ.mp q
theorem MH {CX:Cb} {P:Program} {w:World} {K:PySem.W.Frag} {mg:Str→Option Value} {base:Heap} {N ps:List Str} {qual:Str} {scope:Scope} {f:Addr} {cd:Value} {A:Around} {outer:List Env} {s s1:Shared} {H:Hp} {E:XK} {us:List Value} {vs:List V}
 (S:Bt N ps scope) (hd:A.handled=none) (e0:Env0 P w K mg base A outer s H) (hl:vs.length=ps.length) (r:Vals vs us)
 (x:InCallC s s.heap.objs.size (bindL (envOfC qual scope s.heap.objs.size f cd).kindOf (ps.zip us) fun _=>none) (cellsFrom (s.heap.objs.size+1) scope.names []) (bindC (envOfC qual scope s.heap.objs.size f cd).kindOf (ps.zip us) fun _=>none) s1):
 Inv (A0 CX P w K mg base N qual scope f cd A outer s H E) [] (start N vs) H s1:=by
 have hpl:ps.length≤N.length:=by have:=congrArg List.length S.pre;rw [List.length_take] at this;omega
 obtain ⟨h1,tk,rfl,hk⟩:=x.done
 have noA:∀b:Addr,b∉(A0 CX P w K mg base N qual scope f cd A outer s H E).ex:=fun b z=>absurd (show b∈([]:List Addr) from z) (by simp)
 refine ⟨⟨e0.mod,S.kind,rfl,rfl,AJ _,fun y z c h1 h2=>?_,fun y hy=>?_,fun y c _ h=>?_,fun _=>hd,Around.frames_deeper e0.frames,.inr ⟨rfl,rfl⟩,fun b z=>absurd z (noA b),e0.bs,e0.bsz,fun b _ _=>noA b,fun b z=>absurd z (noA b),e0.funs,e0.frf⟩,
  rfl,e0.bare,Un.kept hk,⟨_,x.toInCall.ns,fun i y v h1 h2 h3=>?_⟩,fun y c h=>⟨_,x.cell y c h⟩,e0.hok.fresh (AJ _),fun y c h=>?_,fun p hp=>absurd (show p∈([]:List (Addr×Obj)) from hp) (by simp),e0.hok.kept hk,?_⟩
 ·exact name_of_addr x.apart (PySem.mem_of_lookup h1) (PySem.mem_of_lookup h2)
 ·have hy:scope.names.lookup y=some .cell∨scope.names.lookup y=some .free:=hy
  rcases hy with hy |hy
  ·exact Ik hy
  ·exact absurd rfl (S.nofree _ (PySem.mem_of_lookup hy))
 ·exact Nat.le_of_lt (x.above y c (PySem.mem_of_lookup h))
 ·have hi:i<vs.length:=by
   unfold start at h2
   by_cases hi:i<vs.length
   ·exact hi
   ·rw [EJ (by simpa using hi)] at h2
    rw [List.getElem?_replicate] at h2
    split at h2<;>cases h2
  have ha:vs[i]?=some v:=by
   unfold start at h2
   rw [CW (by simpa using hi),CC] at h2
   cases e:vs[i]? with
   |none=>rw [e] at h2;cases h2
   |some a=>rw [e] at h2;cases h2;rfl
  obtain ⟨u,hu,rv⟩:=r.get ha
  have hp:ps[i]?=some y:=by
   rw [←S.pre,List.getElem?_take_of_lt (by omega)];exact h1
  have ndP:ps.Nodup:=by rw [←S.pre];exact S.nd.sublist (List.take_sublist _ _)
  refine ⟨u,rv,?_⟩
  rcases S.par y (Du hp) with k |k
  ·exact .inl ⟨k,Ii ndP hp hu k⟩
  ·obtain ⟨c,e⟩:=Ik (n:=s.heap.objs.size+1) k
   refine .inr ⟨.inl k,c,e,?_⟩
   have q:=x.cell y c e
   rw [Ij ndP hp hu (by show scope.names.lookup y≠_;rw [k];decide)] at q
   exact q
 ·exact e0.hok.fresh (Nat.le_of_lt (x.above y c (PySem.mem_of_lookup h)))
 ·unfold start
  show _=N.length
  rw [EL,Dy,List.length_replicate]
  omega
theorem Il {CX:Cb} {P:Program} {w:World} {K:PySem.W.Frag} {mg:Str→Option Value} {base:Heap} {k:Nat} {f:Addr} {name qual:Str} {params:Arguments} {body:List Stmt} {scope:Scope} {dV kV doc pm cdv ct oc:Value} {an od:Option Addr}
 {osl:Array (Option Value)} {N ps:List Str} {sp:Sp} (lk:K.lookup f=some ⟨oc,od,.func (PySem.W.fnOf name qual params body scope dV kV doc pm an cdv ct),osl⟩) (hcd:PySem.W.codeIn K cdv qual=true) (S:Bt N ps scope)
 (len:∀vs H Q E,sp vs H Q E→vs.length=ps.length)
 (hbody:∀(A:Around) (outer:List Env) (s:Shared) (H:Hp) (vs:List V) (Q:VK) (E:XK),Room k (A.deeper (envOfC qual scope s.heap.objs.size f cdv))→sp vs H Q E→
  ∃t,BQ (A0 CX P w K mg base N qual scope f cdv A outer s H E) body t∧t {nx:=fun _ H'=>Q .non H',rt:=Q} (start N vs) H):
 FnOk P w K mg base CX (k+1) f (PySem.W.fnOf name qual params body scope dV kV doc pm an cdv ct) ps sp:=by
 refine ⟨len,fun A outer s H args us vs Q E hr e0 hb r hsp=>?_⟩
 have hl:=len _ _ _ _ hsp
 have KX:K.In s.heap:=e0.mod.kin.keeps fun b o e=>(e0.bs b o e).1
 have lim:s.heap.NoLimit:=e0.mod.nolimit.keeps fun b o e=>(e0.bs b o e).1
 have hkind:∀y∈ps.zip us,scope.names.lookup y.1=some .local∨(scope.names.lookup y.1=some .cell∧((cellsFrom (s.heap.objs.size+1) scope.names []).lookup y.1).isSome=true):=fun z81_ hy=>by
  obtain ⟨n,v⟩:=z81_
  rcases S.par n (List.of_mem_zip hy).1 with q |q
  ·exact .inl q
  ·exact .inr ⟨q,PySem.W.cellsFrom_some _ _ _ (.inl q)⟩
 refine codeAny_call_function hr.depth (KX _ _ lk) rfl S.co S.gen rfl (PySem.W.codeRec_of KX hcd) (hb _ _ _ _ ?_)
 refine wpAny_newFunctionEnv_cells S.kind hkind fun env he s1 x=>?_
 subst he
 refine ⟨lim.keeps x.toInCall.keep,codeAny_func ?_⟩
 obtain ⟨t,ht,hq⟩:=hbody A outer s H vs Q E (hr.deeper _) hsp
 have I:Inv (A0 CX P w K mg base N qual scope f cdv A outer s H E) [] (start N vs) H s1:=MH S hr.hd e0 hl r x
 refine wpAny_mono (ht [] s1 (start N vs) H _ I hq) (fun fl s' hs=>?_) fun e s' hs=>hs
 have Aq:∀{σ':St} {H':Hp} {v:V} {u:Value},Inv (A0 CX P w K mg base N qual scope f cdv A outer s H E) [] σ' H' s'→RelV v u→Q v H'→CE outer P w H s Q u s':=
  fun {σ' H' v u} J rv q=>⟨v,H',J.os,J.bare,J.base,J.hok,rv,q⟩
 cases fl with
 |ret u=>
  obtain ⟨v,σ',H',J,rv,q⟩:=hs
  exact Aq J rv q
 |next=>
  obtain ⟨σ',H',J,q⟩:=hs
  exact Aq (v:=V.non) (u:=Value.none) J rfl q
 |brk=>
  obtain ⟨_,_,_,q⟩:=hs
  exact False.elim q
 |cont=>
  obtain ⟨_,_,_,q⟩:=hs
  exact False.elim q
section
variable {X:Cx} {x:Str} {p pos:Pos} {e:Expr} {es:List Expr} {t:TA} {id T:String} {r:List V→Hp→VK→Prop}
def MK (r:List V→Hp→VK→Prop) (t:TA):TE:=fun σ H Q=>t σ H fun vs H1=>r vs H1 Q
theorem ML (hc:DB X (.builtin id) r) (hg:Gl X x) (hm:X.mg x=none) (hv:bootBuiltins x=some (.builtin id)) (ha:PA X (e::es) t) (hn:x≠"__name__":=by decide) (hdb:(x==("__debug__":Str))=false:=by decide)
 (he:starEach (e::es) X.env=(false,eval e X.env)::starEach es X.env:=by rfl) (hpl:(backTo pos (starEach es X.env)).any (·.1)=false:=by rfl):PE X (.Call (.Name x p) (e::es) [] pos) (MK r t):=by
 intro pins s σ H Q I h
 refine wpAny_Call_Name_kw (EX I hg hm hv ?_ hn hdb)
 exact PyProof.Rows.callWith_builtin1 (Am (ha pos pins s σ H _ I h) fun us s1 z82_=>by obtain ⟨vs,H1,I1,r1,q1⟩:=z82_;exact (hc pins s1 σ H1 vs us Q I1 r1 q1)) he hpl
end
end L2
namespace HT
open PySem PyProof.Rows
section
open PySem.SeqAt
open PySem.AutoSeq1 (wpAny_loadPart')
open PySem.MeetsSeq PySem.MeetsSeq2 PySem.MeetsSeq3
end
section
variable {prog:Program} {w:World} {A:Around} {E:Value→Shared→Prop} {s:Shared}
theorem cat_tup {t b:Addr} {vs ws:List Value} {Q:Value→Shared→Prop} (ht:IsTup s.heap t vs.toArray) (hb:IsTup s.heap b ws.toArray) (hv:vs≠[])
 (h1:ws=[]→Q (.ref t) s) (h2:ws≠[]→Q (.ref s.heap.objs.size) {s with heap:=s.heap.push {cls:=.type "tuple",data:=.seq (vs++ws).toArray}})
 (hsz:vs.length+ws.length≤sizeLine):wpAny (model prog w) A (binaryOp .Add (.ref t) (.ref b)) Q E s:=by
 obtain ⟨⟨cls,dd,data,sl⟩,ho,hc,n,hd⟩:=id ht
 obtain ⟨⟨cls2,dd2,data2,sl2⟩,ho2,hc2,n2,hd2⟩:=id hb
 simp only at hc hd hc2 hd2
 subst hc hd hc2 hd2
 have e:vs.toArray++ws.toArray=(vs++ws).toArray:=by simp
 by_cases hw:ws=[]
 ·exact concat_meets ⟨_,ho,rfl⟩ ⟨_,ho2,rfl⟩ noFill_tuple_add seq_tuple_add PySem.F.slot_tuple_add PySem.F.entry_tuple_add (PySem.F.args_tuple_add_2 _ _)
   (tuple_addW1 t b vs.toArray ws.toArray n n2 dd dd2 sl sl2 (by simpa using hv) (by simp [hw])) ⟨ho,ho2,h1 hw⟩
 ·refine concat_meets ⟨_,ho,rfl⟩ ⟨_,ho2,rfl⟩ noFill_tuple_add seq_tuple_add PySem.F.slot_tuple_add PySem.F.entry_tuple_add (PySem.F.args_tuple_add_2 _ _)
   (tuple_addW2 t b vs.toArray ws.toArray n n2 dd dd2 sl sl2 (by simpa using hv) (by simpa using hw) (by rw [AN,AN];exact hsz)) ⟨ho,ho2,?_⟩
  rw [e]
  exact h2 hw
def sIx (n d:Nat):Option Int→Nat
 |none=>d
 |some v=>if v<0 then (v+(n:Int)).toNat else min v.toNat n
end
end HT
namespace L2
open PySem PySem.Spec PyProof.Rows
abbrev TO:=St→Hp→(Option Int→Hp→Prop)→Prop
def PO (X:Cx) (e:Option Expr) (t:TO):Prop:=
 ∀(pins:List (Addr×Obj)) (s:Shared) (σ:St) (H:Hp) (Q:Option Int→Hp→Prop),Inv X pins σ H s→t σ H Q→
  wpAny (model X.prog X.w) X.A (evalPart e X.env) (fun u s'=>∃o H',Inv X pins σ H' s'∧IsPart u o∧Q o H') X.xe s
def Rj:TO:=fun _ H Q=>Q none H
def Rk (t:TE):TO:=fun σ H Q=>t σ H fun x H1=>∃i,x=.int i∧Q (some i) H1
section
variable {X:Cx} {e:Expr} {te:TE} {lo hi:Option Expr} {tl th:TO} {pos p2:Pos}
def SlR (X:Cx) (r:V→Option Int→Option Int→Hp→VK→Prop):Prop:=
 ∀(pins:List (Addr×Obj)) (s:Shared) (σ:St) (H:Hp) (x:V) (v vl vu:Value) (lo hi:Option Int) (sl:Addr) (Q:VK),Inv X pins σ H s→RelV x v→s.heap.IsSliceOf sl vl vu .none→IsPart vl lo→IsPart vu hi→r x lo hi H Q→
  ∃T id,typeLookup (.type T) "__getitem__"=pure (some (.builtin id))∧s.TypeIs v T∧wpAny (model X.prog X.w) X.A (getItem v (.ref sl)) (EP X pins σ Q) X.xe s
theorem SlR.or {r r':V→Option Int→Option Int→Hp→VK→Prop} (h:SlR X r) (h':SlR X r'):SlR X (fun x lo hi H Q=>r x lo hi H Q∨r' x lo hi H Q):=by
 intro pins s σ H x v vl vu lo hi sl Q I rx hs pl pu q
 rcases q with q |q
 ·exact h pins s σ H x v vl vu lo hi sl Q I rx hs pl pu q
 ·exact h' pins s σ H x v vl vu lo hi sl Q I rx hs pl pu q
def Rl (r:V→Option Int→Option Int→Hp→VK→Prop) (te:TE) (tl th:TO):TE:=fun σ H Q=>te σ H fun x H1=>tl σ H1 fun l H2=>th σ H2 fun u H3=>r x l u H3 Q
def GF (xs:List V) (lo hi:Option Int):List V:=(xs.drop (HT.sIx xs.length 0 lo)).take (HT.sIx xs.length xs.length hi - HT.sIx xs.length 0 lo)
def Rm (K:PySem.W.Frag):V→Option Int→Option Int→Hp→VK→Prop:=fun x lo hi H Q=>∃a xs,x=.ref a∧SqT K H a xs∧
 ¬(HT.sIx xs.length 0 lo=0∧HT.sIx xs.length xs.length hi=xs.length)∧∀p,H p=none→Q (.ref p) (Ag H p (.tup (GF xs lo hi)))
def MM (K:PySem.W.Frag):R2:=fun x y H Q=>∃a b xs ys,x=.ref a∧y=.ref b∧SqT K H a xs∧SqT K H b ys∧xs≠[]∧xs.length+ys.length≤sizeLine∧
 (ys=[]→Q (.ref a) H)∧(ys≠[]→∀p,H p=none→Q (.ref p) (Ag H p (.tup (xs++ys))))
theorem Vals.nil_iff {xs:List V} {us:List Value} (r:Vals xs us):us=[]↔xs=[]:=by
 cases r with
 |nil=>simp
 |cons _ _=>simp
theorem op_catT:OpR X (binaryOp .Add) (MM X.K):=by
 intro pins s σ H x y v u Q I rx ry h
 obtain ⟨a,b,xs,ys,rfl,rfl,ha,hb,hx,hz,q1,q2⟩:=h
 cases rx
 cases ry
 obtain ⟨its,r1,p1,_⟩:=I.tuple ha
 obtain ⟨its2,r2,p2,_⟩:=I.tuple hb
 refine HT.cat_tup p1 p2 (fun z=>hx (r1.nil_iff.mp z)) (fun z=>⟨.ref a,H,I,rfl,q1 (r2.nil_iff.mp z)⟩) (fun z=>?_) (by rw [←r1.length,←r2.length];exact hz)
 refine ⟨.ref s.heap.objs.size,_,I.laid (t':=s.toks) (o:=.tup (xs++ys)) (fun b ob q=>AR _ q) (AJ _) ?_,rfl,q2 (fun w=>z (r2.nil_iff.mpr w)) _ (I.hok.fresh (AJ _))⟩
 exact ⟨by rw [EL];exact hz,_,r1.append r2,IsTup.new _ _,NoDict.new⟩
end
def Bs (n:Nat) (i:Int):Option Nat:=if 0≤i then (if i<n then some i.toNat else none) else if -(n:Int)≤i then some (i+n).toNat else none
def A4 {α:Type} (xs:List α) (i:Int):Option α:=(Bs xs.length i).bind fun j=>xs[j]?
theorem Im {n:Nat} {i:Int} {j:Nat} (h:Bs n i=some j):seqIndex? i n=some j∧j<n∧-(n:Int)≤i∧i<n:=by
 unfold Bs at h
 by_cases h0:0≤i
 ·rw [if_pos h0] at h
  by_cases h1:i<n
  ·rw [if_pos h1] at h
   have e:i.toNat=j:=Option.some.inj h
   exact ⟨by rw [seqIndex_of h0 h1,e],by omega,by omega,h1⟩
  ·rw [if_neg h1] at h;cases h
 ·rw [if_neg h0] at h
  by_cases h1:-(n:Int)≤i
  ·rw [if_pos h1] at h
   have e:(i+n).toNat=j:=Option.some.inj h
   exact ⟨by rw [seqIndex_neg (by omega) h1,e],by omega,h1,by omega⟩
  ·rw [if_neg h1] at h;cases h
theorem GG {α:Type} {xs:List α} {i:Int} {v:α} (h:A4 xs i=some v):∃j,seqIndex? i xs.length=some j∧xs[j]?=some v∧j<xs.length∧-(xs.length:Int)≤i∧i<xs.length:=by
 unfold A4 at h
 cases e:Bs xs.length i with
 |none=>rw [e] at h;cases h
 |some j=>
  rw [e] at h
  obtain ⟨h1,h2,h3,h4⟩:=Im e
  exact ⟨j,h1,h,h2,h3,h4⟩
theorem MN {α:Type} {xs:List α} {j:Nat} {v:α} (h:xs[j]?=some v):A4 xs (j:Int)=some v:=by
 have hj:j<xs.length:=(qa7.mp h).1
 have e:Bs xs.length (j:Int)=some j:=by
  unfold Bs
  rw [if_pos (by omega),if_pos (by omega)];simp
 unfold A4;rw [e];exact h
def GH (b:Expr):Prop:=∀o i,subscripted b false o i=operate [o,i] (getItem o i)
def IxR (X:Cx) (r:R2):Prop:=
 ∀(value slice:Expr) (pins:List (Addr×Obj)) (s:Shared) (σ:St) (H:Hp) (x y:V) (v u:Value) (Q:VK),Inv X pins σ H s→RelV x v→RelV y u→r x y H Q→
  subscripted slice false v u=operate [v,u] (getItem v u)→wpAny (model X.prog X.w) X.A (subscriptTail value slice v u) (EP X pins σ Q) X.xe s
def Io (X:Cx) (id:String) (r:V→List V→Hp→VK→Prop):Prop:=
 ∀(pins:List (Addr×Obj)) (s:Shared) (σ:St) (H:Hp) (x:V) (xs:List V) (v:Value) (us:List Value) (Q:VK),Inv X pins σ H s→RelV x v→Vals xs us→r x xs H Q→
  wpAny (model X.prog X.w) X.A (call (.builtin id) (v::us)) (EP X pins σ Q) X.xe s
section
variable {X:Cx} {a b:Expr} {ta tb:TE} {pos:Pos}
theorem IxR.or {r r':R2} (h:IxR X r) (h':IxR X r'):IxR X (fun x y H Q=>r x y H Q∨r' x y H Q):=by
 intro value slice pins s σ H x y v u Q I rx ry q hs
 rcases q with q |q
 ·exact h value slice pins s σ H x y v u Q I rx ry q hs
 ·exact h' value slice pins s σ H x y v u Q I rx ry q hs
theorem Ip {r:R2} (hr:IxR X r) (ha:PE X a ta) (hb:PE X b tb) (hs:GH b):PE X (.Subscript a b pos) (E3 r ta tb):=by
 intro pins s σ H Q I h
 exact Subscript_ (GC ha hb I h fun v u s2 x y H2 I2 rx ry q=>hr a b pins s2 σ H2 x y v u Q I2 rx ry q (hs _ _))
def MP (K:PySem.W.Frag):R2:=fun x y H Q=>∃p xs i v,x=.ref p∧y=.int i∧SqL K H p xs∧A4 xs i=some v∧Q v H
def MQ (K:PySem.W.Frag):R2:=fun x y H Q=>∃p xs i v,x=.ref p∧y=.int i∧SqT K H p xs∧A4 xs i=some v∧Q v H
def MR:R2:=fun x y H Q=>∃z i c,x=.str z∧y=.int i∧z.length≤sizeLine∧A4 z.cps.toList i=some c∧Q (.str ⟨#[c]⟩) H
theorem ix_list:IxR X (MP X.K):=by
 intro value slice pins s σ H x y v u Q I rx ry h hs
 obtain ⟨p,xs,i,z,rfl,rfl,hq,he,q⟩:=h
 cases rx
 obtain ⟨t,rfl⟩:=ry
 obtain ⟨its,r,pl,hz⟩:=I.list hq
 obtain ⟨j,h1,h2,h3,h4,h5⟩:=GG he
 obtain ⟨w,ew,rw'⟩:=r.get h2
 have hl:=r.length
 have hn:=DD
 have Aq:EP X pins σ Q w s:=⟨z,H,I,rw',q⟩
 by_cases h0:0≤i
 ·have hj:i.toNat=j:=by
   rw [seqIndex_of h0 h5] at h1
   exact Option.some.inj h1
  exact item_listR pl.isList h0 (by omega) (by rw [hj];simpa using ew) Aq hs
 ·have hj:(i+(its.toArray.size:Int)).toNat=j:=by
   rw [seqIndex_neg (by omega) h4] at h1
   rw [AN,←hl]
   exact Option.some.inj h1
  exact subscriptTail_builtinR (x:=w) pl.isList.typeIs slot_list_getitem.lookup
   (wpAny_getItem_list_neg (Q:=fun r s'=>r=w∧EP X pins σ Q r s') pl.isList (by omega) (by rw [AN]<;>omega) (by omega) (by rw [hj];simpa using ew) ⟨rfl,Aq⟩) hs
theorem ix_tup:IxR X (MQ X.K):=by
 intro value slice pins s σ H x y v u Q I rx ry h hs
 obtain ⟨p,xs,i,z,rfl,rfl,hq,he,q⟩:=h
 cases rx
 obtain ⟨t,rfl⟩:=ry
 obtain ⟨its,r,pl,hz⟩:=I.tuple hq
 obtain ⟨j,h1,h2,h3,h4,h5⟩:=GG he
 obtain ⟨w,ew,rw'⟩:=r.get h2
 have hl:=r.length
 have hn:=DD
 have Aq:EP X pins σ Q w s:=⟨z,H,I,rw',q⟩
 exact subscriptTail_builtinR (x:=w) pl.typeIs slot_tuple_getitem.lookup
  (getItem_tuple (j:=j) (Q:=fun r s'=>r=w∧EP X pins σ Q r s') pl (by omega) (by omega) (by rw [AN,←hl];exact h1) (by simpa using ew) ⟨rfl,Aq⟩) hs
theorem MU:IxR X MR:=by
 intro value slice pins s σ H x y v u Q I rx ry h hs
 obtain ⟨z,i,c,rfl,rfl,hz,he,q⟩:=h
 obtain ⟨t,rfl⟩:=rx
 obtain ⟨t',rfl⟩:=ry
 obtain ⟨j,h1,h2,h3,h4,h5⟩:=GG he
 have hl:z.cps.toList.length=z.length:=by simp [Str.length]
 rw [hl] at h1 h4 h5
 have hn:=DD
 exact tail_any (typeIs_str s z t) slot_str_getitem.lookup (getItem_str (c:=c) (by
  have e1:decide (i < -(2^63:Int))=false:=decide_eq_false (by omega)
  have e2:decide (i≥2^63)=false:=decide_eq_false (by omega)
  rw [e1,e2,Bool.or_false]) (by rw [h1];simpa using h2) ⟨.str ⟨#[c]⟩,H,I.tok _,⟨_,rfl⟩,q⟩) hs
theorem MV (its:List Value) (n j:Nat) (u:Value):Obj.mapSeq (·.setIfInBounds j u) {cls:=.type "list",data:=.seq its.toArray n}={cls:=.type "list",data:=.seq (its.set j u).toArray n}:=by
 simp [Obj.mapSeq]
theorem Inv.lst {pins:List (Addr×Obj)} {σ:St} {H:Hp} {s:Shared} {p:Addr} {xs:List V} (I:Inv X pins σ H s) (h:H p=some (.lst xs)):
 ∃(its:List Value) (n:Nat),Vals xs its∧s.heap.get? p=some {cls:=.type "list",data:=.seq its.toArray n}∧xs.length≤sizeLine:=by
 obtain ⟨z,its,n,r,e⟩:=I.hok p _ h
 exact ⟨its,n,r,e,z⟩
theorem Inv.lstUpd {pins:List (Addr×Obj)} {σ:St} {H:Hp} {s:Shared} {p:Addr} {xs ys:List V} {its its':List Value} {n n':Nat} {f:Obj→Obj} (I:Inv X pins σ H s) (h:H p=some (.lst xs))
 (ho:s.heap.get? p=some {cls:=.type "list",data:=.seq its.toArray n}) (hf:f {cls:=.type "list",data:=.seq its.toArray n}={cls:=.type "list",data:=.seq its'.toArray n'}) (r:Vals ys its') (hz:ys.length≤sizeLine) (t:Nat):
 Inv X pins σ (Ag H p (.lst ys)) {s with heap:=s.heap.update p f,toks:=t}:=by
 have e:(s.heap.update p f).get? p=some {cls:=.type "list",data:=.seq its'.toArray n'}:=by
  rw [DZ f ho (by rw [hf]<;>rfl),hf]
 refine I.write (x:=p) (e:=p) (by rw [h];trivial) (.inl rfl) (fun b u hb q=>(EK _ _ (Ne.symm hb)).trans q) ⟨_,e⟩ ?_
 exact ⟨hz,its',n',r,e⟩
def MW:V→V→V→Hp→(Hp→Prop)→Prop:=fun o i v H Q=>∃p xs k j,o=.ref p∧i=.int k∧H p=some (.lst xs)∧Bs xs.length k=some j∧Q (Ag H p (.lst (xs.set j v)))
theorem MX:HV X MW:=by
 intro pins s σ H o i v ov iv u Q I ro ri rv h
 obtain ⟨p,xs,k,j,rfl,rfl,hp,hj,q⟩:=h
 cases ro
 obtain ⟨t,rfl⟩:=ri
 obtain ⟨its,n,r,ho,hz⟩:=I.lst hp
 obtain ⟨h1,h2,h3,h4⟩:=Im hj
 have hl:=r.length
 have hn:=DD
 have I':Inv X pins σ (Ag H p (.lst (xs.set j v))) {s with heap:=s.heap.update p (Obj.mapSeq (·.setIfInBounds j u))}:=
  I.lstUpd hp ho (MV its n j u) (r.set rv j) (by rw [List.length_set];exact hz) s.toks
 by_cases h0:0≤k
 ·have hk:k.toNat=j:=by
   rw [seqIndex_of h0 h4] at h1
   exact Option.some.inj h1
  exact PySem.W.ki_setAt ho h0 (by omega) (by rw [AN,←hl];exact h4) (by rw [hk];exact ⟨_,I',q⟩)
 ·have hk:(k+(its.toArray.size:Int)).toNat=j:=by
   rw [seqIndex_neg (by omega) h3] at h1
   rw [AN,←hl]
   exact Option.some.inj h1
  exact PySem.W.ki_setBack ho (by omega) (by rw [AN,←hl];exact h3) (by omega) (by rw [hk];exact ⟨_,I',q⟩)
def Cc:V→Bool
 |.non=>true
 |.bl _=>true
 |.int _=>true
 |.str _=>true
 |_=>false
def Cd:V→V→Bool
 |.non,.non=>true
 |.bl a,.bl b=>a==b
 |.bl a,.int b=>(if a then 1 else 0)==b
 |.int a,.bl b=>a==(if b then 1 else 0)
 |.int a,.int b=>a==b
 |.str a,.str b=>a==b
 |_,_=>false
theorem MY {A:Around} {s:Shared} {y x:V} {u v:Value} (ry:RelV y u) (rx:RelV x v) (fy:Cc y=true) (fx:Cc x=true):SeqAt.EqAt A s u v (Cd y x):=by
 cases y with
 |non=>
  cases ry
  cases x with
  |non=>cases rx;exact SeqAt.EqAt.same _
  |bl b=>cases rx;exact SeqAt.EqAt.none_bool b
  |int b=>obtain ⟨t,rfl⟩:=rx;exact SeqAt.EqAt.none_int b t
  |str b=>obtain ⟨t,rfl⟩:=rx;exact SeqAt.EqAt.none_str b t
  |_=>exact absurd (show false=true from fx) AS
 |bl a=>
  cases ry
  cases x with
  |non=>cases rx;exact SeqAt.EqAt.bool_none a
  |bl b=>cases rx;exact SeqAt.EqAt.bool_bool a b
  |int b=>obtain ⟨t,rfl⟩:=rx;exact SeqAt.EqAt.bool_int a b t
  |str b=>obtain ⟨t,rfl⟩:=rx;exact SeqAt.EqAt.bool_str a b t
  |_=>exact absurd (show false=true from fx) AS
 |int a=>
  obtain ⟨t',rfl⟩:=ry
  cases x with
  |non=>cases rx;exact SeqAt.EqAt.int_none a t'
  |bl b=>cases rx;exact SeqAt.EqAt.int_bool a t' b
  |int b=>obtain ⟨t,rfl⟩:=rx;exact SeqAt.EqAt.int_int a t' b t
  |str b=>obtain ⟨t,rfl⟩:=rx;exact SeqAt.EqAt.int_str a t' b t
  |_=>exact absurd (show false=true from fx) AS
 |str a=>
  obtain ⟨t',rfl⟩:=ry
  cases x with
  |non=>cases rx;exact SeqAt.EqAt.str_none a t'
  |bl b=>cases rx;exact SeqAt.EqAt.str_bool a t' b
  |int b=>obtain ⟨t,rfl⟩:=rx;exact SeqAt.EqAt.str_int a t' b t
  |str b=>obtain ⟨t,rfl⟩:=rx;exact SeqAt.EqAt.str_str a t' b t
  |_=>exact absurd (show false=true from fx) AS
 |_=>exact absurd (show false=true from fy) AS
def Ct (x:V) (u:Value):Bool:=match u with
 |.none=>Cd .non x
 |.bool b=>Cd (.bl b) x
 |.int i _=>Cd (.int i) x
 |.str z _=>Cd (.str z) x
 |_=>false
theorem Iq {x y:V} {u:Value} (r:RelV y u) (f:Cc y=true):Ct x u=Cd y x:=by
 cases y with
 |non=>cases r;rfl
 |bl b=>cases r;rfl
 |int i=>obtain ⟨t,rfl⟩:=r;rfl
 |str z=>obtain ⟨t,rfl⟩:=r;rfl
 |_=>exact absurd (show false=true from f) AS
theorem GI {x:V}:∀{xs:List V} {us:List Value},Vals xs us→xs.all Cc=true→us.any (Ct x)=xs.any fun y=>Cd y x
 |_,_,.nil,_=>rfl
 |y::xs,u::us,.cons r t,f=>by
  rw [List.all_cons,BE] at f
  rw [List.any_cons,List.any_cons,Iq r f.1,GI t f.2]
theorem GJ {A:Around} {s:Shared} {x:V} {v:Value} (rx:RelV x v) (fx:Cc x=true):∀{xs:List V} {us:List Value},Vals xs us→xs.all Cc=true→∀u∈us,SeqAt.EqAt A s u v (Ct x u)
 |_,_,.nil,_=>fun u hu=>by cases hu
 |y::xs,u::us,.cons r t,f=>fun u' hu=>by
  rw [List.all_cons,BE] at f
  rcases qa6.mp hu with rfl |hu
  ·rw [Iq r f.1];exact MY r rx f.1 fx
  ·exact GJ rx fx t f.2 u' hu
def E8 (x:V) (xs:List V):Bool:=xs.any fun y=>Cd y x
def Ir (K:PySem.W.Frag) (neg:Bool):R2:=fun x y H Q=>∃p xs,y=.ref p∧(SqL K H p xs∨SqT K H p xs)∧Cc x=true∧xs.all Cc=true∧Q (.bl (if neg then !E8 x xs else E8 x xs)) H
theorem MZ:OpR X (compareOp .In) (Ir X.K false):=by
 intro pins s σ H x y v u Q I rx ry h
 obtain ⟨p,xs,rfl,hq,fx,fs,q⟩:=h
 cases ry
 rcases hq with hq |hq
 ·obtain ⟨its,r,pl,hz⟩:=I.list hq
  refine SeqAt.in_listAt (Ct x) pl.isList (fun w hw=>GJ rx fx r fs w (by simpa using hw)) ⟨.bl _,H,I,rfl,?_⟩
  rw [show its.toArray.any (Ct x)=its.any (Ct x) by simp,GI r fs]
  exact q
 ·obtain ⟨its,r,pl,hz⟩:=I.tuple hq
  refine SeqAt.in_tupleAt (Ct x) pl (fun w hw=>GJ rx fx r fs w (by simpa using hw)) ⟨.bl _,H,I,rfl,?_⟩
  rw [show its.toArray.any (Ct x)=its.any (Ct x) by simp,GI r fs]
  exact q
theorem M0:DB X (.builtin "len") (fun xs H Q=>∃p ys,xs=[.ref p]∧(SqL X.K H p ys∨SqT X.K H p ys)∧Q (.int ys.length) H):=by
 intro pins s σ H xs us Q I r h
 obtain ⟨p,ys,rfl,hq,q⟩:=h
 obtain ⟨u,rfl,rx⟩:=GE r
 cases rx
 have hn:=DD
 rcases hq with hq |hq
 ·obtain ⟨its,r',pl,hz⟩:=I.list hq
  have hlen:=r'.length
  exact Calls.call_len_list pl.isList (by simp only [AN]<;>omega) ⟨.int ys.length,H,I.tok _,⟨s.toks+1,by rw [AN,hlen]⟩,q⟩
 ·obtain ⟨its,r',pl,hz⟩:=I.tuple hq
  have hlen:=r'.length
  exact len_tuple pl (by simp only [AN]<;>omega) ⟨.int ys.length,H,I.tok _,⟨s.toks+1,by rw [AN,hlen]⟩,q⟩
def Iu (K:PySem.W.Frag) (T:String) (x:V) (H:Hp):Prop:=match x with
 |.str _=>T="str"
 |.int _=>T="int"
 |.ref p=>(T="list"∧∃xs,SqL K H p xs)∨(T="tuple"∧∃o,K.lookup p=some o∧o.cls=.type "tuple"∧o.dict=none)
 |_=>False
theorem M1 {pins:List (Addr×Obj)} {σ:St} {H:Hp} {s:Shared} {T:String} {x:V} {v:Value} (I:Inv X pins σ H s) (r:RelV x v) (ty:Iu X.K T x H):
 s.TypeIs v T∧∀a,v=.ref a→∃ob,s.heap.get? a=some ob∧ob.dict=none:=by
 cases x with
 |str z=>
  obtain ⟨t,rfl⟩:=r
  cases (show T="str" from ty)
  exact ⟨typeIs_str s z t,fun _ e=>nomatch e⟩
 |int i=>
  obtain ⟨t,rfl⟩:=r
  cases (show T="int" from ty)
  exact ⟨typeIs_int s i t,fun _ e=>nomatch e⟩
 |ref p=>
  cases r
  rcases ty with ⟨rfl,xs,hq⟩ |⟨rfl,o,hk,hc,hd⟩
  ·obtain ⟨its,_,pl,_⟩:=I.list hq
   refine ⟨pl.isList.typeIs,fun a e=>?_⟩
   cases e
   obtain ⟨o,n,e,c,hd,_⟩:=pl
   exact ⟨o,e,hd⟩
  ·refine ⟨⟨o,I.kIn p o hk,hc⟩,fun a e=>?_⟩
   cases e
   exact ⟨o,I.kIn _ o hk,hd⟩
 |_=>exact False.elim ty
def Rn (K:PySem.W.Frag) (T:String) (r:V→List V→Hp→VK→Prop) (to:TE) (t:TA):TE:=fun σ H Q=>to σ H fun x H1=>Iu K T x H1∧t σ H1 fun xs H2=>r x xs H2 Q
variable {o e:Expr} {es:List Expr} {to:TE} {t:TA} {name:Str} {apos cpos:Pos} {T id:String} {r:V→List V→Hp→VK→Prop}
end
def Ro (X:Cx) (id:String) (r:V→List V→Hp→VK→Prop):Prop:=
 ∀(pins:List (Addr×Obj)) (s:Shared) (σ:St) (H:Hp) (x:V) (xs:List V) (v:Value) (us:List Value) (Q:VK),Inv X pins σ H s→RelV x v→Vals xs us→r x xs H Q→
  wpAny (model X.prog X.w) X.A (call (.builtin id) (v::us)) (EP X pins σ Q) X.xe s
theorem Vals.one {x:V} {us:List Value} (h:Vals [x] us):∃u,us=[u]∧RelV x u:=by
 cases h with
 |cons r t=>cases t;exact ⟨_,rfl,r⟩
theorem Vals.reverse {xs:List V} {us:List Value} (h:Vals xs us):Vals xs.reverse us.reverse:=by
 induction h with
 |nil=>exact .nil
 |cons r t ih=>rw [List.reverse_cons,List.reverse_cons];exact Vals.append ih (.cons r .nil)
theorem Vals.rep {xs:List V} {us:List Value} (h:Vals xs us):∀k:Nat,Vals (List.replicate k xs).flatten (List.replicate k us).flatten
 |0=>.nil
 |k+1=>by
  rw [CY,CY,Dw,Dw]
  exact Vals.append h (Vals.rep h k)
theorem E9 (its:List Value):∀(k:Nat) (acc:List Value),
 List.foldl (fun x1 x2=>x1++x2) acc.toArray (List.replicate k its.toArray)=(acc++(List.replicate k its).flatten).toArray
 |0,acc=>by simp
 |k+1,acc=>by
  have e:acc.toArray++its.toArray=(acc++its).toArray:=by simp
  have e2:(acc++its)++(List.replicate k its).flatten=acc++(List.replicate (k+1) its).flatten:=by
   rw [CY,Dw,List.append_assoc]
  rw [←e2,←E9 its k (acc++its),←e,CY,List.foldl_cons]
section
variable {X:Cx} {pins:List (Addr×Obj)} {σ:St} {H:Hp} {s:Shared} {l b:Addr} {xs ys zs:List V}
theorem Inv.lnew {its:List Value} {t':Nat} (I:Inv X pins σ H s) (hv:Vals ys its) (hz:ys.length≤sizeLine):
 Inv X pins σ (Ag H s.heap.objs.size (.lst ys)) {s with heap:=s.heap.push {cls:=.type "list",data:=.seq its.toArray},toks:=t'}:=
 I.laid (fun _ _ q=>AR _ q) (AJ _) ⟨hz,its,0,hv,BD _ rfl⟩
theorem Inv.fresh (I:Inv X pins σ H s):H s.heap.objs.size=none:=I.hok.fresh (AJ _)
theorem Inv.lstM (I:Inv X pins σ H s) (hH:H l=some (.lst xs)):xs.length≤sizeLine∧∃(its:List Value) (n:Nat),Vals xs its∧xs.length=its.length∧s.heap.get? l=some {cls:=.type "list",data:=.seq its.toArray n}:=by
 obtain ⟨z,its,n,r,e⟩:=I.hok l _ hH
 exact ⟨z,its,n,r,r.length,e⟩
theorem M3 {n:Nat} (h:n≤sizeLine):Builtin.List.listTooLong n=false:=by
 unfold Builtin.List.listTooLong
 exact decide_eq_false (by omega)
end
section
variable {X:Cx}
def Rq:V→List V→Hp→VK→Prop:=fun x vs H Q=>∃l xs y,x=.ref l∧vs=[y]∧H l=some (.lst xs)∧xs.length<sizeLine∧Q .non (Ag H l (.lst (xs++[y])))
def M4:R2:=fun x y H Q=>∃l b xs zs,x=.ref l∧y=.ref b∧H l=some (.lst xs)∧H b=some (.lst zs)∧xs.length+zs.length≤sizeLine∧∀p,H p=none→Q (.ref p) (Ag H p (.lst (xs++zs)))
theorem op_cat:OpR X (binaryOp .Add) M4:=by
 intro pins s σ H x y v u Q I rx ry h
 obtain ⟨l,b,xs,zs,rfl,rfl,hH,hB,hz,q⟩:=h
 cases rx
 cases ry
 obtain ⟨z,its,n,r,hl,e⟩:=I.lstM hH
 obtain ⟨z2,its2,n2,r2,hl2,e2⟩:=I.lstM hB
 refine PySem.P.add_list e e2 ?_ (by rw [AN,AN];omega)
 have ea:its.toArray++its2.toArray=(its++its2).toArray:=by simp
 rw [ea]
 exact ⟨.ref _,_,I.lnew (t':=s.toks) (r.append r2) (by rw [EL];omega),rfl,q _ I.fresh⟩
def M5:R2:=fun x y H Q=>∃l k xs,x=.ref l∧y=.int k∧H l=some (.lst xs)∧-(2^63)≤k∧k<2^63∧xs.length*k.toNat≤sizeLine∧
 ∀p,H p=none→Q (.ref p) (Ag H p (.lst (List.replicate k.toNat xs).flatten))
theorem Fb {α:Type} (xs:List α) (k:Nat):(List.replicate k xs).flatten.length=k*xs.length:=by
 induction k with
 |zero=>simp
 |succ k ih=>rw [CY,Dw,EL,ih,Nat.succ_mul,Nat.add_comm]
theorem M6:OpR X (binaryOp .Mult) M5:=by
 intro pins s σ H x y v u Q I rx ry h
 obtain ⟨l,k,xs,rfl,rfl,hH,h1,h2,hz,q⟩:=h
 cases rx
 obtain ⟨t,rfl⟩:=ry
 obtain ⟨z,its,n,r,hl,e⟩:=I.lstM hH
 have hlen:its.toArray.size*k.toNat≤sizeLine:=by rw [AN,←hl];exact hz
 have hcap:¬its.toArray.size*k.toNat>(2^63 - 1) / 8:=by
  have:(sizeLine:Nat)≤(2^63 - 1) / 8:=by decide
  omega
 have hfit:¬(!Builtin.List.listFitsIndex k)=true:=by
  rw [fitsIndex_both h1 h2]
  exact AS
 have hlong:¬Builtin.List.listTooLong (its.toArray.size*k.toNat)=true:=by
  rw [M3 hlen]
  exact AS
 have hnew:List.foldl (fun x1 x2=>x1++x2) #[] (List.replicate (if its.toArray.isEmpty=true then 0 else k.toNat) its.toArray)=(List.replicate k.toNat its).flatten.toArray:=by
  have f0:∀m:Nat,List.foldl (fun x1 x2=>x1++x2) #[] (List.replicate m its.toArray)=(List.replicate m its).flatten.toArray:=fun m=>by
   have:=E9 its m []
   rw [ES] at this
   exact this
  rw [f0]
  cases its with
  |nil=>simp
  |cons a r'=>rw [if_neg (by simp)]
 refine wpAny_binaryOp_repeat_ref (T:="list") (U:="int") (by decide) ⟨_,e,rfl⟩ (fun s'=>typeIs_int s' k t) noFill_list_mul F.fills_int_mul F.slot_int_rmul repeat_list F.slot_int_index.lookup
  (call_meets F.slot_int_rmul (typeIs_int s k t) F.entry_int_rmul (F.args_int_rmul_2 _ _) (int___rmul___int_list k t l its.toArray n)
   ⟨e,rfl,⟨_,e,rfl⟩,call_meets F.slot_list_mul ⟨_,e,rfl⟩ F.entry_list_mul (F.args_list_mul_2 _ _) (AutoListH.list___mul___list_int_3 l its.toArray n k t hfit hcap hlong) ⟨e,?_⟩⟩)
 rw [hnew]
 exact ⟨.ref _,_,I.lnew (t':=s.toks) (r.rep k.toNat) (by rw [Fb,Nat.mul_comm];exact hz),rfl,q _ I.fresh⟩
end
section
variable {prog:Program} {w:World} {A:Around} {E:Value→Shared→Prop} {s:Shared}
end
section
variable {X:Cx}
end
end L2
namespace Att
open PySem PySem.W PySem.Calls PyProof.Rows
theorem M7 {P:Params} {h:Heap}:∀(ns:List Int) (vs:List Value),WellAll P h vs (ns.map WData.int)→IntsAre vs ns:=by
 intro ns
 induction ns with
 |nil=>
  intro vs w
  rw [List.map_nil] at w
  cases w
  exact .nil
 |cons n ns ih=>
  intro vs w
  rw [BF] at w
  cases w with
  |cons a b=>
   cases a
   exact .cons _ _ (ih _ b)
theorem M8 {l:OpenLaw} {n:Nat} (hn:l.most=some n) {P:Params} {h:Heap} {args:List WData} {vals:List Value}
 (hpre:l.row.toRowW.claim.pre args=true) (hwl:WellAll P h vals args):
 ∃a vs ns,vals=[Value.ref a]∧args=[WData.list (ns.map WData.int)]∧h.get? a=some {cls:=.type "list",data:=.seq vs.toArray}∧IntsAre vs ns∧ns.length≤n:=by
 have hsh:WShape.hasAll [] args [.list .int]=true:=(pre_splitW hpre).1
 have hc:l.pre.holds [] {args:=args}=true:=(pre_splitW hpre).2
 obtain ⟨d,r,rfl,h1,h2⟩:=hasAllW_cons hsh
 obtain rfl:=hasAllW_nil h2
 obtain ⟨xs,rfl,h3⟩:=hasW_list h1
 obtain ⟨ns,rfl⟩:=items_int h3
 have hlen:ns.length≤n:=by
  unfold OpenLaw.pre at hc
  have h4:(WTm.not (.lt (.lit (.int (n:Int))) (.len (.arg 0)))).holds [] {args:=[.list (ns.map .int)]}=true:=by
   have h4:=(holds_andW hc).1
   rw [hn] at h4
   exact h4
  have h5:=condW_of h4 (w_not (w_lt w_lit (w_len_list (w_arg rfl))))
  rw [Dy] at h5
  refine D0 fun q=>?_
  have q':(n:Int)<((ns.length:Nat):Int):=by omega
  first
   |(rw [decide_eq_true q'] at h5;exact absurd h5 (by decide))
   |(simp at h5;omega)
 cases hwl with
 |cons w1 w2=>
  cases w2
  cases w1 with
  |list ho hall=>exact ⟨_,_,ns,rfl,rfl,ho,M7 ns _ hall,hlen⟩
theorem M9 (l:OpenLaw) (args:List WData):l.row.toRowW.claim.post args (.bool true) args=true:=
 postW_of (r:=l.row.toRowW) (X:=(true==true))
  (show WShape.has [] (.bool true) .bool=true by first |rfl |decide |simp [WShape.has,WShape.arms,WShape.armsAll])
  (show (WTm.eq .res (.lit (.bool true))).value [] {args:=args,res:=some (.bool true),after:=args}=some (.bool (true==true)) from w_eq_bool (w_res rfl) w_lit) rfl
section
variable {prog:Program} {w:World} {A:Around} {E:Value→Shared→Prop} {s:Shared} {K:Frag}
end
end Att
namespace L2
open PySem PySem.Spec PyProof.Rows
theorem vals_ints:∀{vs:List Value} {ns:List Int},IntsAre vs ns→Vals (ns.map V.int) vs
 |_,_,.nil=>.nil
 |_,_,.cons n t h=>.cons ⟨t,rfl⟩ (vals_ints h)
def defArgs (s:Stmt):Arguments:=match s with
 |.FunctionDef _ a _ _ _ _ _ _ _ _=>a
 |_=>{posonlyargs:=[],args:=[],vararg:=none,kwonlyargs:=[],kw_defaults:=[],kwarg:=none,defaults:=[]}
def defBody (s:Stmt):List Stmt:=match s with
 |.FunctionDef _ _ b _ _ _ _ _ _ _=>b
 |_=>[]
def defScope (s:Stmt):Scope:=match s with
 |.FunctionDef _ _ _ _ _ _ sc _ _ _=>sc
 |_=>{kind:=.function,names:=[],isGenerator:=false,isCoroutine:=false}
abbrev Iv:Cb:=fun _ _ _ _ _ _=>False
abbrev E0:XK:=fun _ _ _=>False
inductive Iw (K:PySem.W.Frag) (x qual:Str) (st:Stmt) (f:Addr) (fd:FuncData):Prop where
 |mk (oc:Value) (od:Option Addr) (kV doc pm:Value) (an:Option Addr) (cdv ct:Value) (osl:Array (Option Value)) (f1:fd=PySem.W.fnOf x qual (defArgs st) (defBody st) (defScope st) .none kV doc pm an cdv ct) (f2:K.lookup f=some ⟨oc,od,.func fd,osl⟩) (f3:PySem.W.codeIn K cdv qual=true):Iw K x qual st f fd
structure Fun (K:PySem.W.Frag) (x qual:Str) (st:Stmt) (f:Addr) (fd:FuncData):Prop where
 ex:Iw K x qual st f fd
 kp:PySem.W.keepIn K (.ref f)=true
section
variable {P:Program} {w:World} {K:PySem.W.Frag} {mg:Str→Option Value} {base:Heap}
theorem Fun.binds {x qual:Str} {st:Stmt} {f:Addr} {fd:FuncData} {ps:List Str} (F:Fun K x qual st f fd)
 (h:∀(kV doc pm:Value) (an:Option Addr) (cdv ct:Value) (us:List Value),us.length=ps.length→bindArgs (PySem.W.fnOf x qual (defArgs st) (defBody st) (defScope st) .none kV doc pm an cdv ct) ⟨us,[]⟩=pure (ps.zip us)):Binds K fd ps []:=by
 obtain ⟨oc,od,kV,doc,pm,an,cdv,ct,osl,rfl,lk,hcd⟩:=F.ex
 exact .all (h kV doc pm an cdv ct)
theorem Fc {x qual:Str} {st:Stmt} {f:Addr} {oc:Value} {od an:Option Addr} {osl:Array (Option Value)} {kV doc pm cdv ct:Value} (l:K.lookup f=some ⟨oc,od,.func (PySem.W.fnOf x qual (defArgs st) (defBody st) (defScope st) .none kV doc pm an cdv ct),osl⟩)
 (c:PySem.W.codeIn K cdv qual=true) (k:PySem.W.keepIn K (.ref f)=true):Fun K x qual st f (PySem.W.fnOf x qual (defArgs st) (defBody st) (defScope st) .none kV doc pm an cdv ct):=⟨⟨oc,od,kV,doc,pm,an,cdv,ct,osl,rfl,l,c⟩,k⟩
end
section
variable {X:Cx}
theorem pv (i:Nat) {x:Str} {pos:Pos} (hN:X.N[i]?=some x:=by rfl) (hv:BP X.env.scope x:=by first |exact Or.inl rfl |exact Or.inr (Or.inl rfl) |exact Or.inr (Or.inr rfl)) (hd:(x==("__debug__":Str))=false:=by decide)
 (hcd:(x==("__classdict__":Str))=false:=by decide):PE X (.Name x pos) (Gx i):=D4 hN hv hd hcd
end
end L2
namespace LS
open PySem PySem.Spec PyProof.Rows L2
inductive D where
 |non |bl (b:Bool) |int (i:Int) |str (x:Str) |tup (ds:List D) |loc (l:Nat) |scr (ns:List Int) |adr (a:Addr) |ty (n:String) |exc (n:Str) (fs:List (Str×Int)) |edic |glo (n:Str) |clo (a:Addr) (vs:List V) (ds:List D)
inductive BH where
 |lst (ds:List D) |tab
abbrev HD:=List BH
abbrev Ae:=List (Option D)
inductive Out (α:Type) where
 |ok (a:α) (h:HD) |err (C:Value) (fs:List (Str×D)) (h:HD) |stuck
def Out.bind {α β:Type} (o:Out α) (k:α→HD→Out β):Out β:=match o with
 |.ok a h=>k a h
 |.err C fs h=>.err C fs h
 |.stuck=>.stuck
@[simp] theorem Out.bind_ok {α β:Type} (a:α) (h:HD) (k:α→HD→Out β):(Out.ok a h).bind k=k a h:=rfl
@[simp] theorem Out.bind_err {α β:Type} (C:Value) (fs:List (Str×D)) (h:HD) (k:α→HD→Out β):(Out.err C fs h:Out α).bind k=.err C fs h:=rfl
@[simp] theorem Out.bind_stuck {α β:Type} (k:α→HD→Out β):(Out.stuck:Out α).bind k=.stuck:=rfl
def GK:HO→Bool
 |.tup _=>true
 |.frz _ _=>true
 |.ext _=>true
 |.xd _=>true
 |_=>false
def Kp (H H':Hp):Prop:=∀b o,H b=some o→GK o=true→H' b=some o
theorem Kp.refl (H:Hp):Kp H H:=fun _ _ e _=>e
theorem Kp.trans {H H1 H2:Hp} (a:Kp H H1) (b:Kp H1 H2):Kp H H2:=fun c o e i=>b c o (a c o e i) i
theorem Kp.new {H:Hp} {p:Addr} {o:HO} (h:H p=none):Kp H (Ag H p o):=fun b u e _=>by rw [Af (AZ e h)];exact e
theorem Kp.set {H:Hp} {p:Addr} {o u:HO} (h:H p=some o) (i:GK o=false):Kp H (Ag H p u):=fun b w e iw=>by
 rw [Af]
 ·exact e
 ·intro z
  rw [z,h] at e;cases e;rw [i] at iw;cases iw
def FzL (K:PySem.W.Frag) (H:Hp) (a:Addr) (xs:List V):Prop:=(∃o,H a=some (.frz o (.lst xs)))∨SqL K (fun _=>none) a xs
theorem Kp.fzL {K:PySem.W.Frag} {H H':Hp} {a:Addr} {xs:List V} (k:Kp H H') (h:FzL K H a xs):FzL K H' a xs:=by
 rcases h with ⟨o,h⟩ |h
 ·exact .inl ⟨o,k _ _ h rfl⟩
 ·exact .inr h
theorem FzL.sq {K:PySem.W.Frag} {H:Hp} {a:Addr} {xs:List V} (h:FzL K H a xs):SqL K H a xs:=by
 rcases h with ⟨o,h⟩ |(h |⟨o,h⟩) |h
 ·exact .inl (.inr ⟨o,h⟩)
 ·cases h
 ·cases h
 ·exact .inr h
def CZ (C:Addr) (da:Option Addr) (a:Addr) (h:Heap):Prop:=∃o vs,h.get? a=some o∧o.cls=.ref C∧(∀d,da=some d→o.dict=some d)∧o.data=.fields vs
def Iz (a:Addr) (h:Heap):Prop:=a≠sysModules∧∃o ep,h.get? a=some o∧o.ExactDict∧o.data=.dict #[] ep
mutual
def DV (K:PySem.W.Frag) (m:List Addr) (H:Hp):D→V→Prop
 |.non,v=>v=.non
 |.bl b,v=>v=.bl b
 |.int i,v=>v=.int i
 |.str x,v=>v=.str x
 |.tup ds,v=>∃a vs,v=.ref a∧H a=some (.tup vs)∧DVs K m H ds vs
 |.loc l,v=>∃a,v=.ref a∧m[l]?=some a
 |.scr ns,v=>∃a,v=.ref a∧FzL K H a (ns.map V.int)
 |.adr a,v=>v=.ref a
 |.ty n,v=>v=.ty n
 |.exc n fs,v=>∃a C da,v=.ref a∧PySem.W.nsIn K mainGlobals n=some (some (.ref C))∧H a=some (.ext (CZ C da a))∧∀f i,fs.lookup f=some i→∃d fv,da=some d∧H d=some (.xd fv)∧fv.lookup f=some (.int i)
 |.edic,v=>∃a,v=.ref a∧H a=some (.ext (Iz a))
 |.glo n,v=>∃a,v=.ref a∧PySem.W.nsIn K mainGlobals n=some (some (.ref a))
 |.clo a vs ds,v=>v=.ref a∧DVs K m H ds vs
def DVs (K:PySem.W.Frag) (m:List Addr) (H:Hp):List D→List V→Prop
 |[],vs=>vs=[]
 |d::ds,vs=>∃v r,vs=v::r∧DV K m H d v∧DVs K m H ds r
end
section
variable {K:PySem.W.Frag} {m m':List Addr} {H H':Hp}
theorem IA {l:Nat} {a:Addr} (p:m <+:m') (h:m[l]?=some a):m'[l]?=some a:=by
 obtain ⟨t,rfl⟩:=p
 have hl:l<m.length:=(qa7.mp h).1
 rw [CW hl];exact h
mutual
theorem DV.keep (p:m <+:m') (k:Kp H H'):∀{d:D} {v:V},DV K m H d v→DV K m' H' d v
 |.non,_,h=>by simpa [DV] using h
 |.bl _,_,h=>by simpa [DV] using h
 |.int _,_,h=>by simpa [DV] using h
 |.str _,_,h=>by simpa [DV] using h
 |.tup ds,_,h=>by
  simp only [DV] at h ⊢
  obtain ⟨a,vs,e,q,r⟩:=h
  exact ⟨a,vs,e,k _ _ q rfl,DVs.keep p k r⟩
 |.loc l,_,h=>by
  simp only [DV] at h ⊢
  obtain ⟨a,e,q⟩:=h
  exact ⟨a,e,IA p q⟩
 |.scr ns,_,h=>by
  simp only [DV] at h ⊢
  obtain ⟨a,e,q⟩:=h
  exact ⟨a,e,k.fzL q⟩
 |.adr _,_,h=>by simpa [DV] using h
 |.ty _,_,h=>by simpa [DV] using h
 |.exc _ _,_,h=>by
  simp only [DV] at h ⊢
  obtain ⟨a,C,da,e,q,r,t⟩:=h
  exact ⟨a,C,da,e,q,k _ _ r rfl,fun f i z=>let ⟨d,fv,z1,z2,z3⟩:=t f i z;⟨d,fv,z1,k _ _ z2 rfl,z3⟩⟩
 |.edic,_,h=>by
  simp only [DV] at h ⊢
  obtain ⟨a,e,r⟩:=h
  exact ⟨a,e,k _ _ r rfl⟩
 |.glo _,_,h=>by simpa [DV] using h
 |.clo _ _ ds,_,h=>by
  simp only [DV] at h ⊢
  exact ⟨h.1,DVs.keep p k h.2⟩
theorem DVs.keep (p:m <+:m') (k:Kp H H'):∀{ds:List D} {vs:List V},DVs K m H ds vs→DVs K m' H' ds vs
 |[],_,h=>by simpa [DVs] using h
 |d::ds,_,h=>by
  simp only [DVs] at h ⊢
  obtain ⟨v,r,e,q,t⟩:=h
  exact ⟨v,r,e,DV.keep p k q,DVs.keep p k t⟩
end
theorem DVs.nil:DVs K m H [] []:=by simp [DVs]
theorem DVs.cons {d:D} {v:V} {ds:List D} {vs:List V} (h:DV K m H d v) (t:DVs K m H ds vs):DVs K m H (d::ds) (v::vs):=by
 simp only [DVs];exact ⟨v,vs,rfl,h,t⟩
theorem DVs.len:∀{ds:List D} {vs:List V},DVs K m H ds vs→ds.length=vs.length
 |[],_,h=>by simp only [DVs] at h;subst h;rfl
 |d::ds,_,h=>by
  simp only [DVs] at h
  obtain ⟨v,r,e,_,t⟩:=h
  subst e
  simp [DVs.len t]
theorem DVs.get:∀{ds:List D} {vs:List V} {i:Nat} {d:D},DVs K m H ds vs→ds[i]?=some d→∃v,vs[i]?=some v∧DV K m H d v
 |[],_,_,_,_,e=>by simp at e
 |d::ds,_,i,x,h,e=>by
  simp only [DVs] at h
  obtain ⟨v,r,rfl,q,t⟩:=h
  cases i with
  |zero=>simp at e;subst e;exact ⟨v,rfl,q⟩
  |succ i=>
   obtain ⟨w,h1,h2⟩:=DVs.get (i:=i) t (by simpa using e)
   exact ⟨w,by simpa using h1,h2⟩
theorem DVs.app:∀{ds es:List D} {vs ws:List V},DVs K m H ds vs→DVs K m H es ws→DVs K m H (ds++es) (vs++ws)
 |[],_,_,_,h,t=>by simp only [DVs] at h;subst h;exact t
 |d::ds,_,_,_,h,t=>by
  simp only [DVs] at h
  obtain ⟨v,r,rfl,q,u⟩:=h
  exact .cons q (DVs.app u t)
theorem DVs.set:∀{ds:List D} {vs:List V} {d:D} {v:V} (i:Nat),DVs K m H ds vs→DV K m H d v→DVs K m H (ds.set i d) (vs.set i v)
 |[],_,_,_,_,h,_=>by simp only [DVs] at h;subst h;exact .nil
 |d::ds,_,_,_,i,h,q'=>by
  simp only [DVs] at h
  obtain ⟨v,r,rfl,q,u⟩:=h
  cases i with
  |zero=>exact .cons q' u
  |succ i=>exact .cons q (DVs.set i u q')
theorem DVs.take:∀{ds:List D} {vs:List V} (n:Nat),DVs K m H ds vs→DVs K m H (ds.take n) (vs.take n)
 |_,_,0,_=>by simpa using (DVs.nil:DVs K m H [] [])
 |[],_,n+1,h=>by simp only [DVs] at h;subst h;exact .nil
 |d::ds,_,n+1,h=>by
  simp only [DVs] at h
  obtain ⟨v,r,rfl,q,u⟩:=h
  exact .cons q (DVs.take n u)
theorem DVs.drop:∀{ds:List D} {vs:List V} (n:Nat),DVs K m H ds vs→DVs K m H (ds.drop n) (vs.drop n)
 |_,_,0,h=>by simpa using h
 |[],_,n+1,h=>by simp only [DVs] at h;subst h;exact .nil
 |d::ds,_,n+1,h=>by
  simp only [DVs] at h
  obtain ⟨v,r,rfl,q,u⟩:=h
  simpa using DVs.drop n u
theorem DVs.rep {ds:List D} {vs:List V} (h:DVs K m H ds vs):∀n,DVs K m H (List.replicate n ds).flatten (List.replicate n vs).flatten
 |0=>by simpa using (DVs.nil:DVs K m H [] [])
 |n+1=>by
  rw [CY,Dw,CY,Dw]
  exact h.app (DVs.rep h n)
def Na (q:Str) (c:Addr) (h:Heap):Prop:=h.CodeRec (.ref c) q
def tabP (K:PySem.W.Frag):Option (Addr×Addr):=match PySem.W.nsIn K mainGlobals "law" with
 |some (some (.ref f))=>(match K.lookup f with
  |some ⟨_,_,.func fd,_⟩=>(match fd.code with
   |.ref c=>(match K.lookup c with
    |some ⟨_,_,.fields vs,_⟩=>(match (vs[11]?:Option Value) with
     |some (.ref P)=>some (c,P)
     |_=>none)
    |_=>none)
   |_=>none)
  |_=>none)
 |_=>none
def TabIs (K:PySem.W.Frag) (H:Hp) (a:Addr):Prop:=(∃c,tabP K=some (c,a))∧∃ps,H a=some (.tbl ps)∧TriplesOk ps.toList∧∀pos cv,codeAmong pos ps.toList=some cv→∃c,cv=.ref c∧H c=some (.ext (Na "law.<locals>.<lambda>" c))
theorem TabIs.keep {K:PySem.W.Frag} {H H':Hp} {a:Addr} (t:TabIs K H a) (k:Kp H H') (e:H' a=H a):TabIs K H' a:=by
 obtain ⟨z,ps,h1,h2,h3⟩:=t
 exact ⟨z,ps,e.trans h1,h2,fun pos cv q=>let ⟨c,q1,q2⟩:=h3 pos cv q;⟨c,q1,k _ _ q2 rfl⟩⟩
def Fd (K:PySem.W.Frag) (m:List Addr) (H:Hp):BH→Addr→Prop
 |.lst ds,a=>∃vs,H a=some (.lst vs)∧DVs K m H ds vs
 |.tab,a=>TabIs K H a
structure HR (K:PySem.W.Frag) (m:List Addr) (h:HD) (H:Hp):Prop where
 len:m.length=h.length
 nd:m.Nodup
 cells:∀(l:Nat) (c:BH) (a:Addr),h[l]?=some c→m[l]?=some a→Fd K m H c a
theorem HR.at {h:HD} {l:Nat} {c:BH} (r:HR K m h H) (e:h[l]?=some c):∃a,m[l]?=some a∧Fd K m H c a:=by
 have hl:l<h.length:=(qa7.mp e).1
 have:l<m.length:=by rw [r.len];exact hl
 exact ⟨m[l],A8 this,r.cells l c _ e (A8 this)⟩
theorem HR.mem {h:HD} {a:Addr} (r:HR K m h H) (ha:a∈m):H a≠none:=by
 obtain ⟨l,hl,rfl⟩:=List.getElem_of_mem ha
 have hl':l<h.length:=by rw [←r.len];exact hl
 have:=r.cells l h[l] m[l] (A8 hl') (A8 hl)
 cases hc:h[l] with
 |lst ds=>
  rw [hc] at this
  obtain ⟨vs,e,_⟩:=this
  rw [e];simp
 |tab=>
  rw [hc] at this
  obtain ⟨_,ps,e,_⟩:=this
  rw [e];simp
theorem HR.same {h:HD} (r:HR K m h H) (k:Kp H H') (s:∀a∈m,H' a=H a):HR K m h H':=by
 refine ⟨r.len,r.nd,fun l c a e q=>?_⟩
 have hm:a∈m:=Du q
 have:=r.cells l c a e q
 cases c with
 |lst ds=>
  obtain ⟨vs,e1,e2⟩:=this
  exact ⟨vs,by rw [s a hm];exact e1,e2.keep (Au _) k⟩
 |tab=>exact TabIs.keep this k (s a hm)
theorem HR.new {h:HD} {p:Addr} {o:HO} (r:HR K m h H) (hp:H p=none):HR K m h (Ag H p o):=
 r.same (.new hp) fun a ha=>Af fun z=>r.mem ha (z ▸ hp)
theorem HR.newCell {h:HD} {p:Addr} {o:HO} {c:BH} (r:HR K m h H) (hp:H p=none) (hc:Fd K (m++[p]) (Ag H p o) c p):HR K (m++[p]) (h++[c]) (Ag H p o):=by
 have hpm:p∉m:=fun z=>r.mem z hp
 refine ⟨by simp [r.len],?_,fun l c' a e q=>?_⟩
 ·rw [List.nodup_append]
  refine ⟨r.nd,by simp,fun a ha b hb=>?_⟩
  rw [qaD] at hb
  subst hb
  intro z;subst z;exact hpm ha
 ·by_cases hl:l<m.length
  ·rw [CW hl] at q
   rw [CW (by rw [←r.len];exact hl)] at e
   have:=r.cells l c' a e q
   have hne:a≠p:=fun z=>hpm (z ▸ Du q)
   cases c' with
   |lst ds=>
    obtain ⟨vs,e1,e2⟩:=this
    exact ⟨vs,by rw [Af hne];exact e1,e2.keep (List.prefix_append _ _) (.new hp)⟩
   |tab=>exact TabIs.keep this (.new hp) (Af hne)
  ·have h1:m.length≤l:=D0 hl
   rw [EJ h1] at q
   rw [EJ (by rw [←r.len];exact h1)] at e
   have e0:l - m.length=0:=by
    cases hz:l - m.length with
    |zero=>rfl
    |succ n=>rw [hz] at q;simp at q
   rw [←r.len] at e
   rw [e0] at q e
   simp at q e
   subst q e
   exact hc
theorem HR.setCell {h:HD} {p:Addr} {l:Nat} {o u:HO} {c:BH} (r:HR K m h H) (hl:m[l]?=some p) (ho:H p=some o) (i:GK o=false) (hc:Fd K m (Ag H p u) c p):HR K m (h.set l c) (Ag H p u):=by
 refine ⟨by simp [r.len],r.nd,fun j c' a e q=>?_⟩
 by_cases hj:j=l
 ·subst hj
  rw [hl] at q;cases q
  have hlt:j<h.length:=by rw [←r.len];exact (qa7.mp hl).1
  rw [Dt hlt] at e
  cases e
  exact hc
 ·rw [CB (Ne.symm hj)] at e
  have:=r.cells j c' a e q
  have hne:a≠p:=by
   intro z
   subst z
   obtain ⟨h1,e1⟩:=qa7.mp q
   obtain ⟨h2,e2⟩:=qa7.mp hl
   exact hj ((List.getElem_inj r.nd).mp (e1.trans e2.symm))
  cases c' with
  |lst ds=>
   obtain ⟨vs,e1,e2⟩:=this
   exact ⟨vs,by rw [Af hne];exact e1,e2.keep (Au _) (.set ho i)⟩
  |tab=>exact TabIs.keep this (.set ho i) (Af hne)
def ER (K:PySem.W.Frag) (m:List Addr) (H:Hp) (ρ:Ae) (σ:L2.St):Prop:=ρ.length=σ.length∧∀(i:Nat) (d:D),ρ[i]?=some (some d)→∃v,σ[i]?=some (some v)∧DV K m H d v
theorem ER.keep {ρ:Ae} {σ:L2.St} (p:m <+:m') (k:Kp H H') (e:ER K m H ρ σ):ER K m' H' ρ σ:=⟨e.1,fun i d h=>let ⟨v,a,b⟩:=e.2 i d h;⟨v,a,b.keep p k⟩⟩
theorem ER.set {ρ:Ae} {σ:L2.St} {i:Nat} {d:D} {v:V} (e:ER K m H ρ σ) (r:DV K m H d v):ER K m H (ρ.set i (some d)) (σ.set i (some v)):=by
 refine ⟨by simp [e.1],fun j d' h=>?_⟩
 by_cases hj:i=j
 ·subst hj
  by_cases hl:i < ρ.length
  ·rw [Dt hl] at h
   cases h
   exact ⟨v,by rw [Dt (by rw [←e.1];exact hl)],r⟩
  ·rw [List.getElem?_eq_none (by simp;omega)] at h;cases h
 ·rw [CB hj] at h
  obtain ⟨w,a,b⟩:=e.2 j d' h
  exact ⟨w,by rw [CB hj];exact a,b⟩
theorem ER.start {N:List Str} {ds:List D} {vs:List V} (h:DVs K m H ds vs):ER K m H (ds.map some++List.replicate (N.length - ds.length) none) (L2.start N vs):=by
 refine ⟨by simp [L2.start,h.len],fun i d e=>?_⟩
 by_cases hl:i<ds.length
 ·rw [CW (by simpa using hl),CC] at e
  obtain ⟨d',e1⟩:∃d',ds[i]?=some d':=⟨ds[i],A8 hl⟩
  rw [e1] at e
  simp at e
  subst e
  obtain ⟨v,q,r⟩:=h.get e1
  refine ⟨v,?_,r⟩
  unfold L2.start
  rw [CW (by simpa [←h.len] using hl),CC,q]
  rfl
 ·rw [EJ (by simpa using D0 hl)] at e
  rw [List.getElem?_replicate] at e
  split at e<;>cases e
def XD (K:PySem.W.Frag) (m:List Addr) (H:Hp) (fs:List (Str×D)) (da:Option Addr):Prop:=
 ∀f d,fs.lookup f=some d→∃a fv v,da=some a∧H a=some (.xd fv)∧fv.lookup f=some v∧DV K m H d v
def Post {α β:Type} (K:PySem.W.Frag) (R:List Addr→Hp→α→β→Prop) (m:List Addr) (H:Hp) (E:XK) (Q:β→Hp→Prop):Out α→Prop
 |.ok a h'=>∀v m' H',m <+:m'→Kp H H'→HR K m' h' H'→R m' H' a v→Q v H'
 |.err C fs h'=>∀da m' H',m <+:m'→Kp H H'→HR K m' h' H'→XD K m' H' fs da→E C da H'
 |.stuck=>False
theorem Post.ahead {α β:Type} {R:List Addr→Hp→α→β→Prop} {E:XK} {Q:β→Hp→Prop} {o:Out α} (p:m <+:m') (k:Kp H H') (h:Post K R m H E Q o):Post K R m' H' E Q o:=by
 cases o with
 |ok a h'=>exact fun v m2 H2 p2 k2=>h v m2 H2 (p.trans p2) (k.trans k2)
 |err C fs h'=>exact fun da m2 H2 p2 k2=>h da m2 H2 (p.trans p2) (k.trans k2)
 |stuck=>exact h
theorem Post.bind {α β γ δ:Type} {R:List Addr→Hp→α→β→Prop} {R':List Addr→Hp→γ→δ→Prop} {E:XK} {Q:δ→Hp→Prop} {Q':β→Hp→Prop} {o:Out α} {k:α→HD→Out γ}
 (h:Post K R' m H E Q (o.bind k)) (f:∀a h1 v m1 H1,o=.ok a h1→m <+:m1→Kp H H1→HR K m1 h1 H1→R m1 H1 a v→Post K R' m1 H1 E Q (k a h1)→Q' v H1):Post K R m H E Q' o:=by
 cases o with
 |ok a h1=>exact fun v m1 H1 p kk hr r=>f a h1 v m1 H1 rfl p kk hr r (h.ahead p kk)
 |err C fs h1=>exact h
 |stuck=>exact h
theorem Post.mono {α β:Type} {R:List Addr→Hp→α→β→Prop} {E:XK} {Q Q':β→Hp→Prop} {o:Out α} (h:Post K R m H E Q o) (f:∀v H',Q v H'→Q' v H'):Post K R m H E Q' o:=by
 cases o with
 |ok a h1=>exact fun v m1 H1 p k hr r=>f _ _ (h v m1 H1 p k hr r)
 |err C fs h1=>exact h
 |stuck=>exact h
end
abbrev ME:=Ae→HD→Out D
abbrev MT:=Ae→HD→Out Bool
abbrev MA:=Ae→HD→Out (List D)
inductive Fl where
 |nx |bk |ct |rt (d:D)
abbrev MS:=Ae→HD→Out (Fl×Ae)
def rD (K:PySem.W.Frag):List Addr→Hp→D→V→Prop:=fun m H d v=>DV K m H d v
def rB:List Addr→Hp→Bool→Bool→Prop:=fun _ _ a b=>a=b
def Cu (K:PySem.W.Frag):List Addr→Hp→List D→List V→Prop:=fun m H d v=>DVs K m H d v
inductive tM {α β:Type} (K:PySem.W.Frag) (R:List Addr→Hp→α→β→Prop) (E:XK) (f:Ae→HD→Out α) (σ:L2.St) (H:Hp) (Q:β→Hp→Prop):Prop where
 |mk (m:List Addr) (ρ:Ae) (h:HD) (hr:HR K m h H) (er:ER K m H ρ σ) (p:Post K R m H E Q (f ρ h)):tM K R E f σ H Q
abbrev tD (K:PySem.W.Frag) (E:XK) (f:ME):TE:=tM K (rD K) E f
abbrev Ea (K:PySem.W.Frag) (E:XK) (f:MT):TT:=tM K rB E f
abbrev Nb (K:PySem.W.Frag) (E:XK) (f:MA):TA:=tM K (Cu K) E f
def IB (K:PySem.W.Frag) (m:List Addr) (H:Hp) (D:BG):Fl×Ae→Prop
 |(.nx,ρ)=>∀σ,ER K m H ρ σ→D.nx σ H
 |(.bk,ρ)=>∀σ,ER K m H ρ σ→D.bk σ H
 |(.ct,ρ)=>∀σ,ER K m H ρ σ→D.ct σ H
 |(.rt d,_)=>∀v,DV K m H d v→D.rt v H
def PostS (K:PySem.W.Frag) (m:List Addr) (H:Hp) (E:XK) (D:BG):Out (Fl×Ae)→Prop
 |.ok a h'=>∀m' H',m <+:m'→Kp H H'→HR K m' h' H'→IB K m' H' D a
 |.err C fs h'=>∀da m' H',m <+:m'→Kp H H'→HR K m' h' H'→XD K m' H' fs da→E C da H'
 |.stuck=>False
inductive GL (K:PySem.W.Frag) (E:XK) (g:MS) (D:BG) (σ:L2.St) (H:Hp):Prop where
 |mk (m:List Addr) (ρ:Ae) (h:HD) (hr:HR K m h H) (er:ER K m H ρ σ) (p:PostS K m H E D (g ρ h)):GL K E g D σ H
theorem PostS.ahead {K:PySem.W.Frag} {m m':List Addr} {H H':Hp} {E:XK} {D:BG} {o:Out (Fl×Ae)} (p:m <+:m') (k:Kp H H') (h:PostS K m H E D o):PostS K m' H' E D o:=by
 cases o with
 |ok a h'=>exact fun m2 H2 p2 k2=>h m2 H2 (p.trans p2) (k.trans k2)
 |err C fs h'=>exact fun da m2 H2 p2 k2=>h da m2 H2 (p.trans p2) (k.trans k2)
 |stuck=>exact h
abbrev Ev (X:Cx) (E:XK) (e:Expr) (f:ME):Prop:=PE X e (tD X.K E f)
abbrev CH (X:Cx) (E:XK) (e:Expr) (f:MT):Prop:=PT X e (Ea X.K E f)
abbrev BI (X:Cx) (E:XK) (es:List Expr) (f:MA):Prop:=PA X es (Nb X.K E f)
abbrev Ex (X:Cx) (E:XK) (st:Stmt) (g:MS):Prop:=PS X st (GL X.K E g)
abbrev Be (X:Cx) (E:XK) (sts:List Stmt) (g:MS):Prop:=BQ X sts (GL X.K E g)
section
variable {X:Cx}
theorem BR {e:Expr} {t t':TE} (h:PE X e t) (i:∀σ H Q,t' σ H Q→t σ H Q):PE X e t':=fun pins s σ H Q I q=>h pins s σ H Q I (i σ H Q q)
theorem GM {e:Expr} {t t':TT} (h:PT X e t) (i:∀σ H Q,t' σ H Q→t σ H Q):PT X e t':=fun pins s σ H Q I q=>h pins s σ H Q I (i σ H Q q)
theorem IC {e:List Expr} {t t':TA} (h:PA X e t) (i:∀σ H Q,t' σ H Q→t σ H Q):PA X e t':=fun pos pins s σ H Q I q=>h pos pins s σ H Q I (i σ H Q q)
theorem C6 {e:Stmt} {t t':TS} (h:PS X e t) (i:∀D σ H,t' D σ H→t D σ H):PS X e t':=fun pins s σ H D I q=>h pins s σ H D I (i D σ H q)
theorem ID {e:List Stmt} {t t':TS} (h:BQ X e t) (i:∀D σ H,t' D σ H→t D σ H):BQ X e t':=fun pins s σ H D I q=>h pins s σ H D I (i D σ H q)
end
end LS
namespace LS
open PySem PySem.Spec PyProof.Rows L2
section
variable {X:Cx} {E:XK} {a b c:Expr} {pos:Pos} {f g k:ME}
def Ab (i:Nat):ME:=fun ρ h=>match ρ[i]? with
 |some (some d)=>.ok d h
 |_=>.stuck
theorem Ah {i:Nat} (h:PE X a (Gx i)):Ev X E a (Ab i):=BR h fun σ H Q z1_=>by
 obtain ⟨m,ρ,hd,hr,er,p⟩:=z1_
 unfold Ab at p
 split at p
 ·rename_i d e
  obtain ⟨v,e1,r⟩:=er.2 i d e
  exact ⟨v,e1,p v m H (Au _) (.refl _) hr r⟩
 ·exact p.elim
def mC (d:D):ME:=fun _ h=>.ok d h
theorem Fe {d:D} {v:V} (h:PE X a (tC v)) (r:∀m H,DV X.K m H d v):Ev X E a (mC d):=BR h fun σ H Q z2_=>by obtain ⟨m,ρ,hd,hr,er,p⟩:=z2_;exact (p v m H (Au _) (.refl _) hr (r m H))
theorem As {i:Int} {j:Nat}:Ev X E (.Constant (.int i) j pos) (mC (.int i)):=Fe Lr fun _ _=>by simp [DV]
theorem DF {i:Bool} {j:Nat}:Ev X E (.Constant (.bool i) j pos) (mC (.bl i)):=Fe Ls fun _ _=>by simp [DV]
theorem GN {x:Str} {j:Nat}:Ev X E (.Constant (.str x) j pos) (mC (.str x)):=Fe Lu fun _ _=>by simp [DV]
def Ak (op:D→D→HD→Out D) (f g:ME):ME:=fun ρ h=>(f ρ h).bind fun x h1=>(g ρ h1).bind fun y h2=>op x y h2
theorem Eb {op:D→D→HD→Out D} {Q:VK} {R:V→V→Hp→Prop} {σ:L2.St} {H:Hp} (h:tD X.K E (Ak op f g) σ H Q)
 (i:∀m H2 h2 x y v u,HR X.K m h2 H2→DV X.K m H2 x v→DV X.K m H2 y u→Post X.K (rD X.K) m H2 E Q (op x y h2)→R v u H2):tD X.K E f σ H fun v H1=>tD X.K E g σ H1 fun u H2=>R v u H2:=by
 obtain ⟨m,ρ,hd,hr,er,p⟩:=h
 refine ⟨m,ρ,hd,hr,er,Post.bind p fun x h1 v m1 H1 _ p1 k1 hr1 r1 q1=>?_⟩
 refine ⟨m1,ρ,h1,hr1,er.keep p1 k1,Post.bind q1 fun y h2 u m2 H2 _ p2 k2 hr2 r2 q2=>?_⟩
 exact i m2 H2 h2 x y v u hr2 (DV.keep p2 k2 r1) r2 q2
def A7 (X:Cx) (f:Value→Value→Sem Value) (op:D→D→HD→Out D):Prop:=
 ∃r:R2,OpR X f r∧∀m H h E x y v u Q,HR X.K m h H→DV X.K m H x v→DV X.K m H y u→Post X.K (rD X.K) m H E Q (op x y h)→r v u H Q
theorem AD {o:Operator} {op:D→D→HD→Out D} (ho:A7 X (binaryOp o) op) (ha:Ev X E a f) (hb:Ev X E b g):Ev X E (.BinOp a o b pos) (Ak op f g):=by
 obtain ⟨r,ho,i⟩:=ho
 exact BR (Mc ho ha hb) fun σ H Q h=>Eb h fun m H2 h2 x y v u hr rx ry q=>i m H2 h2 E x y v u Q hr rx ry q
theorem Nd {o:CmpOp} {op:D→D→HD→Out D} (ho:A7 X (compareOp o) op) (ha:Ev X E a f) (hb:Ev X E b g) (hm:behindInMarks o b=false):Ev X E (.Compare a [o] [b] pos) (Ak op f g):=by
 obtain ⟨r,ho,i⟩:=ho
 exact BR (Mk ho ha hb hm) fun σ H Q h=>Eb h fun m H2 h2 x y v u hr rx ry q=>i m H2 h2 E x y v u Q hr rx ry q
def Ec:D→HD→Out Bool
 |.bl b,h=>.ok b h
 |_,_=>.stuck
def Bu (f:ME):MT:=fun ρ h=>(f ρ h).bind Ec
theorem Nf {m:List Addr} {H:Hp} {x:D} {v:V} {h:HD} {Q:Bool→Hp→Prop} (hr:HR X.K m h H) (r:DV X.K m H x v) (q:Post X.K rB m H E Q (Ec x h)):∃k,v=.bl k∧Q k H:=by
 cases x with
 |bl b=>
  simp only [DV] at r
  exact ⟨b,r,q b m H (Au _) (.refl _) hr rfl⟩
 |_=>exact q.elim
theorem Ed {o:CmpOp} {op:D→D→HD→Out D} (ho:A7 X (compareOp o) op) (ha:Ev X E a f) (hb:Ev X E b g) (hm:behindInMarks o b=false):CH X E (.Compare a [o] [b] pos) (Bu (Ak op f g)):=by
 obtain ⟨r,ho,i⟩:=ho
 refine GM (Mm ho ha hb hm) fun σ H Q h=>?_
 obtain ⟨m,ρ,hd,hr,er,p⟩:=h
 have h':tD X.K E (Ak op f g) σ H fun x H'=>∃k,x=.bl k∧Q k H':=
  ⟨m,ρ,hd,hr,er,Post.bind p fun x h1 v m1 H1 _ p1 k1 hr1 r1 q1=>Nf hr1 r1 q1⟩
 exact Eb h' fun m H2 h2 x y v u hr rx ry q=>i m H2 h2 E x y v u _ hr rx ry q
def Ce:D→HD→Out Bool
 |.non,h=>.ok false h
 |.bl b,h=>.ok b h
 |.int i,h=>.ok (i != 0) h
 |.tup ds,h=>.ok (!ds.isEmpty) h
 |.loc l,h=>match h[l]? with
  |some (.lst ds)=>.ok (!ds.isEmpty) h
  |_=>.stuck
 |_,_=>.stuck
def BS (f:ME):MT:=fun ρ h=>(f ρ h).bind Ce
theorem IE {α β:Type} {xs:List α} {ys:List β} (h:xs.length=ys.length):xs.isEmpty=ys.isEmpty:=by
 cases xs<;>cases ys<;>simp_all
theorem Ng {m:List Addr} {H:Hp} {x:D} {v:V} {h:HD} {Q:Bool→Hp→Prop} (hr:HR X.K m h H) (r:DV X.K m H x v) (q:Post X.K rB m H E Q (Ce x h)):∃k,GD X.K v H k∧Q k H:=by
 have go:∀k,Ce x h=.ok k h→Q k H:=fun k e=>by rw [e] at q;exact q k m H (Au _) (.refl _) hr rfl
 cases x with
 |non=>simp only [DV] at r;subst r;exact ⟨false,rfl,go _ rfl⟩
 |bl b=>simp only [DV] at r;subst r;exact ⟨b,rfl,go _ rfl⟩
 |int i=>simp only [DV] at r;subst r;exact ⟨_,rfl,go _ rfl⟩
 |str x=>exact q.elim
 |tup ds=>
  simp only [DV] at r
  obtain ⟨p,vs,rfl,hp,dv⟩:=r
  exact ⟨_,.inr ⟨vs,SqT.of hp,rfl⟩,by rw [←IE dv.len];exact go _ rfl⟩
 |loc l=>
  simp only [DV] at r
  obtain ⟨p,rfl,hp⟩:=r
  simp only [Ce] at q
  split at q
  ·rename_i ds e
   obtain ⟨vs,e1,dv⟩:=hr.cells l _ p e hp
   exact ⟨_,.inl ⟨vs,SqL.of e1,rfl⟩,by rw [←IE dv.len];exact q _ m H (Au _) (.refl _) hr rfl⟩
  ·exact q.elim
 |scr ns=>exact q.elim
 |adr a=>exact q.elim
 |ty a=>exact q.elim
 |exc n fs=>exact q.elim
 |edic=>exact q.elim
 |glo n=>exact q.elim
 |clo a vs ds=>exact q.elim
theorem GO (ha:Ev X E a f) (he:∀Cn,isTrue a X.env Cn=(do let v ←Cn;standAt a.pos;holding [v] (truthy v)):=by intro _;rfl):CH X E a (BS f):=
 GM (Mo ha he) fun σ H Q z3_=>by obtain ⟨m,ρ,hd,hr,er,p⟩:=z3_;exact (⟨m,ρ,hd,hr,er,Post.bind p fun x h1 v m1 H1 _ p1 k1 hr1 r1 q1=>Ng hr1 r1 q1⟩)
variable {tf tg:MT} {rest:List Expr}
def Ff (f g:MT):MT:=fun ρ h=>(f ρ h).bind fun b h1=>if b=true then g ρ h1 else .ok false h1
def Cv (f g:MT):MT:=fun ρ h=>(f ρ h).bind fun b h1=>if b=true then .ok true h1 else g ρ h1
def BU (f:MT):MT:=fun ρ h=>(f ρ h).bind fun b h1=>.ok (!b) h1
abbrev Fg (X:Cx) (E:XK) (e:Expr) (f:MT):Prop:=PW X e (Ea X.K E f)
theorem Nh {e:Expr} {t t':TT} (h:PW X e t) (i:∀σ H Q,t' σ H Q→t σ H Q):PW X e t':=fun wh pins s σ H Q I q=>h wh pins s σ H Q I (i σ H Q q)
theorem IF (ha:CH X E a tf):Fg X E (.BoolOp .Or [a] pos) tf:=Lz ha
theorem IG (ha:CH X E a tf) (hb:Fg X E (.BoolOp .Or (b::rest) pos) tg):Fg X E (.BoolOp .Or (a::b::rest) pos) (Cv tf tg):=
 Nh (LA ha hb) fun σ H Q z5_=>by obtain ⟨m,ρ,hd,hr,er,p⟩:=z5_;exact (⟨m,ρ,hd,hr,er,Post.bind p fun x h1 v m1 H1 _ p1 k1 hr1 r1 q1=>by
  cases r1
  cases x with
  |false=>exact ⟨m1,ρ,h1,hr1,er.keep p1 k1,q1⟩
  |true=>exact q1 true m1 H1 (Au _) (.refl _) hr1 rfl⟩)
theorem IH (h:Fg X E a tf):CH X E a tf:=PW.pt h
theorem GP (ha:CH X E a tf):CH X E (.UnaryOp .Not a pos) (BU tf):=
 GM (LC ha) fun σ H Q z6_=>by obtain ⟨m,ρ,hd,hr,er,p⟩:=z6_;exact (⟨m,ρ,hd,hr,er,Post.bind p fun x h1 v m1 H1 _ p1 k1 hr1 r1 q1=>by
  cases r1
  exact q1 _ m1 H1 (Au _) (.refl _) hr1 rfl⟩)
def IJ (f g:ME):ME:=fun ρ h=>(f ρ h).bind fun x h1=>match x with
 |.bl true=>g ρ h1
 |.bl false=>.ok (.bl false) h1
 |_=>.stuck
def IK (f g:ME):ME:=fun ρ h=>(f ρ h).bind fun x h1=>match x with
 |.bl true=>.ok (.bl true) h1
 |.bl false=>g ρ h1
 |_=>.stuck
def IP (f:ME):ME:=fun ρ h=>(f ρ h).bind fun x h1=>match x with
 |.bl b=>.ok (.bl (!b)) h1
 |_=>.stuck
def IQ (t:MT) (f g:ME):ME:=fun ρ h=>(t ρ h).bind fun b h1=>if b=true then f ρ h1 else g ρ h1
def IR (op op':D→D→HD→Out D) (f g k:ME):ME:=fun ρ h=>(f ρ h).bind fun x h1=>(g ρ h1).bind fun y h2=>(op x y h2).bind fun z h3=>match z with
 |.bl true=>(k ρ h3).bind fun w h4=>op' y w h4
 |.bl false=>.ok (.bl false) h3
 |_=>.stuck
variable {es:List Expr} {fa:MA}
def Ac:MA:=fun _ h=>.ok [] h
def Aa (f:ME) (r:MA):MA:=fun ρ h=>(f ρ h).bind fun x h1=>(r ρ h1).bind fun xs h2=>.ok (x::xs) h2
theorem Aj:BI X E [] Ac:=IC Mx fun σ H Q z11_=>by obtain ⟨m,ρ,hd,hr,er,p⟩:=z11_;exact (p [] m H (Au _) (.refl _) hr .nil)
theorem Ad (ha:Ev X E a f) (hr:BI X E es fa) (hs:starEach (a::es) X.env=(false,eval a X.env)::starEach es X.env:=by rfl):BI X E (a::es) (Aa f fa):=
 IC (My ha hr hs) fun σ H Q z12_=>by obtain ⟨m,ρ,hd,hr,er,p⟩:=z12_;exact (⟨m,ρ,hd,hr,er,Post.bind p fun x h1 v m1 H1 _ p1 k1 hr1 r1 q1=>
  ⟨m1,ρ,h1,hr1,er.keep p1 k1,Post.bind q1 fun xs h2 vs m2 H2 _ p2 k2 hr2 r2 q2=>q2 _ m2 H2 (Au _) (.refl _) hr2 (DVs.cons (DV.keep p2 k2 r1) r2)⟩⟩)
def Fh (fa:MA):ME:=fun ρ h=>(fa ρ h).bind fun xs h1=>if xs.length≤sizeLine then .ok (.tup xs) h1 else .stuck
def Bj (xs:List D) (h:HD):Out D:=if xs.length≤sizeLine then .ok (.loc h.length) (h++[.lst xs]) else .stuck
def A9 (fa:MA):ME:=fun ρ h=>(fa ρ h).bind Bj
theorem GQ {m:List Addr} {H:Hp} {h:HD} {xs:List D} {vs:List V} {Q:VK} (hr:HR X.K m h H) (r:DVs X.K m H xs vs) (q:Post X.K (rD X.K) m H E Q (.ok (.tup xs) h)):∀p,H p=none→Q (.ref p) (Ag H p (.tup vs)):=fun p hp=>
 q (.ref p) m _ (Au _) (.new hp) (hr.new hp) (by simp only [rD,DV];exact ⟨p,vs,rfl,AU,r.keep (Au _) (.new hp)⟩)
theorem Fi {m:List Addr} {H:Hp} {h:HD} {xs:List D} {vs:List V} {Q:VK} (hr:HR X.K m h H) (r:DVs X.K m H xs vs) (q:Post X.K (rD X.K) m H E Q (Bj xs h)):vs.length≤sizeLine∧∀p,H p=none→Q (.ref p) (Ag H p (.lst vs)):=by
 unfold Bj at q
 by_cases hz:xs.length≤sizeLine
 ·rw [if_pos hz] at q
  refine ⟨by rw [←r.len];exact hz,fun p hp=>?_⟩
  refine q (.ref p) (m++[p]) _ (List.prefix_append _ _) (.new hp) (hr.newCell hp ⟨vs,AU,r.keep (List.prefix_append _ _) (.new hp)⟩) ?_
  simp only [rD,DV]
  exact ⟨p,rfl,by rw [←hr.len];simp⟩
 ·rw [if_neg hz] at q;exact q.elim
theorem Cf (h:BI X E es fa):Ev X E (.List es pos) (A9 fa):=
 BR (MB h) fun σ H Q z14_=>by obtain ⟨m,ρ,hd,hr,er,p⟩:=z14_;exact (⟨m,ρ,hd,hr,er,Post.bind p fun xs h1 vs m1 H1 _ p1 k1 hr1 r1 q1=>Fi hr1 r1 q1⟩)
inductive GR (K:PySem.W.Frag) (F:List D→HD→Out D) (vs:List V) (H:Hp) (Q:VK) (E:XK):Prop where
 |mk (m:List Addr) (ds:List D) (h:HD) (hr:HR K m h H) (r:DVs K m H ds vs) (p:Post K (rD K) m H E0 Q (F ds h)):GR K F vs H Q E
def Ar (n:Nat) (F:List D→HD→Out D):Prop:=∀ds h,ds.length≠n→F ds h=.stuck
theorem Ar.len {K:PySem.W.Frag} {n:Nat} {F:List D→HD→Out D} (ar:Ar n F) {vs:List V} {H:Hp} {Q:VK} {E':XK} (h:GR K F vs H Q E'):vs.length=n:=by
 obtain ⟨m,ds,hd,hr,r,p⟩:=h
 rw [←r.len]
 by_cases e:ds.length=n
 ·exact e
 ·rw [ar ds hd e] at p;exact p.elim
def Rr (F:HD→Out D):List D→HD→Out D:=fun ds h=>match ds with
 |[]=>F h
 |_=>.stuck
def AF (F:D→HD→Out D):List D→HD→Out D:=fun ds h=>match ds with
 |[a]=>F a h
 |_=>.stuck
def AB (F:D→D→HD→Out D):List D→HD→Out D:=fun ds h=>match ds with
 |[a,b]=>F a b h
 |_=>.stuck
def Ni (F:D→D→D→HD→Out D):List D→HD→Out D:=fun ds h=>match ds with
 |[a,b,c]=>F a b c h
 |_=>.stuck
def Ai (F:List D→HD→Out D) (fa:MA):ME:=fun ρ h=>(fa ρ h).bind F
def CI (X:Cx) (f:Value) (F:List D→HD→Out D):Prop:=
 ∃r:List V→Hp→VK→Prop,DB X f r∧∀m H h E ds vs Q,HR X.K m h H→DVs X.K m H ds vs→Post X.K (rD X.K) m H E Q (F ds h)→r vs H Q
theorem A1 {id:String} {F:List D→HD→Out D} {x:Str} {p pos:Pos} {e:Expr} (hc:CI X (.builtin id) F) (hg:Gl X x) (hm:X.mg x=none) (hv:bootBuiltins x=some (.builtin id)) (ha:BI X E (e::es) fa) (hn:x≠"__name__":=by decide) (hdb:(x==("__debug__":Str))=false:=by decide)
 (hs:starEach (e::es) X.env=(false,eval e X.env)::starEach es X.env:=by rfl) (hpl:(backTo pos (starEach es X.env)).any (·.1)=false:=by rfl):Ev X E (.Call (.Name x p) (e::es) [] pos) (Ai F fa):=by
 obtain ⟨r,hc,i⟩:=hc
 exact BR (ML hc hg hm hv ha hn hdb hs hpl) fun σ H Q z17_=>by obtain ⟨m,ρ,hd,hr,er,p⟩:=z17_;exact (⟨m,ρ,hd,hr,er,Post.bind p fun xs h1 vs m1 H1 e1 p1 k1 hr1 r1 q1=>i m1 H1 h1 E xs vs Q hr1 r1 q1⟩)
end
section
variable {X:Cx} {E:XK}
theorem AO {K:PySem.W.Frag} {m:List Addr} {H:Hp} {h:HD} {d:D} {v:V} {Q:VK} (hr:HR K m h H) (q:Post K (rD K) m H E Q (.ok d h)) (r:DV K m H d v):Q v H:=q v m H (Au _) (.refl _) hr r
theorem op_catT0:OpR X (binaryOp .Add) (fun x y H Q=>∃a b ys,x=.ref a∧y=.ref b∧SqT X.K H a []∧SqT X.K H b ys∧Q (.ref b) H):=by
 intro pins s σ H x y v u Q I rx ry h
 obtain ⟨a,b,ys,rfl,rfl,ha,hb,q⟩:=h
 cases rx
 cases ry
 obtain ⟨its,r1,p1,_⟩:=I.tuple ha
 obtain ⟨its2,r2,p2,_⟩:=I.tuple hb
 cases r1
 obtain ⟨⟨cls,dd,data,sl⟩,ho,hc,n,hd⟩:=id p1
 obtain ⟨⟨cls2,dd2,data2,sl2⟩,ho2,hc2,n2,hd2⟩:=id p2
 simp only at hc hd hc2 hd2
 subst hc hd hc2 hd2
 exact concat_meets ⟨_,ho,rfl⟩ ⟨_,ho2,rfl⟩ noFill_tuple_add seq_tuple_add PySem.F.slot_tuple_add PySem.F.entry_tuple_add (PySem.F.args_tuple_add_2 _ _)
  (tuple_addW0 a b _ its2.toArray n n2 dd dd2 sl sl2 (by simp)) ⟨ho,ho2,⟨.ref b,H,I,rfl,q⟩⟩
def AX:D→D→HD→Out D
 |.int i,.int j,h=>.ok (.int (i+j)) h
 |.str x,.str y,h=>if x.length+y.length≤sizeLine then .ok (.str (x++y)) h else .stuck
 |.tup xs,.tup ys,h=>if xs.length+ys.length≤sizeLine then .ok (.tup (xs++ys)) h else .stuck
 |.loc l,.loc k,h=>match h[l]?,h[k]? with
  |some (.lst xs),some (.lst ys)=>Bj (xs++ys) h
  |_,_=>.stuck
 |_,_,_=>.stuck
theorem Bv:A7 X (binaryOp .Add) AX:=by
 refine ⟨_,op_add.or (op_catT0.or (op_catT.or (op_cat.or Mp))),fun m H h E x y v u Q hr rx ry q=>?_⟩
 unfold AX at q
 split at q
 ·simp only [DV] at rx ry
  subst rx ry
  exact .inl ⟨_,_,rfl,rfl,AO hr q (by simp [DV])⟩
 ·simp only [DV] at rx ry
  subst rx ry
  split at q
  ·rename_i hz
   exact .inr (.inr (.inr (.inr ⟨_,_,rfl,rfl,hz,AO hr q (by simp [DV])⟩)))
  ·exact q.elim
 ·rename_i xs ys
  simp only [DV] at rx ry
  obtain ⟨a,vs,rfl,ha,dx⟩:=rx
  obtain ⟨b,ws,rfl,hb,dy⟩:=ry
  split at q
  ·rename_i hz
   cases xs with
   |nil=>
    simp only [DVs] at dx
    subst dx
    exact .inr (.inl ⟨a,b,ws,rfl,rfl,SqT.of ha,SqT.of hb,AO hr q (by simp only [DV];exact ⟨b,ws,rfl,hb,dy⟩)⟩)
   |cons x xs=>
    refine .inr (.inr (.inl ⟨a,b,vs,ws,rfl,rfl,SqT.of ha,SqT.of hb,?_,by rw [←dx.len,←dy.len];exact hz,fun e=>?_,fun e=>?_⟩))
    ·intro e;have:=dx.len;rw [e] at this;simp at this
    ·subst e
     have:ys=[]:=by have:=dy.len;simpa using this
     subst this
     exact AO hr q (by simp only [DV];exact ⟨a,vs,rfl,ha,by simpa using dx⟩)
    ·exact GQ hr (dx.app dy) q
  ·exact q.elim
 ·simp only [DV] at rx ry
  obtain ⟨a,rfl,ha⟩:=rx
  obtain ⟨b,rfl,hb⟩:=ry
  split at q
  ·rename_i xs ys e1 e2
   obtain ⟨vs,h1,d1⟩:=hr.cells _ _ a e1 ha
   obtain ⟨ws,h2,d2⟩:=hr.cells _ _ b e2 hb
   obtain ⟨z,q'⟩:=Fi hr (d1.app d2) q
   exact .inr (.inr (.inr (.inl ⟨a,b,vs,ws,rfl,rfl,h1,h2,by simpa using z,q'⟩)))
  ·exact q.elim
 ·exact q.elim
def C7 (f:Int→Int→D) (c:Int→Int→Prop) [∀i j,Decidable (c i j)]:D→D→HD→Out D
 |.int i,.int j,h=>if c i j then .ok (f i j) h else .stuck
 |_,_,_=>.stuck
theorem GS {o:Value→Value→Sem Value} {f:Int→Int→V} {g:Int→Int→D} {c c':Int→Int→Prop} [∀i j,Decidable (c' i j)] (h:OpR X o (rI c f)) (hc:∀i j,c' i j→c i j) (hg:∀m H i j,DV X.K m H (g i j) (f i j)):A7 X o (C7 g c'):=by
 refine ⟨_,h,fun m H h E x y v u Q hr rx ry q=>?_⟩
 unfold C7 at q
 split at q
 ·simp only [DV] at rx ry
  subst rx ry
  split at q
  ·rename_i hc'
   exact ⟨_,_,rfl,rfl,hc _ _ hc',AO hr q (hg _ _ _ _)⟩
  ·exact q.elim
 ·exact q.elim
def CJ (f:Int→Int→D):D→D→HD→Out D
 |.int i,.int j,h=>.ok (f i j) h
 |_,_,_=>.stuck
theorem Nj {o:Value→Value→Sem Value} {f:Int→Int→V} {g:Int→Int→D} (h:OpR X o (D8 f)) (hg:∀m H i j,DV X.K m H (g i j) (f i j)):A7 X o (CJ g):=by
 refine ⟨_,h,fun m H h E x y v u Q hr rx ry q=>?_⟩
 unfold CJ at q
 split at q
 ·simp only [DV] at rx ry
  subst rx ry
  exact ⟨_,_,rfl,rfl,AO hr q (hg _ _ _ _)⟩
 ·exact q.elim
abbrev Rt:=CJ fun i j=>.int (i - j)
abbrev IS:=CJ fun i j=>.bl (decide (i<j))
abbrev Ru:=CJ fun i j=>.bl (decide (i≤j))
abbrev Rv:=CJ fun i j=>.bl (decide (j<i))
theorem Nk:A7 X (compareOp .Lt) IS:=Nj Mj fun _ _ _ _=>by simp [DV]
instance (i j:Int):Decidable (CMul i j):=by unfold CMul;infer_instance
instance (i j:Int):Decidable (HZ i j):=by unfold HZ;infer_instance
instance (i j:Int):Decidable (E5 i j):=by unfold E5;infer_instance
abbrev C8:=C7 (fun i j=>.int (i % j)) fun _ j=>0<j
theorem Fj:A7 X (binaryOp .Mod) C8:=GS Mf (fun _ _ h=>h) fun _ _ _ _=>by simp [DV]
abbrev DG:=C7 (fun i j=>.int (i^j.toNat)) E5
theorem IT:A7 X (binaryOp .Pow) DG:=GS Mg (fun _ _ h=>h) fun _ _ _ _=>by simp [DV]
def Rw:D→D→HD→Out D
 |.int i,.int j,h=>if CMul i j then .ok (.int (i*j)) h else .stuck
 |.loc l,.int k,h=>match h[l]? with
  |some (.lst xs)=>if -(2^63)≤k∧k<2^63 then Bj (List.replicate k.toNat xs).flatten h else .stuck
  |_=>.stuck
 |_,_,_=>.stuck
def IU:D→Bool
 |.non=>true
 |_=>false
def Nl:D→D→HD→Out D
 |.bl b,.bl c,h=>.ok (.bl (b==c)) h
 |x,.non,h=>.ok (.bl (IU x)) h
 |_,_,_=>.stuck
def Nm:D→D→HD→Out D
 |.bl b,.bl c,h=>.ok (.bl (!(b==c))) h
 |x,.non,h=>.ok (.bl (!IU x)) h
 |_,_,_=>.stuck
end
def AG {α:Type}:List (Option α)→Option (List α)
 |[]=>some []
 |none::_=>none
 |some a::r=>(AG r).map (a::·)
def Av (h:HD):Nat→D→Option PyData
 |_,.non=>some .none
 |_,.bl b=>some (.bool b)
 |_,.int i=>some (.int i)
 |_,.str x=>some (.str x)
 |n+1,.tup ds=>(AG (ds.map (Av h n))).map .tuple
 |n+1,.loc l=>match h[l]? with
  |some (.lst ds)=>(AG (ds.map (Av h n))).map .list
  |_=>none
 |_,_=>none
section
variable {X:Cx} {E:XK} {pins:List (Addr×Obj)} {σ:L2.St} {H:Hp} {s:Shared} {m:List Addr} {h:HD}
theorem GT {n:Nat} (ih:∀(d:D) (v:V) (u:Value) (p:PyData),DV X.K m H d v→RelV v u→Av h n d=some p→∃as,Reads s.heap u p as):
 ∀(ds:List D) (vs:List V) (us:List Value) (ps:List PyData),DVs X.K m H ds vs→Vals vs us→AG (ds.map (Av h n))=some ps→∃as,ReadsAll s.heap us ps as
 |[],vs,us,ps,r,q,e=>by
  simp only [DVs] at r
  subst r
  cases q
  simp [AG] at e
  subst e
  exact ⟨[],.nil⟩
 |d::ds,vs,us,ps,r,q,e=>by
  simp only [DVs] at r
  obtain ⟨v,w,rfl,rv,rw'⟩:=r
  cases q with
  |cons q1 q2=>
   rw [BF] at e
   cases ed:Av h n d with
   |none=>rw [ed] at e;simp [AG] at e
   |some p=>
    rw [ed] at e
    simp only [AG,qaN] at e
    obtain ⟨ps',e1,rfl⟩:=e
    obtain ⟨as,h1⟩:=ih d v _ p rv q1 ed
    obtain ⟨bs,h2⟩:=GT ih ds w _ ps' rw' q2 e1
    exact ⟨as++bs,.cons h1 h2⟩
theorem GU (hok:HOk X.prog X.w H s.heap) (hr:HR X.K m h H):∀(n:Nat) (d:D) (v:V) (u:Value) (p:PyData),DV X.K m H d v→RelV v u→Av h n d=some p→∃as,Reads s.heap u p as:=by
 intro n
 induction n with
 |zero=>
  intro d v u p r q e
  cases d<;>simp only [Av,DV,Option.some.injEq] at e r<;>try (cases e;done)
  ·subst e r;cases q;exact ⟨[],.none⟩
  ·subst e r;cases q;exact ⟨[],.bool _⟩
  ·subst e r;obtain ⟨t,rfl⟩:=q;exact ⟨[],.int _ _⟩
  ·subst e r;obtain ⟨t,rfl⟩:=q;exact ⟨[],.str _ _⟩
 |succ n ih=>
  intro d v u p r q e
  cases d with
  |non=>simp only [Av,DV,Option.some.injEq] at e r;subst e r;cases q;exact ⟨[],.none⟩
  |bl b=>simp only [Av,DV,Option.some.injEq] at e r;subst e r;cases q;exact ⟨[],.bool _⟩
  |int i=>simp only [Av,DV,Option.some.injEq] at e r;subst e r;obtain ⟨t,rfl⟩:=q;exact ⟨[],.int _ _⟩
  |str x=>simp only [Av,DV,Option.some.injEq] at e r;subst e r;obtain ⟨t,rfl⟩:=q;exact ⟨[],.str _ _⟩
  |tup ds=>
   simp only [Av,DV,qaN] at e r
   obtain ⟨a,vs,rfl,ha,dv⟩:=r
   obtain ⟨ps,e1,rfl⟩:=e
   cases q
   obtain ⟨_,its,rv,⟨o,ho,hc,k,hd⟩,_⟩:=hok a _ ha
   obtain ⟨as,h1⟩:=GT ih ds vs its ps dv rv e1
   exact ⟨as,.tuple ho hc hd (by simpa using h1)⟩
  |loc l=>
   simp only [DV] at r
   obtain ⟨a,rfl,ha⟩:=r
   cases q
   simp only [Av] at e
   split at e
   ·rename_i ds el
    simp only [qaN] at e
    obtain ⟨ps,e1,rfl⟩:=e
    obtain ⟨vs,hv,dv⟩:=hr.cells l _ a el ha
    obtain ⟨_,its,k,rv,ho⟩:=hok a _ hv
    obtain ⟨as,h1⟩:=GT ih ds vs its ps dv rv e1
    exact ⟨_,.list ho rfl rfl (by simpa using h1)⟩
   ·cases e
  |scr ns=>simp [Av] at e
  |adr a=>simp [Av] at e
  |ty a=>simp [Av] at e
  |exc n fs=>simp [Av] at e
  |edic=>simp [Av] at e
  |glo n=>simp [Av] at e
  |clo a vs ds=>simp [Av] at e
def C9 (f:PyData→PyData→Bool):D→D→HD→Out D:=fun x y h=>match Av h 8 x,Av h 8 y with
 |some p,some q=>if SeqAt.shaped p=true∧SeqAt.shaped q=true then .ok (.bl (f p q)) h else .stuck
 |_,_=>.stuck
abbrev Ee:=C9 PyData.eqv
abbrev Cg:=C9 fun p q=>!PyData.eqv p q
theorem IV {o:CmpOp} {f:PyData→PyData→Bool}
 (rule:∀{s:Shared} {a b:Value} {p q:PyData} {as bs:List Addr} {Q:Value→Shared→Prop},Reads s.heap a p as→Reads s.heap b q bs→SeqAt.shaped p=true→SeqAt.shaped q=true→Q (.bool (f p q)) s→wpAny (model X.prog X.w) X.A (compareOp o a b) Q X.xe s):
 A7 X (compareOp o) (C9 f):=by
 refine ⟨fun v u H Q=>∃m h x y,HR X.K m h H∧DV X.K m H x v∧DV X.K m H y u∧Post X.K (rD X.K) m H E0 Q (C9 f x y h),?_,fun m H h E x y v u Q hr rx ry q=>⟨m,h,x,y,hr,rx,ry,?_⟩⟩
 ·intro pins s σ H x y v u Q I rx ry hq
  obtain ⟨m,h,dx,dy,hr,r1,r2,q⟩:=hq
  unfold C9 at q
  split at q
  ·rename_i p p' e1 e2
   split at q
   ·rename_i hs
    obtain ⟨as,h1⟩:=GU I.hok hr 8 dx x v p r1 rx e1
    obtain ⟨bs,h2⟩:=GU I.hok hr 8 dy y u p' r2 ry e2
    exact rule h1 h2 hs.1 hs.2 ⟨.bl _,H,I,rfl,AO hr q (by simp [DV])⟩
   ·exact q.elim
  ·exact q.elim
 ·unfold C9 at q ⊢
  split
  ·split
   ·rename_i e1 e2 hs
    rw [e1,e2] at q
    simp only [hs] at q
    exact q
   ·rename_i e1 e2 hs
    rw [e1,e2] at q
    simp only [hs] at q
    exact q.elim
  ·rename_i hn
   split at q
   ·rename_i e1 e2
    exact (hn _ _ e1 e2).elim
   ·exact q.elim
theorem Nn (hu:X.A.units+64<cLine):A7 X (compareOp .Eq) Ee:=IV fun ra rb ha hb h=>eq_dataH ra rb ha hb hu h
theorem Np (hu:X.A.units+64<cLine):A7 X (compareOp .NotEq) Cg:=IV fun ra rb ha hb h=>ne_dataH ra rb ha hb hu h
def Ci:D→Option V
 |.non=>some .non
 |.bl b=>some (.bl b)
 |.int i=>some (.int i)
 |.str x=>some (.str x)
 |_=>none
theorem IW {d:D} {v w:V} (r:DV X.K m H d v) (e:Ci d=some w):v=w∧Cc v=true:=by
 cases d<;>simp only [Ci,Option.some.injEq,DV] at e r<;>first |(subst e r;exact ⟨rfl,rfl⟩) |cases e
theorem IX:∀{ds:List D} {vs ws:List V},DVs X.K m H ds vs→AG (ds.map Ci)=some ws→vs=ws∧vs.all Cc=true
 |[],vs,ws,r,e=>by
  simp only [DVs] at r
  simp [AG] at e
  subst r e
  exact ⟨rfl,rfl⟩
 |d::ds,vs,ws,r,e=>by
  simp only [DVs] at r
  obtain ⟨v,w,rfl,rv,rw'⟩:=r
  rw [BF] at e
  cases ed:Ci d with
  |none=>rw [ed] at e;simp [AG] at e
  |some p=>
   rw [ed] at e
   simp only [AG,qaN] at e
   obtain ⟨ps',e1,rfl⟩:=e
   obtain ⟨h1,h2⟩:=IW rv ed
   obtain ⟨h3,h4⟩:=IX rw' e1
   subst h1 h3
   exact ⟨rfl,by simp [h2,h4]⟩
def Ba:D→HD→Option (List D)
 |.tup ds,_=>some ds
 |.loc l,h=>match h[l]? with
  |some (.lst ds)=>some ds
  |_=>none
 |.scr ns,_=>some (ns.map .int)
 |_,_=>none
theorem Nq {ns:List Int}:DVs X.K m H (ns.map .int) (ns.map V.int):=by
 induction ns with
 |nil=>exact .nil
 |cons n ns ih=>exact .cons (by simp [DV]) ih
theorem GV {d:D} {v:V} {ds:List D} (hr:HR X.K m h H) (r:DV X.K m H d v) (e:Ba d h=some ds):∃p vs,v=.ref p∧(SqL X.K H p vs∨SqT X.K H p vs)∧DVs X.K m H ds vs:=by
 cases d with
 |tup xs=>
  simp only [DV,Ba,Option.some.injEq] at r e
  subst e
  obtain ⟨a,vs,rfl,ha,dv⟩:=r
  exact ⟨a,vs,rfl,.inr (SqT.of ha),dv⟩
 |loc l=>
  simp only [DV] at r
  obtain ⟨a,rfl,ha⟩:=r
  simp only [Ba] at e
  split at e
  ·rename_i xs el
   cases e
   obtain ⟨vs,hv,dv⟩:=hr.cells l _ a el ha
   exact ⟨a,vs,rfl,.inl (SqL.of hv),dv⟩
  ·cases e
 |scr ns=>
  simp only [DV,Ba,Option.some.injEq] at r e
  subst e
  obtain ⟨a,rfl,ha⟩:=r
  exact ⟨a,_,rfl,.inl ha.sq,Nq⟩
 |_=>simp [Ba] at e
def Dc (neg:Bool):D→D→HD→Out D:=fun x y h=>match Ba y h with
 |none=>.stuck
 |some ds=>match Ci x,AG (ds.map Ci) with
  |some v,some vs=>.ok (.bl (if neg then !E8 v vs else E8 v vs)) h
  |_,_=>.stuck
theorem Nr {neg:Bool}:∀m H h E x y v u Q,HR X.K m h H→DV X.K m H x v→DV X.K m H y u→Post X.K (rD X.K) m H E Q (Dc neg x y h)→Ir X.K neg v u H Q:=fun m H h E x y v u Q hr rx ry q=>by
 unfold Dc at q
 split at q
 ·exact q.elim
 ·rename_i ds e
  split at q
  ·rename_i w ws e1 e2
   obtain ⟨p,vs,rfl,hs,dv⟩:=GV hr ry e
   obtain ⟨h1,h2⟩:=IW rx e1
   obtain ⟨h3,h4⟩:=IX dv e2
   subst h1 h3
   exact ⟨p,vs,rfl,hs,h2,h4,AO hr q (by simp [DV])⟩
  ·exact q.elim
theorem Nt:A7 X (compareOp .In) (Dc false):=⟨_,MZ,Nr⟩
def Bb:D→D→HD→Out D:=fun x y h=>match Ba x h,y with
 |some ds,.int i=>match A4 ds i with
  |some d=>.ok d h
  |none=>.stuck
 |_,_=>.stuck
theorem Nu {ds:List D} {vs:List V} {i:Int} {d:D} (r:DVs X.K m H ds vs) (e:A4 ds i=some d):∃v,A4 vs i=some v∧DV X.K m H d v:=by
 unfold A4 at e ⊢
 rw [r.len] at e
 cases k:Bs vs.length i with
 |none=>rw [k] at e;cases e
 |some j=>
  rw [k] at e
  exact r.get e
theorem Fm {a b:Expr} {pos:Pos} {f g:ME} (ha:Ev X E a f) (hb:Ev X E b g) (hs:GH b):Ev X E (.Subscript a b pos) (Ak Bb f g):=
 BR (Ip (ix_list.or ix_tup) ha hb hs) fun σ H Q hq=>Eb hq fun m H2 h2 x y v u hr rx ry q=>by
  unfold Bb at q
  split at q
  ·rename_i ds i e
   split at q
   ·rename_i d ed
    simp only [DV] at ry
    subst ry
    obtain ⟨p,vs,rfl,hsq,dv⟩:=GV hr rx e
    obtain ⟨w,e1,r1⟩:=Nu dv ed
    rcases hsq with hsq |hsq
    ·exact .inl ⟨p,vs,i,w,rfl,rfl,hsq,e1,AO hr q r1⟩
    ·exact .inr ⟨p,vs,i,w,rfl,rfl,hsq,e1,AO hr q r1⟩
   ·exact q.elim
  ·exact q.elim
def CK:D→HD→Out D:=fun x h=>match Ba x h with
 |some ds=>.ok (.int ds.length) h
 |none=>.stuck
theorem IY {F:D→HD→Out D} {ds:List D} {vs:List V} {Q:VK} {C:Prop} (r:DVs X.K m H ds vs) (q:Post X.K (rD X.K) m H E Q (AF F ds h)) (k:∀d v,vs=[v]→DV X.K m H d v→Post X.K (rD X.K) m H E Q (F d h)→C):C:=by
 unfold AF at q
 split at q
 ·simp only [DVs] at r
  obtain ⟨v,w,rfl,rv,rfl⟩:=r
  exact k _ v rfl rv q
 ·exact q.elim
theorem Fo {F:D→D→HD→Out D} {ds:List D} {vs:List V} {Q:VK} {C:Prop} (r:DVs X.K m H ds vs) (q:Post X.K (rD X.K) m H E Q (AB F ds h)) (k:∀d d' v v',vs=[v,v']→DV X.K m H d v→DV X.K m H d' v'→Post X.K (rD X.K) m H E Q (F d d' h)→C):C:=by
 unfold AB at q
 split at q
 ·simp only [DVs] at r
  obtain ⟨v,w,rfl,rv,v',w',rfl,rv',rfl⟩:=r
  exact k _ _ v v' rfl rv rv' q
 ·exact q.elim
theorem IZ:CI X (.builtin "len") (AF CK):=by
 refine ⟨_,M0,fun m H h E ds vs Q hr r q=>IY r q fun d v ev rv q=>?_⟩
 unfold CK at q
 split at q
 ·rename_i xs e
  obtain ⟨p,ws,rfl,hs,dv⟩:=GV hr rv e
  exact ⟨p,ws,ev,hs,by rw [←dv.len];exact AO hr q (by simp [DV])⟩
 ·exact q.elim
def CDv (i j:Int):Prop:=0<j∧j<18446744073709551616
instance (i j:Int):Decidable (CDv i j):=by unfold CDv;infer_instance
theorem CDv.no {i j:Int} (h:CDv i j):Builtin.divisionGoesByPylong i j=false:=by
 refine PyProof.noPylong_of_log2 ?_
 have h0:j.natAbs≠0:=by have:=h.1;omega
 have h1:j.natAbs<2^64:=by have:=h.2;have:=h.1;omega
 exact Nat.lt_trans ((Nat.log2_lt h0).mpr h1) (by decide)
theorem Nv:DB X (.builtin "divmod") (fun xs H Q=>∃i j,xs=[.int i,.int j]∧CDv i j∧∀p,H p=none→Q (.ref p) (Ag H p (.tup [.int (i / j),.int (i % j)]))):=by
 intro pins s σ H xs us Q I r h
 obtain ⟨i,j,rfl,hc,q⟩:=h
 obtain ⟨u,w',rfl,⟨t,rfl⟩,⟨t',rfl⟩⟩:=E7 r
 have h1:=hc.1
 refine divmod_int (by omega) ?_ (.inl hc.no)
 rw [Int.fdiv_eq_ediv_of_nonneg i (by omega),Int.fmod_eq_emod_of_nonneg i (by omega)]
 have hn:H s.heap.objs.size=none:=I.hok.fresh (AJ _)
 refine ⟨.ref s.heap.objs.size,_,?_,rfl,q _ hn⟩
 refine I.laid (fun b o e=>AR _ e) (AJ _) ⟨by simp only [Dx,D2];rw [sizeLine_eq];decide,[.int (i / j) s.toks,.int (i % j) (s.toks+1)],.cons ⟨_,rfl⟩ (.cons ⟨_,rfl⟩ .nil),?_,NoDict.new⟩
 exact ⟨_,BD s.heap rfl,rfl,0,rfl⟩
def Ef:D→D→HD→Out D
 |.int i,.int j,h=>if CDv i j then .ok (.tup [.int (i / j),.int (i % j)]) h else .stuck
 |_,_,_=>.stuck
theorem Nw:CI X (.builtin "divmod") (AB Ef):=by
 refine ⟨_,Nv,fun m H h E ds vs Q hr r q=>Fo r q fun d d' v v' ev rv rv' q=>?_⟩
 unfold Ef at q
 split at q
 ·split at q
  ·rename_i i j hc
   simp only [DV] at rv rv'
   subst rv rv'
   exact ⟨i,j,ev,hc,GQ hr (.cons (by simp [DV]) (.cons (by simp [DV]) .nil)) q⟩
  ·exact q.elim
 ·exact q.elim
theorem Nx:OpR X (binaryOp .FloorDiv) (rI CDv fun i j=>.int (i / j)):=E4 fun i j _ _ _ _ _ hc q=>by
 have h1:=hc.1
 exact floordiv_int (by omega) (by rw [Int.fdiv_eq_ediv_of_nonneg i (by omega)];exact q) (.inl hc.no)
abbrev Fp:=C7 (fun i j=>.int (i / j)) CDv
theorem Ny:A7 X (binaryOp .FloorDiv) Fp:=GS Nx (fun _ _ h=>h) fun _ _ _ _=>by simp [DV]
def Eg:D→D→HD→Out D
 |.int i,.int j,h=>.ok (.int (if j>i then j else i)) h
 |_,_,_=>.stuck
def Eh:D→D→HD→Out D
 |.int i,.int j,h=>.ok (.int (if j<i then j else i)) h
 |_,_,_=>.stuck
theorem Nz (hc:X.calm=true):CI X (.builtin "max") (AB Eg):=by
 refine ⟨_,Mq hc,fun m H h E ds vs Q hr r q=>Fo r q fun d d' v v' ev rv rv' q=>?_⟩
 unfold Eg at q
 split at q
 ·simp only [DV] at rv rv'
  subst rv rv'
  exact ⟨_,_,ev,AO hr q (by simp [DV])⟩
 ·exact q.elim
theorem NA (hc:X.calm=true):CI X (.builtin "min") (AB Eh):=by
 refine ⟨_,Mr hc,fun m H h E ds vs Q hr r q=>Fo r q fun d d' v v' ev rv rv' q=>?_⟩
 unfold Eh at q
 split at q
 ·simp only [DV] at rv rv'
  subst rv rv'
  exact ⟨_,_,ev,AO hr q (by simp [DV])⟩
 ·exact q.elim
def Ja:D→HD→Out D
 |.int i,h=>.ok (.int i) h
 |.bl b,h=>.ok (.int (if b then 1 else 0)) h
 |_,_=>.stuck
def Ei:D→HD→Out D:=fun x h=>match x with
 |.tup ds=>.ok (.tup ds) h
 |.loc l=>match h[l]? with
  |some (.lst ds)=>.ok (.tup ds) h
  |_=>.stuck
 |_=>.stuck
end
theorem PostS.bind {α β:Type} {K:PySem.W.Frag} {m:List Addr} {H:Hp} {R:List Addr→Hp→α→β→Prop} {E:XK} {Q':β→Hp→Prop} {Dn:BG} {o:Out α} {k:α→HD→Out (Fl×Ae)}
 (h:PostS K m H E Dn (o.bind k)) (f:∀a h1 v m1 H1,o=.ok a h1→m <+:m1→Kp H H1→HR K m1 h1 H1→R m1 H1 a v→PostS K m1 H1 E Dn (k a h1)→Q' v H1):Post K R m H E Q' o:=by
 cases o with
 |ok a h1=>exact fun v m1 H1 p kk hr r=>f a h1 v m1 H1 rfl p kk hr r (h.ahead p kk)
 |err C fs h1=>exact h
 |stuck=>exact h
theorem PostS.here {K:PySem.W.Frag} {m:List Addr} {H:Hp} {E:XK} {Dn:BG} {a:Fl×Ae} {h:HD} (hr:HR K m h H) (p:PostS K m H E Dn (.ok a h)):IB K m H Dn a:=p m H (Au _) (.refl _) hr
section
variable {X:Cx} {E:XK} {st:Stmt} {sts b1 b2:List Stmt} {g g1 g2:MS} {e:Expr} {f:ME} {pos:Pos} {t:MT}
def Bw:MS:=fun ρ h=>.ok (.nx,ρ) h
def Ao (g1 g2:MS):MS:=fun ρ h=>(g1 ρ h).bind fun x h1=>match x with
 |(.nx,ρ1)=>g2 ρ1 h1
 |y=>.ok y h1
theorem DH:Be X E [] Bw:=ID LI fun Dn σ H z1_=>by obtain ⟨m,ρ,h,hr,er,p⟩:=z1_;exact ((p.here hr) σ er)
theorem Bc (h:Ex X E st g):Be X E [st] g:=HU h
theorem AK (h1:Ex X E st g1) (h2:Be X E sts g2):Be X E (st::sts) (Ao g1 g2):=
 ID (Gy h1 h2) fun Dn σ H z2_=>by
  obtain ⟨m,ρ,h,hr,er,p⟩:=z2_
  refine ⟨m,ρ,h,hr,er,?_⟩
  unfold Ao at p
  cases o:g1 ρ h with
  |stuck=>rw [o] at p;exact p
  |err C fs h1=>rw [o] at p;exact p
  |ok x h1=>
   rw [o] at p
   obtain ⟨fl,ρ1⟩:=x
   intro m1 H1 p1 k1 hr1
   cases fl with
   |nx=>exact fun σ1 er1=>⟨m1,ρ1,h1,hr1,er1,PostS.ahead p1 k1 p⟩
   |bk=>exact p m1 H1 p1 k1 hr1
   |ct=>exact p m1 H1 p1 k1 hr1
   |rt d=>exact p m1 H1 p1 k1 hr1
def Fq (f:ME):MS:=fun ρ h=>(f ρ h).bind fun _ h1=>.ok (.nx,ρ) h1
def AV (f:ME):MS:=fun ρ h=>(f ρ h).bind fun d h1=>.ok (.rt d,ρ) h1
theorem Bx (he:Ev X E e f):Ex X E (.Return (some e) pos) (AV f):=
 C6 (LN he) fun Dn σ H z4_=>by obtain ⟨m,ρ,h,hr,er,p⟩:=z4_;exact (⟨m,ρ,h,hr,er,PostS.bind p fun x h1 v m1 H1 _ p1 k1 hr1 r1 q1=>(q1.here hr1) v r1⟩)
def Bk (t:MT) (g1 g2:MS):MS:=fun ρ h=>(t ρ h).bind fun b h1=>if b=true then g1 ρ h1 else g2 ρ h1
theorem DI {c:Expr} (hc:CH X E c t) (ha:Be X E b1 g1) (hb:Be X E b2 g2):Ex X E (.If c b1 b2 pos) (Bk t g1 g2):=
 C6 (LP hc ha hb) fun Dn σ H z5_=>by obtain ⟨m,ρ,h,hr,er,p⟩:=z5_;exact (⟨m,ρ,h,hr,er,PostS.bind p fun x h1 v m1 H1 _ p1 k1 hr1 r1 q1=>by
  cases r1
  cases x with
  |true=>exact ⟨m1,ρ,h1,hr1,er.keep p1 k1,q1⟩
  |false=>exact ⟨m1,ρ,h1,hr1,er.keep p1 k1,q1⟩⟩)
def Rx:MS:=fun _ _=>.stuck
def AE (i:Nat) (f:ME):MS:=fun ρ h=>(f ρ h).bind fun d h1=>.ok (.nx,ρ.set i (some d)) h1
theorem Bf {i:Nat} {x:Str} {pos':Pos} (hN:X.N.Nodup) (hi:X.N[i]?=some x) (hx:D3 X.env.scope x) (he:Ev X E e f) (hs:swapsWith e (some (.Name x pos')) pos.line X.env=pure false:=by rfl) (hf:X.fn x=true∨X.env.scope.names.lookup x=some .local:=by first |exact .inl rfl |exact .inr rfl |assumption):
 Ex X E (.Assign [.Name x pos'] e pos) (AE i f):=
 C6 (LW hN hi hx he hs hf) fun Dn σ H z9_=>by obtain ⟨m,ρ,h,hr,er,p⟩:=z9_;exact (⟨m,ρ,h,hr,er,PostS.bind p fun x h1 v m1 H1 _ p1 k1 hr1 r1 q1=>(q1.here hr1) _ ((er.keep p1 k1).set r1)⟩)
def DJ (i j:Nat) (fa:MA):MS:=fun ρ h=>(fa ρ h).bind fun ds h1=>match ds with
 |[x,y]=>.ok (.nx,(ρ.set i (some x)).set j (some y)) h1
 |_=>.stuck
theorem Jb {i j:Nat} {x y:Str} {a b:Expr} {fa:MA} {px py pt:Pos} {kt k2:Nat} {pt2:Pos} (hc:X.calm=true) (hN:X.N.Nodup) (hi:X.N[i]?=some x) (hj:X.N[j]?=some y) (hij:i≠j)
 (hx:X.env.scope.names.lookup x=some .local) (hy:X.env.scope.names.lookup y=some .local) (ha:BI X E [a,b] fa)
 (hw:swappedStores [.Tuple [.Name x px,.Name y py] kt pt] (.Tuple [a,b] k2 pt2) X.env=pure (some [x,y]))
 (hs:swapsWithSole [.Tuple [.Name x px,.Name y py] kt pt] (.Tuple [a,b] k2 pt2) pos.line X.env=pure false:=by rfl):
 Ex X E (.Assign [.Tuple [.Name x px,.Name y py] kt pt] (.Tuple [a,b] k2 pt2) pos) (DJ i j fa):=
 C6 (LY hc hN hi hj hij hx hy ha hw hs) fun Dn σ H z10_=>by obtain ⟨m,ρ,h,hr,er,p⟩:=z10_;exact (⟨m,ρ,h,hr,er,PostS.bind p fun x h1 v m1 H1 _ p1 k1 hr1 r1 q1=>by
  split at q1
  ·simp only [Cu,DVs] at r1
   obtain ⟨v,w,rfl,rv,v',w',rfl,rv',rfl⟩:=r1
   exact ⟨v,v',rfl,(q1.here hr1) _ (((er.keep p1 k1).set rv).set rv')⟩
  ·exact q1.elim⟩)
abbrev MG:=D→Ae→Option Ae
def Fs (X:Cx) (tg:Expr) (sg:MG):Prop:=
 ∃gg:TG,PG X tg gg∧∀m H d v ρ σ ρ' Q,DV X.K m H d v→ER X.K m H ρ σ→sg d ρ=some ρ'→(∀σ',ER X.K m H ρ' σ'→Q σ' H)→gg v σ H Q
def By (i:Nat):MG:=fun d ρ=>some (ρ.set i (some d))
def DK (i j:Nat):MG:=fun d ρ=>match d with
 |.tup [x,y]=>some ((ρ.set i (some x)).set j (some y))
 |_=>none
theorem GW {i:Nat} {x:Str} (h:PG X (.Name x pos) (Br i)):Fs X (.Name x pos) (By i):=⟨_,h,fun m H d v ρ σ ρ' Q r er e q=>by
 simp only [By,Option.some.injEq] at e
 subst e
 exact q _ (er.set r)⟩
theorem Jc {i j:Nat} {x y:Str} {px py:Pos} {kt:Nat} (h:PG X (.Tuple [.Name x px,.Name y py] kt pos) (D6 X.K 2 (B9 (Br i) (B9 (Br j) DA)))):Fs X (.Tuple [.Name x px,.Name y py] kt pos) (DK i j):=⟨_,h,fun m H d v ρ σ ρ' Q r er e q=>by
 unfold DK at e
 split at e
 ·rename_i a b
  cases e
  simp only [DV,DVs] at r
  obtain ⟨p,vs,rfl,hp,v1,w1,rfl,r1,v2,w2,rfl,r2,rfl⟩:=r
  exact ⟨p,_,rfl,SqT.of hp,rfl,v1,_,rfl,v2,_,rfl,rfl,q _ ((er.set r1).set r2)⟩
 ·cases e⟩
def Ft (sg:MG) (f:ME):MS:=fun ρ h=>(f ρ h).bind fun d h1=>match sg d ρ with
 |some ρ1=>.ok (.nx,ρ1) h1
 |none=>.stuck
theorem NB {tg:Expr} {sg:MG} (he:Ev X E e f) (hg:Fs X tg sg) (hs:swapsWithSole [tg] e pos.line X.env=pure false:=by rfl) (hw:swappedStores [tg] e X.env=pure none:=by rfl)
 (h1:(assignEach [tg] X.env).map (·.2)=[assign tg X.env]:=by rfl):Ex X E (.Assign [tg] e pos) (Ft sg f):=by
 obtain ⟨gg,hg,i⟩:=hg
 exact C6 (HY he hg hs hw h1) fun Dn σ H z11_=>by obtain ⟨m,ρ,h,hr,er,p⟩:=z11_;exact (⟨m,ρ,h,hr,er,PostS.bind p fun x h1 v m1 H1 _ p1 k1 hr1 r1 q1=>by
  split at q1
  ·rename_i ρ1 es
   exact i m1 H1 x v ρ σ ρ1 _ r1 (er.keep p1 k1) es fun σ' er'=>(q1.here hr1) σ' er'
  ·exact q1.elim⟩)
abbrev Ay:=List (Nat×List D)
def Bm (src:Ay) (items:List D) (h:HD):Prop:=∀p∈src,h[p.1]?=some (.lst p.2)
theorem Ej {items:List D} {h:HD}:Bm [] items h:=fun p z=>nomatch z
theorem NC {items ds:List D} {h:HD} {l:Nat} (e:h[l]?=some (.lst ds)):Bm [(l,ds)] items h:=fun p z=>by
 rw [qaD] at z
 subst z
 exact e
def GX (K:PySem.W.Frag):List Addr→Hp→(List D×Ay)→It→Prop:=fun m1 H1 x J=>
 ∀i m2 h2 H2,m1 <+:m2→Kp H1 H2→HR K m2 h2 H2→Bm x.2 x.1 h2→
  (i<x.1.length→J.go i H2∧∀y H3,J.yld i H2 y H3→Kp H2 H3∧HR K m2 h2 H3∧∃d,x.1[i]?=some d∧DV K m2 H3 d y)∧(i=x.1.length→J.stop i H2)
abbrev MI:=Ae→HD→Out (List D×Ay)
abbrev Fu (X:Cx) (E:XK) (tg iter:Expr) (it:MI):Prop:=PI X tg iter (tM X.K (GX X.K) E it)
theorem Jd {tg iter:Expr} {w w':TI} (h:PI X tg iter w) (i:∀σ H R,w' σ H R→w σ H R):PI X tg iter w':=fun pins s σ H R I q=>h pins s σ H R I (i σ H R q)
def ND:D→List D→Ay
 |.loc l,ds=>[(l,ds)]
 |_,_=>[]
def GY (d:D) (h:HD):Out (List D×Ay):=match Ba d h with
 |some ds=>.ok (ds,ND d ds) h
 |none=>.stuck
def Je (f:ME):MI:=fun ρ h=>(f ρ h).bind GY
def Dd (lo:Int) (n:Nat):List D:=(List.range n).map fun k=>.int (lo+(k:Nat))
theorem NF {K:PySem.W.Frag} {m1:List Addr} {H1:Hp} (lo:Int) (n:Nat):GX K m1 H1 (Dd lo n,[]) (E1 lo n):=fun i m2 h2 H2 p2 k2 hr2 _=>by
 refine ⟨fun hi=>?_,fun hi=>?_⟩
 ·have hi':i<n:=by simpa [Dd] using hi
  refine ⟨hi',fun y H3 z16_=>?_⟩
  obtain ⟨e3,ey⟩:=z16_
  subst e3 ey
  refine ⟨.refl _,hr2,.int (lo+i),?_,by simp [DV]⟩
  simp [Dd,List.getElem?_range,hi']
 ·show n≤i
  have hi':i=n:=by simpa [Dd] using hi
  omega
@[irreducible] noncomputable def DL:List D→HD→Out (List D×Ay):=fun ds h=>match ds with
  |[.int j]=>@ite _ (-(2^62)≤j∧j<2^62) (Classical.propDecidable _) (.ok (Dd 0 j.toNat,[]) h) .stuck
  |_=>.stuck
@[irreducible] noncomputable def Jf:List D→HD→Out (List D×Ay):=fun ds h=>match ds with
  |[.int i,.int j]=>@ite _ ((-(2^62)≤i∧i<2^62)∧-(2^62)≤j∧j<2^62) (Classical.propDecidable _) (.ok (Dd i (j - i).toNat,[]) h) .stuck
  |_=>.stuck
noncomputable def BV (fa:MA):MI:=fun ρ h=>(fa ρ h).bind DL
noncomputable def Jg (fa:MA):MI:=fun ρ h=>(fa ρ h).bind Jf
theorem Ek {tg a:Expr} {fa:MA} {p pos:Pos} (hg:Gl X "range") (hm:X.mg "range"=none) (ha:BI X E [a] fa) (hs:starEach [a] X.env=[(false,eval a X.env)]:=by rfl):Fu X E tg (.Call (.Name "range" p) [a] [] pos) (BV fa):=
 Jd (L7 hg hm ha hs) fun σ H R z17_=>by obtain ⟨m,ρ,h,hr,er,p⟩:=z17_;exact (⟨m,ρ,h,hr,er,Post.bind p fun x h1 v m1 H1 _ p1 k1 hr1 r1 q1=>by
  unfold DL at q1
  split at q1
  ·split at q1
   ·rename_i hj
    simp only [Cu,DVs,DV] at r1
    obtain ⟨v,w,rfl,rfl,rfl⟩:=r1
    exact ⟨_,rfl,hj.1,hj.2,q1 _ m1 H1 (Au _) (.refl _) hr1 (NF 0 _)⟩
   ·exact q1.elim
  ·exact q1.elim⟩)
open Classical in
noncomputable def Cj (src:Ay) (items:List D) (sg:MG) (body:MS):List D→MS
 |[]=>fun ρ h=>if Bm src items h then .ok (.nx,ρ) h else .stuck
 |d::ds=>fun ρ h=>if Bm src items h then match sg d ρ with
   |none=>.stuck
   |some ρ1=>(body ρ1 h).bind fun x h2=>match x with
    |(.nx,ρ2)=>Cj src items sg body ds ρ2 h2
    |(.ct,ρ2)=>Cj src items sg body ds ρ2 h2
    |(.bk,ρ2)=>.ok (.nx,ρ2) h2
    |(.rt d,ρ2)=>.ok (.rt d,ρ2) h2
  else .stuck
noncomputable def Cw (it:MI) (sg:MG) (body:MS):MS:=fun ρ h=>(it ρ h).bind fun x h1=>Cj x.2 x.1 sg body x.1 ρ h1
inductive Jh (K:PySem.W.Frag) (E:XK) (Dn:BG) (src:Ay) (items:List D) (sg:MG) (g:MS) (m1:List Addr) (H1:Hp) (i n:Nat) (σ2:L2.St) (H2:Hp):Prop where
 |mk (e:n=items.length - i) (l:i≤items.length) (m2:List Addr) (ρ2:Ae) (h2:HD) (p:m1 <+:m2) (k:Kp H1 H2) (hr:HR K m2 h2 H2) (er:ER K m2 H2 ρ2 σ2) (q:PostS K m2 H2 E Dn (Cj src items sg g (items.drop i) ρ2 h2)):Jh K E Dn src items sg g m1 H1 i n σ2 H2
inductive Ji (K:PySem.W.Frag) (E:XK) (Dn:BG) (src:Ay) (items:List D) (sg:MG) (g:MS) (m1:List Addr) (H1:Hp) (i:Nat) (σ2:L2.St) (H2:Hp):Prop where
 |mk (m2:List Addr) (ρ2:Ae) (h2:HD) (p:m1 <+:m2) (k:Kp H1 H2) (hr:HR K m2 h2 H2) (er:ER K m2 H2 ρ2 σ2) (q:PostS K m2 H2 E Dn (Cj src items sg g (items.drop i) ρ2 h2)):Ji K E Dn src items sg g m1 H1 i σ2 H2
theorem Fv {tg iter:Expr} {body:List Stmt} {it:MI} {sg:MG} {g:MS} (hp:PassesOwn (model X.prog X.w) X.A X.env X.xe) (hc:X.calm=true) (hi:Fu X E tg iter it) (hg:Fs X tg sg) (hb:Be X E body g)
 (hs:∀x,foldedSetIterable iter X.env x=pure x:=by intro _;rfl):Ex X E (.For tg iter body [] pos) (Cw it sg g):=by
 obtain ⟨gg,hg,ig⟩:=hg
 refine C6 (Ma hp hc hi hg hb hs) ?_
 rintro Dn σ H ⟨m,ρ,h,hr,er,p⟩
 refine ⟨m,ρ,h,hr,er,PostS.bind p fun x h1 J m1 H1 _ p1 k1 hr1 r1 q1=>?_⟩
 obtain ⟨items,src⟩:=x
 refine ⟨Jh X.K E Dn src items sg g m1 H1,⟨items.length,rfl,CF _,m1,ρ,h1,Au _,.refl _,hr1,er.keep p1 k1,by simpa using q1⟩,?_⟩
 rintro i n σ2 H2 ⟨rfl,hi,m2,ρ2,h2,p2,k2,hr2,er2,q2⟩
 by_cases hlt:i<items.length
 ·rw [List.drop_eq_getElem_cons hlt] at q2
  unfold Cj at q2
  split at q2
  ·rename_i hs
   obtain ⟨hgo,hy⟩:=(r1 i m2 h2 H2 p2 k2 hr2 hs).1 hlt
   refine .inr ⟨hgo,Ji X.K E Dn src items sg g m1 H1 (i+1),fun σ5 H5 z20_=>by obtain ⟨m5,ρ5,h5,a1,a2,a3,a4,a5⟩:=z20_;exact (⟨items.length - (i+1),by omega,rfl,hlt,m5,ρ5,h5,a1,a2,a3,a4,a5⟩),fun y H3 hyl=>?_⟩
   obtain ⟨k3,hr3,d,ed,rd⟩:=hy y H3 hyl
   have ed':d=items[i]:=by rw [A8 hlt] at ed;exact (Option.some.inj ed).symm
   subst ed'
   split at q2
   ·exact q2.elim
   ·rename_i ρ3 es
    refine ig m2 H3 _ y ρ2 σ2 ρ3 _ rd (er2.keep (Au _) k3) es fun σ4 er4=>?_
    refine ⟨m2,ρ3,h2,hr3,er4,?_⟩
    have q3:=PostS.ahead (Au _) k3 q2
    cases o:g ρ3 h2 with
    |stuck=>rw [o] at q3;exact q3
    |err C fs h5=>rw [o] at q3;exact q3
    |ok z h5=>
     rw [o] at q3
     obtain ⟨fl,ρ5⟩:=z
     intro m5 H5 p5 k5 hr5
     have pk:m1 <+:m5:=p2.trans p5
     have kk:Kp H1 H5:=(k2.trans k3).trans k5
     cases fl with
     |nx=>exact fun σ5 er5=>⟨m5,ρ5,h5,pk,kk,hr5,er5,PostS.ahead p5 k5 q3⟩
     |ct=>exact fun σ5 er5=>⟨m5,ρ5,h5,pk,kk,hr5,er5,PostS.ahead p5 k5 q3⟩
     |bk=>exact fun σ5 er5=>q3 m5 H5 p5 k5 hr5 σ5 er5
     |rt d=>exact fun v rv=>q3 m5 H5 p5 k5 hr5 v rv
  ·exact q2.elim
 ·have he:i=items.length:=Nat.le_antisymm hi (D0 hlt)
  subst he
  rw [List.drop_length] at q2
  unfold Cj at q2
  split at q2
  ·rename_i hs
   exact .inl ⟨(r1 _ m2 h2 H2 p2 k2 hr2 hs).2 rfl,(q2.here hr2) σ2 er2⟩
  ·exact q2.elim
end
section
variable {M:Model} {A:Around} {E:Value→Shared→Prop} {s:Shared}
theorem GZ {env:Env}:∀(names:List (Str×NameKind)) (acc:List (Str×Addr)),(∀y∈names,y.2=.free→∃c,env.cells.lookup y.1=some c)→
 ∃cl:List (Str×Addr),(forIn names acc (fun (x:Str×NameKind) (cs:List (Str×Addr))=>match x with
  |(name,kind)=>if (kind==NameKind.free)=true then do let y ←cellOf env name;pure (ForInStep.yield ((name,y)::cs)) else pure (ForInStep.yield cs)):Sem (List (Str×Addr)))=pure cl∧
  (∀x c,(x,c)∈cl→(x,c)∈acc∨(env.cells.lookup x=some c∧(x,NameKind.free)∈names))∧(∀y∈names,y.2=.free→∃c,(y.1,c)∈cl)∧(∀p∈acc,p∈cl)
 |[],acc,_=>⟨acc,rfl,fun x c h=>.inl h,fun y hy=>absurd hy (by simp),fun p h=>h⟩
 |(name,kind)::r,acc,h=>by
  rw [List.forIn_cons]
  by_cases hk:kind=.free
  ·subst hk
   obtain ⟨c,hc⟩:=h (name,.free) Ax rfl
   obtain ⟨cl,e,h1,h2,h3⟩:=GZ (env:=env) r ((name,c)::acc) (fun y hy=>h y (AA _ hy))
   refine ⟨cl,?_,fun x c' hm=>?_,fun y hy hf=>?_,fun p hp=>h3 p (AA _ hp)⟩
   ·rw [←e]
    have:cellOf env name=pure c:=by unfold cellOf;rw [hc]
    simp only [this,beq_self_eq_true,if_true,pure_bind]
   ·rcases h1 x c' hm with q |⟨q1,q2⟩
    ·rcases qa6.mp q with q |q
     ·cases q;exact .inr ⟨hc,Ax⟩
     ·exact .inl q
    ·exact .inr ⟨q1,AA _ q2⟩
   ·rcases qa6.mp hy with q |q
    ·subst q;exact ⟨c,h3 _ Ax⟩
    ·exact h2 y q hf
  ·obtain ⟨cl,e,h1,h2,h3⟩:=GZ (env:=env) r acc (fun y hy=>h y (AA _ hy))
   refine ⟨cl,?_,fun x c' hm=>?_,fun y hy hf=>?_,h3⟩
   ·rw [←e]
    have hk':(kind==NameKind.free)=false:=by simpa using hk
    simp only [hk',BN,if_false,pure_bind]
   ·rcases h1 x c' hm with q |⟨q1,q2⟩
    ·exact .inl q
    ·exact .inr ⟨q1,AA _ q2⟩
   ·rcases qa6.mp hy with q |q
    ·subst q;exact absurd hf hk
    ·exact h2 y q hf
theorem NG {scope:Scope} {env:Env} (h:∀y∈scope.names,y.2=.free→∃c,env.cells.lookup y.1=some c):
 ∃cl:List (Str×Addr),closureFor scope env=pure cl∧(∀x c,(x,c)∈cl→env.cells.lookup x=some c∧(x,NameKind.free)∈scope.names)∧(∀y∈scope.names,y.2=.free→∃c,(y.1,c)∈cl):=by
 obtain ⟨cl,e,h1,h2,h3⟩:=GZ (env:=env) scope.names [] h
 refine ⟨cl,?_,fun x c hm=>?_,h2⟩
 ·unfold closureFor
  simp only [bind_pure]
  exact e
 ·rcases h1 x c hm with q |q
  ·exact nomatch q
  ·exact q
theorem NH {scope:Scope} {globals:Addr} {cl:List (Str×Addr)} {qual:Str} {around:Env} {Q:Env→Shared→Prop}
 (h:Q (newEnv scope s.heap.objs.size globals (cellsFrom (s.heap.objs.size+1) scope.names cl) qual none .none (some around) builtinsNs) {s with heap:=pushCells (s.heap.push {cls:=.type "dict",data:=.dict #[]}) scope.names}):
 wpAny M A (newFunctionEnv scope globals cl [] qual none .none (some around)) Q E s:=by
 simp only [newFunctionEnv,Option.isSome_some,if_true]
 refine wpAny_bind (wpAny_alloc ?_)
 refine wpAny_bind (wpAny_layCells _ (fun name kind cells=>by cases hkc:kind==NameKind.cell<;>simp [hkc]) _ _ _ _ ?_)
 simp only [List.forIn_nil,pure_bind]
 refine wpAny_pure ?_
 rw [show ({s with heap:=s.heap.push {cls:=.type "dict",data:=.dict #[]}}:Shared).heap.objs.size=s.heap.objs.size+1 from B7 ..]
 exact h
end
section
variable {prog:Program} {w:World} {A:Around} {R:Result→Shared→Prop} {s:Shared}
theorem NI {elt target iter:Expr} {ifs:List Expr} {scope:Scope} {pos:Pos} {it acc:Value} {env:Env} (I:Nat→Shared→Prop)
 (turn:∀n s,I n s→wpAny (model prog w) A (pyNext it) (fun r s₁=>match r with
  |none=>R (.ok .next) s₁
  |some v=>wpAny (model prog w) A (letOwnedTupleGo target it v) (fun _ s₁'=>wpAny (model prog w) A (assign target env v) (fun _ s₂=>
   wpAny (model prog w) A (forIn ifs true fun c r=>if r=true then do let ok ←isTrue c env (eval c env);pure (ForInStep.yield ok) else pure (ForInStep.yield r)) (fun ok s₃=>
    if ok=true then wpAny (model prog w) A (eval elt env) (fun x s₄=>
     wpAny (model prog w) A (call (.builtin "list.append") [acc,x]) (fun _ s₅=>∃m,m<n∧I m s₅) (notedBy (model prog w) A env fun e s'=>R (.error e) s') s₄) (notedBy (model prog w) A env fun e s'=>R (.error e) s') s₃
    else ∃m,m<n∧I m s₃) (notedBy (model prog w) A env fun e s'=>R (.error e) s') s₂) (notedBy (model prog w) A env fun e s'=>R (.error e) s') s₁') (notedBy (model prog w) A env fun e s'=>R (.error e) s') s₁) (notedBy (model prog w) A env fun e s'=>R (.error e) s') s)
 (n:Nat) (h:I n s):
 codeAny (model prog w) A (.compLoop (.ListComp elt [⟨target,iter,ifs,0⟩] scope pos) 0 it acc env) R s:=by
 refine codeAny_loop rfl I (fun n s hI=>?_) n h
 show wpAny _ A ((compTurn (.ListComp elt [⟨target,iter,ifs,0⟩] scope pos) 0 it acc env).onRaise (fun x=>do noteFrame x env;theTreesLotGoes x)) _ _ s
 refine wpAny_noted ?_
 rw [compTurn_list]
 refine wpAny_bind (wpAny_standAt (wpAny_bind (wpAny_mono (turn n s hI) (fun r s₁ h₁=>?_) fun _ _ h'=>h')))
 cases r with
 |none=>exact wpAny_pure h₁
 |some v=>
  refine wpAny_bind (wpAny_mono h₁ (fun _ s₁' h₁'=>?_) fun _ _ h'=>h')
  refine wpAny_bind (wpAny_mono h₁' (fun _ s₂ h₂=>wpAny_bind (wpAny_mono h₂ (fun ok s₃ h₃=>?_) fun _ _ h'=>h')) fun _ _ h'=>h')
  cases ok with
  |false=>exact wpAny_pure ⟨rfl,h₃⟩
  |true=>
   exact wpAny_bind (wpAny_bind (wpAny_mono h₃ (fun x s₄ h₄=>wpAny_bind (wpAny_mono h₄ (fun _ s₅ h₅=>wpAny_pure (wpAny_pure ⟨rfl,h₅⟩)) fun _ _ h'=>h')) fun _ _ h'=>h'))
end
def Fw (X:Cx) (ifs:List Expr) (t:TT):Prop:=∀(pins:List (Addr×Obj)) (s:Shared) (σ:L2.St) (H:Hp) (Q:Bool→Hp→Prop),Inv X pins σ H s→t σ H Q→
 wpAny (model X.prog X.w) X.A (forIn ifs true fun c r=>if r=true then do let ok ←isTrue c X.env (eval c X.env);pure (ForInStep.yield ok) else pure (ForInStep.yield r)) (TP X pins σ Q) X.xe s
theorem NJ {X:Cx}:Fw X [] (fun _ H Q=>Q true H):=fun _ _ _ H _ I h=>wpAny_tests_nil ⟨H,I,h⟩
def Jj (env:Env) (scope:Scope) (C:Addr) (cells:List (Str×Addr)):Env:=
 {scope:=relabel scope env,locals:=C,globals:=env.globals,cells:=cells,qual:=env.qual,func:=none,code:=env.code,frame:=env.frame,builtins:=env.builtins}
def Bn (X:Cx) (Nc:List Str) (scope:Scope) (C D:Addr) (cells:List (Str×Addr)) (fp:List Addr) (s₀:Shared) (H₀:Hp) (pins:List (Addr×Obj)):Cx:=
 {X with N:=Nc,s₀:=s₀,H₀:=H₀,env:=Jj X.env scope C cells,outer:=X.stack,stack:=X.stack,ex:=D::fp,fn:=fun x=>scope.names.lookup x==some .cell,pn:=X.pn++pins,xe:=fun _ _=>False}
def AL (cs:List (Option Nat)) (σ:L2.St):L2.St:=cs.map fun o=>o.bind fun j=>(σ[j]?).join
def Sub (σ σ':L2.St):Prop:=σ.length=σ'.length∧∀(i:Nat) v,σ[i]?=some (some v)→σ'[i]?=some (some v)
def G0 (cs:List (Option Nat)) (wi:TI) (g:TG) (tc:TT) (te:TE):TE:=fun σ H Q=>wi σ H fun J H1=>∃W:Nat→Nat→List V→Hp→Prop,(∃n,W 0 n [] H1)∧∀i n acc H,W i n acc H→
 (J.stop i H∧acc.length≤sizeLine∧∀p,H p=none→Q (.ref p) (Ag H p (.lst acc)))∨
 (J.go i H∧acc.length<sizeLine∧∀x H',J.yld i H x H'→g x (AL cs σ) H' fun σ2 H2=>Sub (AL cs σ) σ2∧tc σ2 H2 fun b H3=>if b=true then te σ2 H3 fun y H4=>∃n',n' < n∧W (i+1) n' (acc++[y]) H4 else ∃n',n' < n∧W (i+1) n' acc H3)
theorem G1:∀(names:List (Str×NameKind)) (h:Heap) (acc:List (Str×Addr)) (x:Str) (c:Addr),(x,c)∈cellsFrom h.objs.size names acc→(x,c)∈acc∨(h.objs.size≤c∧(x,NameKind.cell)∈names∧(pushCells h names).IsCell c none)
 |[],_,_,_,_,m=>.inl m
 |(name,kind)::r,h,acc,x,c,m=>by
  unfold cellsFrom at m
  unfold pushCells
  split at m
  ·rename_i hk
   rw [if_pos hk]
   have hk':kind=.cell:=by simpa using hk
   have e:h.objs.size+1=(h.push {cls:=.type "cell",data:=.cell none}).objs.size:=(B7 ..).symm
   rw [e] at m
   rcases G1 r _ _ x c m with q |⟨q1,q2,q3⟩
   ·rcases qa6.mp q with q |q
    ·cases q
     refine .inr ⟨AJ _,by rw [hk'];exact Ax,?_⟩
     exact (show (h.push {cls:=.type "cell",data:=.cell none}).IsCell h.objs.size none from ⟨_,BD _ rfl,rfl⟩).keeps fun b o e=>pushCells_keeps _ _ b o e
    ·exact .inl q
   ·exact .inr ⟨by rw [←e] at q1;exact Nat.le_of_succ_le q1,AA _ q2,q3⟩
  ·rename_i hk
   rw [if_neg hk]
   rcases G1 r h acc x c m with q |⟨q1,q2,q3⟩
   ·exact .inl q
   ·exact .inr ⟨q1,AA _ q2,q3⟩
theorem G2:∀(names:List (Str×NameKind)) (h:Heap) (acc:List (Str×Addr)),(∀x c,(x,c)∈acc→c<h.objs.size)→(∀x y c,(x,c)∈acc→(y,c)∈acc→x=y)→
 ∀x y c,(x,c)∈cellsFrom h.objs.size names acc→(y,c)∈cellsFrom h.objs.size names acc→x=y
 |[],_,_,_,i=>i
 |(name,kind)::r,h,acc,lt,i=>by
  unfold cellsFrom
  split
  ·have e:h.objs.size+1=(h.push {cls:=.type "cell",data:=.cell none}).objs.size:=(B7 ..).symm
   rw [e]
   refine G2 r _ _ (fun x c m=>?_) (fun x y c m m'=>?_)
   ·rw [←e]
    rcases qa6.mp m with q |q
    ·cases q;exact Nat.lt_succ_self _
    ·exact Nat.lt_succ_of_lt (lt x c q)
   ·rcases qa6.mp m with q |q<;>rcases qa6.mp m' with q' |q'
    ·cases q;cases q';rfl
    ·cases q;exact absurd (lt y _ q') (BO _)
    ·cases q';exact absurd (lt x _ q) (BO _)
    ·exact i x y c q q'
  ·exact G2 r h acc lt i
theorem lookup_mem {α:Type} {l:List (Str×α)} {x:Str} {k:α} (nd:(l.map (·.1)).Nodup) (h:(x,k)∈l):l.lookup x=some k:=by
 induction l with
 |nil=>cases h
 |cons p r ih=>
  obtain ⟨y,j⟩:=p
  rw [BF,qb1] at nd
  rw [CD]
  rcases qa6.mp h with e |e
  ·cases e;simp
  ·have:x≠y:=by
    rintro rfl
    exact nd.1 (List.mem_map.mpr ⟨(x,k),e,rfl⟩)
   have hb:(x==y)=false:=by simpa using this
   rw [hb]
   exact ih nd.2 e
theorem NK {env:Env} {x n:Str} {j:NameKind} {r:List (Str×NameKind)} {k:NameKind} (h:List.lookup x ((if (j==NameKind.free&&env.scope.kind==.function&&env.kindOf n==some .cell)=true then (n,NameKind.cell) else (n,j))::r)=some k):
 (x=n∧(k=j∨(j=.free∧k=.cell)))∨(x≠n∧List.lookup x r=some k):=by
 by_cases hx:x=n
 ·subst hx
  refine .inl ⟨rfl,?_⟩
  split at h
  ·rename_i hc
   rw [CD] at h
   simp only [beq_self_eq_true] at h
   cases h
   simp only [BE] at hc
   exact .inr ⟨by simpa using hc.1.1,rfl⟩
  ·rw [CD] at h
   simp only [beq_self_eq_true] at h
   cases h
   exact .inl rfl
 ·have hb:(x==n)=false:=by simpa using hx
  refine .inr ⟨hx,?_⟩
  split at h<;>(rw [CD] at h;simp only [hb] at h;exact h)
theorem Jk {scope:Scope} {env:Env} {x:Str} {k:NameKind}:(relabel scope env).names.lookup x=some k→∃k0,scope.names.lookup x=some k0∧(k=k0∨(k0=.free∧k=.cell)):=by
 show (scope.names.map _).lookup x=some k→_
 induction scope.names with
 |nil=>intro h;cases h
 |cons p r ih=>
  obtain ⟨n,j⟩:=p
  intro h
  rw [BF] at h
  rw [CD]
  rcases NK h with ⟨hx,hk⟩ |⟨hx,hr⟩
  ·subst hx
   simp only [beq_self_eq_true]
   exact ⟨j,rfl,hk⟩
  ·have hb:(x==n)=false:=by simpa using hx
   rw [hb]
   exact ih hr
structure El (X:Cx) (scope:Scope) (Nc:List Str) (cs:List (Option Nat)):Prop where
 kind:scope.kind=.function
 loc:∀y∈scope.names,y.2=.local→scope.names.lookup y.1=some .local
 free:∀y∈scope.names,y.2=.free→X.env.kindOf y.1=some .cell∨X.env.kindOf y.1=some .free
 nd:(scope.names.map (·.1)).Nodup
 len:cs.length=Nc.length
 out:∀(i:Nat) (x:Str) (j:Nat),Nc[i]?=some x→cs[i]?=some (some j)→X.N[j]?=some x∧scope.names.lookup x=some .free
theorem NL {a b:Addr} (h:a<b):@LT.lt Nat instLTNat a b:=h
theorem Bg {a b:Addr} (h:@LT.lt Nat instLTNat a b):a≠b:=A6 h
theorem Em {a b:Addr} (h:@LT.lt Nat instLTNat a b):b≠a:=Ne.symm (A6 h)
section
variable {X:Cx} {pins:List (Addr×Obj)} {σ:L2.St} {H:Hp} {s:Shared}
theorem NM {scope:Scope} {Nc:List Str} {cs:List (Option Nat)} {fp:List Addr} {cl:List (Str×Addr)} (S:El X scope Nc cs) (I:Inv X pins σ H s) (f:∀b∈fp,Cs X pins H b) (ob:∀b∈fp,∃o,s.heap.get? b=some o)
 (hcl:∀x c,(x,c)∈cl→X.env.cells.lookup x=some c∧(x,NameKind.free)∈scope.names) (hcl2:∀y∈scope.names,y.2=.free→∃c,(y.1,c)∈cl) {s3:Shared} (e3:s3={s with heap:=s.heap.push {cls:=.type "list",data:=.seq ([]:List Value).toArray}}):
 Inv (Bn X Nc scope s3.heap.objs.size s.heap.objs.size (cellsFrom (s3.heap.objs.size+1) scope.names cl) fp s3 H pins) [] (AL cs σ) H
  {s3 with heap:=pushCells (s3.heap.push {cls:=.type "dict",data:=.dict #[]}) scope.names}:=by
 have k3:∀b o,s.heap.get? b=some o→s3.heap.get? b=some o:=fun b o e=>by subst e3;exact AR _ e
 have FE:s3.heap.objs.size=s.heap.objs.size+1:=by subst e3;exact B7 ..
 have szd:(s3.heap.push {cls:=.type "dict",data:=.dict #[]}).objs.size=s3.heap.objs.size+1:=B7 ..
 have k34:∀b o,s3.heap.get? b=some o→(pushCells (s3.heap.push {cls:=.type "dict",data:=.dict #[]}) scope.names).get? b=some o:=fun b o e=>pushCells_keeps _ _ b o (AR _ e)
 have k4:∀b o,s.heap.get? b=some o→(pushCells (s3.heap.push {cls:=.type "dict",data:=.dict #[]}) scope.names).get? b=some o:=fun b o e=>k34 b o (k3 b o e)
 have cllt:∀x c,(x,c)∈cl→c<s.heap.objs.size:=fun x c m=>by
  obtain ⟨v,q⟩:=I.cell x c (hcl x c m).1
  exact q.lt
 have cm:∀x c,(cellsFrom (s3.heap.objs.size+1) scope.names cl).lookup x=some c→(x,c)∈cl∨(s3.heap.objs.size+1≤c∧(x,NameKind.cell)∈scope.names∧(pushCells (s3.heap.push {cls:=.type "dict",data:=.dict #[]}) scope.names).IsCell c none):=fun x c e=>by
  have m:=mem_of_lookup e
  rw [←szd] at m
  have:=G1 scope.names _ cl x c m
  rw [szd] at this
  exact this
 have frs_lt:∀b∈frs X.stack,b<s.heap.objs.size:=fun b hb=>by
  obtain ⟨_,o,ho,_⟩:=I.stack.mem hb
  exact Ap ho
 have nfs:∀b,b≠X.env.locals→b∉X.fs→b∉frs X.stack:=fun b h1 h2 hb=>by
  rcases qa6.mp (I.stkSub b hb) with q |q
  ·exact h1 q
  ·exact h2 q
 have ok:(Bn X Nc scope s3.heap.objs.size s.heap.objs.size (cellsFrom (s3.heap.objs.size+1) scope.names cl) fp s3 H pins).Ok:=by
  refine ⟨I.ok.mod,S.kind,I.ok.glob,I.ok.blt,AJ _,fun x y c e1 e2=>?_,fun x hx=>?_,fun x c hf e=>?_,I.ok.hd,I.ok.frames,.inl rfl,fun b hb=>?_,fun b o e=>?_,?_,fun b o e hb=>?_,fun b hb=>?_,?_,I.stkFree⟩
  ·have m1:=mem_of_lookup e1
   have m2:=mem_of_lookup e2
   have m1':(x,c)∈cellsFrom (s3.heap.push {cls:=.type "dict",data:=.dict #[]}).objs.size scope.names cl:=by rw [szd];exact m1
   have m2':(y,c)∈cellsFrom (s3.heap.push {cls:=.type "dict",data:=.dict #[]}).objs.size scope.names cl:=by rw [szd];exact m2
   exact G2 scope.names (s3.heap.push {cls:=.type "dict",data:=.dict #[]}) cl (fun x c m=>by rw [szd,FE];exact AC (cllt x c m) (by omega))
    (fun x y c a b=>I.ok.inj x y c (hcl x c a).1 (hcl y c b).1) x y c m1' m2'
  ·have:∃k,(relabel scope X.env).names.lookup x=some k∧(k=.cell∨k=.free):=by
    rcases hx with q |q
    ·exact ⟨_,q,.inl rfl⟩
    ·exact ⟨_,q,.inr rfl⟩
   obtain ⟨k,e1,hk⟩:=this
   obtain ⟨k0,e0,hk0⟩:=Jk e1
   refine qaZ.mp (PySem.W.cellsFrom_some _ _ _ ?_)
   have:k0=.cell∨k0=.free:=by
    rcases hk0 with q |⟨q,_⟩
    ·rw [←q];exact hk
    ·exact .inr q
   rcases this with q |q
   ·subst q;exact .inl e0
   ·subst q
    obtain ⟨c,hc⟩:=hcl2 _ (mem_of_lookup e0) rfl
    refine .inr ?_
    cases hl:cl.lookup x with
    |some c'=>rfl
    |none=>
     exfalso
     have:∀p∈cl,p.1≠x:=fun p hp e=>by
      have h2:=List.lookup_eq_none_iff.mp hl p hp
      rw [e] at h2
      simp at h2
     exact this _ hc rfl
  ·have hk:scope.names.lookup x=some .cell:=by
    have:(scope.names.lookup x==some NameKind.cell)=true:=hf
    simpa using this
   rcases cm x c e with q |⟨q1,_,_⟩
   ·have:=lookup_mem S.nd (hcl x c q).2
    rw [hk] at this
    cases this
   ·exact Nat.le_of_succ_le q1
  ·rcases qa6.mp hb with q |q
   ·subst q
    refine ⟨Bg (show _<s3.heap.objs.size by omega),fun x c e=>?_⟩
    rcases cm x c e with q |⟨q1,_,_⟩
    ·exact A6 (cllt x c q)
    ·exact Em (AC (by omega) q1)
   ·obtain ⟨o,ho⟩:=ob b q
    have hlt:=NL (Ap ho)
    refine ⟨Bg (show _<s3.heap.objs.size by omega),fun x c e=>?_⟩
    rcases cm x c e with q2 |⟨q1,_,_⟩
    ·exact (f b q).2.2.2.2.1 x c (hcl x c q2).1
    ·exact Em (AC (by omega) q1)
  ·obtain ⟨h1,h2⟩:=I.bs b o e
   exact ⟨k3 b o h1,h2⟩
  ·show X.base.objs.size≤s3.heap.objs.size
   have:=Bi I.ok.bsz I.sz
   omega
  ·obtain ⟨h1,h2⟩:=I.bs b o e
   rcases qa6.mp hb with q |q
   ·exact absurd q (Bg (Ap h1))
   ·rcases (f b q).2.2.2.1 with z |z
    ·exact I.ok.noex b o e z
    ·exact absurd (AC (Ap (I.ok.bs b o e).1) z) (BO _)
  ·rcases qa6.mp hb with q |q
   ·subst q
    intro z
    exact absurd (frs_lt _ z) (BO _)
   ·exact nfs b (f b q).2.1 (f b q).2.2.1
  ·exact I.stack.of_keeps fun b o e _=>⟨o,k3 b o e,rfl⟩
 refine ⟨ok,rfl,?_,?_,?_,fun x c e=>?_,?_,fun x c e=>?_,fun p hp=>?_,I.hok.kept k4,?_⟩
 ·show AllBare s3.gens
  subst e3;exact I.bare
 ·exact Un.kept k34
 ·refine ⟨fun _=>none,(Heap.Ns.new s3.heap (.type "dict")).keeps (pushCells_keeps _ _),fun i x v e1 e2 e3'=>?_⟩
  unfold AL at e2
  rw [CC] at e2
  cases ec:cs[i]? with
  |none=>rw [ec] at e2;cases e2
  |some o=>
   rw [ec] at e2
   cases o with
   |none=>cases e2
   |some j=>
    simp only [Dz,Option.bind_some,Option.some.injEq] at e2
    have e2':σ[j]?=some (some v):=by
     cases ej:σ[j]? with
     |none=>rw [ej] at e2;cases e2
     |some w=>rw [ej] at e2;simp at e2;rw [e2]
    obtain ⟨hN,hfr⟩:=S.out i x j e1 ec
    have hfm:=mem_of_lookup hfr
    have hkind:=S.free _ hfm rfl
    obtain ⟨m,hn,hl⟩:=I.loc
    obtain ⟨u,r,look⟩:=hl j x v hN e2' (by
     rcases hkind with q |q
     ·exact .inr (.inl q)
     ·exact .inr (.inr q))
    refine ⟨u,r,.inr ?_⟩
    rcases look with ⟨q,_⟩ |⟨_,c,ec',hc⟩
    ·rcases hkind with z |z<;>(rw [q] at z;cases z)
    ·obtain ⟨c',hc'⟩:=hcl2 _ hfm rfl
     have hv:(Bn X Nc scope s3.heap.objs.size s.heap.objs.size (cellsFrom (s3.heap.objs.size+1) scope.names cl) fp s3 H pins).env.kindOf x=some .cell∨(Bn X Nc scope s3.heap.objs.size s.heap.objs.size (cellsFrom (s3.heap.objs.size+1) scope.names cl) fp s3 H pins).env.kindOf x=some .free:=by
      rcases e3' with z |z |z
      ·obtain ⟨k0,a1,a2⟩:=Jk z
       rw [hfr] at a1
       cases a1
       rcases a2 with a2 |⟨_,a2⟩<;>cases a2
      ·exact .inl z
      ·exact .inr z
     refine ⟨hv,c,?_,hc.keeps k4⟩
     obtain ⟨c2,h2⟩:=ok.has x hv
     rw [h2]
     rcases cm x c2 h2 with q |⟨_,q,_⟩
     ·rw [←ec',(hcl x c2 q).1]
     ·have:=lookup_mem S.nd q
      rw [hfr] at this
      cases this
 ·rcases cm x c e with q |⟨_,_,q⟩
  ·obtain ⟨v,z⟩:=I.cell x c (hcl x c q).1
   exact ⟨v,z.keeps k4⟩
  ·exact ⟨none,q⟩
 ·exact I.hok.fresh (show s.heap.objs.size≤s3.heap.objs.size by omega)
 ·rcases cm x c e with q |⟨q,_,_⟩
  ·exact I.freeC x c (hcl x c q).1
  ·exact I.hok.fresh (by omega)
 ·have hp':p∈X.pn++pins:=by
   rcases qb7.mp hp with q |q
   ·exact q
   ·exact absurd q (by simp)
  obtain ⟨a1,a2,a3,a4,a5⟩:=I.pin p hp'
  refine ⟨k4 _ _ a1,a2,?_,nfs p.1 a3 a4,a5⟩
  show p.1≠s3.heap.objs.size
  exact Bg (AC (Ap a1) (by omega))
 ·show (AL cs σ).length=Nc.length
  simp [AL,S.len]
end
section
variable {X:Cx} {elt tg iter:Expr} {ifs:List Expr} {scope:Scope} {pos:Pos} {Nc:List Str} {cs:List (Option Nat)} {wi:TI} {g:TG} {tc:TT} {te:TE}
theorem NO {pins:List (Addr×Obj)} {σ:L2.St} {H H':Hp} {s s3 s':Shared} {fp:List Addr} {C:Addr} {cells:List (Str×Addr)} {po:List (Addr×Obj)} {σc:L2.St} {acc:List V} {its:List Value} {n:Nat}
 (I:Inv X pins σ H s) (f:∀b∈fp,Cs X pins H b) (e3:s3={s with heap:=s.heap.push {cls:=.type "list",data:=.seq ([]:List Value).toArray}}) (hC:C=s3.heap.objs.size)
 (I':Inv (Bn X Nc scope C s.heap.objs.size cells fp s3 H pins) po σc H' s') (hD:H' s.heap.objs.size=none) (hl:acc.length≤sizeLine) (rv:Vals acc its) (ho:s'.heap.get? s.heap.objs.size=some {cls:=.type "list",data:=.seq its.toArray n})
 {h':Heap} (sb:Heap.SameBut C s'.heap h'):Inv X pins σ (Ag H' s.heap.objs.size (.lst acc)) {s' with heap:=h'}:=by
 have k3:∀b o,s.heap.get? b=some o→s3.heap.get? b=some o:=fun b o e=>by subst e3;exact AR _ e
 have FE:s3.heap.objs.size=s.heap.objs.size+1:=by subst e3;exact B7 ..
 have Cg:∀b o,s.heap.get? b=some o→b≠s.heap.objs.size:=fun b o e=>Bg (Ap e)
 have neC:∀b o,s.heap.get? b=some o→b≠C:=fun b o e=>by rw [hC];exact Bg (AC (Ap e) (by omega))
 have DC:s.heap.objs.size≠C:=by rw [hC];exact Bg (by omega)
 have U:Un (frs X.stack) (s.heap.objs.size::fp) H H' s3.heap s'.heap:=I'.base
 have exn:∀b o,s.heap.get? b=some o→b∉fp→b∉s.heap.objs.size::fp:=fun b o e hx hb=>by
  rcases qa6.mp hb with z |z
  ·exact Cg b o e z
  ·exact hx z
 have neT:∀b u,H' b=some u→b≠s.heap.objs.size:=fun b u e=>AZ e hD
 have hCn:H' C=none:=I'.free
 refine I.call' (s':={s' with heap:=h'}) (ch:=fp) ?_ ?_ ?_ I'.bare ?_
 ·show s'.os=s.os
  have:=I'.os
  rw [this]
  show s3.os=s.os
  subst e3;rfl
 ·refine ⟨fun b o e nn hb hx=>?_,fun b o e nn hb hx=>?_,fun b o e nn hx=>?_,fun b o e hx=>?_,fun b xs e=>?_,fun b o u e=>?_,fun b ps e=>?_⟩
  ·exact (sb.2 b (neC b o e)).trans (U.keep b o (k3 b o e) nn hb (exn b o e hx))
  ·obtain ⟨sl,z⟩:=U.slot b o (k3 b o e) nn hb (exn b o e hx)
   exact ⟨sl,(sb.2 b (neC b o e)).trans z⟩
  ·rw [Af (Cg b o e)]
   exact U.free b o (k3 b o e) nn (exn b o e hx)
  ·obtain ⟨o',z⟩:=U.there b o (k3 b o e) (exn b o e hx)
   exact ⟨o',(sb.2 b (neC b o e)).trans z⟩
  ·have z:=U.tups b xs e
   rw [Af (neT b _ z)]
   exact z
  ·have z:=U.frzs b o u e
   rw [Af (neT b _ z)]
   exact z
  ·obtain ⟨more,z⟩:=U.tbls b ps e
   exact ⟨more,by rw [Af (neT b _ z)];exact z⟩
 ·intro b u e
  by_cases hb:b=s.heap.objs.size
  ·subst hb
   rw [AU] at e
   cases e
   exact ⟨hl,its,n,rv,(sb.2 _ DC).trans ho⟩
  ·rw [Af hb] at e
   refine (I'.hok b u e).stay (fun c v hc z=>(sb.2 c ?_).trans z) (fun c z=>by rw [Af (neT c _ z)];exact z) fun c xs z=>by rw [Af (neT c _ z)];exact z
   rcases hc with rfl |hc
   ·exact AZ e hCn
   ·exact AZ hc hCn
 ·intro b hb
  obtain ⟨_,f1,_,f3,f4,f5⟩:=f b hb
  exact ⟨f3,f1,f4,f5⟩
inductive Jl (W:Nat→Nat→List V→Hp→Prop) (Xc:Cx) (σc:L2.St) (tn:Nat→Heap→Prop) (fp:List Addr) (Da:Addr) (n:Nat) (s':Shared):Prop where
 |mk (i:Nat) (acc:List V) (H':Hp) (its:List Value) (k:Nat) (w:W i n acc H') (ii:Inv Xc [] σc H' s') (st:tn i s'.heap) (fr:∀b∈fp,H' b=none) (hD:H' Da=none) (rv:Vals acc its) (ho:s'.heap.get? Da=some {cls:=.type "list",data:=.seq its.toArray k}):Jl W Xc σc tn fp Da n s'
theorem NP {use:Option (Value→Sem Unit)} {QQ:Value→Shared→Prop} {ppos:Pos} {pins:List (Addr×Obj)} {s:Shared} {σ:L2.St} {H:Hp} {Q:VK} (hcalm:X.calm=true) (S:El X scope Nc cs) (hi:PI X tg iter wi)
 (hb:∀(C D:Addr) (cells:List (Str×Addr)) (fp:List Addr) (s₀:Shared) (H₀:Hp) (pins:List (Addr×Obj)),PG (Bn X Nc scope C D cells fp s₀ H₀ pins) tg g∧Fw (Bn X Nc scope C D cells fp s₀ H₀ pins) ifs tc∧PE (Bn X Nc scope C D cells fp s₀ H₀ pins) elt te)
 (hsf:∀x,foldedSetIterable iter X.env x=pure x) (I:Inv X pins σ H s) (h:G0 cs wi g tc te σ H Q)
 (Aq:∀(s6:Shared) (C D:Addr) (H7:Hp) (m6:Str→Option Value),s6.heap.Ns C m6→H7 C=none→X.s₀.heap.objs.size≤C→C≠X.env.locals→(∀x c,X.env.cells.lookup x=some c→c≠C)→(∀p∈X.pn++pins,p.1≠C)→
  (∀h',Heap.SameBut C s6.heap h'→Inv X pins σ H7 {s6 with heap:=h'})→Q (.ref D) H7→compPost (model X.prog X.w) X.A X.xe use QQ (.ref D) C (.ok .next) s6):
 wpAny (model X.prog X.w) X.A (comprehension (.ListComp elt [⟨tg,iter,ifs,0⟩] scope pos) scope X.env ppos (newList []) false (eval iter X.env) use) QQ X.xe s:=by
 obtain ⟨cl,hclos,hcl,hcl2⟩:=NG (scope:=scope) (env:=X.env) fun y hy hf=>I.ok.has y.1 (S.free y hy hf)
 refine wpAny_comprehension_free (use:=use) rfl hsf hclos S.kind S.loc (Am (hi pins s σ H _ I h) fun xv s1 h1=>Am h1 fun itv s2 h2=>?_)
 obtain ⟨it,fp,tn,J,H2,e,I2,T,Ds,f2,W,⟨n0,w0⟩,turn⟩:=h2
 subst e
 refine wpAny_newObj_type ?_
 generalize e3:({s2 with heap:=s2.heap.push {cls:=.type "list",data:=.seq ([]:List Value).toArray}}:Shared)=s3
 refine NH ?_
 have ob2:∀b∈fp,∃o,s2.heap.get? b=some o:=fun b hb=>let ⟨o,e,_⟩:=T.obj _ _ Ds b hb;⟨o,e⟩
 have I4:=NM (fp:=fp) (cl:=cl) S I2 f2 ob2 hcl hcl2 e3.symm
 generalize e4:({s3 with heap:=pushCells (s3.heap.push {cls:=.type "dict",data:=.dict #[]}) scope.names}:Shared)=s4 at I4
 generalize ecl:cellsFrom (s3.heap.objs.size+1) scope.names cl=cells at I4
 obtain ⟨pg,pt,pe⟩:=hb s3.heap.objs.size s2.heap.objs.size cells fp s3 H2 pins
 generalize eX:Bn X Nc scope s3.heap.objs.size s2.heap.objs.size cells fp s3 H2 pins=Xc at I4 pg pt pe
 have xP:Xc.prog=X.prog:=by subst eX;rfl
 have xw:Xc.w=X.w:=by subst eX;rfl
 have xK:Xc.K=X.K:=by subst eX;rfl
 have xA:Xc.A=X.A:=by subst eX;rfl
 have xE:Xc.env=Jj X.env scope s3.heap.objs.size cells:=by subst eX;rfl
 have xL:Xc.env.locals=s3.heap.objs.size:=by subst eX;rfl
 have xe:Xc.xe=fun _ _=>False:=by subst eX;rfl
 have xc:Xc.calm=true:=by subst eX;exact hcalm
 have xex:Xc.ex=s2.heap.objs.size::fp:=by subst eX;rfl
 have okc:=I4.ok
 have k3:∀b o,s2.heap.get? b=some o→s3.heap.get? b=some o:=fun b o e=>by subst e3;exact AR _ e
 have FE:s3.heap.objs.size=s2.heap.objs.size+1:=by subst e3;exact B7 ..
 have k34:∀b o,s3.heap.get? b=some o→s4.heap.get? b=some o:=fun b o e=>by subst e4;exact pushCells_keeps _ _ b o (AR _ e)
 have hDC:s2.heap.objs.size≠Xc.env.locals:=by rw [xL];exact Bg (by omega)
 have hDcell:∀x c,Xc.env.cells.lookup x=some c→c≠s2.heap.objs.size:=fun x c e=>(okc.exf _ (by rw [xex];exact Ax)).2 x c e
 have hDpin:∀p∈Xc.pn,p.1≠s2.heap.objs.size:=fun p hp=>by
  have hp':p∈X.pn++pins:=by subst eX;exact hp
  exact Bg (Ap (I2.pin p hp').1)
 have hDfp:s2.heap.objs.size∉fp:=fun hm=>by
  obtain ⟨o,e⟩:=ob2 _ hm
  exact absurd (Ap e) (BO _)
 have hDex:s2.heap.objs.size∈Xc.ex:=by rw [xex];exact Ax
 have hDfs:s2.heap.objs.size∉Xc.fs:=okc.exfs _ hDex
 have fpC:∀{po:List (Addr×Obj)} {H':Hp},(∀b∈fp,H' b=none)→(∀p∈po,p.1=s2.heap.objs.size)→∀b∈fp,Cs Xc po H' b:=fun {po H'} hn hp b hb=>by
  have hbx:b∈Xc.ex:=by rw [xex];exact AA _ hb
  refine ⟨hn b hb,(okc.exf b hbx).1,okc.exfs b hbx,.inl hbx,(okc.exf b hbx).2,fun p hpp=>?_⟩
  rcases qb7.mp hpp with z |z
  ·have hp':p∈X.pn++pins:=by subst eX;exact z
   exact (f2 b hb).2.2.2.2.2 p hp'
  ·rw [hp p z]
   intro e
   exact hDfp (e ▸ hb)
 have loop:∀sx,sx=s4→codeAny (model X.prog X.w) X.A (.compLoop (.ListComp elt [⟨tg,iter,ifs,0⟩] scope pos) 0 (.ref it) (.ref s2.heap.objs.size) Xc.env)
  (compPost (model X.prog X.w) X.A X.xe use QQ (.ref s2.heap.objs.size) s3.heap.objs.size) sx:=by
  rintro sx rfl
  refine NI (Jl W Xc (AL cs σ) tn fp s2.heap.objs.size) ?_ n0
   ⟨0,[],H2,[],0,w0,I4,?_,fun b hb=>(f2 b hb).1,I2.hok.fresh (AJ _),.nil,?_⟩
  ·rintro n s5 ⟨i,acc,H5,its,k,w5,I5,CV,fr5,hD5,rv5,ho5⟩
   have pin1:Inv Xc [(s2.heap.objs.size,{cls:=.type "list",data:=.seq its.toArray k})] (AL cs σ) H5 s5:=I5.pins_of fun p hp=>by
    rw [qaD] at hp
    subst hp
    exact ⟨ho5,hD5,hDC,hDfs,fun v z=>by cases z⟩
   have pone:∀p∈[((s2.heap.objs.size:Addr),({cls:=.type "list",data:=.seq its.toArray k}:Obj))],p.1=s2.heap.objs.size:=fun p hp=>by
    rw [qaD] at hp;subst hp;rfl
   rcases turn i n acc H5 w5 with ⟨stop,hlen,qn⟩ |⟨go,hlen,step⟩
   ·have z1:=T.done Xc xP xw xK xc i _ s5 (AL cs σ) H5 (fun _ _=>False) pin1 (fpC fr5 pone) CV stop
    rw [xA] at z1
    refine wpAny_mono z1 (fun r s6 z1_=>?_) fun _ _ z=>False.elim z
    obtain ⟨hr,I6⟩:=z1_
    subst hr
    obtain ⟨m6,hn6,_⟩:=I6.loc
    obtain ⟨ho6,hD6,_⟩:=I6.pin _ (Bh _ Ax)
    rw [xL] at hn6
    have lt2:∀b,b<s2.heap.objs.size→b≠s3.heap.objs.size:=fun b hb=>Bg (AC hb (by omega))
    refine Aq s6 s3.heap.objs.size s2.heap.objs.size (Ag H5 s2.heap.objs.size (.lst acc)) m6 hn6 ?_ (Bi I2.sz (by omega)) ?_ ?_ ?_ ?_ (qn _ hD6)
    ·rw [Af (Em (by omega))]
     have:=I6.free
     rw [xL] at this
     exact this
    ·obtain ⟨m2,hn2,_⟩:=I2.loc
     exact Ne.symm (lt2 _ hn2.lt)
    ·intro x c hx
     obtain ⟨v,hv⟩:=I2.cell x c hx
     obtain ⟨o,ho,_⟩:=hv
     exact lt2 _ (Ap ho)
    ·intro p hp
     exact lt2 _ (Ap (I2.pin p hp).1)
    ·intro h' sb
     subst eX
     exact NO I2 f2 e3.symm rfl I6 hD6 hlen rv5 ho6 sb
   ·have z1:=T.item Xc xP xw xK xc i _ s5 (AL cs σ) H5 (fun _ _=>False) pin1 (fpC fr5 pone) CV go
    rw [xA] at z1
    refine wpAny_mono z1 (fun r s6 z2_=>?_) fun _ _ z=>False.elim z
    obtain ⟨u,hr,h6⟩:=z2_
    subst hr
    refine wpAny_mono h6 (fun _ s7 z3_=>?_) fun _ _ z=>False.elim z
    obtain ⟨x,H7,I7,r7,y7,EI,fr7⟩:=z3_
    have I7':=I7.pinned (fp:=fp) (fpC fr7 pone) (T.obj _ _ EI)
    have z2:=pg _ s7 (AL cs σ) H7 x u _ I7' r7 (step x H7 y7)
    rw [xP,xw,xA,xe] at z2
    refine wpAny_mono z2 (fun _ s8 z4_=>?_) fun _ _ z=>False.elim z
    obtain ⟨σ8,H8,I8,sub8,q8⟩:=z4_
    have z3:=pt _ s8 σ8 H8 _ I8 q8
    rw [xP,xw,xA,xe] at z3
    refine wpAny_mono z3 (fun ok s9 z5_=>?_) fun _ _ z=>False.elim z
    obtain ⟨H9,I9,q9⟩:=z5_
    have back:∀{sy:Shared} {Hy:Hp},Inv Xc ([(s2.heap.objs.size,{cls:=.type "list",data:=.seq its.toArray k})]++D7 fp s7.heap) σ8 Hy sy→
     Inv Xc [] (AL cs σ) Hy sy∧tn (i+1) sy.heap∧(∀b∈fp,Hy b=none)∧Hy s2.heap.objs.size=none∧sy.heap.get? s2.heap.objs.size=some {cls:=.type "list",data:=.seq its.toArray k}:=fun {sy Hy} Iy=>by
     obtain ⟨ho,hD,_⟩:=Iy.pin _ (Bh _ (Gu _ Ax))
     refine ⟨(Iy.pins_of fun p hp=>absurd hp (by simp)).weak (sub8.1) (fun j v z=>sub8.2 j v z),T.keep _ _ _ EI fun b hb o e=>(Iy.pin (b,o) (Bh _ (Bh _ (E2 hb e)))).1,fun b hb=>?_,hD,ho⟩
     obtain ⟨o,e,_⟩:=T.obj _ _ EI b hb
     exact (Iy.pin (b,o) (Bh _ (Bh _ (E2 hb e)))).2.1
    cases ok with
    |false=>
     simp only [BN,if_false] at q9 ⊢
     obtain ⟨n',hn',w'⟩:=q9
     obtain ⟨a1,a2,a3,a4,a5⟩:=back I9
     exact ⟨n',hn',i+1,acc,H9,its,k,w',a1,a2,a3,a4,rv5,a5⟩
    |true=>
     simp only [if_true] at q9 ⊢
     have z4:=pe _ s9 σ8 H9 _ I9 q9
     rw [xP,xw,xA,xe] at z4
     refine wpAny_mono z4 (fun y s10 z6_=>?_) fun _ _ z=>False.elim z
     obtain ⟨yv,H10,I10,r10,n',hn',w'⟩:=z6_
     obtain ⟨a1,a2,a3,a4,a5⟩:=back I10
     have hlen':=rv5.length
     refine wpAny_list_append_plain ⟨k,a5⟩ (fun h' ⟨k',hl'⟩ sb=>?_) (by rw [AN];omega)
     have tu:Inv Xc [] (AL cs σ) H10 {s10 with heap:=h'}:=a1.turned (t':=s10.toks) (it:=s2.heap.objs.size) (fun b o hb e=>(sb.2 b hb).trans e) a4 hDC (.inl hDex) hDcell (fun p hp=>by
      rcases qb7.mp hp with z |z
      ·exact hDpin p z
      ·exact absurd z (by simp))
     refine ⟨n',hn',i+1,acc++[yv],H10,its++[y],k',w',tu,T.keep _ _ _ a2 (fun b hb o e=>(sb.2 b (fun z=>hDfp (z ▸ hb))).trans e),a3,a4,rv5.append (.cons r10 .nil),?_⟩
     rw [hl']
     simp
  ·exact T.keep _ _ _ Ds fun b hb o e=>k34 b o (k3 b o e)
  ·refine k34 _ _ ?_
   subst e3
   exact BD _ rfl
 have Aq:=loop s4 rfl
 have hst4:tn 0 s4.heap:=T.keep _ _ _ Ds fun b hb o e=>k34 b o (k3 b o e)
 rw [xE] at Aq
 have:=codeAny_compStart_list Aq (T.self X.A 0 s4 _ _ hst4 Aq)
 exact this
theorem NQ (hcalm:X.calm=true) (S:El X scope Nc cs) (hi:PI X tg iter wi)
 (hb:∀(C D:Addr) (cells:List (Str×Addr)) (fp:List Addr) (s₀:Shared) (H₀:Hp) (pins:List (Addr×Obj)),PG (Bn X Nc scope C D cells fp s₀ H₀ pins) tg g∧Fw (Bn X Nc scope C D cells fp s₀ H₀ pins) ifs tc∧PE (Bn X Nc scope C D cells fp s₀ H₀ pins) elt te)
 (hsf:∀x,foldedSetIterable iter X.env x=pure x:=by intro _;rfl):PE X (.ListComp elt [⟨tg,iter,ifs,0⟩] scope pos) (G0 cs wi g tc te):=by
 intro pins s σ H Q I h
 rw [eval_ListComp]
 exact NP (use:=none) hcalm S hi hb hsf I h fun s6 C D H7 m6 hn _ _ _ _ _ inv q=>⟨m6,hn,fun h' sb=>⟨.ref D,H7,inv h' sb,rfl,q⟩⟩
end
def noErr {α:Type}:Out α→Out α
 |.ok a h=>.ok a h
 |_=>.stuck
@[simp] theorem Ry {α:Type} (a:α) (h:HD):noErr (.ok a h)=.ok a h:=rfl
theorem Jm {α β γ δ:Type} {K:PySem.W.Frag} {R:List Addr→Hp→α→β→Prop} {R':List Addr→Hp→γ→δ→Prop} {m:List Addr} {H:Hp} {E:XK} {Q:δ→Hp→Prop} {Q':β→Hp→Prop} {o:Out α} {k:α→HD→Out γ}
 (h:Post K R' m H E Q ((noErr o).bind k)) (f:∀a h1 v m1 H1,o=.ok a h1→m <+:m1→Kp H H1→HR K m1 h1 H1→R m1 H1 a v→Post K R' m1 H1 E Q (k a h1)→Q' v H1):Post K R m H E0 Q' o:=by
 cases o with
 |ok a h1=>exact fun v m1 H1 p kk hr r=>f a h1 v m1 H1 rfl p kk hr r (Post.ahead p kk h)
 |err C fs h1=>exact False.elim h
 |stuck=>exact False.elim h
def BW (cs:List (Option Nat)) (ρ:Ae):Ae:=cs.map fun o=>o.bind fun j=>(ρ[j]?).join
theorem join_some {α:Type} {l:List (Option α)} {j:Nat} {a:α}:(l[j]?).join=some a↔l[j]?=some (some a):=by
 cases h:l[j]? with
 |none=>simp
 |some o=>simp
theorem ER.comp {K:PySem.W.Frag} {m:List Addr} {H:Hp} {ρ:Ae} {σ:L2.St} (cs:List (Option Nat)) (er:ER K m H ρ σ):ER K m H (BW cs ρ) (AL cs σ):=by
 refine ⟨by simp [BW,AL],fun i d e=>?_⟩
 unfold BW at e
 rw [CC] at e
 cases ec:cs[i]? with
 |none=>rw [ec] at e;cases e
 |some o=>
  rw [ec] at e
  cases o with
  |none=>cases e
  |some j=>
   simp only [Dz,Option.bind_some,Option.some.injEq] at e
   obtain ⟨v,e1,r⟩:=er.2 j d (join_some.mp e)
   refine ⟨v,?_,r⟩
   unfold AL
   rw [CC,ec]
   simp only [Dz,Option.bind_some,Option.some.injEq]
   exact join_some.mpr e1
theorem Sub.set {cs:List (Option Nat)} {σ:L2.St} {σ':L2.St} {i:Nat} {v:V} (h:cs[i]?=some none) (s:Sub (AL cs σ) σ'):Sub (AL cs σ) (σ'.set i (some v)):=by
 refine ⟨by rw [s.1];simp,fun j w e=>?_⟩
 have hj:i≠j:=by
  rintro rfl
  unfold AL at e
  rw [CC,h] at e
  cases e
 rw [CB hj]
 exact s.2 j w e
theorem Sub.refl (σ:L2.St):Sub σ σ:=⟨rfl,fun _ _ h=>h⟩
def G3 (K:PySem.W.Frag) (cs:List (Option Nat)) (gg:TG) (sg:MG):Prop:=
 ∀m H d v ρ σ0 ρ' Q,DV K m H d v→ER K m H ρ (AL cs σ0)→sg d ρ=some ρ'→(∀σ',Sub (AL cs σ0) σ'→ER K m H ρ' σ'→Q σ' H)→gg v (AL cs σ0) H Q
theorem Jn {K:PySem.W.Frag} {cs:List (Option Nat)} {i:Nat} (h:cs[i]?=some none):G3 K cs (Br i) (By i):=fun m H d v ρ σ0 ρ' Q r er e q=>by
 simp only [By,Option.some.injEq] at e
 subst e
 exact q _ ((Sub.refl _).set h) (er.set r)
abbrev Jo (X:Cx) (E:XK) (ifs:List Expr) (t:MT):Prop:=Fw X ifs (Ea X.K E t)
def DM:MT:=fun _ h=>.ok true h
theorem Jp {X:Cx} {E:XK}:Jo X E [] DM:=fun pins s σ H Q I z1_=>by obtain ⟨m,ρ,h,hr,er,p⟩:=z1_;exact (NJ pins s σ H Q I (p true m H (Au _) (.refl _) hr rfl))
open Classical in
noncomputable def Bz (src:Ay) (items:List D) (sg:MG) (t:MT) (f:ME) (ρc:Ae):List D→HD→Out (List D)
 |[],h=>if Bm src items h then .ok [] h else .stuck
 |d::ds,h=>if Bm src items h then match sg d ρc with
   |none=>.stuck
   |some ρ1=>(noErr (t ρ1 h)).bind fun b h1=>if b=true then (noErr (f ρ1 h1)).bind fun y h2=>(Bz src items sg t f ρc ds h2).bind fun ys h3=>.ok (y::ys) h3 else Bz src items sg t f ρc ds h1
  else .stuck
noncomputable def A2 (cs:List (Option Nat)) (it:MI) (sg:MG) (t:MT) (f:ME):ME:=fun ρ h=>(it ρ h).bind fun x h1=>if x.1.length≤sizeLine then (Bz x.2 x.1 sg t f (BW cs ρ) x.1 h1).bind Bj else .stuck
theorem Out.bind_assoc {α β γ:Type} (o:Out α) (k:α→HD→Out β) (l:β→HD→Out γ):(o.bind k).bind l=o.bind fun a h=>(k a h).bind l:=by cases o<;>rfl
section
variable {X:Cx} {E:XK} {elt tg iter:Expr} {ifs:List Expr} {scope:Scope} {pos:Pos} {Nc:List Str} {cs:List (Option Nat)} {it:MI} {gg:TG} {sg:MG} {t:MT} {f:ME}
inductive Jq (K:PySem.W.Frag) (E:XK) (Q:VK) (src:Ay) (items:List D) (sg:MG) (t:MT) (f:ME) (ρc:Ae) (m1:List Addr) (H1:Hp) (i n:Nat) (acc:List V) (H2:Hp):Prop where
 |mk (e:n=items.length - i) (l:i≤items.length) (a:acc.length≤i) (m2:List Addr) (h2:HD) (dacc:List D) (p:m1 <+:m2) (k:Kp H1 H2) (hr:HR K m2 h2 H2) (da:DVs K m2 H2 dacc acc) (q:Post K (rD K) m2 H2 E Q ((Bz src items sg t f ρc (items.drop i) h2).bind fun ys h3=>Bj (dacc++ys) h3)):Jq K E Q src items sg t f ρc m1 H1 i n acc H2
theorem NR (hg:G3 X.K cs gg sg):∀σ H Q,tD X.K E (A2 cs it sg t f) σ H Q→G0 cs (tM X.K (GX X.K) E it) gg (Ea X.K E0 t) (tD X.K E0 f) σ H Q:=by
 refine ?_
 rintro σ H Q ⟨m,ρ,h,hr,er,p⟩
 refine ⟨m,ρ,h,hr,er,Post.bind p fun x h1 J m1 H1 _ p1 k1 hr1 r1 q1=>?_⟩
 obtain ⟨items,src⟩:=x
 dsimp only at q1
 split at q1
 ·rename_i hz
  have er1:ER X.K m1 H1 (BW cs ρ) (AL cs σ):=(er.keep p1 k1).comp cs
  refine ⟨Jq X.K E Q src items sg t f (BW cs ρ) m1 H1,
   ⟨items.length,rfl,CF _,AJ _,m1,h1,[],Au _,.refl _,hr1,.nil,by simpa using q1⟩,?_⟩
  rintro i n acc H2 ⟨rfl,hi',ha,m2,h2,dacc,p2,k2,hr2,da,q2⟩
  by_cases hlt:i<items.length
  ·rw [List.drop_eq_getElem_cons hlt] at q2
   unfold Bz at q2
   split at q2
   ·rename_i hs
    obtain ⟨hgo,hy⟩:=(r1 i m2 h2 H2 p2 k2 hr2 hs).1 hlt
    refine .inr ⟨hgo,by omega,fun y H3 hyl=>?_⟩
    obtain ⟨k3,hr3,d,ed,rd⟩:=hy y H3 hyl
    have ed':d=items[i]:=by rw [A8 hlt] at ed;exact (Option.some.inj ed).symm
    subst ed'
    split at q2
    ·exact q2.elim
    ·rename_i ρ3 es
     have er3:ER X.K m2 H3 (BW cs ρ) (AL cs σ):=er1.keep p2 (k2.trans k3)
     refine hg m2 H3 _ y (BW cs ρ) σ ρ3 _ rd er3 es fun σ4 sub4 er4=>⟨sub4,m2,ρ3,h2,hr3,er4,?_⟩
     rw [Out.bind_assoc] at q2
     refine Jm (Post.ahead (Au _) k3 q2) fun b h5 v m5 H5 _ p5 k5 hr5 r5 q5=>?_
     cases r5
     cases b with
     |false=>
      simp only [BN,if_false] at q5 ⊢
      exact ⟨items.length - (i+1),by omega,rfl,hlt,by omega,m5,h5,dacc,p2.trans p5,(k2.trans k3).trans k5,hr5,DVs.keep p5 (k3.trans k5) da,q5⟩
     |true=>
      simp only [if_true] at q5 ⊢
      rw [Out.bind_assoc] at q5
      refine ⟨m5,ρ3,h5,hr5,er4.keep p5 k5,Jm q5 fun z h6 w m6 H6 _ p6 k6 hr6 r6 q6=>?_⟩
      refine ⟨items.length - (i+1),by omega,rfl,hlt,by simp;omega,m6,h6,dacc++[z],(p2.trans p5).trans p6,((k2.trans k3).trans k5).trans k6,hr6,(DVs.keep (p5.trans p6) ((k3.trans k5).trans k6) da).app (.cons r6 .nil),?_⟩
      rw [Out.bind_assoc] at q6
      simp only [Out.bind_ok] at q6
      simpa using q6
   ·exact q2.elim
  ·have he:i=items.length:=Nat.le_antisymm hi' (D0 hlt)
   subst he
   rw [List.drop_length] at q2
   unfold Bz at q2
   split at q2
   ·rename_i hs
    simp only [Out.bind_ok,D1] at q2
    obtain ⟨z1,z2⟩:=Fi hr2 da q2
    exact .inl ⟨(r1 _ m2 h2 H2 p2 k2 hr2 hs).2 rfl,z1,z2⟩
   ·exact q2.elim
 ·exact q1.elim
theorem Jr (hcalm:X.calm=true) (S:El X scope Nc cs) (hi:Fu X E tg iter it) (hg:G3 X.K cs gg sg)
 (hb:∀(C D:Addr) (cells:List (Str×Addr)) (fp:List Addr) (s₀:Shared) (H₀:Hp) (pins:List (Addr×Obj)),PG (Bn X Nc scope C D cells fp s₀ H₀ pins) tg gg∧Jo (Bn X Nc scope C D cells fp s₀ H₀ pins) E0 ifs t∧Ev (Bn X Nc scope C D cells fp s₀ H₀ pins) E0 elt f)
 (hsf:∀x,foldedSetIterable iter X.env x=pure x:=by intro _;rfl):Ev X E (.ListComp elt [⟨tg,iter,ifs,0⟩] scope pos) (A2 cs it sg t f):=by
 exact BR (NQ (g:=gg) (tc:=Ea X.K E0 t) (te:=tD X.K E0 f) hcalm S hi hb hsf) (NR hg)
end
section
variable {X:Cx} {E:XK}
def Cy:D→HD→Option String
 |.non,_=>some "NoneType"
 |.bl _,_=>some "bool"
 |.int _,_=>some "int"
 |.str _,_=>some "str"
 |.tup _,_=>some "tuple"
 |.loc l,h=>match h[l]? with
  |some (.lst _)=>some "list"
  |_=>none
 |_,_=>none
theorem NS {m:List Addr} {H:Hp} {h:HD} {d:D} {v:V} {t:String} (hr:HR X.K m h H) (r:DV X.K m H d v) (e:Cy d h=some t):Ca X.K H v (.type t):=by
 cases d with
 |non=>simp only [Cy,Option.some.injEq,DV] at e r;subst e r;exact .non
 |bl b=>simp only [Cy,Option.some.injEq,DV] at e r;subst e r;exact .bl _
 |int i=>simp only [Cy,Option.some.injEq,DV] at e r;subst e r;exact .int _
 |str x=>simp only [Cy,Option.some.injEq,DV] at e r;subst e r;exact .str _
 |tup ds=>simp only [Cy,Option.some.injEq,DV] at e r;subst e;obtain ⟨a,vs,rfl,ha,_⟩:=r;exact .tup ha
 |loc l=>
  simp only [DV] at r
  obtain ⟨a,rfl,ha⟩:=r
  simp only [Cy] at e
  split at e
  ·rename_i ds el
   cases e
   obtain ⟨vs,hv,_⟩:=hr.cells l _ a el ha
   exact .lst hv
  ·cases e
 |_=>simp [Cy] at e
def subL:List (String×String×Bool):=[("NoneType","int",false),("bool","int",true),("int","int",true),("str","int",false),("tuple","int",false),("list","int",false),("NoneType","bool",false),("bool","bool",true),("int","bool",false),("str","bool",false),("tuple","bool",false),("list","bool",false),("NoneType","tuple",false),("bool","tuple",false),("int","tuple",false),("str","tuple",false),("tuple","tuple",true),("list","tuple",false),("NoneType","str",false),("bool","str",false),("int","str",false),("str","str",true),("tuple","str",false),("list","str",false),("NoneType","list",false),("bool","list",false),("int","list",false),("str","list",false),("tuple","list",false),("list","list",true),("dict","int",false),("dict","bool",false),("dict","tuple",false),("dict","str",false),("dict","list",false)]
def Fx (t c:String):Option Bool:=(subL.find? fun p=>p.1==t&&p.2.1==c).map fun p=>p.2.2
theorem NT {K:PySem.W.Frag}:∀p∈subL,PySem.W.kitOne K (.type p.1) (.type p.2.1)=some p.2.2:=by
 unfold subL
 simp only [List.forall_mem_cons]
 exact ⟨rfl,rfl,rfl,rfl,rfl,rfl,rfl,rfl,rfl,rfl,rfl,rfl,rfl,rfl,rfl,rfl,rfl,rfl,rfl,rfl,rfl,rfl,rfl,rfl,rfl,rfl,rfl,rfl,rfl,rfl,rfl,rfl,rfl,rfl,rfl,fun _ h=>nomatch h⟩
theorem Js {K:PySem.W.Frag} {t c:String} {b:Bool} (h:Fx t c=some b):PySem.W.kitOne K (.type t) (.type c)=some b:=by
 unfold Fx at h
 rw [qaN] at h
 obtain ⟨p,hp,rfl⟩:=h
 have e:=List.find?_some hp
 rw [BE,beq_iff_eq,beq_iff_eq] at e
 rw [←e.1,←e.2]
 exact NT p (List.mem_of_find?_eq_some hp)
def AY:D→D→HD→Out D:=fun x y h=>match y,Cy x h with
 |.ty T,some t=>match Fx t T with
  |some b=>.ok (.bl b) h
  |none=>.stuck
 |_,_=>.stuck
theorem Jt {x:Str} {T:String} {pos:Pos} (hg:Gl X x) (hm:X.mg x=none) (hv:bootBuiltins x=some (.type T)) (hn:x≠"__name__":=by decide) (hd:(x==("__debug__":Str))=false:=by decide):Ev X E (.Name x pos) (mC (.ty T)):=
 Fe (Lw (v:=.ty T) hg hm hv rfl hn hd) fun _ _=>by simp [DV]
def G4:D→Option Int
 |.int i=>some i
 |_=>none
def Ju:D→HD→Out D:=fun x h=>match Ba x h with
 |some ds=>match AG (ds.map G4) with
  |some ns=>.ok (.int ns.sum) h
  |none=>.stuck
 |none=>.stuck
def Jv:D→Option Bool
 |.bl b=>some b
 |_=>none
def Fy:D→HD→Out D:=fun x h=>match x with
 |.loc l=>match h[l]? with
  |some (.lst ds)=>match AG (ds.map Jv) with
   |some bs=>.ok (.bl (bs.all id)) h
   |none=>.stuck
  |_=>.stuck
 |_=>.stuck
def Jw:D→D→HD→Out D:=fun x y h=>match x with
 |.loc l=>match h[l]? with
  |some (.lst ds)=>if ds.length<sizeLine then .ok .non (h.set l (.lst (ds++[y]))) else .stuck
  |_=>.stuck
 |_=>.stuck
def G5:D→HD→Out D:=fun x h=>match x with
 |.loc l=>match h[l]? with
  |some (.lst _)=>.ok x h
  |_=>.stuck
 |_=>.stuck
def Jx (f g:ME):ME:=fun ρ h=>((f ρ h).bind G5).bind fun x h1=>(g ρ h1).bind fun y h2=>Jw x y h2
def DN:D→D→D→HD→Out (Fl×Ae)→Out (Fl×Ae):=fun o i v h k=>match o,i with
 |.loc l,.int n=>match h[l]? with
  |some (.lst ds)=>match Bs ds.length n with
   |some j=>match k with
    |.ok a _=>.ok a (h.set l (.lst (ds.set j v)))
    |_=>.stuck
   |none=>.stuck
  |_=>.stuck
 |_,_=>.stuck
def Fz (fo fi fv:ME):MS:=fun ρ h=>(fv ρ h).bind fun v h1=>(fo ρ h1).bind fun o h2=>(fi ρ h2).bind fun i h3=>DN o i v h3 (.ok (.nx,ρ) h3)
theorem NU {o i e:Expr} {fo fi fv:ME} {pos pos':Pos} (ho:Ev X E o fo) (hi:Ev X E i fi) (he:Ev X E e fv)
 (ha:∀v,assign (.Subscript o i pos') X.env v=(do
  let ov ←holding [v] (eval o X.env)
  let iv ←holding [v,ov] (eval i X.env)
  standAt pos'
  holding [v,ov,iv] (setItem ov iv v)
  release [v,ov,iv] []):=by intro _;rfl)
 (hs:swapsWithSole [.Subscript o i pos'] e pos.line X.env=pure false:=by rfl) (hw:swappedStores [.Subscript o i pos'] e X.env=pure none:=by rfl)
 (h1:(assignEach [.Subscript o i pos'] X.env).map (·.2)=[assign (.Subscript o i pos') X.env]:=by rfl):Ex X E (.Assign [.Subscript o i pos'] e pos) (Fz fo fi fv):=
 C6 (HY he (LV ho hi MX ha) hs hw h1) fun Dn σ H ⟨m,ρ,h,hr,er,p⟩=>⟨m,ρ,h,hr,er,PostS.bind p fun v h1 vv m1 H1 eo1 p1 k1 hr1 r1 q1=>by
  refine ⟨m1,ρ,h1,hr1,er.keep p1 k1,PostS.bind q1 fun ov h2 vo m2 H2 eo2 p2 k2 hr2 r2 q2=>?_⟩
  refine ⟨m2,ρ,h2,hr2,(er.keep p1 k1).keep p2 k2,PostS.bind q2 fun iv h3 vi m3 H3 eo3 p3 k3 hr3 r3 q3=>?_⟩
  clear eo1 eo2 eo3
  unfold DN at q3
  split at q3
  ·rename_i l n
   split at q3
   ·rename_i ds el
    split at q3
    ·rename_i j ej
     have ro:=DV.keep p3 k3 r2
     simp only [DV] at ro
     obtain ⟨a,rfl,ha⟩:=ro
     have ri:=r3
     simp only [rD,DV] at ri
     subst ri
     obtain ⟨ws,hv,dv⟩:=hr3.cells l _ a el ha
     refine ⟨a,ws,n,j,rfl,rfl,hv,by rw [←dv.len];exact ej,?_⟩
     have rvv:=DV.keep p3 k3 (DV.keep p2 k2 r1)
     have hr4:HR X.K m3 (h3.set l (.lst (ds.set j v))) (Ag H3 a (.lst (ws.set j vv))):=hr3.setCell ha hv rfl ⟨_,AU,(dv.set j rvv).keep (Au _) (.set hv rfl)⟩
     exact q3 m3 _ (Au _) (.set hv rfl) hr4 σ ((((er.keep p1 k1).keep p2 k2).keep p3 k3).keep (Au _) (.set hv rfl))
    ·exact q3.elim
   ·exact q3.elim
  ·exact q3.elim⟩
end
def A5 (n:Nat) (g:MS):List D→HD→Out D:=fun ds h=>(g (ds.map some++List.replicate (n - ds.length) none) h).bind fun x h1=>match x with
 |(.nx,_)=>.ok .non h1
 |(.rt d,_)=>.ok d h1
 |_=>.stuck
open AutoSeq1 (wpAny_loadPart')
section
variable {prog:Program} {w:World} {A:Around} {E:Value→Shared→Prop} {s:Shared}
theorem NV {it l:Addr} {i:Nat} {items:Array Value} {x:Value} {Q:Value→Shared→Prop} (hit:s.heap.IsTupleIter it l i)
 (hl:s.heap.IsTuple l items) (hx:items[i]?=some x)
 (hQ:∀h',h'.IsTupleIter it l (i+1)→Heap.SameBut it s.heap h'→Q x {s with heap:=h'}):
 wpAny (model prog w) A (Builtin.SmallTypes.nextOf (.ref it)) Q E s:=by
 obtain ⟨o,ho,hc,hd⟩:=id hit
 obtain ⟨ol,hol,_,nl,hdl⟩:=hl
 unfold Builtin.SmallTypes.nextOf
 refine wpAny_bind (wpAny_callSpecial?_slot (name:=Str.ofString "__next__") hit.typeIs F.slot_tuple_iterator_next
  (wpAny_call_entry F.slot_tuple_iterator_next hit.typeIs F.entry_tuple_iterator_next ?_ (F.args_tuple_iterator_next_1 _)))
 show wpAny _ _ (field (.ref it) 0 >>=_) _ _ s
 refine wpAny_bind (wpAny_field ho hd (x:=.ref l) rfl ?_)
 show wpAny _ _ (if (Value.ref l==Value.none)=true then _ else _) _ _ s
 rw [if_neg (show ¬((Value.ref l==Value.none)=true) from AS)]
 show wpAny _ _ (field (.ref it) 1 >>=_) _ _ s
 refine wpAny_bind (wpAny_field ho hd (x:=.int i 0) rfl ?_)
 show wpAny _ _ (seqItems? (.ref l) >>=_) _ _ s
 refine wpAny_bind (wpAny_seqItems hol hdl ?_)
 simp only [Int.toNat_natCast,hx]
 refine wpAny_bind (wpAny_setField ho hd (by simp) (wpAny_pure ⟨x,rfl,wpAny_pure (hQ _ ?_ (Heap.SameBut.update ..))⟩))
 exact ⟨_,DZ _ ho (Obj.isFreed_of_fields (Obj.data_mapFields hd _)),(Obj.cls_mapFields ..).trans hc,by
  rw [Obj.data_mapFields hd];simp [rawInt]⟩
theorem NW {it l:Addr} {i:Nat} {items:Array Value} {Q:Value→Shared→Prop} (hh:A.handled=none)
 (hit:s.heap.IsTupleIter it l i) (hl:s.heap.IsTuple l items) (hx:items[i]?=none)
 (hE:∀h' e,Heap.ExtBut it s.heap h'→(∃o,h'.get? e=some o∧o.cls=.type "StopIteration")→E (.ref e) {s with heap:=h'}):
 wpAny (model prog w) A (Builtin.SmallTypes.nextOf (.ref it)) Q E s:=by
 obtain ⟨o,ho,hc,hd⟩:=id hit
 obtain ⟨ol,hol,_,nl,hdl⟩:=hl
 unfold Builtin.SmallTypes.nextOf
 refine wpAny_bind (wpAny_callSpecial?_slot (name:=Str.ofString "__next__") hit.typeIs F.slot_tuple_iterator_next
  (wpAny_call_entry F.slot_tuple_iterator_next hit.typeIs F.entry_tuple_iterator_next ?_ (F.args_tuple_iterator_next_1 _)))
 show wpAny _ _ (field (.ref it) 0 >>=_) _ _ s
 refine wpAny_bind (wpAny_field ho hd (x:=.ref l) rfl ?_)
 show wpAny _ _ (if (Value.ref l==Value.none)=true then _ else _) _ _ s
 rw [if_neg (show ¬((Value.ref l==Value.none)=true) from AS)]
 show wpAny _ _ (field (.ref it) 1 >>=_) _ _ s
 refine wpAny_bind (wpAny_field ho hd (x:=.int i 0) rfl ?_)
 show wpAny _ _ (seqItems? (.ref l) >>=_) _ _ s
 refine wpAny_bind (wpAny_seqItems hol hdl ?_)
 simp only [Int.toNat_natCast,hx]
 refine wpAny_bind (wpAny_rule (wpAny_bind (wpAny_setField ho hd (by simp) ?_)))
 show wpAny _ _ (newExc (.type "StopIteration") [] >>=_) _ _ _
 refine wpAny_bind ?_
 simp only [newExc,newTuple]
 refine wpAny_bind (wpAny_newObj_type ?_ (by size_fits))
 refine wpAny_bind (m:=firstArgMember _ _) (wpAny_of_eq (a:=Value.none) (by first |rfl |(simp only [firstArgMember];rfl)) ?_)
 refine wpAny_newObj_type ?_ (by size_fits)
 simp only [raiseNew]
 refine wpAny_bind (wpAny_handled ?_)
 first |rw [show A.in1.handled=none from hh] |rw [hh]
 refine wpAny_bind (wpAny_pure (wpAny_throw ?_))
 exact hE _ _ (((Heap.SameBut.update ..).extBut.push _).push _) ⟨_,BD _ rfl,rfl⟩
end
theorem Jy {prog:Program} {w:World} {A:Around} (hh:A.handled=none) (it l:Addr) (hne:l≠it) (items:Array Value):
 Draws prog w A it [it,l] items.size (fun i v=>items[i]?=some v) (fun i h=>h.IsTupleIter it l i∧h.IsTuple l items) where
 live:=fun _ _ st=>let ⟨o,ho,_⟩:=st.1;⟨o,ho⟩
 frame:=fun _ _ _ st hk=>⟨st.1.at fun o e=>hk it (by simp) o e,st.2.at fun o e=>hk l (by simp) o e⟩
 item:=fun i s Q E hi st hQ=>by
  refine NV st.1 st.2 (x:=items[i]) (by simp [hi]) fun h' hit' hs'=>?_
  exact hQ _ h' s.toks (by simp [hi]) ⟨hit',st.2.extBut hs'.extBut hne⟩ hs'
 done:=fun s Q E st hE=>NW hh st.1 st.2 (by simp) hE
theorem NX (l:Addr) (items:Array Value) (n:Nat) (dct:Option Addr) (sl:Array (Option Value)):
 Meets (Builtin.«enumerate.__new__» ⟨[.type "enumerate",.ref l],[]⟩) (fun _ R s=>s.heap.get? l=some {cls:=.type "tuple",dict:=dct,data:=.seq items n,slots:=sl}∧
  R (.ok (.ret (.ref (s.heap.push {cls:=.type "tuple_iterator",data:=.fields #[.ref l,.int 0 0]}).objs.size)))
    {s with heap:=(s.heap.push {cls:=.type "tuple_iterator",data:=.fields #[.ref l,.int 0 0]}).push {cls:=.type "enumerate",data:=.fields #[.none,.bool false,.ref s.heap.objs.size,rawInt 0,.none,.none]}}):=
 .of_wp fun prog w A R s h=>by
  obtain ⟨hp,g,d,tk,os⟩:=s;obtain ⟨hl,h⟩:=h
  have hsub:=sub_enumerate
  have hL:Heap.IsTuple (Shared.heap ⟨hp,g,d,tk,os⟩) l items:=⟨_,hl,rfl,n,rfl⟩
  wp_walk using wpAny_loadPart' hl
  refine wpAny_stack_any fun st=>wpAny_pure ?_
  split
  ·rename_i c _ _ _ _ _
   cases (c==Value.type "enumerate")
   ·wp_walk using wpAny_loadPart' hl,wpAny_pyIter_tuple hL
    exact ⟨_,rfl,h⟩
   ·wp_walk using wpAny_loadPart' hl,wpAny_pyIter_tuple hL
    exact ⟨_,rfl,h⟩
  ·wp_walk using wpAny_loadPart' hl,wpAny_pyIter_tuple hL
   exact ⟨_,rfl,h⟩
section
variable {prog:Program} {w:World} {A:Around} {E:Value→Shared→Prop} {s:Shared}
theorem NY {l:Addr} {items:Array Value} {Q:Value→Shared→Prop} (hL:s.heap.IsTuple l items)
 (h:∀h',IsEnum h' (s.heap.objs.size+1) s.heap.objs.size 0 .none→h'.IsTupleIter s.heap.objs.size l 0→h'.objs.size=s.heap.objs.size+2→
  (∀b o,s.heap.get? b=some o→h'.get? b=some o)→Q (.ref (s.heap.objs.size+1)) {s with heap:=h'}):
 wpAny (model prog w) A (call (.type "enumerate") [.ref l]) Q E s:=by
 obtain ⟨⟨c,dct,dt,sl⟩,hl,hc,n,hd⟩:=hL
 replace hc:c=.type "tuple":=hc
 replace hd:dt=.seq items n:=hd
 subst hc hd
 refine callType_new F.called_enumerate (by decide) (F.typeCall_enumerate_1 _) (F.newCall_enumerate_1 _) (fun obj=>F.args_object_init_2 obj _) F.entry_enumerate_new
  (NX l items n dct sl) ⟨hl,?_⟩
 have hz:(s.heap.push {cls:=.type "tuple_iterator",data:=.fields #[.ref l,.int 0 0]}).objs.size=s.heap.objs.size+1:=B7 ..
 show _∧_
 rw [hz]
 have he:IsEnum ((s.heap.push {cls:=.type "tuple_iterator",data:=.fields #[.ref l,.int 0 0]}).push
  {cls:=.type "enumerate",data:=.fields #[.none,.bool false,.ref s.heap.objs.size,rawInt 0,.none,.none]}) (s.heap.objs.size+1) s.heap.objs.size 0 .none:=by
  have:=BD (s.heap.push {cls:=.type "tuple_iterator",data:=.fields #[.ref l,.int 0 0]})
   (o:={cls:=.type "enumerate",data:=.fields #[.none,.bool false,.ref s.heap.objs.size,rawInt 0,.none,.none]}) rfl
  rw [hz] at this;exact this
 refine ⟨⟨_,he,rfl⟩,h _ he ⟨_,AR _ (BD _ rfl),rfl,rfl⟩ (by rw [B7,hz]) fun b o x=>AR _ (AR _ x)⟩
end
def Jz (K:PySem.W.Frag) (t:Addr) (xs:List V):It:=⟨fun i H=>i<xs.length∧SqT K H t xs,fun i H x H'=>∃p v,H p=none∧x=.ref p∧xs[i]?=some v∧H'=Ag H p (.tup [.int i,v]),fun i H=>i=xs.length∧SqT K H t xs⟩
theorem NZ {P:Program} {w:World} {K:PySem.W.Frag} {elts:List Expr} {kt:Nat} {tpos:Pos} (e it t:Addr) (hei:e≠it) (hte:t≠e) (hti:t≠it) (xs:List V):
 EZ P w K (.Tuple elts kt tpos) (Jz K t xs) [e,it] e (fun i h=>(∃old,IsEnum h e it i old)∧h.IsTupleIter it t i) where
 mem:=by simp
 obj:=fun i h st b hb=>by
  obtain ⟨⟨old,h1⟩,o,h2,hc,hd⟩:=st
  rcases qa6.mp hb with z |z
  ·subst z;exact ⟨_,h1,fun v z=>by cases z⟩
  ·rw [qaD] at z
   subst z
   exact ⟨o,h2,fun v z=>by rw [hd] at z;cases z⟩
 keep:=fun i h h' st k=>by
  obtain ⟨⟨old,h1⟩,h2⟩:=st
  exact ⟨⟨old,k e (by simp) _ h1⟩,h2.at fun o z=>k it (by simp) o z⟩
 item:=by
  intro X hP hw hK hc i pins s σ H E I hf st hg
  subst hP hw hK
  obtain ⟨⟨old,he⟩,hit⟩:=st
  obtain ⟨hi,hq⟩:=hg
  obtain ⟨its,rv,p,hz⟩:=I.tuple hq
  have hT:s.heap.IsTuple t its.toArray:=p
  have hl:=rv.length
  obtain ⟨e0,e1,e2,e3,e4,e5⟩:=hf e (by simp)
  obtain ⟨i0,i1,i2,i3,i4,i5⟩:=hf it (by simp)
  have hx:xs[i]?=some xs[i]:=A8 hi
  refine wpAny_pyNext_enum_itemD (Jy (A:=X.A.in1) (I.ok.hd hc) it t hti its.toArray) he ⟨hit,hT⟩ (by rw [AN];omega) hei (by simp [hei,Ne.symm hte]) fun x h1 tk hPx ho hs1 hTup hsz hk=>?_
  obtain ⟨u,hu,ru⟩:=rv.get hx
  have hux:u=x:=by
   have:its[i]?=some x:=by simpa using hPx
   rw [hu] at this
   exact Option.some.inj this
  subst hux
  refine ⟨.ref s.heap.objs.size,rfl,wpAny_letOwnedTupleGo_enum ho fun h2 he2 sb=>?_⟩
  have hfr:H s.heap.objs.size=none:=I.hok.fresh (AJ _)
  have kk:∀b o,b∉[e,it]→s.heap.get? b=some o→h2.get? b=some o:=fun b o hb z=>by
   have n1:b≠e:=fun q=>hb (by simp [q])
   have n2:b≠it:=fun q=>hb (by simp [q])
   exact (sb.2 b n1).trans (hk b o n1 n2 z)
  have na:s.heap.objs.size≠e:=Em (Ap he)
  have hnew:h2.get? s.heap.objs.size=some {cls:=.type "tuple",data:=.seq #[.int i tk,u]}:=(sb.2 _ na).trans hTup
  have ntr:∀b w,H b=some w→b∉[e,it]:=fun b w z hb=>by
   rcases qa6.mp hb with q |q
   ·rw [q,e0] at z;cases z
   ·rw [qaD.mp q,i0] at z;cases z
  have nal:∀b o,s.heap.get? b=some o→b≠s.heap.objs.size:=fun b o z=>Bg (Ap z)
  have it2:h2.IsTupleIter it t (i+1):=by
   obtain ⟨o,q,r⟩:=hs1.1
   exact ⟨o,(sb.2 it (Ne.symm hei)).trans q,r⟩
  refine ⟨.ref s.heap.objs.size,Ag H s.heap.objs.size (.tup [.int i,xs[i]]),?_,rfl,⟨s.heap.objs.size,xs[i],hfr,rfl,hx,rfl⟩,⟨⟨u,he2⟩,it2⟩,fun b hb=>?_⟩
  ·show Inv X pins σ _ {s with heap:=h2,gens:=s.gens,drawn:=s.drawn,toks:=tk+1}
   refine I.step (g':=s.gens) (d':=s.drawn) (t':=tk+1) (h':=h2) (ch:=[e,it]) (fun b hb=>?_) (fun b o _ _ hc z _=>kk b o hc z) (fun b o _ _ hc z _=>⟨o.slots,kk b o hc z⟩) (fun b o _ z n=>by rw [Af (nal b o z)];exact n)
    (fun b o hc z=>⟨o,kk b o hc z⟩) (fun b ys z=>by rw [Af (AZ z hfr)];exact z) (fun b o u z=>by rw [Af (AZ z hfr)];exact z) (fun b ps z=>⟨#[],by rw [Af (AZ z hfr),z];simp⟩) (fun m hm=>?_) (fun b w z=>?_) I.bare
   ·rcases qa6.mp hb with q |q
    ·subst q;exact ⟨e3,e1,e4,e5⟩
    ·rw [qaD] at q;subst q;exact ⟨i3,i1,i4,i5⟩
   ·obtain ⟨o,es,ep,q,r⟩:=hm
    exact ⟨o,es,ep,kk _ o (by simp [Ne.symm e1,Ne.symm i1]) q,r⟩
   ·by_cases hb:b=s.heap.objs.size
    ·subst hb
     rw [AU] at z
     cases z
     exact ⟨by simp only [Dx,D2];rw [sizeLine_eq];decide,[.int i tk,u],.cons ⟨tk,rfl⟩ (.cons ru .nil),⟨_,hnew,rfl,0,rfl⟩,fun o e=>by rw [hnew] at e;cases e;rfl⟩
    ·rw [Af hb] at z
     refine (I.hok b w z).stay (fun c v hc q=>kk c v ?_ q) (fun c q=>by rw [Af (AZ q hfr)];exact q) fun c ys q=>by rw [Af (AZ q hfr)];exact q
     rcases hc with rfl |hc
     ·exact ntr c _ z
     ·exact ntr c _ hc
  ·have nb:b≠s.heap.objs.size:=by
    rcases qa6.mp hb with q |q
    ·rw [q];exact na.symm
    ·rw [qaD.mp q]
     obtain ⟨o,z,_⟩:=hit
     exact nal _ _ z
   rw [Af nb]
   exact (hf b hb).1
 done:=by
  intro X hP hw hK hc i pins s σ H E I hf st hg
  subst hP hw hK
  obtain ⟨⟨old,he⟩,hit⟩:=st
  obtain ⟨hi,hq⟩:=hg
  obtain ⟨its,rv,p,hz⟩:=I.tuple hq
  have hT:s.heap.IsTuple t its.toArray:=p
  have hl:=rv.length
  obtain ⟨i0,i1,i2,i3,i4,i5⟩:=hf it (by simp)
  have hin:i=its.toArray.size:=by rw [AN];omega
  refine wpAny_pyNext_enum_endD (Jy (A:=X.A.in1) (I.ok.hd hc) it t hti its.toArray) he (hin ▸ ⟨hit,hT⟩) fun h' eb=>⟨rfl,I.turned (t':=s.toks) (fun b o hb z=>eb b o hb z) i0 i1 i3 i4 i5⟩
 self:=fun A i s Q E st h=>by
  obtain ⟨⟨old,he⟩,_⟩:=st
  exact wpAny_pyIter_enum he h
section
variable {X:Cx} {E:XK}
def BX (ds:List D):List D:=ds.mapIdx fun i d=>.tup [.int (i:Nat),d]
def JA:List D→HD→Out (List D×Ay):=fun ds h=>match ds with
 |[.tup xs]=>.ok (BX xs,[]) h
 |_=>.stuck
def JB (fa:MA):MI:=fun ρ h=>(fa ρ h).bind JA
end
end LS
namespace LS
open PySem PySem.Spec PyProof.Rows L2
section
variable {prog:Program} {w:World} {A:Around} {E:Value→Shared→Prop} {s:Shared}
end
section
variable {X:Cx} {E:XK} {e:Expr} {f:ME}
def G6:D→HD→Out D:=fun x h=>match x with
 |.tup [a,b]=>.ok (.tup [b,a]) h
 |_=>.stuck
def JC (f:ME):ME:=fun ρ h=>(f ρ h).bind G6
end
structure CSc (X:Cx) (scope:Scope) (Nc:List Str) (cs:List (Option Nat)):Prop where
 kind:scope.kind=.function
 loc:(scope.names.all fun y=>y.2 != .local||scope.names.lookup y.1==some .local)=true
 free:(scope.names.all fun y=>y.2 != .free||(X.env.kindOf y.1==some .cell||X.env.kindOf y.1==some .free))=true
 nd:(scope.names.map (·.1)).Nodup
 len:cs.length=Nc.length
 out:((Nc.zip cs).all fun p=>match p.2 with
  |none=>true
  |some j=>X.N[j]?==some p.1&&scope.names.lookup p.1==some .free)=true
theorem CSc.ok {X:Cx} {scope:Scope} {Nc:List Str} {cs:List (Option Nat)} (S:CSc X scope Nc cs):El X scope Nc cs:=by
 refine ⟨S.kind,fun y hy e=>?_,fun y hy e=>?_,S.nd,S.len,fun i x j h1 h2=>?_⟩
 ·have:=qaL.mp S.loc y hy
  rw [e] at this
  simpa using this
 ·have:=qaL.mp S.free y hy
  rw [e] at this
  simpa using this
 ·have hz:(Nc.zip cs)[i]?=some (x,some j):=by
   rw [List.getElem?_zip_eq_some]
   exact ⟨h1,h2⟩
  have:=qaL.mp S.out (x,some j) (Du hz)
  simpa using this
structure Dn (K:PySem.W.Frag) (mg:Str→Option Value) (x:Str) (ps:List Str) (st:Stmt) (f:Addr) (fd:FuncData):Prop where
 fn:Fun K x x st f fd
 bd:Binds K fd ps []
 mg:mg x=some (.ref f)
section
variable {X:Cx} {E:XK}
def JD (f:ME):ME:=fun ρ h=>(f ρ h).bind fun x h1=>match x with
    |.int i=>.ok (.int (-i)) h1
    |_=>.stuck
theorem JE {i j:Nat} {x y:Str} {px py tp:Pos} {kt:Nat} (hc:X.calm=true) (h1:PG X (.Name x px) (Br i)) (h2:PG X (.Name y py) (Br j)):PG X (.Tuple [.Name x px,.Name y py] kt tp) (D6 X.K 2 (B9 (Br i) (B9 (Br j) DA))):=
 LR hc (HW h1 (HW h2 LQ))
end
def CMl (i j:Int):Prop:=CMul i j∨(Builtin.Int.intBits i≤16777216∧Builtin.Int.intBits j≤16777216)
instance (i j:Int):Decidable (CMl i j):=by unfold CMl;infer_instance
theorem CMl.ok {i j:Int} (h:CMl i j):IntMulOk i j:=by
 rcases h with h |⟨h1,h2⟩
 ·exact h.ok
 ·unfold IntMulOk
  intro z
  simp only [BE,decide_eq_true_eq] at z
  have:=z.2
  unfold Builtin.Int.intTooBig at this
  simp only [decide_eq_true_eq] at this
  have hb:(bitsLine:Int)=134217728:=by first |rfl |decide
  omega
variable {X:Cx}
theorem op_mul':OpR X (binaryOp .Mult) (rI CMl fun i j=>.int (i*j)):=E4 fun _ _ _ _ _ _ _ hc q=>mul_int q hc.ok
def BY:D→D→HD→Out D
 |.int i,.int j,h=>if CMl i j then .ok (.int (i*j)) h else .stuck
 |.loc l,.int k,h=>match h[l]? with
  |some (.lst xs)=>if -(2^63)≤k∧k<2^63 then Bj (List.replicate k.toNat xs).flatten h else .stuck
  |_=>.stuck
 |_,_,_=>.stuck
theorem N0:A7 X (binaryOp .Mult) BY:=by
 refine ⟨_,op_mul'.or M6,fun m H h E x y v u Q hr rx ry q=>?_⟩
 unfold BY at q
 split at q
 ·simp only [DV] at rx ry
  subst rx ry
  split at q
  ·rename_i hc
   exact .inl ⟨_,_,rfl,rfl,hc,AO hr q (by simp [DV])⟩
  ·exact q.elim
 ·simp only [DV] at rx ry
  obtain ⟨a,rfl,ha⟩:=rx
  subst ry
  split at q
  ·rename_i k _ xs e
   split at q
   ·rename_i hk
    obtain ⟨vs,h1,d1⟩:=hr.cells _ _ a e ha
    obtain ⟨z,q'⟩:=Fi hr (d1.rep k.toNat) q
    refine .inr ⟨a,k,vs,rfl,rfl,h1,hk.1,hk.2,?_,q'⟩
    rw [Fb] at z
    rw [Nat.mul_comm];exact z
   ·exact q.elim
  ·exact q.elim
 ·exact q.elim
end LS
namespace Att
open PySem PySem.W PySem.Calls PyProof.Rows
theorem N1 {ns:List Int} (h:WData.layable (.list (ns.map WData.int))=true):∀n∈ns,Builtin.Int.intBits n≤2^20:=by
 have hw:WData.weight (.list (ns.map WData.int))≤2^20:=(layableW_iff.mp h).2.2
 have key:∀(ns:List Int) (b:Nat),WData.weightAll (ns.map WData.int)≤b→∀n∈ns,Builtin.Int.intBits n≤b:=by
  intro ns
  induction ns with
  |nil=>intro b _ n hn;cases hn
  |cons m r ih=>
   intro b hb n hn
   have e:WData.weightAll ((m::r).map WData.int)=Builtin.Int.intBits m+1+WData.weightAll (r.map WData.int):=by
    simp only [BF,WData.weightAll,WData.weight]
    rfl
   rw [e] at hb
   rcases qa6.mp hn with z |z
   ·subst z;omega
   ·exact ih b (by omega) n z
 exact key ns _ (by simpa only [WData.weight] using hw)
theorem attach_bits {l:OpenLaw} {n:Nat} {q:Program} {loose:List Str} {XP:(Str→Option Value)→Heap→Prop} {YP:World→Heap→Prop} {d:DefRec}
 (hn:l.most=some n) (hdf:d.params.defaults=[])
 (call:∀(w:World) (s₀ s₁:Shared) (mg mb:Str→Option Value) (fa:Addr) (o:Obj) (pm cd doc:Value) (a:Addr) (vs:List Value) (ns:List Int),(∀n∈ns,Builtin.Int.intBits n≤2^20)→
  Ground q loose [] XP w s₀ mg mb s₁.heap→YP w s₁.heap→
  s₁.heap.get? fa=some o→o.data=.func (docDef d.name d.params d.body d.scope pm cd doc)→s₁.heap.CodeRec cd d.name→mg d.name=some (.ref fa)→
  s₁.heap.get? a=some {cls:=.type "list",data:=.seq vs.toArray}→IntsAre vs ns→ns.length≤n→s₁.gens=#[]→
  codeAny (model l.prog w) callerA (.call (.ref fa) ⟨[.ref a],[]⟩) (fun r s'=>r=.ok (.ret (.bool true))∧OldK s₁.heap s'.heap∧s'.os=s₁.os∧AllBare s'.gens) s₁):
 WalkO q loose XP YP l.row.toRowW d [] (fun f vs=>PySem.call f vs):=by
 intro w s₀ s₁ mg mb G Y fa o pm cd doc dV kV ho hd hcd hD hmg hg args vals as hpre hlay hrd hwl hlo
 obtain rfl:dV=.none:=Dflts.none hD hdf
 obtain rfl:kV=.none:=Dflts.noKw hD
 obtain ⟨a,vs,ns,rfl,rfl,hobj,hints,hlen⟩:=M8 hn hpre hwl
 have hb:=N1 (layableW_arg hlay _ Ax)
 refine enter_call (codeAny_mono (call w s₀ s₁ mg mb fa o pm cd doc a vs ns hb G Y ho (fd_plain hd) hcd hmg hobj hints hlen hg) fun r s' hq=>?_)
 obtain ⟨rfl,h2,h3,h4⟩:=hq
 exact ⟨.inl ⟨.bool true,.bool true,[],rfl,fun _=>rfl,.bool true,M9 l _,fun _=>⟨List.Pairwise.nil,fun _ hm=>(nomatch hm)⟩⟩,h2,h3,h4⟩
end Att
namespace LS
open PySem PySem.Spec PyProof.Rows L2
def Wp {α:Type} (o:Out α) (Q:α→HD→Prop):Prop:=match o with
 |.ok a h=>Q a h
 |_=>False
section
variable {α β:Type} {o:Out α} {Q Q':α→HD→Prop}
@[simp] theorem N2 (a:α) (h:HD):Wp (.ok a h) Q=Q a h:=rfl
@[simp] theorem Rz:Wp .stuck Q=False:=rfl
theorem Bd {o':Out α} (e:o=o') (h:Wp o' Q):Wp o Q:=e ▸ h
theorem Al {k:α→HD→Out β} {Q:β→HD→Prop}:Wp (o.bind k) Q=Wp o fun a h=>Wp (k a h) Q:=by cases o<;>rfl
theorem Wp.mono (h:Wp o Q) (f:∀a h,Q a h→Q' a h):Wp o Q':=by
 cases o with
 |ok a h'=>exact f _ _ h
 |_=>exact h.elim
theorem Wp.ex (h:Wp o Q):∃a h',o=.ok a h'∧Q a h':=by
 cases o with
 |ok a h'=>exact ⟨a,h',rfl,h⟩
 |_=>exact h.elim
end
def Sm (h h':HD):Prop:=∀(l:Nat) (c:BH),h[l]?=some c→h'[l]?=some c
theorem Sm.refl (h:HD):Sm h h:=fun _ _ e=>e
theorem Sm.trans {h h1 h2:HD} (a:Sm h h1) (b:Sm h1 h2):Sm h h2:=fun l c e=>b l c (a l c e)
theorem Sm.app (h t:HD):Sm h (h++t):=fun l c e=>by
 rw [CW (qa7.mp e).1];exact e
def Pu {α:Type} (o:Out α) (h:HD) (a:α):Prop:=Wp o fun x h'=>x=a∧Sm h h'
section
variable {α β:Type} {o:Out α} {h:HD} {a:α}
theorem Pu.wp {Q:α→HD→Prop} (p:Pu o h a) (k:∀h',Sm h h'→Q a h'):Wp o Q:=Wp.mono p fun x h' z1_=>by obtain ⟨e,s⟩:=z1_;subst e;exact k h' s
theorem Pu.ok:Pu (.ok a h) h a:=⟨rfl,.refl _⟩
theorem Pu.bind {k:α→HD→Out β} {b:β} (p:Pu o h a) (q:∀h',Sm h h'→Pu (k a h') h' b):Pu (o.bind k) h b:=by
 unfold Pu
 rw [Al]
 exact p.wp fun h' s=>Wp.mono (q h' s) fun x h2 z2_=>by obtain ⟨e,s2⟩:=z2_;exact (⟨e,s.trans s2⟩)
theorem Pu.noErr (p:Pu o h a):Pu (noErr o) h a:=by
 obtain ⟨x,h',e,q⟩:=Wp.ex p
 rw [e];exact q
end
def JF (i j:Nat) (ρ:Ae) (ds:List D) (h:HD):Out (Fl×Ae):=match ds with
 |[x,y]=>.ok (.nx,(ρ.set i (some x)).set j (some y)) h
 |_=>.stuck
def JG (o:Option Ae) (h:HD):Out (Fl×Ae):=match o with
 |some ρ1=>.ok (.nx,ρ1) h
 |none=>.stuck
def FA (g:HD→Out D) (x:D) (h:HD):Out D:=match x with
 |.bl true=>g h
 |.bl false=>.ok (.bl false) h
 |_=>.stuck
def G7 (g:HD→Out D) (x:D) (h:HD):Out D:=match x with
 |.bl true=>.ok (.bl true) h
 |.bl false=>g h
 |_=>.stuck
def JH (x:D) (h:HD):Out D:=match x with
 |.bl b=>.ok (.bl (!b)) h
 |_=>.stuck
def JI (x:D) (h:HD):Out D:=match x with
 |.int i=>.ok (.int (-i)) h
 |_=>.stuck
@[simp] theorem RA {i j:Nat} {ρ:Ae} {x y:D} {h:HD} {Q:Fl×Ae→HD→Prop}:Wp (JF i j ρ [x,y] h) Q=Q (.nx,(ρ.set i (some x)).set j (some y)) h:=rfl
@[simp] theorem RB {ρ:Ae} {h:HD} {Q:Fl×Ae→HD→Prop}:Wp (JG (some ρ) h) Q=Q (.nx,ρ) h:=rfl
@[simp] theorem RC {g:HD→Out D} {h:HD}:FA g (.bl true) h=g h:=rfl
@[simp] theorem RD {g:HD→Out D} {h:HD}:FA g (.bl false) h=.ok (.bl false) h:=rfl
@[simp] theorem RE {g:HD→Out D} {h:HD}:G7 g (.bl true) h=.ok (.bl true) h:=rfl
@[simp] theorem RF {g:HD→Out D} {h:HD}:G7 g (.bl false) h=g h:=rfl
@[simp] theorem RG {b:Bool} {h:HD}:JH (.bl b) h=.ok (.bl (!b)) h:=rfl
@[simp] theorem RH {i:Int} {h:HD}:JI (.int i) h=.ok (.int (-i)) h:=rfl
def G8 (g:MS) (Q:Fl×Ae→HD→Prop):Fl×Ae→HD→Prop
 |(.nx,ρ),h=>Wp (g ρ h) Q
 |y,h=>Q y h
def G9 (Q:D→HD→Prop):Fl×Ae→HD→Prop
 |(.nx,_),h=>Q .non h
 |(.rt d,_),h=>Q d h
 |_,_=>False
section
variable {ρ:Ae} {h:HD} {Q:Fl×Ae→HD→Prop} {QB:D→HD→Prop} {g g1 g2:MS} {f:ME} {t:MT}
@[simp] theorem A3:G8 g Q (.nx,ρ) h=Wp (g ρ h) Q:=rfl
@[simp] theorem RI {d:D}:G8 g Q (.rt d,ρ) h=Q (.rt d,ρ) h:=rfl
@[simp] theorem RJ:G9 QB (.nx,ρ) h=QB .non h:=rfl
@[simp] theorem RK {d:D}:G9 QB (.rt d,ρ) h=QB d h:=rfl
@[simp] theorem BZ:Wp (Ao g1 g2 ρ h) Q=Wp (g1 ρ h) (G8 g2 Q):=by
  unfold Ao
  rw [Al]
  congr 1
  funext x h'
  obtain ⟨fl,ρ1⟩:=x
  cases fl<;>rfl
theorem CL {n:Nat} {ds:List D}:Wp (A5 n g ds h) QB=Wp (g (ds.map some++List.replicate (n - ds.length) none) h) (G9 QB):=by
 unfold A5
 rw [Al]
 congr 1
 funext x h'
 obtain ⟨fl,ρ1⟩:=x
 cases fl<;>rfl
@[simp] theorem RL:Wp (Bw ρ h) Q=Q (.nx,ρ) h:=rfl
@[simp] theorem RM:Wp (Fq f ρ h) Q=Wp (f ρ h) fun _ h1=>Q (.nx,ρ) h1:=by unfold Fq;rw [Al];rfl
@[simp] theorem RN:Wp (AV f ρ h) Q=Wp (f ρ h) fun d h1=>Q (.rt d,ρ) h1:=by unfold AV;rw [Al];rfl
@[simp] theorem N3 {i:Nat}:Wp (AE i f ρ h) Q=Wp (f ρ h) fun d h1=>Q (.nx,ρ.set i (some d)) h1:=by unfold AE;rw [Al];rfl
@[simp] theorem RO:Wp (Bk t g1 g2 ρ h) Q=Wp (t ρ h) fun b h1=>Wp (if b=true then g1 ρ h1 else g2 ρ h1) Q:=by unfold Bk;rw [Al]
@[simp] theorem RP {i j:Nat} {fa:MA}:Wp (DJ i j fa ρ h) Q=Wp (fa ρ h) fun ds h1=>Wp (JF i j ρ ds h1) Q:=by unfold DJ;rw [Al];rfl
@[simp] theorem RQ {sg:MG}:Wp (Ft sg f ρ h) Q=Wp (f ρ h) fun d h1=>Wp (JG (sg d ρ) h1) Q:=by unfold Ft;rw [Al];rfl
@[simp] theorem RR {fo fi fv:ME}:Wp (Fz fo fi fv ρ h) Q=Wp (fv ρ h) fun v h1=>Wp (fo ρ h1) fun o h2=>Wp (fi ρ h2) fun i h3=>Wp (DN o i v h3 (.ok (.nx,ρ) h3)) Q:=by
  unfold Fz;simp only [Al]
end
section
variable {ρ:Ae} {h:HD} {Q:D→HD→Prop} {QB:Bool→HD→Prop} {QA:List D→HD→Prop} {f g k:ME} {t u:MT} {fa:MA} {op op':D→D→HD→Out D} {F:List D→HD→Out D}
@[simp] theorem JJ {d:D} {r:Ae}:Wp (Ab 0 (some d::r) h) Q=Q d h:=rfl
@[simp] theorem JK {i:Nat} {x:Option D} {r:Ae}:Wp (Ab (i+1) (x::r) h) Q=Wp (Ab i r h) Q:=rfl
@[simp] theorem JL {d:D}:Wp (mC d ρ h) Q=Q d h:=rfl
@[simp] theorem N4:Wp (Ak op f g ρ h) Q=Wp (f ρ h) fun x h1=>Wp (g ρ h1) fun y h2=>Wp (op x y h2) Q:=by unfold Ak;simp only [Al]
@[simp] theorem RS:Wp (Ai F fa ρ h) Q=Wp (fa ρ h) fun ds h1=>Wp (F ds h1) Q:=by unfold Ai;rw [Al]
@[simp] theorem JM:Wp (Ac ρ h) QA=QA [] h:=rfl
@[simp] theorem JN:Wp (Aa f fa ρ h) QA=Wp (f ρ h) fun x h1=>Wp (fa ρ h1) fun xs h2=>QA (x::xs) h2:=by unfold Aa;simp only [Al];rfl
@[simp] theorem RT:Wp (Fh fa ρ h) Q=Wp (fa ρ h) fun xs h1=>Wp (if xs.length≤sizeLine then .ok (.tup xs) h1 else .stuck) Q:=by unfold Fh;simp only [Al]
@[simp] theorem RU:Wp (A9 fa ρ h) Q=Wp (fa ρ h) fun xs h1=>Wp (Bj xs h1) Q:=by unfold A9;simp only [Al]
@[simp] theorem RV:Wp (Bu f ρ h) QB=Wp (f ρ h) fun x h1=>Wp (Ec x h1) QB:=by unfold Bu;rw [Al]
@[simp] theorem RW:Wp (BS f ρ h) QB=Wp (f ρ h) fun x h1=>Wp (Ce x h1) QB:=by unfold BS;rw [Al]
@[simp] theorem RX:Wp (BU t ρ h) QB=Wp (t ρ h) fun b h1=>QB (!b) h1:=by unfold BU;rw [Al];rfl
@[simp] theorem RY:Wp (Ff t u ρ h) QB=Wp (t ρ h) fun b h1=>Wp (if b=true then u ρ h1 else .ok false h1) QB:=by unfold Ff;rw [Al]
@[simp] theorem RZ:Wp (Cv t u ρ h) QB=Wp (t ρ h) fun b h1=>Wp (if b=true then .ok true h1 else u ρ h1) QB:=by unfold Cv;rw [Al]
@[simp] theorem R0:Wp (IJ f g ρ h) Q=Wp (f ρ h) fun x h1=>Wp (FA (g ρ) x h1) Q:=by unfold IJ;rw [Al];rfl
@[simp] theorem R1:Wp (IK f g ρ h) Q=Wp (f ρ h) fun x h1=>Wp (G7 (g ρ) x h1) Q:=by unfold IK;rw [Al];rfl
@[simp] theorem R3:Wp (IP f ρ h) Q=Wp (f ρ h) fun x h1=>Wp (JH x h1) Q:=by unfold IP;rw [Al];rfl
@[simp] theorem R4:Wp (JD f ρ h) Q=Wp (f ρ h) fun x h1=>Wp (JI x h1) Q:=by unfold JD;rw [Al];rfl
@[simp] theorem R5:Wp (IQ t f g ρ h) Q=Wp (t ρ h) fun b h1=>Wp (if b=true then f ρ h1 else g ρ h1) Q:=by unfold IQ;rw [Al]
@[simp] theorem R6:Wp (IR op op' f g k ρ h) Q=Wp (f ρ h) fun x h1=>Wp (g ρ h1) fun y h2=>Wp (op x y h2) fun z h3=>Wp (FA (fun h=>(k ρ h).bind fun w h4=>op' y w h4) z h3) Q:=by unfold IR;simp only [Al];rfl
@[simp] theorem R7:Wp (JC f ρ h) Q=Wp (f ρ h) fun x h1=>Wp (G6 x h1) Q:=by unfold JC;rw [Al]
@[simp] theorem R8:Wp (Jx f g ρ h) Q=Wp (f ρ h) fun x h1=>Wp (G5 x h1) fun x h1=>Wp (g ρ h1) fun y h2=>Wp (Jw x y h2) Q:=by unfold Jx;simp only [Al]
@[simp] theorem R9:Wp (DM ρ h) QB=QB true h:=rfl
theorem Bo {xs:List D} (hn:xs.length≤sizeLine) (q:∀l h',Sm h h'→h'[l]?=some (.lst xs)→l=h.length→h'=h++[.lst xs]→Q (.loc l) h'):Wp (Bj xs h) Q:=by
 unfold Bj
 rw [if_pos hn]
 exact q h.length _ (.app _ _) (by simp) rfl rfl
end
section
variable {ρ:Ae} {h:HD} {QI:(List D×Ay)→HD→Prop} {f:ME} {fa:MA}
@[simp] theorem Sa:Wp (Je f ρ h) QI=Wp (f ρ h) fun d h1=>Wp (GY d h1) QI:=by unfold Je;rw [Al]
@[simp] theorem N5:Wp (BV fa ρ h) QI=Wp (fa ρ h) fun d h1=>Wp (DL d h1) QI:=by unfold BV;rw [Al]
@[simp] theorem Sb:Wp (Jg fa ρ h) QI=Wp (fa ρ h) fun d h1=>Wp (Jf d h1) QI:=by unfold Jg;rw [Al]
@[simp] theorem Sd:Wp (JB fa ρ h) QI=Wp (fa ρ h) fun d h1=>Wp (JA d h1) QI:=by unfold JB;rw [Al]
theorem FC {n:Nat} (hn:n≤1000):DL [.int (n:Int)] h=.ok ((List.range n).map fun k=>D.int ((k:Nat):Int),[]) h:=by
 have:(-(2^62):Int)≤(n:Int)∧(n:Int)<2^62:=by omega
 unfold DL
 simp only
 rw [if_pos this]
 simp [Dd]
end
theorem JO {α:Type} {src:Ay} {items:List D} {sg:MG} {t:MT} {f:ME} {ρc:Ae} (φ:α→D) (g:α→Bool) (e:α→D) (ρ1:α→Ae):
 ∀(xs:List α) (h:HD),(∀h',Sm h h'→Bm src items h')→(∀x∈xs,sg (φ x) ρc=some (ρ1 x))→(∀x∈xs,∀h',Sm h h'→Pu (t (ρ1 x) h') h' (g x))→(∀x∈xs,g x=true→∀h',Sm h h'→Pu (f (ρ1 x) h') h' (e x))→
  Pu (Bz src items sg t f ρc (xs.map φ) h) h ((xs.filter g).map e)
 |[],h,hs,_,_,_=>by
  simp only [List.map_nil,List.filter_nil,Bz]
  rw [if_pos (hs h (.refl _))]
  exact .ok
 |x::xs,h,hs,hg,ht,hf=>by
  simp only [BF,Bz]
  rw [if_pos (hs h (.refl _)),hg x Ax]
  simp only
  refine Pu.bind (ht x Ax h (.refl _)).noErr fun h1 s1=>?_
  have ih:∀h2,Sm h h2→Pu (Bz src items sg t f ρc (xs.map φ) h2) h2 ((xs.filter g).map e):=fun h2 s2=>JO φ g e ρ1 xs h2 (fun h' s'=>hs h' (s2.trans s'))
   (fun y hy=>hg y (AA _ hy)) (fun y hy h' s'=>ht y (AA _ hy) h' (s2.trans s')) (fun y hy gy h' s'=>hf y (AA _ hy) gy h' (s2.trans s'))
  cases hgx:g x with
  |false=>
   rw [if_neg AS,List.filter_cons_of_neg (by simp [hgx])]
   exact ih h1 s1
  |true=>
   rw [if_pos rfl,List.filter_cons_of_pos hgx]
   refine Pu.bind (hf x Ax hgx h1 s1).noErr fun h2 s2=>?_
   exact Pu.bind (ih h2 (s1.trans s2)) fun h3 _=>.ok
theorem N6 {α:Type} {xs:List α}:xs.filter (fun _=>true)=xs:=List.filter_eq_self.mpr fun _ _=>rfl
section
variable {α:Type} {cs:List (Option Nat)} {it:MI} {sg:MG} {t:MT} {f:ME} {ρ:Ae} {h:HD} {src:Ay} {xs:List α} {φ:α→D}
theorem N7 {Q:D→HD→Prop} (g:α→Bool) (e:α→D) (ρ1:α→Ae) (hi:Wp (it ρ h) fun x h'=>x=(xs.map φ,src)∧Sm h h'∧∀h2,Sm h' h2→Bm src (xs.map φ) h2) (hn:xs.length≤sizeLine)
 (hg:∀x∈xs,sg (φ x) (BW cs ρ)=some (ρ1 x)) (ht:∀x∈xs,∀h',Sm h h'→Pu (t (ρ1 x) h') h' (g x)) (hf:∀x∈xs,g x=true→∀h',Sm h h'→Pu (f (ρ1 x) h') h' (e x))
 (q:∀l h',Sm h h'→h'[l]?=some (.lst ((xs.filter g).map e))→Q (.loc l) h'):Wp (A2 cs it sg t f ρ h) Q:=by
 unfold A2
 rw [Al]
 refine Wp.mono hi fun x h1 z4_=>?_
 obtain ⟨ex,s1,hs⟩:=z4_
 subst ex
 rw [if_pos (by simpa using hn),Al]
 refine (JO φ g e ρ1 xs h1 hs hg (fun x hx h' s'=>ht x hx h' (s1.trans s')) (fun x hx gx h' s'=>hf x hx gx h' (s1.trans s'))).wp fun h2 s2=>?_
 refine Bo ?_ fun l h3 s3 e3 _ _=>q l h3 ((s1.trans s2).trans s3) e3
 rw [Dy]
 exact Bi (Gr _ _) hn
theorem JP {β γ:Type} {f:β→Option γ} {g:β→γ}:∀{xs:List β},(∀x∈xs,f x=some (g x))→AG (xs.map f)=some (xs.map g)
 |[],_=>rfl
 |x::xs,hf=>by
  simp only [BF,hf x Ax,AG,JP (fun y hy=>hf y (AA _ hy)),Dz]
end
def DO (I:Ae→HD→Prop) (Q:Fl×Ae→HD→Prop):Fl×Ae→HD→Prop
 |(.nx,ρ),h=>I ρ h
 |(.ct,ρ),h=>I ρ h
 |(.bk,ρ),h=>Q (.nx,ρ) h
 |(.rt d,ρ),h=>Q (.rt d,ρ) h
theorem Ha {α:Type} {src:Ay} {items:List D} {sg:MG} {body:MS} {Q:Fl×Ae→HD→Prop} (φ:α→D) (I:List α→Ae→HD→Prop) (ho:∀xs ρ h,I xs ρ h→Bm src items h)
 (step:∀x xs ρ h,I (x::xs) ρ h→∃ρ1,sg (φ x) ρ=some ρ1∧Wp (body ρ1 h) (DO (I xs) Q)) (done:∀ρ h,I [] ρ h→Q (.nx,ρ) h):∀(xs:List α) (ρ:Ae) (h:HD),I xs ρ h→Wp (Cj src items sg body (xs.map φ) ρ h) Q
 |[],ρ,h,i=>by
  simp only [List.map_nil,Cj]
  rw [if_pos (ho _ _ _ i)]
  exact done ρ h i
 |x::xs,ρ,h,i=>by
  simp only [BF,Cj]
  rw [if_pos (ho _ _ _ i)]
  obtain ⟨ρ1,e,w⟩:=step x xs ρ h i
  rw [e]
  simp only
  rw [Al]
  refine Wp.mono w fun y h' k=>?_
  obtain ⟨fl,ρ2⟩:=y
  cases fl with
  |nx=>exact Ha φ I ho step done xs ρ2 h' k
  |ct=>exact Ha φ I ho step done xs ρ2 h' k
  |bk=>exact k
  |rt d=>exact k
theorem FD {α:Type} {src:Ay} {it:MI} {sg:MG} {body:MS} {Q:Fl×Ae→HD→Prop} {ρ:Ae} {h:HD} {xs:List α} (φ:α→D) (I:List α→Ae→HD→Prop) (hi:Wp (it ρ h) fun x h'=>x=(xs.map φ,src)∧I xs ρ h') (ho:∀ys ρ h,I ys ρ h→Bm src (xs.map φ) h)
 (step:∀x xs ρ h,I (x::xs) ρ h→∃ρ1,sg (φ x) ρ=some ρ1∧Wp (body ρ1 h) (DO (I xs) Q)) (done:∀ρ h,I [] ρ h→Q (.nx,ρ) h):Wp (Cw it sg body ρ h) Q:=by
 unfold Cw
 rw [Al]
 refine Wp.mono hi fun x h1 z5_=>?_
 obtain ⟨e,i⟩:=z5_
 subst e
 exact Ha φ I ho step done xs ρ h1 i
def Py (d:D) (p:PyData):Prop:=Av [] 8 d=some p∧SeqAt.shaped p=true
@[simp] theorem Se:(0≤sizeLine)=True:=eq_true (CF _)
@[simp] theorem Sf:(1≤sizeLine)=True:=eq_true (by unfold sizeLine;omega)
@[simp] theorem Sg:(2≤sizeLine)=True:=eq_true (by unfold sizeLine;omega)
@[simp] theorem FE:(3≤sizeLine)=True:=eq_true (by unfold sizeLine;omega)
@[simp] theorem Sh:(4≤sizeLine)=True:=eq_true (by unfold sizeLine;omega)
@[simp] theorem Si:(5≤sizeLine)=True:=eq_true (by unfold sizeLine;omega)
section
variable {h:HD} {a b c:D} {ds es:List D} {i j:Int} {F1:D→HD→Out D} {F2:D→D→HD→Out D} {F3:D→D→D→HD→Out D}
@[simp] theorem Sj:AF F1 [a] h=F1 a h:=rfl
@[simp] theorem Sk:AB F2 [a,b] h=F2 a b h:=rfl
@[simp] theorem Sl:Ni F3 [a,b,c] h=F3 a b c h:=rfl
@[simp] theorem Sn {b:Bool}:Ec (.bl b) h=.ok b h:=rfl
@[simp] theorem So {b:Bool}:Ce (.bl b) h=.ok b h:=rfl
@[simp] theorem Sq:Ce .non h=.ok false h:=rfl
@[simp] theorem Sr:Ce (.int i) h=.ok (i != 0) h:=rfl
@[simp] theorem Ss:Ce (.tup ds) h=.ok (!ds.isEmpty) h:=rfl
@[simp] theorem Su:AY (.int i) (.ty "int") h=.ok (.bl true) h:=rfl
@[simp] theorem Sv:AY (.int i) (.ty "bool") h=.ok (.bl false) h:=rfl
@[simp] theorem Sw:AY (.int i) (.ty "tuple") h=.ok (.bl false) h:=rfl
@[simp] theorem Sx:AY (.tup ds) (.ty "tuple") h=.ok (.bl true) h:=rfl
@[simp] theorem Sy:AY (.tup ds) (.ty "int") h=.ok (.bl false) h:=rfl
@[simp] theorem Sz:AX (.int i) (.int j) h=.ok (.int (i+j)) h:=rfl
@[simp] theorem SA {f:Int→Int→D}:CJ f (.int i) (.int j) h=.ok (f i j) h:=rfl
@[simp] theorem SB {b c:Bool}:Nl (.bl b) (.bl c) h=.ok (.bl (b==c)) h:=rfl
@[simp] theorem SC {b c:Bool}:Nm (.bl b) (.bl c) h=.ok (.bl (!(b==c))) h:=rfl
@[simp] theorem SD:CK (.tup ds) h=.ok (.int ds.length) h:=rfl
@[simp] theorem SE {ns:List Int}:CK (.scr ns) h=.ok (.int ns.length) h:=by simp [CK,Ba]
@[simp] theorem SG:GY (.tup ds) h=.ok (ds,[]) h:=rfl
@[simp] theorem SH:Ei (.tup ds) h=.ok (.tup ds) h:=rfl
@[simp] theorem SI:G6 (.tup [a,b]) h=.ok (.tup [b,a]) h:=rfl
@[simp] theorem SJ:Eg (.int i) (.int j) h=.ok (.int (if j>i then j else i)) h:=rfl
@[simp] theorem SK:Eh (.int i) (.int j) h=.ok (.int (if j<i then j else i)) h:=rfl
@[simp] theorem SL {b:Bool}:Ja (.bl b) h=.ok (.int (if b then 1 else 0)) h:=rfl
@[simp] theorem SM:Ja (.int i) h=.ok (.int i) h:=rfl
@[simp] theorem SO {ρ:Ae} {k:Nat}:By k a ρ=some (ρ.set k (some a)):=rfl
@[simp] theorem SQ {ρ:Ae} {k l:Nat}:DK k l (.tup [a,b]) ρ=some ((ρ.set k (some a)).set l (some b)):=rfl
@[simp] theorem SS {b c:Bool}:Ee (.bl b) (.bl c) h=.ok (.bl (b==c)) h:=rfl
@[simp] theorem SU {b c:Bool}:Cg (.bl b) (.bl c) h=.ok (.bl (!(b==c))) h:=rfl
@[simp] theorem SV:Ee (.int i) (.int j) h=.ok (.bl (i==j)) h:=rfl
@[simp] theorem SW:Cg (.int i) (.int j) h=.ok (.bl (!(i==j))) h:=rfl
theorem ix_tup {k:Nat} (e:ds[k]?=some a):Bb (.tup ds) (.int (k:Nat)) h=.ok a h:=by
 have hk:k<ds.length:=(qa7.mp e).1
 have e1:A4 ds ((k:Nat):Int)=some a:=by
  unfold A4 Bs
  rw [if_pos (by omega),if_pos (by omega)]
  simpa using e
 simp only [Bb,Ba,e1]
@[simp] theorem SX:Bb (.tup [a,b]) (.int 0) h=.ok a h:=rfl
@[simp] theorem SY:Bb (.tup [a,b]) (.int 1) h=.ok b h:=rfl
theorem N8 {ns:List Int} {k:Nat} (e:ns[k]?=some i):Bb (.scr ns) (.int (k:Nat)) h=.ok (.int i) h:=by
 have hk:k<ns.length:=(qa7.mp e).1
 have e1:A4 (ns.map D.int) ((k:Nat):Int)=some (.int i):=by
  unfold A4 Bs
  rw [if_pos (by omega),if_pos (by simpa using hk)]
  simp [e]
 simp only [Bb,Ba,e1]
theorem JQ {l k:Nat} (el:h[l]?=some (.lst ds)) (e:ds[k]?=some a):Bb (.loc l) (.int (k:Nat)) h=.ok a h:=by
 have hk:k<ds.length:=(qa7.mp e).1
 have e1:A4 ds ((k:Nat):Int)=some a:=by
  unfold A4 Bs
  rw [if_pos (by omega),if_pos (by omega)]
  simpa using e
 simp only [Bb,Ba,el,e1]
theorem N9 {l k:Nat} {ρ:Ae} (el:h[l]?=some (.lst ds)) (hk:k<ds.length):DN (.loc l) (.int (k:Nat)) a h (.ok (.nx,ρ) h)=.ok (.nx,ρ) (h.set l (.lst (ds.set k a))):=by
 have:Bs ds.length ((k:Nat):Int)=some k:=by
  unfold Bs
  rw [if_pos (by omega),if_pos (by omega)]
  simp
 simp only [DN,el,this]
end
noncomputable def Oa (cs:List (Option Nat)) (it:MI) (sg:MG) (t:MT) (f:ME):ME:=Ai (AF Ei) (Aa (A2 cs it sg t f) Ac)
noncomputable def Ob (cs:List (Option Nat)) (it:MI) (sg:MG) (t:MT) (f:ME):ME:=Ai (AF Fy) (Aa (A2 cs it sg t f) Ac)
section
variable {α:Type} {cs:List (Option Nat)} {it:MI} {sg:MG} {t:MT} {f:ME} {ρ:Ae} {h:HD} {src:Ay} {xs:List α} {φ:α→D}
@[simp] theorem SZ:Ai (AF Ei) (Aa (A2 cs it sg t f) Ac) ρ h=Oa cs it sg t f ρ h:=rfl
@[simp] theorem S3:Ai (AF Fy) (Aa (A2 cs it sg t f) Ac) ρ h=Ob cs it sg t f ρ h:=rfl
def S4 (o:Out (List D×Ay)) (h:HD) (ds:List D) (src:Ay):Prop:=Wp o fun x h'=>x=(ds,src)∧Sm h h'∧∀h2,Sm h' h2→Bm src ds h2
end
section
variable {h:HD} {i j:Int}
theorem FG (h1:-18446744073709551616<j) (h2:j<18446744073709551616):BY (.int i) (.int j) h=.ok (.int (i*j)) h:=by
 have:CMl i j:=.inl (.inr ⟨by omega,by omega⟩)
 simp only [BY];rw [if_pos this]
theorem Hb (h1:-18446744073709551616<i) (h2:i<18446744073709551616):BY (.int i) (.int j) h=.ok (.int (i*j)) h:=by
 have:CMl i j:=.inl (.inl ⟨by omega,by omega⟩)
 simp only [BY];rw [if_pos this]
theorem Oc (h1:Builtin.Int.intBits i≤16777216) (h2:Builtin.Int.intBits j≤16777216):BY (.int i) (.int j) h=.ok (.int (i*j)) h:=by
 have:CMl i j:=.inr ⟨h1,h2⟩
 simp only [BY];rw [if_pos this]
theorem FH (h1:0<j):C8 (.int i) (.int j) h=.ok (.int (i % j)) h:=by
 simp only [C8,C7];rw [if_pos h1]
theorem Od (h1:0<j) (h2:j<18446744073709551616):Fp (.int i) (.int j) h=.ok (.int (i / j)) h:=by
 have:CDv i j:=⟨h1,h2⟩
 simp only [Fp,C7];rw [if_pos this]
theorem Oe (h1:0<j) (h2:j<18446744073709551616):Ef (.int i) (.int j) h=.ok (.tup [.int (i / j),.int (i % j)]) h:=by
 have:CDv i j:=⟨h1,h2⟩
 simp only [Ef];rw [if_pos this]
end
theorem JR {α:Type} {o:Out α} {Q:α→HD→Prop}:Wp (noErr o) Q=Wp o Q:=by cases o<;>rfl
theorem JS {src:Ay} {items:List D} {sg:MG} {t:MT} {f:ME} {ρc:Ae} (φ:Nat→D) (I:HD→Prop) (T:Nat→Bool→Prop) (R:Nat→D→Prop) (ρ1:Nat→Ae) (hs:∀h,I h→Bm src items h):
 ∀(xs:List Nat) (h:HD),xs.Nodup→I h→(∀x∈xs,sg (φ x) ρc=some (ρ1 x))→(∀x∈xs,∀h,I h→Wp (t (ρ1 x) h) fun b h1=>T x b∧if b=true then Wp (f (ρ1 x) h1) (fun y h2=>I h2∧R x y) else I h1)→
  Wp (Bz src items sg t f ρc (xs.map φ) h) fun ys h'=>I h'∧∃(g:Nat→Bool) (e:Nat→D),ys=(xs.filter g).map e∧(∀x∈xs,g x=true→R x (e x))∧∀x∈xs,T x (g x)
 |[],h,_,i,_,_=>by
  simp only [List.map_nil,Bz]
  rw [if_pos (hs h i)]
  exact ⟨i,fun _=>true,fun _=>.non,rfl,by simp,by simp⟩
 |x::xs,h,hd,i,hg,ht=>by
  simp only [BF,Bz]
  rw [if_pos (hs h i),hg x Ax]
  simp only
  rw [Al,JR]
  rw [qb1] at hd
  refine Wp.mono (ht x Ax h i) fun b h1 z1_=>?_
  obtain ⟨tb,w⟩:=z1_
  have ih:∀h2,I h2→_:=fun h2 i2=>JS φ I T R ρ1 hs xs h2 hd.2 i2 (fun y hy=>hg y (AA _ hy)) (fun y hy=>ht y (AA _ hy))
  cases b with
  |false=>
   rw [if_neg AS] at w ⊢
   refine Wp.mono (ih h1 w) ?_
   rintro ys h' ⟨i',g,e,ey,hr,tr⟩
   refine ⟨i',fun y=>if y=x then false else g y,e,?_,?_,?_⟩
   ·rw [List.filter_cons_of_neg (by simp),ey]
    congr 1
    refine List.filter_congr fun y hy=>?_
    rw [if_neg]
    intro z;subst z;exact hd.1 hy
   ·intro y hy gy
    rcases qa6.mp hy with z |z
    ·subst z;simp at gy
    ·refine hr y z ?_
     by_cases hz:y=x
     ·subst hz;exact absurd z hd.1
     ·simpa [hz] using gy
   ·intro y hy
    by_cases hz:y=x
    ·subst hz;simpa using tb
    ·simp only [if_neg hz]
     exact tr y (by rcases qa6.mp hy with z |z;exact absurd z hz;exact z)
  |true=>
   rw [if_pos rfl] at w ⊢
   rw [Al,JR]
   refine Wp.mono w fun y h2 z3_=>?_
   obtain ⟨i2,ry⟩:=z3_
   rw [Al]
   refine Wp.mono (ih h2 i2) ?_
   rintro ys h' ⟨i',g,e,ey,hr,tr⟩
   refine ⟨i',fun z=>if z=x then true else g z,fun z=>if z=x then y else e z,?_,?_,?_⟩
   ·rw [List.filter_cons_of_pos (by simp),BF,if_pos rfl,ey]
    congr 1
    rw [show xs.filter (fun z=>if z=x then true else g z)=xs.filter g from List.filter_congr fun z hz=>by
     rw [if_neg]
     intro q;subst q;exact hd.1 hz]
    refine List.map_congr_left fun z hz=>?_
    rw [if_neg]
    intro q;subst q;exact hd.1 (qbD.mp hz).1
   ·intro z hz gz
    by_cases q:z=x
    ·subst q;simpa using ry
    ·rcases qa6.mp hz with w |w
     ·exact absurd w q
     ·simp only [if_neg q] at gz ⊢
      exact hr z w gz
   ·intro z hz
    by_cases q:z=x
    ·subst q;simpa using tb
    ·simp only [if_neg q]
     exact tr z (by rcases qa6.mp hz with w |w;exact absurd w q;exact w)
structure PyN (n:Nat) (d:D) (p:PyData):Prop where
 rd:∀k,n≤k→Av [] k d=some p
 ly:p.canLay0=true
 dp:p.depth≤n
theorem PyN.py {n:Nat} {d:D} {p:PyData} (h:PyN n d p) (hn:n≤8):Py d p:=⟨h.rd 8 hn,by
 unfold SeqAt.shaped
 rw [h.ly]
 have:=h.dp
 simp
 omega⟩
def KD {α:Type}:Sem α→Prop
 |.pure _=>True
 |.raise _=>True
 |.unsupported _=>True
 |.finish _=>True
 |.rule _ k=>KD (k ())
 |.at _ k=>KD (k ())
 |.load _ _ k=>∀o,KD (k o)
 |.update _ _ f k=>(∀o,(f o).dict=o.dict∧(o.isFreed=false→(f o).isFreed=false))∧KD (k ())
 |.loadIfAlive _ k=>∀o,KD (k o)
 |.point _ k=>KD (k ())
 |.register _ _=>True
 |.alloc _ k=>∀a,KD (k a)
 |.fresh k=>∀a,KD (k a)
 |.ask k=>∀a,KD (k a)
 |.choose _ _ k=>∀a,KD (k a)
 |.os _ _ k=>∀a,KD (k a)
 |.call ..=>False
 |.handled _ k=>∀a,KD (k a)
 |.genState _ k=>∀a,KD (k a)
 |.newGen _ k=>∀a,KD (k a)
 |.resume ..=>False
 |.yield ..=>True
 |.stack k=>∀a,KD (k a)
 |.fork ..=>True
 |.thread k=>∀a,KD (k a)
 |.await ..=>True
def Dicts (h h':Heap):Prop:=∀b o,h.get? b=some o→∃o',h'.get? b=some o'∧o'.dict=o.dict
theorem Dicts.refl (h:Heap):Dicts h h:=fun _ o e=>⟨o,e,rfl⟩
theorem Dicts.trans {h h1 h2:Heap} (a:Dicts h h1) (b:Dicts h1 h2):Dicts h h2:=fun c o e=>by
 obtain ⟨o1,e1,d1⟩:=a c o e
 obtain ⟨o2,e2,d2⟩:=b c o1 e1
 exact ⟨o2,e2,d2.trans d1⟩
theorem Of {α:Type} {M:Model} {Γ:PySem.Ctx} {Q:α→Pos→Shared→Prop} {E:Value→Pos→Shared→Prop}:∀(t:Sem α) (p:Pos) (s:Shared),KD t→Sem.wp M Γ t Q E p s→Sem.wp M Γ t (fun a p s'=>Q a p s'∧Dicts s.heap s'.heap) (fun a p s'=>E a p s'∧Dicts s.heap s'.heap) p s:=by
 have lift:∀(t:Sem α) (p:Pos) (h0:Heap) (s:Shared),Dicts h0 s.heap→Sem.wp M Γ t (fun a p s'=>Q a p s'∧Dicts s.heap s'.heap) (fun a p s'=>E a p s'∧Dicts s.heap s'.heap) p s→Sem.wp M Γ t (fun a p s'=>Q a p s'∧Dicts h0 s'.heap) (fun a p s'=>E a p s'∧Dicts h0 s'.heap) p s:=
  fun t p h0 s d w=>Sem.wp_mono M Γ t (fun a p s' z=>⟨z.1,d.trans z.2⟩) (fun a p s' z=>⟨z.1,d.trans z.2⟩) p s w
 intro t
 induction t with
 |pure a=>exact fun p s _ w=>⟨w,.refl _⟩
 |raise e=>exact fun p s _ w=>⟨w,.refl _⟩
 |unsupported w=>exact fun p s _ w=>w.elim
 |finish w=>exact fun p s _ w=>w.elim
 |rule t k ih=>exact fun p s kd w=>ih () p s kd w
 |«at» t k ih=>exact fun p s kd w=>ih () t s kd w
 |load a x k ih=>exact fun p s kd ⟨o,e,w⟩=>⟨o,e,ih o p s (kd o) w⟩
 |update a x f k ih=>
  refine fun p s kd ⟨e,w⟩=>⟨e,lift _ p s.heap {s with heap:=s.heap.update a f} (fun b o eb=>?_) (ih () p _ kd.2 w)⟩
  by_cases hb:b=a
  ·subst hb
   obtain ⟨d1,d2⟩:=kd.1 o
   exact ⟨f o,DZ f eb (d2 (Heap.get?_some_iff.mp eb).2),d1⟩
  ·exact ⟨o,(EK s.heap f (Ne.symm hb)).trans eb,rfl⟩
 |alloc o k ih=>exact fun p s kd w=>lift _ p s.heap {s with heap:=s.heap.push o} (fun b ob eb=>⟨ob,AR _ eb,rfl⟩) (ih _ p {s with heap:=s.heap.push o} (kd _) w)
 |loadIfAlive a k ih=>exact fun p s kd w=>ih _ p s (kd _) w
 |point l k ih=>exact fun p s kd w=>ih () p s kd w
 |register a k ih=>exact fun p s kd w=>w.elim
 |fresh k ih=>exact fun p s kd w=>ih _ p {s with toks:=s.toks+1} (kd _) w
 |ask k ih=>exact fun p s kd w=>ih _ p s (kd _) w
 |choose src n k ih=>exact fun p s kd ⟨z,w⟩=>⟨z,ih _ p {s with drawn:=s.drawn.bump src} (kd _) w⟩
 |os q l k ih=>exact fun p s kd w=>ih _ p {s with os:=(Os.step s.os q).1} (kd _) w
 |call c h g l k ih=>exact fun p s kd w=>kd.elim
 |handled o k ih=>exact fun p s kd w=>ih _ p s (kd _) w
 |newGen c k ih=>exact fun p s kd w=>ih _ p {s with gens:=s.gens.push (.fresh c)} (kd _) w
 |genState g k ih=>exact fun p s kd ⟨st,e,w⟩=>⟨st,e,ih _ p s (kd _) w⟩
 |resume g r l k ih=>exact fun p s kd w=>kd.elim
 |yield v g l k ih=>exact fun p s kd w=>w.elim
 |stack k ih=>exact fun p s kd w=>ih _ p s (kd _) w
 |fork c k ih=>exact fun p s kd w=>w.elim
 |thread k ih=>exact fun p s kd w=>ih _ p s (kd _) w
 |await a t b l k ih=>exact fun p s kd w=>w.elim
theorem Og {α:Type} {M:Model} {A:Around} {t:Sem α} {Q:α→Shared→Prop} {E:Value→Shared→Prop} {s:Shared} (kd:KD t) (h:wpAny M A t Q E s):wpAny M A t (fun a s'=>Q a s'∧Dicts s.heap s'.heap) (fun a s'=>E a s'∧Dicts s.heap s'.heap) s:=
 fun Γ p hΓ=>Of t p s kd (h Γ p hΓ)
theorem KD.bind {α β:Type} {f:α→Sem β}:∀{t:Sem α},KD t→(∀a,KD (f a))→KD (t >>=f):=by
 intro t
 induction t with
 |pure a=>exact fun _ h=>h a
 |raise e=>exact fun _ _=>True.intro
 |unsupported w=>exact fun _ _=>True.intro
 |finish w=>exact fun _ _=>True.intro
 |rule t k ih=>exact fun kd h=>ih () kd h
 |«at» t k ih=>exact fun kd h=>ih () kd h
 |load a x k ih=>exact fun kd h o=>ih o (kd o) h
 |update a x g k ih=>exact fun kd h=>⟨kd.1,ih () kd.2 h⟩
 |alloc o k ih=>exact fun kd h a=>ih a (kd a) h
 |loadIfAlive a k ih=>exact fun kd h a=>ih a (kd a) h
 |point l k ih=>exact fun kd h=>ih () kd h
 |register a k ih=>exact fun kd h=>True.intro
 |fresh k ih=>exact fun kd h a=>ih a (kd a) h
 |ask k ih=>exact fun kd h a=>ih a (kd a) h
 |choose src n k ih=>exact fun kd h a=>ih a (kd a) h
 |os q l k ih=>exact fun kd h a=>ih a (kd a) h
 |call c h g l k ih=>exact fun kd h=>kd.elim
 |handled o k ih=>exact fun kd h a=>ih a (kd a) h
 |newGen c k ih=>exact fun kd h a=>ih a (kd a) h
 |genState g k ih=>exact fun kd h a=>ih a (kd a) h
 |resume g r l k ih=>exact fun kd h=>kd.elim
 |yield v g l k ih=>exact fun kd h=>True.intro
 |stack k ih=>exact fun kd h a=>ih a (kd a) h
 |fork c k ih=>exact fun kd h=>True.intro
 |thread k ih=>exact fun kd h a=>ih a (kd a) h
 |await a t b l k ih=>exact fun kd h=>True.intro
theorem CM {α:Type} {c:Prop} [Decidable c] {a b:Sem α} (ha:KD a) (hb:KD b):KD (if c then a else b):=by split<;>assumption
theorem Hc {a:Addr}:KD (load a):=fun _=>True.intro
theorem Oh {f:Array Value→Array Value} (o:Obj):(Obj.mapFields f o).dict=o.dict∧(o.isFreed=false→(Obj.mapFields f o).isFreed=false):=by
 obtain ⟨c,d,dt,sl⟩:=o
 cases dt<;>exact ⟨rfl,fun h=>h⟩
theorem Oi {v:Value}:KD (fieldsOf v):=by
 unfold fieldsOf
 split
 ·exact KD.bind Hc fun o=>by split<;>exact True.intro
 ·exact True.intro
theorem FI {v:Value} {i:Nat}:KD (field v i):=by
 unfold field
 exact KD.bind Oi fun o=>by split<;>exact True.intro
theorem Hd {v x:Value} {i:Nat}:KD (setField v i x):=by
 unfold setField
 split
 ·unfold updateField
  refine KD.bind Hc fun o=>?_
  split
  ·exact CM ⟨Oh,True.intro⟩ True.intro
  ·exact True.intro
 ·exact True.intro
theorem Oj {v:Value} {o:Option Addr}:KD (setFlight v o):=by
 unfold setFlight
 exact KD.bind FI fun o=>CM Hd True.intro
theorem Ol {n:String} {vs:List Value}:KD (newFields n vs):=by
 unfold newFields newObj
 unfold newObjAsIs
 dsimp only
 split
 ·exact True.intro
 ·exact fun a=>True.intro
theorem JT:∀{l:List Env},KD (readyFrames l)
 |[]=>True.intro
 |env::outer=>by
  unfold readyFrames
  split
  ·refine KD.bind Hc fun o=>CM True.intro (KD.bind ?_ fun b=>KD.bind ?_ fun v=>KD.bind ⟨fun o=>⟨rfl,fun h=>?_⟩,True.intro⟩ fun _=>JT)
   ·unfold behindIsImport
    exact CM True.intro (CM True.intro (KD.bind FI fun _=>True.intro))
   ·unfold keptBack
    split
    ·exact CM True.intro fun _=>True.intro
    ·exact True.intro
   ·obtain ⟨c,d,dt,sl⟩:=o
    cases dt<;>exact h
  ·exact True.intro
theorem Om {env:Env}:KD (PySem.frameOf env):=by
 unfold PySem.frameOf
 refine KD.bind (fun _=>True.intro) fun l=>KD.bind ?_ fun o=>?_
 ·unfold frameObject
  split
  ·exact True.intro
  ·exact KD.bind JT fun _=>True.intro
 ·split<;>exact True.intro
theorem On {f:Addr} {b:Bool}:KD (entryPlaceOf f b):=by
 unfold entryPlaceOf
 intro l
 show KD (match l.find? _ with |some (_,pos)=>_ |none=>_)
 split<;>exact True.intro
theorem Oo {e:Value} {env:Env}:KD (noteFrame e env):=by
 unfold noteFrame
 split
 ·refine KD.bind FI fun hd=>?_
  have Aq:∀f:Addr,KD (do setField e 1 (←EntryCells.newEntry hd (←PySem.frameOf env) .none (rawInt f) .none (←entryPlaceOf f (hd != .none)))):=fun f=>
   KD.bind Om fun _=>KD.bind On fun _=>KD.bind Ol fun _=>Hd
  refine CM (KD.bind FI fun x=>CM True.intro (KD.bind Hd fun _=>?_)) ?_
  ·exact Aq _
  ·exact Aq _
 ·exact True.intro
theorem Oq {e:Value} {env:Env}:KD (leaving env e):=by
 unfold leaving
 exact KD.bind Oo fun _=>Oj
open Classical in
noncomputable def blank (p:Addr→Prop) (h:Heap):Heap:=⟨h.objs.mapIdx fun i o=>if p i then {o with data:=.freed} else o,h.life⟩
theorem FJ {p:Addr→Prop} {h:Heap} {b:Addr} (hp:p b):(blank p h).get? b=none:=by
 unfold blank Heap.get?
 simp only [Array.getElem?_mapIdx]
 cases e:h.objs[b]? with
 |none=>rfl
 |some o=>simp [hp]
theorem FK {p:Addr→Prop} {h:Heap} {b:Addr} (hp:¬p b):(blank p h).get? b=h.get? b:=by
 unfold blank Heap.get?
 simp only [Array.getElem?_mapIdx]
 cases e:h.objs[b]? with
 |none=>rfl
 |some o=>simp [hp]
theorem Ot {p:Addr→Prop} {h:Heap}:(blank p h).StaysIn h:=fun b o e=>by
 by_cases hp:p b
 ·rw [FJ hp] at e;cases e
 ·rw [FK hp] at e;exact e
inductive He (h0 h:Heap) (H:Hp) (a:Addr) (C:Value) (da:Option Addr):Prop where
 |mk (new:h0.get? a=none) (no:H a=none) (oe:Obj) (vs:Array Value) (a0:Value) (T:Addr) (oT:Obj) (ts:Array Value) (e1:h.get? a=some oe) (e2:oe.cls=C∧vs[0]?=some a0) (e3:oe.data=.fields vs) (e4:vs[1]?=some (.ref T)) (e5:h0.get? T=none) (e6:H T=none) (e7:T≠a) (e8:h.get? T=some oT) (e9:oT.data=.fields ts) (e10:ts[3]?=some .none) (e11:oe.dict=da):He h0 h H a C da
abbrev En (n:Str):Value:=.str n 0
inductive Aw (P:Program) (w:World) (K:PySem.W.Frag) (outer:List Env) (H:Hp) (s:Shared) (E:XK) (e:Value) (s':Shared):Prop where
 |mk (a C:Addr) (n:Str) (da:Option Addr) (H':Hp) (ee:e=.ref a) (os:s'.os=s.os) (bare:AllBare s'.gens) (un:Un (frs outer) [] H H' s.heap s'.heap) (hok:HOk P w H' s'.heap) (fly:He s.heap s'.heap H' a (.ref C) da) (nm:PySem.W.nsIn K mainGlobals n=some (some (.ref C))) (q:E (En n) da H'):Aw P w K outer H s E e s'
theorem JU {h base:Heap} {p:Addr→Prop}:∀{l:List Env},h.FunFrames base l→(∀b∈frs l,p b)→h.FunFrames (blank p h) l
 |[],_,_=>trivial
 |env::rest,⟨k,⟨L,o,hf,_,ho,hd⟩,r⟩,hp=>⟨k,⟨L,o,hf,FJ (hp L (by unfold frs;rw [Dv,hf];exact Ax)),ho,hd⟩,
  JU r fun b hb=>hp b (by
   unfold frs at hb ⊢
   rw [Dv,hf]
   exact AA _ hb)⟩
theorem Hf {P:Program} {w:World} {H:Hp} {h:Heap} {a:Addr} {o:HO} (x:ObjOk P w H h a o):∃ob,h.get? a=some ob:=by
 cases o with
 |lst xs=>obtain ⟨_,_,_,_,e⟩:=x;exact ⟨_,e⟩
 |tup xs=>obtain ⟨_,_,_,⟨_,e,_⟩,_⟩:=x;exact ⟨_,e⟩
 |own y=>exact x
 |xd fs=>obtain ⟨_,⟨_,_,_,e,_⟩,_⟩:=x;exact ⟨_,e⟩
 |frz ob u=>obtain ⟨e,_⟩:=x;exact ⟨_,e⟩
 |tbl ps=>exact ⟨_,x⟩
 |ext φ=>exact x.2.1
 |mex φ=>exact x.2.1
structure Lv (X:Cx) (E:XK):Prop where
 xe:∀e s',wpAny (model X.prog X.w) X.A (leaving X.env e) (fun _ s''=>Aw X.prog X.w X.K X.outer X.H₀ X.s₀ E e s'') (fun e' s''=>Aw X.prog X.w X.K X.outer X.H₀ X.s₀ E e' s'') s'→X.xe e s'
 stk:X.stack=X.env::X.outer
 fr:X.env.frame=some X.env.locals
 ex:X.ex=[]
theorem BJ {P:Program} {w:World} {K:PySem.W.Frag} {mg:Str→Option Value} {base:Heap} {N:List Str} {qual:Str} {scope:Scope} {f:Addr} {cd:Value} {A:Around} {outer:List Env} {s:Shared} {H:Hp} {E:XK}:Lv (A0 (Aw P w K) P w K mg base N qual scope f cd A outer s H E) E:=
 ⟨fun _ _ h=>h,rfl,rfl,rfl⟩
section
variable {X:Cx} {E:XK}
theorem Lv.frs (lv:Lv X E):L2.frs X.stack=X.env.locals::X.fs:=by
 rw [lv.stk];unfold L2.frs;rw [Dv,lv.fr];rfl
theorem Ou {pins:List (Addr×Obj)} {σ:L2.St} {H':Hp} {s':Shared} {h':Heap} {a T:Addr} {C:Value} (lv:Lv X E)
 (I:Inv X pins σ H' s')
 (na:X.s₀.heap.get? a=none) (nT:X.s₀.heap.get? T=none) (ha:H' a=none) (hT:H' T=none) {a0:Value}
 (L:Heap.LeftW (blank (fun b=>b=a∨b=T∨b∈frs X.stack) s'.heap) X.stack a C a0 s'.heap h') {da:Option Addr} {oa:Obj} (ea:s'.heap.get? a=some oa) (ed:oa.dict=da) (dd:Dicts s'.heap h'):
 Un X.fs [] X.H₀ H' X.s₀.heap h'∧HOk X.prog X.w H' h'∧He X.s₀.heap h' H' a C da:=by
 obtain ⟨stay,ff,⟨oe,vs,T2,oT,ts,e1,e2,e3,e4,e5,e6,e7,e8,e9⟩,ups⟩:=L
 have e11:oe.dict=da:=by
  obtain ⟨o',q1,q2⟩:=dd a oa ea
  rw [e1] at q1
  cases q1
  exact q2.trans ed
 have B:Un X.fs [] X.H₀ H' X.s₀.heap s'.heap:=by have:=I.base;rw [lv.ex] at this;exact this
 have stk:=I.stack
 have frNone:∀b∈frs X.stack,H' b=none:=fun b hb=>I.stkFree b hb
 have keepOf:∀b o,¬(b=a∨b=T∨b∈frs X.stack)→s'.heap.get? b=some o→h'.get? b=some o:=fun b o hb e=>stay b o (by rw [FK hb];exact e)
 have notL:∀b o,X.s₀.heap.get? b=some o→b∉X.fs→b∉frs X.stack:=fun b o e hb z=>by
  rw [lv.frs] at z
  rcases qa6.mp z with z |z
  ·have:=Ap e
   rw [z] at this
   exact absurd (AC this I.ok.above) (BO _)
  ·exact hb z
 have old:∀b o,X.s₀.heap.get? b=some o→b≠a∧b≠T:=fun b o e=>⟨fun z=>(by rw [z,na] at e;cases e),fun z=>(by rw [z,nT] at e;cases e)⟩
 have noFields:∀b,b∈frs X.stack→∃o,s'.heap.get? b=some o∧∀vs,o.data≠.fields vs:=fun b hb=>(stk.mem hb).2
 have any:∀b o,X.s₀.heap.get? b=some o→s'.heap.get? b≠none→∃o',h'.get? b=some o':=fun b o e hn=>by
  cases e':s'.heap.get? b with
  |none=>exact absurd e' hn
  |some o'=>
   by_cases hb:b∈frs X.stack
   ·obtain ⟨o2,h2,d2⟩:=noFields b hb
    obtain ⟨sl,h3⟩:=ups b o2 h2 d2
    exact ⟨_,h3⟩
   ·exact ⟨o',keepOf b o' (fun z=>by rcases z with z |z |z;exact (old b o e).1 z;exact (old b o e).2 z;exact hb z) e'⟩
 refine ⟨⟨fun b o e n hb hx=>?_,fun b o e n hb hx=>?_,B.free,fun b o e hx=>?_,B.tups,B.frzs,B.tbls⟩,fun b o e=>?_,na,ha,oe,vs,a0,T2,oT,ts,e1,e2,e3,e4,?_,?_,e6,e7,e8,e9,e11⟩
 ·exact keepOf b o (fun z=>by rcases z with z |z |z;exact (old b o e).1 z;exact (old b o e).2 z;exact notL b o e hb z) (B.keep b o e n hb hx)
 ·obtain ⟨sl,h1⟩:=B.slot b o e n hb hx
  have hb':b∈frs X.stack:=by rw [lv.frs];exact AA _ hb
  obtain ⟨o2,h2,d2⟩:=noFields b hb'
  rw [h1] at h2
  cases h2
  obtain ⟨sl2,h3⟩:=ups b _ h1 d2
  exact ⟨sl2,h3⟩
 ·obtain ⟨o',h1⟩:=B.there b o e hx
  exact any b o e (by rw [h1];simp)
 ·refine (I.hok b o e).stay (fun c u hc q=>keepOf c u (fun z=>?_) q) (fun _ q=>q) fun _ _ q=>q
  have hc':H' c≠none:=by
   rcases hc with rfl |hc
   ·rw [e];simp
   ·rw [hc];simp
  rcases z with z |z |z
  ·exact hc' (z ▸ ha)
  ·exact hc' (z ▸ hT)
  ·exact hc' (frNone c z)
 ·cases q:X.s₀.heap.get? T2 with
  |none=>rfl
  |some o=>
   exfalso
   obtain ⟨o',h1⟩:=B.there T2 o q (by simp)
   by_cases hb:T2∈frs X.stack
   ·obtain ⟨o2,h2,d2⟩:=noFields T2 hb
    obtain ⟨sl,h3⟩:=ups T2 o2 h2 d2
    rw [h3] at e7
    cases e7
    exact d2 _ e8
   ·rw [FK (fun z=>by rcases z with z |z |z;exact (old T2 o q).1 z;exact (old T2 o q).2 z;exact hb z),h1] at e5
    cases e5
 ·cases q:H' T2 with
  |none=>rfl
  |some o=>
   exfalso
   by_cases hb:T2=a∨T2=T∨T2∈frs X.stack
   ·rcases hb with z |z |z
    ·rw [z,ha] at q;cases q
    ·rw [z,hT] at q;cases q
    ·rw [frNone T2 z] at q;cases q
   ·rw [FK hb] at e5
    obtain ⟨ob,eb⟩:=Hf (I.hok T2 o q)
    rw [eb] at e5
    cases e5
theorem Lv.older (lv:Lv X E) {pins:List (Addr×Obj)} {σ:L2.St} {H1:Hp} {s1:Shared} (I:Inv X pins σ H1 s1):∀b,s1.heap.get? b=none→X.s₀.heap.get? b=none:=fun b hb=>by
 cases q:X.s₀.heap.get? b with
 |none=>rfl
 |some o=>
  obtain ⟨o',h1⟩:=I.base.there b o q (by rw [lv.ex];simp)
  rw [hb] at h1;cases h1
theorem Ov (lv:Lv X E):DE (Aw X.prog X.w X.K) X E:=by
 rintro pins σ H1 s1 e s' I ⟨a,C,n,da,H',ee,os,bare,un,hok,fly,nm,q⟩
 subst ee
 have I':Inv X pins σ H' s':=I.call' os un hok bare (fun b hb=>absurd hb (by simp))
 obtain ⟨fnew,fno,oe,vs,a0,T,oT,ts,e1,e2,e3,e4,e5,e6,e7,e8,e9,e10,e11⟩:=fly
 have fro:X.A.frames=some (X.env::X.outer):=by rw [←lv.stk];exact I'.ok.frames
 have stk:s'.heap.FunFrames X.base (X.env::X.outer):=by have:=I'.stack;rw [lv.stk] at this;exact this
 have run:=Og Oq (wpAny_leaving_nextW (M:=model X.prog X.w) (E:=fun _ _=>False) (Q:=fun _ s''=>∃h',s''={s' with heap:=h'}∧Heap.LeftW (blank (fun b=>b=a∨b=T∨b∈frs X.stack) s'.heap) (X.env::X.outer) a (.ref C) a0 s'.heap h') (base:=blank (fun b=>b=a∨b=T∨b∈frs X.stack) s'.heap) (cls:=.ref C) (a0:=a0) fro (JU stk fun b hb=>.inr (.inr (by rw [lv.stk];exact hb))) lv.fr
  ⟨oe,vs,T,oT,ts,e1,e2,e3,e4,FJ (.inr (.inl rfl)),e7,e8,e9,e10⟩ Ot (FJ (.inl rfl)) fun h' L=>⟨h',rfl,L⟩)
 refine lv.xe _ _ (wpAny_mono run (fun _ s'' z=>?_) fun _ _ z=>z.1.elim)
 obtain ⟨⟨h',rfl,L⟩,D⟩:=z
 obtain ⟨u1,u2,u3⟩:=Ou lv I' (lv.older I a fnew) (lv.older I T e5) fno e6 (by rw [lv.stk] at *;exact L) e1 e11 D
 exact ⟨a,C,n,da,H',rfl,I'.os,bare,u1,u2,u3,nm,q⟩
end
section
variable {P:Program} {w:World} {K:PySem.W.Frag} {mg:Str→Option Value} {base:Heap} {N:List Str} {qual:Str} {scope:Scope} {f:Addr} {cd:Value} {A:Around} {outer:List Env} {s:Shared} {H:Hp} {E:XK}
theorem Ck:DE (Aw P w K) (A0 (Aw P w K) P w K mg base N qual scope f cd A outer s H E) E:=Ov BJ
end
inductive JV (h:Heap) (C:Addr) (bmB:List Value) (newId:String):Prop where
 |mk (bm:List Value) (N:Addr) (nm q:Str) (bs:List Value) (hdct:Bool) (sn:List Str) (sub:List Value) (ab:Bool) (col:Option Bool) (dd:Option Addr) (k0 k1 k2 k3 k5:Option Value) (mN:Str→Option Value)
  (hC:h.get? C=some (excClassObj nm q C N bs bm hdct sn sub ab col dd k0 k1 k2 k3 k5 newId)) (hN:h.Ns N mN) (hni:mN "__init__"=none) (T:OwnTail h bmB bm):JV h C bmB newId
def JW (K:PySem.W.Frag) (C:Addr) (bmB:List Value) (newId:String):Prop:=∀h:Heap,K.In h→JV h C bmB newId
def clsOf:Data→Option ClassData
 |.cls c=>some c
 |_=>none
theorem Hg {d:Data} {c:ClassData} (h:clsOf d=some c):d=.cls c:=by
 cases d<;>first |(cases h;rfl) |cases h
inductive JX {α:Type} (l:List α):Prop where
 |mk (a b c d e f:α) (q:l=[a,b,c,d,e,f]):JX l
theorem JY {α:Type} {l:List α} (h:l.length=6):JX l:=by
 cases l with
 |nil=>cases h
 |cons a l=>cases l with
  |nil=>cases h
  |cons b l=>cases l with
   |nil=>cases h
   |cons c l=>cases l with
    |nil=>cases h
    |cons d l=>cases l with
     |nil=>cases h
     |cons e l=>cases l with
      |nil=>cases h
      |cons f l=>cases l with
       |nil=>exact ⟨a,b,c,d,e,f,rfl⟩
       |cons g l=>cases h
def FL (K:PySem.W.Frag) (C:Addr) (bmB:List Value) (newId:String) (o:Obj) (cd:ClassData):Bool:=
 decide (o.cls=.type "type")&&(decide (cd.mro=.ref C::cd.mro.tail)&&(!cd.hasDel&&(PySem.W.tailIn K bmB cd.mro.tail&&(PySem.W.nsOkIn K cd.ns&&(PySem.W.nsIn K cd.ns "__init__"==some none&&(decide (o.slots.toList.length=6)&&decide (o.slots.toList[4]?=some (some (.builtin newId)))))))))
def Hh (K:PySem.W.Frag) (C:Addr) (bmB:List Value) (newId:String):Bool:=match K.lookup C with
 |some o=>(match clsOf o.data with
  |some cd=>FL K C bmB newId o cd
  |none=>false)
 |none=>false
theorem Ow {K:PySem.W.Frag} {C:Addr} {bmB:List Value} {newId:String} (q:Hh K C bmB newId=true):JW K C bmB newId:=by
 intro h X
 unfold Hh at q
 cases lk:K.lookup C with
 |none=>rw [lk] at q;cases q
 |some o=>
  rw [lk] at q
  replace q:(match clsOf o.data with |some cd=>FL K C bmB newId o cd |none=>false)=true:=q
  cases ec:clsOf o.data with
  |none=>rw [ec] at q;cases q
  |some cd=>
   rw [ec] at q
   replace q:FL K C bmB newId o cd=true:=q
   unfold FL at q
   simp only [BE,decide_eq_true_eq,Bool.not_eq_true',beq_iff_eq] at q
   obtain ⟨e1,e2,e3,e4,e5,e6,e7,e8⟩:=q
   obtain ⟨cls,od,dt,⟨sl⟩⟩:=o
   obtain ⟨nm,bs,mro,ns,qn,hd,sn,sub,ab,col,del⟩:=cd
   replace ec:=Hg ec
   simp only at ec e1 e2 e3 e4 e5 e6 e7 e8
   obtain ⟨k0,k1,k2,k3,k4,k5,rfl⟩:=JY e7
   cases mro with
   |nil=>cases e2
   |cons c bm=>
    cases e2
    cases Option.some.inj e8
    subst ec e1 e3
    exact ⟨_,_,_,_,_,_,_,_,_,_,_,_,_,_,_,_,h.nsMap ns,X _ _ lk,.of_isNs (PySem.W.isNs_of_in X e5),PySem.W.nsMap_none_of_in X e5 e6,PySem.W.tail_of_in X e4⟩
abbrev FM:List Value:=[.type "ValueError",.type "Exception",.type "BaseException",.type "object"]
def S5 (X:Cx) (E:XK):Prop:=∀(pins:List (Addr×Obj)) (σ:L2.St) (H1:Hp) (s1:Shared) (h':Heap) (a C:Addr) (n:Str) (vs:List Value),Inv X pins σ H1 s1→Heap.MadeExcOf s1.heap h' a (.ref C) vs→PySem.W.nsIn X.K mainGlobals n=some (some (.ref C))→E (En n) none H1→X.xe (.ref a) {s1 with heap:=h'}
section
variable {X:Cx} {E:XK}
def JZ (n:Str) (fa:MA):MS:=fun ρ h=>(fa ρ h).bind fun xs h1=>if xs.length≤sizeLine then .err (En n) [] h1 else .stuck
inductive CN (K:PySem.W.Frag) (F:List D→HD→Out D) (vs:List V) (H:Hp) (Q:VK) (E:XK):Prop where
 |mk (m:List Addr) (ds:List D) (h:HD) (hr:HR K m h H) (r:DVs K m H ds vs) (p:Post K (rD K) m H E Q (F ds h)):CN K F vs H Q E
theorem Ox {P:Program} {w:World} {K:PySem.W.Frag} {X:Cx}:DE (Aw P w K) X E0:=fun _ _ _ _ _ _ _ z2_=>by obtain ⟨_,_,_,_,_,_,_,_,_,_,_,_,q⟩:=z2_;exact (q.elim)
theorem J0 {K:PySem.W.Frag} {n:Nat} {F:List D→HD→Out D} (ar:Ar n F) {vs:List V} {H:Hp} {Q:VK} {E':XK} (h:CN K F vs H Q E'):vs.length=n:=by
 obtain ⟨m,ds,hd,hr,r,p⟩:=h
 rw [←r.len]
 by_cases e:ds.length=n
 ·exact e
 ·rw [ar ds hd e] at p;exact p.elim
structure CaE (P:Program) (w:World) (K:PySem.W.Frag) (mg:Str→Option Value) (base:Heap) (x:Str) (k:Nat) (F:List D→HD→Out D):Prop where
 ex:∃(f:Addr) (fd:FuncData) (ps:List Str),FnOk P w K mg base (Aw P w K) k f fd ps (CN K F)∧Binds K fd ps []∧mg x=some (.ref f)∧PySem.W.keepIn K (.ref f)=true
theorem B0 {k k':Nat} {F:List D→HD→Out D} {fa:MA} {x:Str} {p pos:Pos} {e:Expr} {es:List Expr} (C:CaE X.prog X.w X.K X.mg X.base x k F) (hr:Room k' X.A) (hx:DE (Aw X.prog X.w X.K) X E) (ha:BI X E (e::es) fa) (hk:k≤k':=by decide) (hg:Gl X x:=by rfl)
 (hdb:(x==("__debug__":Str))=false:=by decide) (he:starEach (e::es) X.env=(false,eval e X.env)::starEach es X.env:=by rfl) (hpl:(backTo pos (starEach es X.env)).any (·.1)=false:=by rfl):
 Ev X E (.Call (.Name x p) (e::es) [] pos) (Ai F fa):=by
 obtain ⟨f,fd,ps,G,hb,hm,hkp⟩:=C.ex
 exact BR (MF (E:=E) G (hr.mono hk) hg hm hkp hb .nil hx ha hdb he hpl) fun σ H Q z3_=>by obtain ⟨m,ρ,hd,hr,er,p⟩:=z3_;exact (⟨m,ρ,hd,hr,er,Post.bind p fun xs h1 vs m1 H1 e1 p1 k1 hr1 r1 q1=>by
  rw [D1]
  exact ⟨m1,xs,h1,hr1,r1,q1⟩⟩)
theorem De {P:Program} {w:World} {K:PySem.W.Frag} {mg:Str→Option Value} {base:Heap} {x qual:Str} {st:Stmt} {f:Addr} {fd:FuncData} {N ps:List Str} {k:Nat} {F:List D→HD→Out D} {g:MS} (Fn:Fun K x qual st f fd) (S:Bt N ps (defScope st)) (ar:Ar ps.length F)
 (hg:∀ds h,ds.length=ps.length→F ds h=A5 N.length g ds h)
 (hbody:∀(cdv:Value) (A:Around) (outer:List Env) (s:Shared) (H:Hp) (E:XK),Room k (A.deeper (envOfC qual (defScope st) s.heap.objs.size f cdv))→Be (A0 (Aw P w K) P w K mg base N qual (defScope st) f cdv A outer s H E) E (defBody st) g):FnOk P w K mg base (Aw P w K) (k+1) f fd ps (CN K F):=by
 obtain ⟨oc,od,kV,doc,pm,an,cdv,ct,osl,rfl,lk,hcd⟩:=Fn.ex
 refine Il lk hcd S (fun vs H Q E h=>J0 ar h) fun A outer s H vs Q E hr h=>?_
 refine ⟨_,hbody cdv A outer s H E hr,?_⟩
 have hl:=J0 ar h
 obtain ⟨m,ds,hd,hr1,r,p⟩:=h
 have hld:ds.length=ps.length:=by rw [r.len];exact hl
 refine ⟨m,ds.map some++List.replicate (N.length - ds.length) none,hd,hr1,ER.start r,?_⟩
 rw [hg ds hd hld] at p
 unfold A5 at p
 cases o:g (ds.map some++List.replicate (N.length - ds.length) none) hd with
 |stuck=>rw [o] at p;exact p
 |err C fs h1=>rw [o] at p;exact p
 |ok a h1=>
  rw [o] at p
  obtain ⟨fl,ρ1⟩:=a
  intro m1 H1 p1 k1 hr1
  cases fl with
  |nx=>exact fun σ er=>p .non m1 H1 p1 k1 hr1 (by simp [rD,DV])
  |bk=>exact False.elim p
  |ct=>exact False.elim p
  |rt d=>exact fun v rv=>p v m1 H1 p1 k1 hr1 rv
end
theorem FN {P:Program} {w:World} {K:PySem.W.Frag} {mg:Str→Option Value} {base:Heap} {N:List Str} {qual:Str} {scope:Scope} {f:Addr} {cd:Value} {A:Around} {outer:List Env} {s:Shared} {H:Hp} {E:XK}:
 PassesOwn (model P w) (A0 (Aw P w K) P w K mg base N qual scope f cd A outer s H E).A (A0 (Aw P w K) P w K mg base N qual scope f cd A outer s H E).env (A0 (Aw P w K) P w K mg base N qual scope f cd A outer s H E).xe:=by
 passes_own
section
variable {X:Cx} {E:XK}
abbrev MO:=Ae→HD→Out (Option Int)
abbrev S6 (X:Cx) (E:XK) (e:Option Expr) (f:MO):Prop:=PO X e (tM X.K (fun _ _ a b=>a=b) E f)
def Oy:MO:=fun _ h=>.ok none h
def J1 (f:ME):MO:=fun ρ h=>(f ρ h).bind fun x h1=>match x with
 |.int i=>.ok (some i) h1
 |_=>.stuck
def FO (xs:List D) (lo hi:Option Int):List D:=(xs.drop (HT.sIx xs.length 0 lo)).take (HT.sIx xs.length xs.length hi - HT.sIx xs.length 0 lo)
def J2 (x:D) (lo hi:Option Int) (h:HD):Out D:=match x with
 |.tup xs=>if HT.sIx xs.length 0 lo=0∧HT.sIx xs.length xs.length hi=xs.length then .stuck else .ok (.tup (FO xs lo hi)) h
 |_=>.stuck
def J3 (f:ME) (lo hi:MO):ME:=fun ρ h=>(f ρ h).bind fun x h1=>(lo ρ h1).bind fun l h2=>(hi ρ h2).bind fun u h3=>J2 x l u h3
theorem DVs.cut {K:PySem.W.Frag} {m:List Addr} {H:Hp} {ds:List D} {vs:List V} (r:DVs K m H ds vs) (lo hi:Option Int):DVs K m H (FO ds lo hi) (GF vs lo hi):=by
 unfold FO GF
 rw [r.len]
 exact (r.drop _).take _
def J4 (o i x y:D) (ρ:Ae) (h:HD):Out (Fl×Ae):=match x,y with
 |.int a,.int b=>DN o i (.int (a+b)) h (.ok (.nx,ρ) h)
 |_,_=>.stuck
def J5 (o i:D) (h:HD):Out D:=match o,i with
 |.loc l,.int n=>if 0≤n then (match h[l]? with
  |some (.lst ds)=>(match ds[n.toNat]? with
   |some d=>.ok d h
   |none=>.stuck)
  |_=>.stuck) else .stuck
 |_,_=>.stuck
def J6 (fo fi fv:ME):MS:=fun ρ h=>(fo ρ h).bind fun o h1=>(fi ρ h1).bind fun i h2=>(J5 o i h2).bind fun x h3=>(fv ρ h3).bind fun y h4=>J4 o i x y ρ h4
end
theorem vals_ints:∀{ns:List Int} {its:List Value},Vals (ns.map V.int) its→∃ys:List (Int×Tok),its=ys.map (fun p=>Value.int p.1 p.2)∧ys.map (·.1)=ns
 |[],its,r=>by cases r;exact ⟨[],rfl,rfl⟩
 |n::ns,its,r=>by
  cases r with
  |cons r1 r2=>
   obtain ⟨t,rfl⟩:=r1
   obtain ⟨ys,rfl,e⟩:=vals_ints r2
   exact ⟨(n,t)::ys,rfl,by simp [e]⟩
section
variable {X:Cx}
def S7:List Int→Int
 |[]=>0
 |n::ns=>ns.foldl min n
def J7 (f:List Int→Int):D→HD→Out D:=fun x h=>match x with
 |.loc l=>match h[l]? with
  |some (.lst ds)=>match AG (ds.map G4) with
   |some ns=>if ns=[] then .stuck else .ok (.int (f ns)) h
   |none=>.stuck
  |_=>.stuck
 |_=>.stuck
end
def J8 (K:PySem.W.Frag) (t:Addr):It:=⟨fun i H=>∃xs,SqL K H t xs∧i<xs.length,fun i H x H'=>∃p v,H p=none∧x=.ref p∧(∀xs:List V,SqL K H t xs→xs[i]?=some v)∧H'=Ag H p (.tup [.int i,v]),fun i H=>∃xs,SqL K H t xs∧i=xs.length⟩
theorem Oz {P:Program} {w:World} {K:PySem.W.Frag} {elts:List Expr} {kt:Nat} {tpos:Pos} (e it t:Addr) (hei:e≠it) (hte:t≠e) (hti:t≠it):
 EZ P w K (.Tuple elts kt tpos) (J8 K t) [e,it] e (fun i h=>(∃old,IsEnum h e it i old)∧h.IsListIter it t i) where
 mem:=by simp
 obj:=fun i h st b hb=>by
  obtain ⟨⟨old,h1⟩,o,h2,hc,hd⟩:=st
  rcases qa6.mp hb with z |z
  ·subst z;exact ⟨_,h1,fun v z=>by cases z⟩
  ·rw [qaD] at z
   subst z
   exact ⟨o,h2,fun v z=>by rw [hd] at z;cases z⟩
 keep:=fun i h h' st k=>by
  obtain ⟨⟨old,h1⟩,h2⟩:=st
  exact ⟨⟨old,k e (by simp) _ h1⟩,h2.at fun o z=>k it (by simp) o z⟩
 item:=by
  intro X hP hw hK hc i pins s σ H E I hf st hg
  subst hP hw hK
  obtain ⟨⟨old,he⟩,hit⟩:=st
  obtain ⟨xs,hq,hi⟩:=hg
  obtain ⟨its,rv,p,hz⟩:=I.list hq
  have hT:s.heap.IsList t its.toArray:=p.isList
  have hl:=rv.length
  obtain ⟨e0,e1,e2,e3,e4,e5⟩:=hf e (by simp)
  obtain ⟨i0,i1,i2,i3,i4,i5⟩:=hf it (by simp)
  have hx:xs[i]?=some xs[i]:=A8 hi
  refine wpAny_pyNext_enum_itemD (Draws.list (A:=X.A.in1) (I.ok.hd hc) it t hti its.toArray) he ⟨hit,hT⟩ (by rw [AN];omega) hei (by simp [hei,Ne.symm hte]) fun x h1 tk hPx ho hs1 hTup hsz hk=>?_
  obtain ⟨u,hu,ru⟩:=rv.get hx
  have hux:u=x:=by
   have:its[i]?=some x:=by simpa using hPx
   rw [hu] at this
   exact Option.some.inj this
  subst hux
  refine ⟨.ref s.heap.objs.size,rfl,wpAny_letOwnedTupleGo_enum ho fun h2 he2 sb=>?_⟩
  have hfr:H s.heap.objs.size=none:=I.hok.fresh (AJ _)
  have kk:∀b o,b∉[e,it]→s.heap.get? b=some o→h2.get? b=some o:=fun b o hb z=>by
   have n1:b≠e:=fun q=>hb (by simp [q])
   have n2:b≠it:=fun q=>hb (by simp [q])
   exact (sb.2 b n1).trans (hk b o n1 n2 z)
  have na:s.heap.objs.size≠e:=Em (Ap he)
  have hnew:h2.get? s.heap.objs.size=some {cls:=.type "tuple",data:=.seq #[.int i tk,u]}:=(sb.2 _ na).trans hTup
  have ntr:∀b w,H b=some w→b∉[e,it]:=fun b w z hb=>by
   rcases qa6.mp hb with q |q
   ·rw [q,e0] at z;cases z
   ·rw [qaD.mp q,i0] at z;cases z
  have nal:∀b o,s.heap.get? b=some o→b≠s.heap.objs.size:=fun b o z=>Bg (Ap z)
  have it2:h2.IsListIter it t (i+1):=by
   obtain ⟨o,q,r⟩:=hs1.1
   exact ⟨o,(sb.2 it (Ne.symm hei)).trans q,r⟩
  refine ⟨.ref s.heap.objs.size,Ag H s.heap.objs.size (.tup [.int i,xs[i]]),?_,rfl,⟨s.heap.objs.size,xs[i],hfr,rfl,fun ys hy=>by rw [I.list_inj hy hq];exact hx,rfl⟩,⟨⟨u,he2⟩,it2⟩,fun b hb=>?_⟩
  ·show Inv X pins σ _ {s with heap:=h2,gens:=s.gens,drawn:=s.drawn,toks:=tk+1}
   refine I.step (g':=s.gens) (d':=s.drawn) (t':=tk+1) (h':=h2) (ch:=[e,it]) (fun b hb=>?_) (fun b o _ _ hc z _=>kk b o hc z) (fun b o _ _ hc z _=>⟨o.slots,kk b o hc z⟩) (fun b o _ z n=>by rw [Af (nal b o z)];exact n)
    (fun b o hc z=>⟨o,kk b o hc z⟩) (fun b ys z=>by rw [Af (AZ z hfr)];exact z) (fun b o u z=>by rw [Af (AZ z hfr)];exact z) (fun b ps z=>⟨#[],by rw [Af (AZ z hfr),z];simp⟩) (fun m hm=>?_) (fun b w z=>?_) I.bare
   ·rcases qa6.mp hb with q |q
    ·subst q;exact ⟨e3,e1,e4,e5⟩
    ·rw [qaD] at q;subst q;exact ⟨i3,i1,i4,i5⟩
   ·obtain ⟨o,es,ep,q,r⟩:=hm
    exact ⟨o,es,ep,kk _ o (by simp [Ne.symm e1,Ne.symm i1]) q,r⟩
   ·by_cases hb:b=s.heap.objs.size
    ·subst hb
     rw [AU] at z
     cases z
     exact ⟨by simp only [Dx,D2];rw [sizeLine_eq];decide,[.int i tk,u],.cons ⟨tk,rfl⟩ (.cons ru .nil),⟨_,hnew,rfl,0,rfl⟩,fun o e=>by rw [hnew] at e;cases e;rfl⟩
    ·rw [Af hb] at z
     refine (I.hok b w z).stay (fun c v hc q=>kk c v ?_ q) (fun c q=>by rw [Af (AZ q hfr)];exact q) fun c ys q=>by rw [Af (AZ q hfr)];exact q
     rcases hc with rfl |hc
     ·exact ntr c _ z
     ·exact ntr c _ hc
  ·have nb:b≠s.heap.objs.size:=by
    rcases qa6.mp hb with q |q
    ·rw [q];exact na.symm
    ·rw [qaD.mp q]
     obtain ⟨o,z,_⟩:=hit
     exact nal _ _ z
   rw [Af nb]
   exact (hf b hb).1
 done:=by
  intro X hP hw hK hc i pins s σ H E I hf st hg
  subst hP hw hK
  obtain ⟨⟨old,he⟩,hit⟩:=st
  obtain ⟨xs,hq,hi⟩:=hg
  obtain ⟨its,rv,p,hz⟩:=I.list hq
  have hT:s.heap.IsList t its.toArray:=p.isList
  have hl:=rv.length
  obtain ⟨i0,i1,i2,i3,i4,i5⟩:=hf it (by simp)
  have hin:i=its.toArray.size:=by rw [AN];omega
  refine wpAny_pyNext_enum_endD (Draws.list (A:=X.A.in1) (I.ok.hd hc) it t hti its.toArray) he (hin ▸ ⟨hit,hT⟩) fun h' eb=>⟨rfl,I.turned (t':=s.toks) (fun b o hb z=>eb b o hb z) i0 i1 i3 i4 i5⟩
 self:=fun A i s Q E st h=>by
  obtain ⟨⟨old,he⟩,_⟩:=st
  exact wpAny_pyIter_enum he h
section
variable {X:Cx} {E:XK}
theorem OA {elts:List Expr} {kt:Nat} {tpos p pos:Pos} {a:Expr} {ta:TA} (hg:Gl X "enumerate") (hm:X.mg "enumerate"=none) (ha:PA X [a] ta) (hs:starEach [a] X.env=[(false,eval a X.env)]:=by rfl):
 PI X (.Tuple elts kt tpos) (.Call (.Name "enumerate" p) [a] [] pos) (fun σ H R=>ta σ H fun vs H1=>(∃t xs,vs=[.ref t]∧SqT X.K H1 t xs∧R (Jz X.K t xs) H1)∨∃t xs,vs=[.ref t]∧SqL X.K H1 t xs∧R (J8 X.K t) H1):=by
 intro pins s σ H R I h
 refine Call_ (EX I hg hm boot_enumerate (PyProof.Rows.callWith_type1 (Am (ha pos pins s σ H _ I h) fun us s1 z1_=>?_) hs rfl))
 obtain ⟨vs,H1,I1,r1,q1⟩:=z1_
 rcases q1 with ⟨t,xs,e,hq,q⟩ |⟨t,xs,e,hq,q⟩
 ·subst e
  cases r1 with
  |cons r rr=>
   cases rr
   cases r
   obtain ⟨its,rv,p,hz⟩:=I1.tuple hq
   have hT:s1.heap.IsTuple t its.toArray:=p
   have hlt:t<s1.heap.objs.size:=p.lt
   refine NY hT fun h' he hit hsz hk=>wpAny_pyIter_enum (s:={s1 with heap:=h'}) he ?_
   have I2:Inv X pins σ H1 {s1 with heap:=h'}:=I1.kept (t':=s1.toks) hk
   refine ⟨s1.heap.objs.size+1,[s1.heap.objs.size+1,s1.heap.objs.size],_,_,H1,rfl,I2,NZ (s1.heap.objs.size+1) s1.heap.objs.size t (Nat.succ_ne_self _) (Bg (Nat.lt_succ_of_lt hlt)) (Bg hlt) xs,⟨⟨.none,he⟩,hit⟩,fun b hb=>?_,q⟩
   rcases qa6.mp hb with z |z
   ·subst z;exact I1.fpOk (Nat.le_succ _) (I1.hok.fresh (Nat.le_succ _))
   ·rw [qaD] at z;subst z;exact I1.fpOk (AJ _) (I1.hok.fresh (AJ _))
 ·subst e
  cases r1 with
  |cons r rr=>
   cases rr
   cases r
   obtain ⟨its,rv,p,hz⟩:=I1.list hq
   have hT:s1.heap.IsList t its.toArray:=p.isList
   have hlt:t<s1.heap.objs.size:=by obtain ⟨_,z,_⟩:=hT;exact Ap z
   refine call_enumerate_list hT fun h' he hit hsz hk=>wpAny_pyIter_enum (s:={s1 with heap:=h'}) he ?_
   have I2:Inv X pins σ H1 {s1 with heap:=h'}:=I1.kept (t':=s1.toks) hk
   refine ⟨s1.heap.objs.size+1,[s1.heap.objs.size+1,s1.heap.objs.size],_,_,H1,rfl,I2,Oz (s1.heap.objs.size+1) s1.heap.objs.size t (Nat.succ_ne_self _) (Bg (Nat.lt_succ_of_lt hlt)) (Bg hlt),⟨⟨.none,he⟩,hit⟩,fun b hb=>?_,q⟩
   rcases qa6.mp hb with z |z
   ·subst z;exact I1.fpOk (Nat.le_succ _) (I1.hok.fresh (Nat.le_succ _))
   ·rw [qaD] at z;subst z;exact I1.fpOk (AJ _) (I1.hok.fresh (AJ _))
def Eo:List D→HD→Out (List D×Ay):=fun ds h=>match ds with
 |[.tup xs]=>.ok (BX xs,[]) h
 |[.loc l]=>match h[l]? with
  |some (.lst xs)=>.ok (BX xs,[(l,xs)]) h
  |_=>.stuck
 |_=>.stuck
def Ep (fa:MA):MI:=fun ρ h=>(fa ρ h).bind Eo
theorem OB {elts:List Expr} {kt:Nat} {tpos p pos:Pos} {a:Expr} {fa:MA} (hg:Gl X "enumerate") (hm:X.mg "enumerate"=none) (ha:BI X E [a] fa) (hs:starEach [a] X.env=[(false,eval a X.env)]:=by rfl):
 Fu X E (.Tuple elts kt tpos) (.Call (.Name "enumerate" p) [a] [] pos) (Ep fa):=
 Jd (OA hg hm ha hs) fun σ H R ⟨m,ρ,h,hr,er,p⟩=>⟨m,ρ,h,hr,er,Post.bind p fun x h1 v m1 H1 eo p1 k1 hr1 r1 q1=>by
  clear eo
  unfold Eo at q1
  split at q1
  ·rename_i xs
   simp only [Cu,DVs,DV] at r1
   obtain ⟨v,w,rfl,⟨a,vs,rfl,ha,dv⟩,rfl⟩:=r1
   refine .inl ⟨a,vs,rfl,SqT.of ha,q1 _ m1 H1 (Au _) (.refl _) hr1 fun i m2 h2 H2 p2 k2 hr2 _=>⟨fun hi=>?_,fun hi=>?_⟩⟩
   ·have hi':i<xs.length:=by simpa [BX] using hi
    refine ⟨⟨by rw [←dv.len];exact hi',SqT.of (k2 _ _ ha rfl)⟩,fun y H3 ⟨pp,vv,hp,ey,ev,eH⟩=>?_⟩
    subst ey eH
    have hd:xs[i]?=some xs[i]:=A8 hi'
    obtain ⟨v2,e2,r2⟩:=dv.get hd
    rw [ev] at e2
    cases e2
    refine ⟨.new hp,hr2.new hp,.tup [.int i,xs[i]],?_,?_⟩
    ·simp [BX,hd]
    ·simp only [DV]
     exact ⟨pp,_,rfl,AU,.cons (by simp [DV]) (.cons (DV.keep p2 (k2.trans (.new hp)) r2) .nil)⟩
   ·exact ⟨by rw [←dv.len];simpa [BX] using hi,SqT.of (k2 _ _ ha rfl)⟩
  ·rename_i l
   split at q1
   ·rename_i xs el
    simp only [Cu,DVs,DV] at r1
    obtain ⟨v,w,rfl,⟨a,rfl,ha⟩,rfl⟩:=r1
    obtain ⟨vs,hv,dv⟩:=hr1.cells l _ a el ha
    refine .inr ⟨a,vs,rfl,SqL.of hv,q1 _ m1 H1 (Au _) (.refl _) hr1 fun i m2 h2 H2 p2 k2 hr2 hsr=>?_⟩
    obtain ⟨ws,hw,dw⟩:=hr2.cells l _ a (hsr _ Ax) (IA p2 ha)
    refine ⟨fun hi=>?_,fun hi=>⟨ws,SqL.of hw,by rw [←dw.len];simpa [BX] using hi⟩⟩
    have hi':i<xs.length:=by simpa [BX] using hi
    refine ⟨⟨ws,SqL.of hw,by rw [←dw.len];exact hi'⟩,fun y H3 ⟨pp,vv,hp,ey,ev,eH⟩=>?_⟩
    subst ey eH
    have hd:xs[i]?=some xs[i]:=A8 hi'
    obtain ⟨v2,e2,r2⟩:=dw.get hd
    rw [ev ws (SqL.of hw)] at e2
    cases e2
    refine ⟨.new hp,hr2.new hp,.tup [.int i,xs[i]],?_,?_⟩
    ·simp [BX,hd]
    ·simp only [DV]
     exact ⟨pp,_,rfl,AU,.cons (by simp [DV]) (.cons (DV.keep (Au _) (.new hp) r2) .nil)⟩
   ·exact q1.elim
  ·exact q1.elim⟩
end
section
variable {prog:Program} {w:World} {A:Around} {E:Value→Shared→Prop} {s:Shared} {z TI TO p q:Addr} {f g:List Addr} {n1 n2 k:Nat} {P1 P2:Nat→Value→Prop} {S1 S2:Nat→Heap→Prop} {a b:Value}
end
open AutoSeq1 (wpAny_loadPart')
def ItAt:Bool→Heap→Addr→Addr→Nat→Prop
 |true,h,it,l,i=>h.IsTupleIter it l i
 |false,h,it,l,i=>h.IsListIter it l i
def SqA:Bool→Heap→Addr→Array Value→Prop
 |true,h,l,xs=>h.IsTuple l xs
 |false,h,l,xs=>h.IsList l xs
def OC (k:Bool) (l:Addr):Obj:={cls:=.type (if k then "tuple_iterator" else "list_iterator"),data:=.fields #[.ref l,.int 0 0]}
theorem ItAt.obj {k:Bool} {h:Heap} {it l:Addr} {i:Nat} (x:ItAt k h it l i):∃o,h.get? it=some o∧∀v,o.data≠.cell v:=by
 cases k
 ·obtain ⟨o,e,c,d⟩:=x
  exact ⟨o,e,fun v z=>by rw [d] at z;cases z⟩
 ·obtain ⟨o,e,c,d⟩:=x
  exact ⟨o,e,fun v z=>by rw [d] at z;cases z⟩
theorem ItAt.at {k:Bool} {h h':Heap} {it l:Addr} {i:Nat} (x:ItAt k h it l i) (f:∀o,h.get? it=some o→h'.get? it=some o):ItAt k h' it l i:=by
 cases k
 ·exact Heap.IsListIter.at x f
 ·exact Heap.IsTupleIter.at x f
section
variable {X:Cx} {pins:List (Addr×Obj)} {σ:L2.St} {H:Hp} {s:Shared}
end
theorem SqA.push {k:Bool} {h:Heap} {l:Addr} {xs:Array Value} (x:SqA k h l xs) (o:Obj):SqA k (h.push o) l xs:=by
 cases k
 ·exact Heap.IsList.push x o
 ·exact Heap.IsTuple.push x o
theorem ItAt.new {k:Bool} {h:Heap} {it l:Addr} (e:h.get? it=some (OC k l)):ItAt k h it l 0:=by
 cases k
 ·exact ⟨_,e,rfl,rfl⟩
 ·exact ⟨_,e,rfl,rfl⟩
section
variable {X:Cx} {E:XK}
def OD (xs ys:List D):List D:=List.zipWith (fun a b=>.tup [a,b]) xs ys
def J9:D→HD→Option (List D×Ay)
 |.tup xs,_=>some (xs,[])
 |.loc l,h=>match h[l]? with
  |some (.lst xs)=>some (xs,[(l,xs)])
  |_=>none
 |_,_=>none
def Ka:List D→HD→Out (List D×Ay):=fun ds h=>match ds with
 |[x,y]=>match J9 x h,J9 y h with
  |some (xs,s1),some (ys,s2)=>.ok (OD xs ys,s1++s2) h
  |_,_=>.stuck
 |_=>.stuck
def Kb (fa:MA):MI:=fun ρ h=>(fa ρ h).bind Ka
end
end LS
namespace LS
open PySem PySem.Spec PyProof.Rows L2
section
variable {ρ:Ae} {h:HD} {QI:(List D×Ay)→HD→Prop} {Q:D→HD→Prop} {QO:Option Int→HD→Prop} {QS:Fl×Ae→HD→Prop} {f fo fi fv:ME} {lo hi:MO} {fa:MA}
@[simp] theorem OE:Wp (Ep fa ρ h) QI=Wp (fa ρ h) fun d h1=>Wp (Eo d h1) QI:=by unfold Ep;rw [Al]
@[simp] theorem S8:Wp (Kb fa ρ h) QI=Wp (fa ρ h) fun d h1=>Wp (Ka d h1) QI:=by unfold Kb;rw [Al]
@[simp] theorem S9:Wp (J3 f lo hi ρ h) Q=Wp (f ρ h) fun x h1=>Wp (lo ρ h1) fun l h2=>Wp (hi ρ h2) fun u h3=>Wp (J2 x l u h3) Q:=by unfold J3;simp only [Al]
@[simp] theorem Ta:Wp (Oy ρ h) QO=QO none h:=id rfl
@[simp] theorem Tb:Wp (J1 f ρ h) QO=Wp (f ρ h) fun x h1=>Wp (match x with
  |.int i=>(.ok (some i) h1:Out (Option Int))
  |_=>.stuck) QO:=by unfold J1;rw [Al]<;>rfl
@[simp] theorem Tc:Wp (J6 fo fi fv ρ h) QS=Wp (fo ρ h) fun o h1=>Wp (fi ρ h1) fun i h2=>Wp (J5 o i h2) fun x h3=>Wp (fv ρ h3) fun y h4=>Wp (J4 o i x y ρ h4) QS:=by unfold J6;simp only [Al]
theorem OF {n:Nat} {e:Nat→D}:BX ((List.range n).map e)=(List.range n).map fun k=>D.tup [.int ((k:Nat):Int),e k]:=by
 unfold BX
 apply List.ext_getElem
 ·simp
 ·intro i h1 h2;simp
theorem OG {n l:Nat} {e:Nat→D} (he:h[l]?=some (.lst ((List.range n).map e))):Eo [.loc l] h=.ok ((List.range n).map fun k=>D.tup [.int ((k:Nat):Int),e k],[(l,(List.range n).map e)]) h:=by
 simp only [Eo,he,OF]
end
noncomputable def OH (cs:List (Option Nat)) (it:MI) (sg:MG) (t:MT) (f:ME):ME:=Ai (AF Ju) (Aa (A2 cs it sg t f) Ac)
noncomputable def OI (F:List Int→Int) (cs:List (Option Nat)) (it:MI) (sg:MG) (t:MT) (f:ME):ME:=Ai (AF (J7 F)) (Aa (A2 cs it sg t f) Ac)
section
variable {α:Type} {cs:List (Option Nat)} {it:MI} {sg:MG} {t:MT} {f:ME} {ρ:Ae} {h:HD} {src:Ay} {xs:List α} {φ:α→D} {F:List Int→Int}
@[simp] theorem Td:Ai (AF Ju) (Aa (A2 cs it sg t f) Ac) ρ h=OH cs it sg t f ρ h:=rfl
@[simp] theorem Te:Ai (AF (J7 F)) (Aa (A2 cs it sg t f) Ac) ρ h=OI F cs it sg t f ρ h:=rfl
end
section
variable {X:Cx} {E:XK}
end
section
variable {X:Cx}
def Kc:D→HD→Out D:=fun x h=>match x with
 |.loc l=>match h[l]? with
  |some (.lst ds)=>match AG (ds.map Jv) with
   |some bs=>.ok (.bl (bs.any id)) h
   |none=>.stuck
  |_=>.stuck
 |_=>.stuck
end
noncomputable def OJ (cs:List (Option Nat)) (it:MI) (sg:MG) (t:MT) (f:ME):ME:=Ai (AF Kc) (Aa (A2 cs it sg t f) Ac)
section
variable {α:Type} {cs:List (Option Nat)} {it:MI} {sg:MG} {t:MT} {f:ME} {ρ:Ae} {h:HD} {src:Ay} {xs:List α} {φ:α→D}
@[simp] theorem Tf:Ai (AF Kc) (Aa (A2 cs it sg t f) Ac) ρ h=OJ cs it sg t f ρ h:=rfl
end
end LS
namespace LS
open PySem PySem.Spec PyProof.Rows L2 PySem.W
structure EC (K:Frag) (C:Addr):Prop where
 ga:findIn K (.ref C) "__getattribute__"=some (some (.builtin "BaseException.__getattribute__"))
 gt:findIn K (.ref C) "__getattr__"=some none
 cl:(clsIn K C).isSome=true
 ac:findIn K (.ref C) "__class__"=some (some (.builtin "object.__class__"))
 sg:specialIn K (.builtin "object.__class__") "__get__"=some (some (.builtin "getset_descriptor.__get__"))
 tk:takesIn K (.builtin "object.__class__")=some true
 mo:mroIn K C (.type "object")=some true
 mb:mroIn K C (.type "BaseException")=some true
section
variable {prog:Program} {w:World} {A:Around} {E:Value→Shared→Prop} {s:Shared} {K:Frag} {x C:Addr} {ox:Obj} {od:Option Obj}
def TyAt (x C:Addr) (h:Heap):Prop:=∃o,h.get? x=some o∧o.cls=.ref C
theorem TyAt.type {M:Model} {h:Heap} (t:TyAt x C h):Looks M h (typeOf (.ref x)) (.ref C):=by
 obtain ⟨o,h1,h2⟩:=t
 exact h2 ▸ (Looks.ld h1).andThen .now
theorem OK {M:Model} {h:Heap} (c:EC K C) (X:K.In h):Looks M h (Builtin.ObjectAttr.find (.ref x) (.ref C) "__class__") (.bind (.builtin "getset_descriptor.__get__") (.builtin "object.__class__")):=by
 have L1:=looks_findIn (M:=M) X c.ac
 have L2:Looks M h (Builtin.ObjectAttr.getOf (some (.builtin "object.__class__"))) (some (.builtin "getset_descriptor.__get__")):=looks_specialIn X c.sg
 have L3:=looks_takesIn (M:=M) X c.tk
 refine L1.andThen (L2.andThen ?_)
 exact (show Looks M h (Builtin.ObjectAttr.dataDescriptor? (some (.builtin "object.__class__")) (some (.builtin "getset_descriptor.__get__"))) (some (.builtin "getset_descriptor.__get__",.builtin "object.__class__")) from L3.andThen .now).andThen (Looks.tag .now)
theorem OL {R:Result→Shared→Prop} {tp:Value} (X:K.In s.heap) (I:TyAt x C s.heap) (hm:mroIn K C (.type "object")=some true)
 (h:R (.ok (.ret (.ref C))) s):codeAny (model prog w) A (.call (.builtin "getset_descriptor.__get__") ⟨[.builtin "object.__class__",.ref x,tp],[]⟩) R s:=by
 obtain ⟨hh,g,dr,t,os⟩:=s
 have L0:=I.type (M:=model prog w)
 have L1:=looks_mroIn (M:=model prog w) X hm
 refine codeAny_call_builtin KF.slot_gs.plain KF.entry_gs (KF.slot_gs.check _ _ _ _ _ _ _ _ KF.type_class (KF.args_gs _ _ _) ?_)
 unfold Builtin.«getset_descriptor.__get__» Builtin.Getset_descriptor.descrGet
 rw [dga_obj]
 refine wpAny_bind (wpAny_pure ?_)
 unfold Builtin.Getset_descriptor.descrGetter Builtin.Getset_descriptor.descrCheckInstance Builtin.Getset_descriptor.descrNameAndClass isInstance
 simp only [KF.owner_class]
 repeat lk
 refine ⟨Code.quiet_builtin _ (by decide +kernel),codeAny_builtin KF.entry_class ?_⟩
 unfold Builtin.«object.__class__» shownTypeOf
 repeat lk
 exact h
theorem OM {Q:Option Value→Shared→Prop} (c:EC K C) (X:K.In s.heap) (I:TyAt x C s.heap) (h:Q (some (.ref C)) {s with toks:=s.toks+1}):wpAny (model prog w) A (getAttr? (.ref x) "__class__") Q E s:=by
 obtain ⟨hh,g,d,t,os⟩:=s
 have L0:=I.type (M:=model prog w)
 have L1:=looks_findIn (M:=model prog w) X c.ga
 have L2:=looks_findIn (M:=model prog w) X c.gt
 have LF:=OK (M:=model prog w) (x:=x) c X
 have LB:=looks_mroIn (M:=model prog w) X c.mb
 have ha:=F.args_bexc_ga (.ref x) (.str "__class__" t)
 have hk:builtinKind "BaseException.__getattribute__"=some .slot:=by decide +kernel
 have hsplit:splitId "BaseException.__getattribute__"=some ("BaseException","__getattribute__"):=by decide +kernel
 have hx2:(Value.builtin "BaseException.__getattribute__"==Value.builtin "object.__getattribute__")=false:=by decide +kernel
 have hx1:(onTheHeap (Value.ref C)&&Value.builtin "BaseException.__getattribute__"==Value.builtin "object.__getattribute__")=false:=by rw [hx2];rfl
 unfold getAttr? getAttrBy? getAttrBy
 refine wpAny_bind (wpAny_mkText (wpAny_bind (wpAny_attempt (wpAny_holding (wpAny_bind (L0.at (wpAny_bind (L1.at ?_))))))))
 dsimp only
 rw [hx1]
 simp only [BN,if_false]
 unfold getAttrByItsOwn hookBefore
 refine wpAny_bind ?_
 show wpAny _ _ (typeLookup (.ref C) "__getattr__") _ _ _
 refine L2.at ?_
 refine wpAny_bind (wpAny_attempt (wpAny_holding ?_))
 unfold callGetattribute boundAndCalled
 simp only [Bool.false_and,BN,if_false]
 rw [PySem.F.attr_ValueError.ga.bind (.ref x)]
 refine wpAny_bind (wpAny_pure (wpAny_call (codeAny_call_builtin PySem.F.attr_ValueError.ga.plain F.entry_bexc_ga ?_)))
 simp only [checkBuiltinCall,hk,hsplit]
 refine wpAny_bind ?_
 unfold isInstance
 refine wpAny_bind (L0.at (LB.at ?_))
 wp_step
 unfold Builtin.«object.__getattribute__»
 repeat lk
 refine wpAny_run (OL (s:=⟨hh,g,d,t+1,os⟩) X I c.mo ?_) (by intro z;cases z)
 refine wpAny_pure (wpAny_pure ?_)
 exact handed_on rfl (wpAny_pure h)
theorem ON (c:EC K C):KitX K (.ref x) (.ref C) (TyAt x C) where
 ty:=fun _ _ _ I=>I.type
 it:=fun _ _ X _=>by
  obtain ⟨cdD,hcD⟩:=qaZ.mp c.cl
  unfold clsIn at hcD
  split at hcD
  ·rename_i c' d' cd' sl' ho
   intro A' Q' E' s' k q
   unfold isType loadHead
   exact wpAny_bind (wpAny_loadPart (k _ _ (X _ _ ho)) (wpAny_pure q))
  ·cases hcD
 ne:=fun h tp dd its n sl X htp=>by
  obtain ⟨cdD,hcD⟩:=qaZ.mp c.cl
  refine Bool.eq_false_iff.mpr fun q=>?_
  have e:C=tp:=Value.ref.inj (beq_iff_eq.mp q)
  subst e
  unfold clsIn at hcD
  split at hcD
  ·rename_i c' d' cd' sl' ho
   have z:=(X _ _ ho).symm.trans htp
   cases z
  ·cases hcD
 ca:=fun X I k=>OM c X I k
end
def excNames:List Str:=["NoBoard","NoLine","NoSwitching","NoNumber","Unlike","NoNet","NoPlace","NoText","NoRow","TooMany","SwitchError"]
def AH (n n':Str):Bool:=n==n'||n'=="SwitchError"
def Hi (K:Frag) (C:Addr):Bool:=
 findIn K (.ref C) "__getattribute__"==some (some (.builtin "BaseException.__getattribute__"))&&findIn K (.ref C) "__getattr__"==some none&&(clsIn K C).isSome&&
 findIn K (.ref C) "__class__"==some (some (.builtin "object.__class__"))&&specialIn K (.builtin "object.__class__") "__get__"==some (some (.builtin "getset_descriptor.__get__"))&&
 takesIn K (.builtin "object.__class__")==some true&&mroIn K C (.type "object")==some true&&mroIn K C (.type "BaseException")==some true
theorem OO {K:Frag} {C:Addr} (h:Hi K C=true):EC K C:=by
 unfold Hi at h
 simp only [BE,beq_iff_eq] at h
 obtain ⟨⟨⟨⟨⟨⟨⟨h1,h2⟩,h3⟩,h4⟩,h5⟩,h6⟩,h7⟩,h8⟩:=h
 exact ⟨h1,h2,h3,h4,h5,h6,h7,h8⟩
def Cm (K:Frag) (n:Str):Option Addr:=match nsIn K mainGlobals n with
 |some (some (.ref C))=>some C
 |_=>none
theorem Kd {K:Frag} {n:Str} {C:Addr} (h:Cm K n=some C):nsIn K mainGlobals n=some (some (.ref C)):=by
 unfold Cm at h
 split at h
 ·rename_i e;cases h;exact e
 ·cases h
def Hj (K:Frag) (n:Str) (C S:Addr):Bool:=
 Hi K C&&kitOne K (.ref C) (.type "ValueError")==some true&&(n=="TooMany"||Hh K C FM "ValueError.__new__")&&exmOne K (.ref C) (.ref S)==some true&&
  excNames.all fun n'=>match Cm K n' with
   |some C'=>kitOne K (.ref C) (.ref C')==some (AH n n')
   |none=>false
def etOk (K:Frag):Bool:=match Cm K "SwitchError" with
 |some S=>excNames.all fun n=>match Cm K n with
  |some C=>Hj K n C S
  |none=>false
 |none=>false
structure ET (K:Frag) (n:Str) (C:Addr):Prop where
 ec:EC K C
 ve:kitOne K (.ref C) (.type "ValueError")=some true
 at_:n≠"TooMany"→JW K C FM "ValueError.__new__"
 sw:∀S,nsIn K mainGlobals "SwitchError"=some (some (.ref S))→exmOne K (.ref C) (.ref S)=some true
 sub:∀n' C',n'∈excNames→nsIn K mainGlobals n'=some (some (.ref C'))→kitOne K (.ref C) (.ref C')=some (AH n n')
theorem Hk {K:Frag} (h:etOk K=true) {n:Str} {C:Addr} (hn:n∈excNames) (hC:nsIn K mainGlobals n=some (some (.ref C))):ET K n C:=by
 unfold etOk at h
 split at h
 ·rename_i S hS
  have h1:=qaL.mp h n hn
  have e:Cm K n=some C:=by unfold Cm;rw [hC]
  rw [e] at h1
  have h1:Hj K n C S=true:=h1
  unfold Hj at h1
  simp only [BE,beq_iff_eq,Bool.or_eq_true] at h1
  obtain ⟨⟨⟨⟨a1,a2⟩,a3⟩,a4⟩,a5⟩:=h1
  refine ⟨OO a1,a2,fun z=>Ow (a3.resolve_left z),fun S' hS'=>?_,fun n' C' hn' hC'=>?_⟩
  ·have:=Kd hS
   rw [this] at hS'
   cases hS'
   exact a4
  ·have z:=qaL.mp a5 n' hn'
   have e':Cm K n'=some C':=by unfold Cm;rw [hC']
   rw [e'] at z
   exact beq_iff_eq.mp z
 ·cases h
section
variable {X:Cx} {E:XK}
theorem OP {x:Str} {a:Addr} {pos:Pos} (hg:Gl X x) (hn:nsIn X.K mainGlobals x=some (some (.ref a))) (hd:(x==("__debug__":Str))=false:=by decide):Ev X E (.Name x pos) (mC (.glo x)):=
 fun pins s σ H Q I z1_=>by obtain ⟨m,ρ,h,hr,er,p⟩:=z1_;exact (D5 I hg (mg_of I.mod.kin I.mod.glob hn) ⟨.ref a,H,I,rfl,p (.ref a) m H (Au _) (.refl _) hr (by simp only [rD,DV];exact ⟨a,rfl,hn⟩)⟩ hd)
def FP {α:Type}:Out α→Prop
 |.err _ _ _=>False
 |_=>True
theorem Post.noE {α β:Type} {K:Frag} {R:List Addr→Hp→α→β→Prop} {m:List Addr} {H:Hp} {E E':XK} {Q:β→Hp→Prop} {o:Out α} (n:FP o) (h:Post K R m H E Q o):Post K R m H E' Q o:=by
 cases o with
 |ok a h1=>exact h
 |err C fs h1=>exact False.elim n
 |stuck=>exact h
theorem Ke {f:Value} {F:List D→HD→Out D} (hF:∀ds h,FP (F ds h))
 (hc:∀(pins:List (Addr×Obj)) (s:Shared) (σ:L2.St) (H:Hp) (m:List Addr) (h:HD) (ds:List D) (vs:List V) (us:List Value) (Q:VK),Inv X pins σ H s→HR X.K m h H→DVs X.K m H ds vs→Vals vs us→Post X.K (rD X.K) m H E0 Q (F ds h)→
  wpAny (model X.prog X.w) X.A (call f us) (EP X pins σ Q) X.xe s):CI X f F:=
 ⟨fun vs H Q=>∃m h ds,HR X.K m h H∧DVs X.K m H ds vs∧Post X.K (rD X.K) m H E0 Q (F ds h),fun pins s σ H vs us Q I r z2_=>by obtain ⟨m,h,ds,hr,rd,q⟩:=z2_;exact (hc pins s σ H m h ds vs us Q I hr rd r q),fun m H h E ds vs Q hr rd q=>⟨m,h,ds,hr,rd,Post.noE (hF ds h) q⟩⟩
def An:D→D→HD→Out D:=fun x y h=>match x with
 |.exc n _=>(match y with
  |.glo n'=>if n∈excNames∧n'∈excNames then .ok (.bl (AH n n')) h else .stuck
  |.ty T=>if n∈excNames∧T="ValueError" then .ok (.bl true) h else .stuck
  |_=>.stuck)
 |.edic=>(match y with
  |.ty T=>(match Fx "dict" T with
   |some b=>.ok (.bl b) h
   |none=>.stuck)
  |_=>.stuck)
 |_=>AY x y h
theorem OQ (pins:List (Addr×Obj)) (s:Shared) (σ:L2.St) (H:Hp) (m:List Addr) (h:HD) (x y:D) (v v':V) (u u':Value) (Q:VK) (I:Inv X pins σ H s) (hr:HR X.K m h H) (rx:DV X.K m H x v) (ry:DV X.K m H y v') (r:RelV v u) (r':RelV v' u')
 (q:Post X.K (rD X.K) m H E0 Q (AY x y h)):wpAny (model X.prog X.w) X.A (call (.builtin "isinstance") [u,u']) (EP X pins σ Q) X.xe s:=by
 unfold AY at q
 split at q
 ·rename_i T t et
  split at q
  ·rename_i b eb
   simp only [DV] at ry
   subst ry
   cases (show u'=Value.type T from r')
   exact Ms I r (NS hr rx et) (Js eb) fun tk=>⟨.bl b,H,I.tok _,rfl,AO hr q (by simp [DV])⟩
  ·exact q.elim
 ·exact q.elim
theorem BA (et:etOk X.K=true):CI X (.builtin "isinstance") (AB An):=by
 refine Ke (fun ds h=>?_) fun pins s σ H m h ds vs us Q I hr rd r q=>Fo rd q fun x y v v' ev rx ry q=>?_
 ·unfold AB An AY
  repeat' split
  all_goals trivial
 ·subst ev
  obtain ⟨u,u',rfl,r1,r2⟩:=E7 r
  unfold An at q
  split at q
  ·rename_i n fs
   simp only [DV] at rx
   obtain ⟨a,C,da,rfl,hC,ha,_⟩:=rx
   cases (show u=Value.ref a from r1)
   obtain ⟨⟨o,ws,ho,hcl,hdi,hdat⟩,_⟩:=(show ObjOk X.prog X.w H s.heap a (.ext (CZ C da a)) from I.hok a _ ha)
   have key:∀(c:Value) (b:Bool),EC X.K C→kitOne X.K (.ref C) c=some b→Q (.bl b) H→wpAny (model X.prog X.w) X.A (call (.builtin "isinstance") [.ref a,c]) (EP X pins σ Q) X.xe s:=by
    intro c b ec e q
    exact kia_one (ON ec) I.kIn ⟨o,ho,hcl⟩ e (fun z=>nomatch z) fun tk=>⟨.bl b,H,I.tok _,rfl,q⟩
   split at q
   ·rename_i n'
    split at q
    ·rename_i hn
     simp only [DV] at ry
     obtain ⟨C',rfl,hC'⟩:=ry
     cases (show u'=Value.ref C' from r2)
     have t:=Hk et hn.1 hC
     exact key _ _ t.ec (t.sub n' C' hn.2 hC') (AO hr q (by simp [DV]))
    ·exact q.elim
   ·rename_i T
    split at q
    ·rename_i hn
     simp only [DV] at ry
     subst ry
     cases (show u'=Value.type T from r2)
     obtain ⟨hn,rfl⟩:=hn
     have t:=Hk et hn hC
     exact key _ _ t.ec t.ve (AO hr q (by simp [DV]))
    ·exact q.elim
   ·exact q.elim
  ·split at q
   ·rename_i T
    split at q
    ·rename_i b eb
     simp only [DV] at rx ry
     obtain ⟨a,rfl,ha⟩:=rx
     subst ry
     cases (show u=Value.ref a from r1)
     cases (show u'=Value.type T from r2)
     obtain ⟨⟨_,o,ep,ho,hx,hd⟩,_⟩:=(show ObjOk X.prog X.w H s.heap a (.ext (Iz a)) from I.hok a _ ha)
     exact kia_one kitx_dict I.kIn ⟨o,ho,hx.1⟩ (Js eb) (fun z=>nomatch z) fun tk=>⟨.bl b,H,I.tok _,rfl,AO hr q (by simp [DV])⟩
    ·exact q.elim
   ·exact q.elim
  ·exact OQ pins s σ H m h x y v v' u u' Q I hr rx ry r1 r2 q
end
section
variable {X:Cx} {E:XK}
def DP (chk:D→HD→Out D) (op:D→D→HD→Out D) (f g:ME):ME:=fun ρ h=>((f ρ h).bind chk).bind fun x h1=>(g ρ h1).bind fun y h2=>op x y h2
def Kf (X:Cx) (T:String) (x:V) (H:Hp):Prop:=∀(pins:List (Addr×Obj)) (σ:L2.St) (s:Shared) (u:Value),Inv X pins σ H s→RelV x u→s.TypeIs u T∧∀a,u=.ref a→∃ob,s.heap.get? a=some ob∧ob.dict=none
def OR (X:Cx) (T:String) (r:V→List V→Hp→VK→Prop) (to:TE) (t:TA):TE:=fun σ H Q=>to σ H fun x H1=>Kf X T x H1∧t σ H1 fun xs H2=>r x xs H2 Q
theorem OT {o e:Expr} {es:List Expr} {to:TE} {t:TA} {name:Str} {apos cpos:Pos} {T id:String} {r:V→List V→Hp→VK→Prop} (pa:PlainAttrs T) (slot:Slot T name id) (hty:typeOf (.builtin id)=pure (.type "method_descriptor")) (hm:Io X id r) (ho:PE X o to) (ha:PA X (e::es) t)
 (hbase:attributeBase o name X.env (eval o X.env)=eval o X.env:=by rfl)
 (hfew:((backTo cpos (starEach (e::es) X.env)).all (fun x=>!x.1)&&(backToKw cpos (keywordEach [] X.env)).all (fun x=>x.1.isSome)
  &&decide ((e::es).length+([]:List Keyword).length+(if ([]:List Keyword).isEmpty then 0 else 1)<30))=true:=by rfl)
 (hline:(apos.endLine==cpos.line)=true:=by rfl) (hs:starEach (e::es) X.env=(false,eval e X.env)::starEach es X.env:=by rfl) (hplain:(backTo cpos (starEach es X.env)).any (·.1)=false:=by rfl):
 PE X (.Call (.Attribute o name apos) (e::es) [] cpos) (OR X T r to t):=by
 intro pins s σ H Q I h
 refine wpAny_Call_method_late hbase hfew hline rfl (Am (ho pins s σ H _ I h) fun v s1 z1_=>?_)
 obtain ⟨x,H1,I1,r1,ty,q1⟩:=z1_
 obtain ⟨h1,h2⟩:=ty pins σ s1 v I1 r1
 refine ⟨T,id,pa,slot,hty,h1,h2,?_⟩
 have hA:=ha cpos pins s1 σ H1 _ I1 q1
 rw [hs] at hA ⊢
 refine Calls.callWith_builtin (by show (false||(backTo cpos (starEach es X.env)).any (·.1))=false;rw [hplain]<;>rfl) (Calls.evalArgs_plain ?_)
 exact Am hA fun us s2 z2_=>by obtain ⟨vs,H2,I2,r2,q2⟩:=z2_;exact (hm pins s2 σ H2 x vs v us Q I2 r1 r2 q2)
structure Kg (X:Cx) (T:String) (chk:D→HD→Out D):Prop where
 two:∀x h,chk x h=.ok x h∨chk x h=.stuck
 ty:∀m H h x v,HR X.K m h H→DV X.K m H x v→chk x h=.ok x h→Kf X T v H
def Kh (X:Cx) (id:String) (op:D→D→HD→Out D):Prop:=
 ∀(pins:List (Addr×Obj)) (s:Shared) (σ:L2.St) (H:Hp) (m:List Addr) (h:HD) (x y:D) (v yv:V) (u uy:Value) (Q:VK),Inv X pins σ H s→HR X.K m h H→DV X.K m H x v→DV X.K m H y yv→RelV v u→RelV yv uy→Post X.K (rD X.K) m H E0 Q (op x y h)→
  wpAny (model X.prog X.w) X.A (call (.builtin id) [u,uy]) (EP X pins σ Q) X.xe s
theorem OU {o e:Expr} {f g:ME} {name:Str} {T id:String} {chk:D→HD→Out D} {op:D→D→HD→Out D} {apos cpos:Pos} (pa:PlainAttrs T) (slot:Slot T name id) (hty:typeOf (.builtin id)=pure (.type "method_descriptor"))
 (hc:Kg X T chk) (hn:∀x y h,FP (op x y h)) (hm:Kh X id op) (ho:Ev X E o f) (he:Ev X E e g)
 (hbase:attributeBase o name X.env (eval o X.env)=eval o X.env:=by rfl)
 (hfew:((backTo cpos (starEach [e] X.env)).all (fun x=>!x.1)&&(backToKw cpos (keywordEach [] X.env)).all (fun x=>x.1.isSome)
  &&decide ([e].length+([]:List Keyword).length+(if ([]:List Keyword).isEmpty then 0 else 1)<30))=true:=by rfl)
 (hline:(apos.endLine==cpos.line)=true:=by rfl) (hs:starEach [e] X.env=(false,eval e X.env)::starEach [] X.env:=by rfl) (hplain:(backTo cpos (starEach [] X.env)).any (·.1)=false:=by rfl):
 Ev X E (.Call (.Attribute o name apos) [e] [] cpos) (DP chk op f g):=by
 have hr:Io X id (fun v vs H Q=>∃m h x y yv,vs=[yv]∧HR X.K m h H∧DV X.K m H x v∧DV X.K m H y yv∧Post X.K (rD X.K) m H E0 Q (op x y h)):=by
  rintro pins s σ H v vs u us Q I r rs ⟨m,h,x,y,yv,ev,hr,rx,ry,q⟩
  subst ev
  obtain ⟨uy,rfl,r2⟩:=GE rs
  exact hm pins s σ H m h x y v yv u uy Q I hr rx ry r r2 q
 refine BR (OT pa slot hty hr ho (Ad he Aj hs) hbase hfew hline hs hplain) fun σ H Q z3_=>?_
 obtain ⟨m,ρ,h,hr,er,p⟩:=z3_
 refine ⟨m,ρ,h,hr,er,?_⟩
 unfold DP at p
 rw [Out.bind_assoc] at p
 refine Post.bind p fun x h1 v m1 H1 eo p1 k1 hr1 r1 q1=>?_
 clear eo
 rcases hc.two x h1 with ec |ec
 ·rw [ec] at q1
  simp only [Out.bind_ok] at q1
  refine ⟨hc.ty m1 H1 h1 x v hr1 r1 ec,m1,ρ,h1,hr1,er.keep p1 k1,?_⟩
  have q2:Post X.K (rD X.K) m1 H1 E Q ((Aa g Ac ρ h1).bind fun ys h2=>match ys with
   |[y]=>op x y h2
   |_=>.stuck):=by
   unfold Aa Ac
   rw [Out.bind_assoc]
   exact q1
  refine Post.bind q2 fun ys h2 vs m2 H2 eo p2 k2 hr2 r2 q3=>?_
  clear eo
  split at q3
  ·rename_i y
   simp only [Cu,DVs] at r2
   obtain ⟨yv,w,rfl,ry,rfl⟩:=r2
   exact ⟨m2,h2,x,y,yv,rfl,hr2,DV.keep p2 k2 r1,ry,Post.noE (hn x y h2) q3⟩
  ·exact q3.elim
 ·rw [ec] at q1
  exact q1.elim
def OV (x:V) (xs:List V):Nat:=xs.countP fun y=>Cd y x
def Ki:D→D→HD→Out D:=fun x y h=>match Ba x h with
 |none=>.stuck
 |some ds=>match Ci y,AG (ds.map Ci) with
  |some v,some vs=>.ok (.int (OV v vs)) h
  |_,_=>.stuck
def Tg:D→D→HD→Out D:=fun x y h=>(G5 x h).bind fun _ _=>Ki x y h
def OW (x:V) (xs:List V):Option Nat:=xs.findIdx? fun y=>Cd y x
def Th:D→D→HD→Out D:=fun x y h=>match x with
 |.loc l=>(match h[l]? with
  |some (.lst ds)=>(match Ci y,AG (ds.map Ci) with
   |some v,some vs=>(match OW v vs with
    |some j=>.ok (.int j) h
    |none=>.stuck)
   |_,_=>.stuck)
  |_=>.stuck)
 |_=>.stuck
end
theorem HR.tab {K:Frag} {m:List Addr} {h:HD} {H H':Hp} {P:Addr} (r:HR K m h H) (k:Kp H H') (s:∀b,b≠P→H b≠none→H' b=H b) (t:TabIs K H' P) (tt:TabIs K H P):HR K m h H':=by
 refine ⟨r.len,r.nd,fun l c a e q=>?_⟩
 have hm:a∈m:=Du q
 have hn:H a≠none:=r.mem hm
 have:=r.cells l c a e q
 cases c with
 |lst ds=>
  obtain ⟨vs,e1,e2⟩:=this
  have ha:a≠P:=by
   rintro rfl
   obtain ⟨_,ps,z,_⟩:=tt
   rw [z] at e1;cases e1
  exact ⟨vs,by rw [s a ha hn];exact e1,e2.keep (Au _) k⟩
 |tab=>
  by_cases ha:a=P
  ·subst ha;exact t
  ·exact TabIs.keep this k (s a ha hn)
structure LamX (X:Cx) (c P:Addr):Prop where
 code:X.env.code=.ref c
 tp:tabP X.K=some (c,P)
 hd:codeHdIn X.K c P=true
 qual:X.env.qual="law.<locals>."
 bm:∃bm o,X.mg "__builtins__"=some (.ref bm)∧bm≠builtinsNs∧X.base.get? bm=some o∧o.cls=.type "module"∧o.dict=some builtinsNs∧o.data=.plain
section
variable {X:Cx} {E:Value→Shared→Prop} {c P:Addr} {pins:List (Addr×Obj)} {σ:L2.St} {H:Hp} {s:Shared}
theorem LamX.builtins (L:LamX X c P) (I:Inv X pins σ H s) (t:TabIs X.K H P):s.heap.BuiltinsAt X.mg P:=by
 obtain ⟨bm,o,h1,h2,h3,h4,h5,h6⟩:=L.bm
 obtain ⟨e,n⟩:=I.bs bm o h3
 refine ⟨bm,o,h1,h2,fun z=>?_,fun z=>?_,e,h4,h5,h6⟩
 ·obtain ⟨og,es,ep,e1,e2,_⟩:=I.mod.glob
  rw [z,e1] at h3
  cases h3
  rw [e2] at h6;cases h6
 ·obtain ⟨_,ps,q,_⟩:=t
  rw [z,q] at n;cases n
abbrev DQ:Str:="law.<locals>.<lambda>"
end
def Ti (P:Program) (w:World) (K:Frag) (mg:Str→Option Value) (base:Heap) (N:List Str) (scope:Scope) (a:Addr) (cd:Value) (cl:List (Str×Addr)) (A:Around) (outer:List Env) (s:Shared) (H:Hp) (E:XK):Cx where
 prog:=P
 w:=w
 K:=K
 mg:=mg
 base:=base
 A:=A.deeper (envX DQ scope s.heap.objs.size a cd cl)
 N:=N
 s₀:=s
 H₀:=H
 env:=envX DQ scope s.heap.objs.size a cd cl
 outer:=outer
 stack:=envX DQ scope s.heap.objs.size a cd cl::outer
 ex:=[]
 calm:=true
 fn:=fun _=>false
 pn:=[]
 xe:=fun e s'=>wpAny (model P w) (A.deeper (envX DQ scope s.heap.objs.size a cd cl)) (leaving (envX DQ scope s.heap.objs.size a cd cl) e) (fun _ s''=>Aw P w K outer H s E e s'') (fun e' s''=>Aw P w K outer H s E e' s'') s'
structure OX (h:Heap) (H:Hp) (outer:List Env) (N:List Str) (scope:Scope) (cl:List (Str×Addr)) (vs:List V):Prop where
 len:vs.length=N.length
 inj:∀x y c,cl.lookup x=some c→cl.lookup y=some c→x=y
 has:∀x,scope.names.lookup x=some .free→∃c,cl.lookup x=some c
 cell:∀x c,cl.lookup x=some c→(∃v,h.IsCell c v)∧H c=none∧c∉frs outer
 val:∀(i:Nat) (x:Str) (v:V),N[i]?=some x→vs[i]?=some v→scope.names.lookup x=some .free∧∃c u,cl.lookup x=some c∧h.IsCell c (some u)∧RelV v u
structure OY (scope:Scope):Prop where
 kind:scope.kind=.function
 co:scope.isCoroutine=false
 gen:scope.isGenerator=false
 only:(scope.names.all fun y=>y.2 != .cell)=true
section
variable {P:Program} {w:World} {K:Frag} {mg:Str→Option Value} {base:Heap} {N:List Str} {scope:Scope} {a c':Addr} {pm ctv:Value} {params:Arguments} {body:Expr} {cl:List (Str×Addr)} {A:Around} {outer:List Env} {s:Shared} {H:Hp} {E:XK} {vs:List V}
end
structure RoomM (k:Nat) (A:Around):Prop where
 dp:A.depth+3*k+5<recursionLimit
 un:A.units+16*k+200<cLine
 gd:A.guards=some []
theorem RoomM.deeper {k:Nat} {A:Around} (r:RoomM (k+1) A) (env:Env):RoomM k (A.deeper env):=
 ⟨by have:=r.dp;show A.depth+1+3*k+5<_;omega,by have:=r.un;show A.units+3+16*k+200<_;omega,r.gd⟩
theorem RoomM.units {k:Nat} {A:Around} (r:RoomM k A):A.units+64<cLine:=by have:=r.un;omega
theorem RoomM.mono {j k:Nat} {A:Around} (r:RoomM k A) (h:j≤k):RoomM j A:=⟨by have:=r.dp;omega,by have:=r.un;omega,r.gd⟩
theorem RoomM.of {k:Nat} {A:Around} (r:Room k A) (e:Option Value):RoomM k (A.mark e):=⟨r.dp,r.un,r.gd⟩
def Tj (P:Program) (w:World) (K:Frag) (mg:Str→Option Value) (base:Heap) (N:List Str) (qual:Str) (scope:Scope) (f:Addr) (cd:Value) (A:Around) (outer:List Env) (s:Shared) (H:Hp):Cx:=
 {A0 Iv P w K mg base N qual scope f cd A outer s H E0 with calm:=false,xe:=fun _ _=>False}
structure OZ (P:Program) (w:World) (K:Frag) (mg:Str→Option Value) (base:Heap) (k:Nat) (f:Addr) (fd:FuncData) (ps:List Str) (F:List D→HD→Out D):Prop where
 run:∀(A:Around) (outer:List Env) (s:Shared) (H:Hp) (args:Args) (us:List Value) (vs:List V) (Q:VK),RoomM k A→Env0 P w K mg base A outer s H→BindsTo s fd args (ps.zip us)→Vals vs us→GR K F vs H Q E0→
  codeAny (model P w) A (.call (.ref f) args) (CR Iv outer P w H s Q E0) s
structure CaM (P:Program) (w:World) (K:Frag) (mg:Str→Option Value) (base:Heap) (x:Str) (k:Nat) (F:List D→HD→Out D):Prop where
 ex:∃(f:Addr) (fd:FuncData) (ps:List Str),OZ P w K mg base k f fd ps F∧Binds K fd ps []∧mg x=some (.ref f)∧PySem.W.keepIn K (.ref f)=true∧Ar ps.length F
section
variable {X:Cx} {E:XK}
end
section
variable {X:Cx} {pins:List (Addr×Obj)} {σ:L2.St} {H:Hp} {s:Shared}
theorem Inv.track {a:Addr} {o:HO} (I:Inv X pins σ H s) (new:X.s₀.heap.get? a=none) (no:H a=none) (hL:a≠X.env.locals) (hc:∀x c,X.env.cells.lookup x=some c→c≠a) (hp:∀p∈X.pn++pins,p.1≠a) (ok:ObjOk X.prog X.w (Ag H a o) s.heap a o):
 Inv X pins σ (Ag H a o) s:=by
 have ne:∀b u,H b=some u→b≠a:=fun b u e=>AZ e no
 refine ⟨I.ok,I.os,I.bare,⟨I.base.keep,I.base.slot,fun b ob e n hx=>?_,I.base.there,fun b xs e=>?_,fun b ob u e=>?_,fun b ps e=>?_⟩,I.loc,I.cell,?_,fun x c e=>?_,fun p hp'=>?_,fun b u e=>?_,I.len⟩
 ·rw [Af (fun z=>by rw [z,new] at e;cases e)];exact I.base.free b ob e n hx
 ·have:=I.base.tups b xs e
  rw [Af (ne _ _ this)];exact this
 ·have:=I.base.frzs b ob u e
  rw [Af (ne _ _ this)];exact this
 ·obtain ⟨more,this⟩:=I.base.tbls b ps e
  exact ⟨more,by rw [Af (ne _ _ this)];exact this⟩
 ·rw [Af (Ne.symm hL)];exact I.free
 ·rw [Af (hc x c e)];exact I.freeC x c e
 ·obtain ⟨a1,a2,a3⟩:=I.pin p hp'
  exact ⟨a1,by rw [Af (hp p hp')];exact a2,a3⟩
 ·by_cases hb:b=a
  ·subst hb
   rw [AU] at e
   cases e
   exact ok
  ·rw [Af hb] at e
   exact (I.hok b u e).stay (fun _ _ _ q=>q) (fun c q=>by rw [Af (ne _ _ q)];exact q) fun c xs q=>by rw [Af (ne _ _ q)];exact q
theorem Inv.locals {σ':L2.St} {h':Heap} {m':Str→Option Value} {t':Nat} (I:Inv X pins σ H s) (hn':h'.Ns X.env.locals m') (hs:Heap.SameBut X.env.locals s.heap h')
 (hl:∀(i:Nat) (x:Str) (v:V),X.N[i]?=some x→σ'[i]?=some (some v)→BP X.env.scope x→∃u,RelV v u∧HP X.env h' m' x u) (len:σ'.length=σ.length):Inv X pins σ' H {s with heap:=h',toks:=t'}:=by
 obtain ⟨m,hn,_⟩:=id I.loc
 obtain ⟨oL,_,_,hoL,_⟩:=id hn
 have neL:∀b o,X.s₀.heap.get? b=some o→b≠X.env.locals:=fun b o e=>A6 (AC (Ap e) I.ok.above)
 refine ⟨I.ok,I.os,I.bare,⟨fun b o e n hb hx=>?_,fun b o e n hb hx=>?_,I.base.free,fun b o e hx=>?_,I.base.tups,I.base.frzs,I.base.tbls⟩,⟨_,hn',hl⟩,fun y c e=>?_,I.free,I.freeC,fun p hp=>?_,fun b ob e=>?_,len.trans I.len⟩
 ·exact (hs.2 b (neL b o e)).trans (I.base.keep b o e n hb hx)
 ·obtain ⟨sl,e1⟩:=I.base.slot b o e n hb hx
  exact ⟨sl,(hs.2 b (neL b o e)).trans e1⟩
 ·obtain ⟨o',e1⟩:=I.base.there b o e hx
  exact ⟨o',(hs.2 b (neL b o e)).trans e1⟩
 ·obtain ⟨v,z⟩:=I.cell y c e
  exact ⟨v,z.sameBut hs (I.cne y c e)⟩
 ·obtain ⟨a1,a2,a3,a4⟩:=I.pin p hp
  exact ⟨(hs.2 _ a3).trans a1,a2,a3,a4⟩
 ·refine (I.hok b ob e).stay (fun c w' hc q=>(hs.2 c ?_).trans q) (fun _ q=>q) fun _ _ q=>q
  rintro rfl
  have hfree:=I.free
  rcases hc with rfl |hc
  ·rw [hfree] at e;cases e
  ·rw [hfree] at hc;cases hc
end
def Hl:List (Str×D)→Option (List (Str×Int))
 |[]=>some []
 |(f,.int i)::r=>(Hl r).map fun l=>(f,i)::l
 |_=>none
open Classical in
noncomputable def Tn (a:Addr) (vs:List V) (Fk:List D→HD→Out D) (f:ME):MS:=fun ρ h=>match (ρ[0]?:Option (Option D)),(h[0]?:Option BH) with
 |some (some (.clo a' vs' ds)),some .tab=>if a'=a∧vs'=vs then (match f (ds.map some) h with
  |.ok _ h1=>.ok (.nx,ρ) h1
  |.err (.str n _) fs h1=>if n∈excNames then (match Hl fs with
   |some is=>(match Fk [.exc n is] h1 with
    |.ok d h2=>.ok (.nx,(ρ.set 1 (some d)).set 2 none) h2
    |_=>.stuck)
   |none=>.stuck) else .stuck
  |_=>.stuck) else .stuck
 |_,_=>.stuck
structure To (X:Cx) (P a c':Addr) (lpos:Pos) (Nc:List Str) (params:Arguments) (body:Expr) (scope:Scope) (cl:List (Str×Addr)) (pm ctv:Value) (vs:List V):Prop where
 N:X.N=(["_law_call","_law_word","_law_e"]:List Str)
 k0:X.env.kindOf "_law_call"=some .local
 k1:X.env.kindOf "_law_word"=some .local
 k2:X.env.kindOf "_law_e"=some .local
 tp:∃c,tabP X.K=some (c,P)
 tb:∃ps,X.H₀ P=some (.tbl ps)∧TriplesOk ps.toList∧codeAmong lpos ps.toList=some (.ref c')
 ob:X.s₀.heap.get? a=some (kla_obj "<lambda>" DQ params body scope cl pm c' ctv)
 no:X.H₀ a=none
 nf:a∉X.fs
 clo:OX X.s₀.heap X.H₀ X.outer Nc scope cl vs
section
variable {X:Cx} {E:XK} {P a c':Addr} {lpos:Pos} {Nc:List Str} {params:Arguments} {body:Expr} {scope:Scope} {cl:List (Str×Addr)} {pm ctv:Value} {vs:List V}
def Tq (X:Cx) (e:Addr):Cx:={X with A:=X.A.mark (some (.ref e)),calm:=false,xe:=fun _ _=>False}
end
noncomputable def O0 (Fk:List D→HD→Out D):Out D→Out D
 |.ok _ h1=>.ok (.str "told") h1
 |.err (.str n _) fs h1=>if n∈excNames then (match Hl fs with
  |some is=>(match Fk [.exc n is] h1 with
   |.ok d h2=>.ok d h2
   |_=>.stuck)
  |none=>.stuck) else .stuck
 |_=>.stuck
noncomputable def Tr (cs:List Nat) (Fk:List D→HD→Out D) (f:ME):ME:=fun ρ h=>match (h[0]?:Option BH),AG (cs.map fun j=>(ρ[j]?).join) with
 |some .tab,some ds=>O0 Fk (f (ds.map some) h)
 |_,_=>.stuck
structure LSc (X:Cx) (scope:Scope) (Nc:List Str) (cs:List Nat):Prop where
 lam:OY scope
 nd:(scope.names.map (·.1)).Nodup
 free:(scope.names.all fun y=>y.2 != .free||(X.env.kindOf y.1==some .cell||X.env.kindOf y.1==some .free))=true
 len:cs.length=Nc.length
 out:((Nc.zip cs).all fun p=>X.N[p.2]?==some p.1&&scope.names.lookup p.1==some .free)=true
theorem LSc.at_ {X:Cx} {scope:Scope} {Nc:List Str} {cs:List Nat} (S:LSc X scope Nc cs) {i j:Nat} {x:Str} (h1:Nc[i]?=some x) (h2:cs[i]?=some j):X.N[j]?=some x∧scope.names.lookup x=some .free:=by
 have hz:(Nc.zip cs)[i]?=some (x,j):=by
  rw [List.getElem?_zip_eq_some]
  exact ⟨h1,h2⟩
 have:=qaL.mp S.out (x,j) (Du hz)
 simpa using this
theorem LSc.fr {X:Cx} {scope:Scope} {Nc:List Str} {cs:List Nat} (S:LSc X scope Nc cs):∀y∈scope.names,y.2=.free→X.env.kindOf y.1=some .cell∨X.env.kindOf y.1=some .free:=fun y hy e=>by
 have:=qaL.mp S.free y hy
 rw [e] at this
 simpa using this
section
variable {X:Cx} {E:XK} {c P:Addr} {Nc:List Str} {cs:List Nat} {params:Arguments} {body:Expr} {scope:Scope}
end
def Es (mg:Str→Option Value) (base:Heap):Prop:=∃bm o,mg "__builtins__"=some (.ref bm)∧bm≠builtinsNs∧base.get? bm=some o∧o.cls=.type "module"∧o.dict=some builtinsNs∧o.data=.plain
open AutoSeq1 (wpAny_loadPart')
theorem O1:fillsNumberSlot (.type "tuple") "mul"=pure false:=by
 first |exact noFill_tuple_mul' |(unfold fillsNumberSlot;kernel_rfl)
theorem O2:seqRepeat? (.type "tuple")=pure (some (.builtin "tuple.__mul__")):=by
 unfold seqRepeat?
 rw [PySem.seqSlot_of (T:="tuple") (name:="__mul__") (id:="tuple.__mul__") F.slot_tuple_mul.lookup (by decide +kernel),PySem.seqSlot_of (T:="tuple") (name:="__rmul__") (id:="tuple.__rmul__") (by rw [typeLookup_type,builtinLookup_eq_fast];kernel_rfl) (by decide +kernel)]
 rfl
theorem O3 (a:Int) (t:Tok) (l:Addr) (items:Array Value) (n:Nat) (dd:Option Addr) (sl:Array (Option Value)):
 Meets (Builtin.«int.__rmul__» ⟨[.int a t,.ref l],[]⟩) (fun _ R s=>s.heap.get? l=some {cls:=.type "tuple",dict:=dd,data:=.seq items n,slots:=sl}∧R (.ok (.ret Value.notImplemented)) s):=
 .of_wp fun prog w A R s h=>by
  obtain ⟨hp,g,d,tk,os⟩:=s;obtain ⟨hl,h⟩:=h
  wp_walk;exact ⟨_,rfl,h⟩
theorem O4 (l:Addr) (items:Array Value) (n:Nat) (dd:Option Addr) (sl:Array (Option Value)) (x:Int) (u:Tok) (h1:1<x) (h2:x<2^63) (hne:items.isEmpty=false) (hz:items.size*x.toNat≤sizeLine):
 Meets (Builtin.«tuple.__mul__» ⟨[.ref l,.int x u],[]⟩) (fun _ R s=>s.heap.get? l=some {cls:=.type "tuple",dict:=dd,data:=.seq items n,slots:=sl}∧R (.ok (.ret (Value.ref s.heap.objs.size))) {s with heap:=s.heap.push {cls:=Value.type "tuple",data:=Data.seq (List.foldl (fun x1 x2=>x1++x2) #[] (List.replicate x.toNat items))}}):=
 .of_wp fun prog w A R s h=>by
  obtain ⟨hp,g,d,tk,os⟩:=s;obtain ⟨hl,h⟩:=h
  have c1:(decide (x < -2^63)||decide (x≥2^63))=false:=by simp;omega
  have c2:(items.isEmpty||x==1)=false:=by
   rw [hne,Bool.false_or]
   exact beq_eq_false_iff_ne.mpr (by omega)
  have c3:(decide (x≤0)||items.isEmpty)=false:=by
   rw [hne,Bool.or_false]
   exact decide_eq_false (by omega)
  have hx:(x.toNat:Int)=x:=Int.toNat_of_nonneg (by omega)
  have hz':(items.size:Int)*x≤sizeLine:=by rw [←hx];exact_mod_cast hz
  have c4:¬((items.size:Int)*x>(2^63 - 1) / 8):=by
   have:(sizeLine:Int)≤(2^63 - 1) / 8:=by decide
   omega
  have c5:Builtin.Tuple.tupleTooMany ((items.size:Int)*x)=false:=by
   unfold Builtin.Tuple.tupleTooMany
   exact decide_eq_false (by omega)
  have c6:(List.foldl (fun x1 x2=>x1++x2) #[] (List.replicate x.toNat items)).size≤sizeLine:=by
   have f0:=E9 items.toList x.toNat []
   rw [ES] at f0
   have:List.foldl (fun x1 x2=>x1++x2) #[] (List.replicate x.toNat items)=(List.replicate x.toNat items.toList).flatten.toArray:=by simpa using f0
   rw [this,AN,Fb,Nat.mul_comm]
   simpa using hz
  wp_walk using wpAny_loadPart' hl
  rw [c1]
  simp only [BN,if_false]
  refine wpAny_bind ?_
  unfold Builtin.Tuple.tupleItemsOf
  wp_walk using wpAny_loadPart' hl
  rw [c2]
  simp only [BN,if_false]
  rw [c3]
  simp only [BN,if_false]
  rw [if_neg c4,c5]
  simp only [BN,if_false]
  refine wpAny_bind (wpAny_newObj_type (wpAny_pure ⟨_,rfl,h⟩) c6)
theorem O5 (l:Addr) (items:Array Value) (n:Nat) (dd:Option Addr) (sl:Array (Option Value)) (u:Tok):
 Meets (Builtin.«tuple.__mul__» ⟨[.ref l,.int 1 u],[]⟩) (fun _ R s=>s.heap.get? l=some {cls:=.type "tuple",dict:=dd,data:=.seq items n,slots:=sl}∧R (.ok (.ret (Value.ref l))) s):=
 .of_wp fun prog w A R s h=>by
  obtain ⟨hp,g,d,tk,os⟩:=s;obtain ⟨hl,h⟩:=h
  have c1:(decide ((1:Int) < -2^63)||decide ((1:Int)≥2^63))=false:=by decide
  have c2:(items.isEmpty||(1:Int)==1)=true:=by simp
  wp_walk using wpAny_loadPart' hl
  exact ⟨_,rfl,h⟩
theorem O6 (l:Addr) (items:Array Value) (n:Nat) (dd:Option Addr) (sl:Array (Option Value)) (x:Int) (u:Tok) (h1:-(2^63)≤x) (h2:x≤0) (hne:items.isEmpty=false):
 Meets (Builtin.«tuple.__mul__» ⟨[.ref l,.int x u],[]⟩) (fun _ R s=>s.heap.get? l=some {cls:=.type "tuple",dict:=dd,data:=.seq items n,slots:=sl}∧R (.ok (.ret (Value.ref s.heap.objs.size))) {s with heap:=s.heap.push {cls:=Value.type "tuple",data:=Data.seq #[]}}):=
 .of_wp fun prog w A R s h=>by
  obtain ⟨hp,g,d,tk,os⟩:=s;obtain ⟨hl,h⟩:=h
  have c1:(decide (x < -2^63)||decide (x≥2^63))=false:=by simp;omega
  have c2:(items.isEmpty||x==1)=false:=by
   rw [hne,Bool.false_or]
   exact beq_eq_false_iff_ne.mpr (by omega)
  have c3:(decide (x≤0)||items.isEmpty)=true:=by
   rw [hne,Bool.or_false]
   exact decide_eq_true h2
  wp_walk using wpAny_loadPart' hl
  rw [c1]
  simp only [BN,if_false]
  refine wpAny_bind ?_
  unfold Builtin.Tuple.tupleItemsOf
  wp_walk using wpAny_loadPart' hl
  rw [c2]
  simp only [BN,if_false]
  rw [c3]
  simp only [if_true]
  refine wpAny_bind (wpAny_newObj_type (wpAny_pure ⟨_,rfl,h⟩) (by show (#[]:Array Value).size≤sizeLine;simp))
section
variable {X:Cx} {E:XK}
def O7 (K:Frag):R2:=fun x y H Q=>∃l k xs,x=.ref l∧y=.int k∧H l=some (.tup xs)∧xs≠[]∧-(2^63)≤k∧k<2^63∧xs.length*k.toNat≤sizeLine∧(k=1→Q (.ref l) H)∧
 ∀p,H p=none→Q (.ref p) (Ag H p (.tup (List.replicate k.toNat xs).flatten))
theorem Inv.tnew {pins:List (Addr×Obj)} {σ:L2.St} {H:Hp} {s:Shared} {ys:List V} {its:List Value} {t':Nat} (I:Inv X pins σ H s) (hv:Vals ys its) (hz:ys.length≤sizeLine):
 Inv X pins σ (Ag H s.heap.objs.size (.tup ys)) {s with heap:=s.heap.push {cls:=.type "tuple",data:=.seq its.toArray},toks:=t'}:=
 I.laid (fun _ _ q=>AR _ q) (AJ _) ⟨hz,its,hv,⟨_,BD _ rfl,rfl,0,rfl⟩,NoDict.new⟩
theorem op_repT:OpR X (binaryOp .Mult) (O7 X.K):=by
 intro pins s σ H x y v u Q I rx ry h
 obtain ⟨l,k,xs,rfl,rfl,hH,hne,h1,h2,hz,q1,q⟩:=h
 cases rx
 obtain ⟨t,rfl⟩:=ry
 obtain ⟨z,its,r,⟨o,ho,hc,n,hd⟩,_⟩:=(show ObjOk X.prog X.w H s.heap l (.tup xs) from I.hok l _ hH)
 obtain ⟨oc,dd,dat,sl⟩:=o
 simp only at hc hd
 subst hc hd
 have hl:=r.length
 have hine:its.toArray.isEmpty=false:=by
  cases its with
  |nil=>exfalso;cases xs with
   |nil=>exact hne rfl
   |cons _ _=>simp at hl
  |cons a b=>simp
 have mul:∀{Q':Value→Shared→Prop},wpAny (model X.prog X.w) X.A (call (.builtin "tuple.__mul__") [.ref l,.int k t]) Q' X.xe s→wpAny (model X.prog X.w) X.A (binaryOp .Mult (.ref l) (.int k t)) Q' X.xe s:=fun {Q'} hq=>
  wpAny_binaryOp_repeat_ref (T:="tuple") (U:="int") (by decide) ⟨_,ho,rfl⟩ (fun s'=>typeIs_int s' k t) O1 F.fills_int_mul F.slot_int_rmul O2 F.slot_int_index.lookup
   (call_meets F.slot_int_rmul (typeIs_int s k t) F.entry_int_rmul (F.args_int_rmul_2 _ _) (O3 k t l its.toArray n dd sl) ⟨ho,rfl,⟨_,ho,rfl⟩,hq⟩)
 refine mul ?_
 rcases Int.lt_trichotomy k 1 with hk |hk |hk
 ·refine call_meets F.slot_tuple_mul ⟨_,ho,rfl⟩ F.entry_tuple_mul (F.args_tuple_mul_2 _ _) (O6 l its.toArray n dd sl k t h1 (by omega) hine) ⟨ho,?_⟩
  have e:(List.replicate k.toNat xs).flatten=[]:=by
   have:k.toNat=0:=by omega
   rw [this];rfl
  have:=q _ I.fresh
  rw [e] at this
  exact ⟨.ref _,_,LS.Inv.tnew (its:=[]) (t':=s.toks) I .nil (CF _),rfl,this⟩
 ·subst hk
  refine call_meets F.slot_tuple_mul ⟨_,ho,rfl⟩ F.entry_tuple_mul (F.args_tuple_mul_2 _ _) (O5 l its.toArray n dd sl t) ⟨ho,?_⟩
  exact ⟨.ref l,H,I,rfl,q1 rfl⟩
 ·refine call_meets F.slot_tuple_mul ⟨_,ho,rfl⟩ F.entry_tuple_mul (F.args_tuple_mul_2 _ _) (O4 l its.toArray n dd sl k t hk h2 hine (by rw [AN,←hl];exact hz)) ⟨ho,?_⟩
  have f0:=E9 its k.toNat []
  rw [ES] at f0
  have f1:List.foldl (fun x1 x2=>x1++x2) #[] (List.replicate k.toNat its.toArray)=(List.replicate k.toNat its).flatten.toArray:=f0
  rw [f1]
  exact ⟨.ref _,_,LS.Inv.tnew (t':=s.toks) I (r.rep k.toNat) (by rw [Fb,Nat.mul_comm];exact hz),rfl,q _ I.fresh⟩
noncomputable def BK:D→D→HD→Out D:=fun x y h=>match x,y with
 |.tup xs,.int k=>@ite _ (xs≠[]∧-(2^63)≤k∧k<2^63∧xs.length*k.toNat≤sizeLine) (Classical.propDecidable _) (.ok (.tup (List.replicate k.toNat xs).flatten) h) .stuck
 |_,_=>BY x y h
theorem CO:A7 X (binaryOp .Mult) BK:=by
 obtain ⟨r0,hr0,i0⟩:=N0 (X:=X)
 refine ⟨_,op_repT.or hr0,fun m H h E x y v u Q hr rx ry q=>?_⟩
 unfold BK at q
 split at q
 ·rename_i xs k
  split at q
  ·rename_i hc
   obtain ⟨hne,h1,h2,hz⟩:=hc
   simp only [DV] at rx ry
   obtain ⟨a,vs,rfl,ha,dv⟩:=rx
   subst ry
   refine .inl ⟨a,k,vs,rfl,rfl,ha,?_,h1,h2,by rw [←dv.len];exact hz,fun e=>?_,?_⟩
   ·intro e;have:=dv.len;rw [e] at this;exact hne (List.length_eq_zero_iff.mp this)
   ·subst e
    refine AO hr q ?_
    simp only [DV]
    exact ⟨a,vs,rfl,ha,by simpa using dv⟩
   ·exact GQ hr (DVs.rep dv k.toNat) q
  ·exact q.elim
 ·exact .inr (i0 m H h E x y v u Q hr rx ry q)
end
end LS
namespace LS
open PySem PySem.Spec PyProof.Rows L2 PySem.W
section
variable {X:Cx} {E:XK}
abbrev MJ:=Str→Ae→HD→Out Str
def DR (X:Cx) (E:XK) (parts:List Expr) (fj:MJ):Prop:=
 ∀(pins:List (Addr×Obj)) (s:Shared) (σ:L2.St) (H:Hp) (acc:Str) (Q:Str→Hp→Prop),Inv X pins σ H s→(∃m ρ h,HR X.K m h H∧ER X.K m H ρ σ∧Post X.K (fun _ _ (a b:Str)=>a=b) m H E Q (fj acc ρ h))→
  wpAny (model X.prog X.w) X.A (joinParts acc (evalEach parts X.env)) (fun v s'=>∃out t H',v=.str out t∧Inv X pins σ H' s'∧Q out H') X.xe s
def FQ:MJ:=fun acc _ h=>if acc.length≤sizeLine then .ok acc h else .stuck
def FR (y:Str) (r:MJ):MJ:=fun acc ρ h=>if (acc++y).length≤sizeLine then r (acc++y) ρ h else .stuck
def FS (f:ME) (r:MJ):MJ:=fun acc ρ h=>(f ρ h).bind fun d h1=>match d with
 |.int i=>if i.natAbs.log2<1920∧(acc++(toString i:Str)).length≤sizeLine then r (acc++(toString i:Str)) ρ h1 else .stuck
 |_=>.stuck
theorem O8:DR X E [] FQ:=fun pins s σ H acc Q I z1_=>by
 obtain ⟨m,ρ,h,hr,er,p⟩:=z1_
 unfold FQ at p
 split at p
 ·rename_i hz
  exact joinParts_nil ⟨acc,_,H,rfl,I.tok _,p acc m H (Au _) (.refl _) hr rfl⟩ hz
 ·exact p.elim
theorem O9 {y:Str} {j:Nat} {pos:Pos} {parts:List Expr} {r:MJ} (hp:DR X E parts r):DR X E (.Constant (.str y) j pos::parts) (FR y r):=fun pins s σ H acc Q I z2_=>by
 obtain ⟨m,ρ,h,hr,er,p⟩:=z2_
 unfold FR at p
 split at p
 ·rename_i hz
  exact joinParts_cons (Calls.Constant_str ⟨hz,hp pins _ σ H _ Q (I.tok _) ⟨m,ρ,h,hr,er,p⟩⟩)
 ·exact p.elim
theorem Kj {e:Expr} {pos:Pos} {parts:List Expr} {f:ME} {r:MJ} (he:Ev X E e f) (hp:DR X E parts r):DR X E (.FormattedValue e (-1) none pos::parts) (FS f r):=fun pins s σ H acc Q I z3_=>by
 obtain ⟨m,ρ,h,hr,er,p⟩:=z3_
 have post:tD X.K E f σ H (fun v H1=>∃i,v=.int i∧i.natAbs.log2<1920∧(acc++(toString i:Str)).length≤sizeLine∧∃m1 h1,HR X.K m1 h1 H1∧ER X.K m1 H1 ρ σ∧Post X.K (fun _ _ (a b:Str)=>a=b) m1 H1 E Q (r (acc++(toString i:Str)) ρ h1)):=by
  refine ⟨m,ρ,h,hr,er,Post.bind p fun d h1 v m1 H1 eo p1 k1 hr1 r1 q1=>?_⟩
  clear eo
  split at q1
  ·rename_i i
   split at q1
   ·rename_i hz
    simp only [rD,DV] at r1
    exact ⟨i,r1,hz.1,hz.2,m1,h1,hr1,er.keep p1 k1,q1⟩
   ·exact q1.elim
  ·exact q1.elim
 refine joinParts_cons (FormattedValue_plain (Am (he pins s σ H _ I post) fun u s1 z4_=>?_))
 obtain ⟨v,H1,I1,rv,i,ev,hd,hz,m1,h1,hr1,er1,q1⟩:=z4_
 subst ev
 obtain ⟨t,rfl⟩:=rv
 exact formatField_int_small hd ⟨hz,hp pins _ σ H1 _ Q (I1.tok _) ⟨m1,ρ,h1,hr1,er1,q1⟩⟩
def Eu (fj:MJ):ME:=fun ρ h=>(fj Str.empty ρ h).bind fun x h1=>.ok (.str x) h1
theorem Pa {v1 v2:Expr} {rest:List Expr} {pos:Pos} {fj:MJ} (hj:DR X E (v1::v2::rest) fj):Ev X E (.JoinedStr (v1::v2::rest) pos) (Eu fj):=fun pins s σ H Q I z5_=>by
 obtain ⟨m,ρ,h,hr,er,p⟩:=z5_
 refine JoinedStr_many (Am (hj pins s σ H Str.empty (fun out H1=>Q (.str out) H1) I ⟨m,ρ,h,hr,er,Post.bind p fun a h1 b m1 H1 _ p1 k1 hr1 r1 q1=>?_⟩) fun v s1 z6_=>by obtain ⟨out,t,H1,ev,I1,q⟩:=z6_;exact (⟨.str out,H1,I1,⟨t,ev⟩,q⟩))
 cases r1
 exact AO hr1 q1 (by simp [DV])
def Cz:D→HD→Out D:=fun x h=>match Av h 8 x with
 |some p=>if p.showable=true∧p.hasDict=false∧p.depth≤40∧p.shown.length≤sizeLine then .ok (.str p.shown) h else .stuck
 |none=>.stuck
theorem Kk (hu:X.A.units+64<cLine) (hg:X.A.guards=some []):CI X (.builtin "repr") (AF Cz):=by
 refine Ke (fun ds h=>?_) fun pins s σ H m h ds vs us Q I hr rd r q=>IY rd q fun x v ev rx q=>?_
 ·unfold AF Cz
  repeat' split
  all_goals trivial
 ·subst ev
  obtain ⟨u,rfl,ru⟩:=GE r
  unfold Cz at q
  split at q
  ·rename_i p e
   split at q
   ·rename_i hc
    obtain ⟨h1,h2,h3,h4⟩:=hc
    obtain ⟨as,hd⟩:=GU I.hok hr 8 x v u p rx ru e
    have Aq:∀(h':Heap) (t tk:Tok),(∀b o,s.heap.get? b=some o→h'.get? b=some o)→EP X pins σ Q (.str p.shown t) {s with heap:=h',toks:=tk}:=fun h' t tk hk=>⟨.str p.shown,H,I.kept hk,⟨t,rfl⟩,AO hr q (by simp [DV])⟩
    cases hd with
    |list a1 a2 a3 a4=>exact repr_of_reads' (.list a1 a2 a3 a4) h1 (fun z=>by rw [h2] at z;cases z) hg (by omega) (fun _ _ e=>e) Aq h4
    |tuple a1 a2 a3 a4=>exact repr_of_reads' (.tuple a1 a2 a3 a4) h1 (fun z=>by rw [h2] at z;cases z) hg (by omega) (fun _ _ e=>e) Aq h4
    |dict a1 a2 a3 a4 a5=>cases h2
    |int i t=>
     have h1':i.natAbs.log2<1920:=by simpa [PyData.showable] using h1
     exact PySem.P.repr_of_int h1' (Aq s.heap _ _ fun _ _ e=>e)
    |none=>exact PySem.P.repr_of_none (Aq s.heap _ _ fun _ _ e=>e)
    |bool b=>exact PySem.P.repr_of_bool (Aq s.heap _ _ fun _ _ e=>e)
    |str x t=>exact PySem.P.repr_of_str (Aq s.heap _ _ fun _ _ e=>e) (by simpa [PyData.shown] using h4)
   ·exact q.elim
  ·exact q.elim
def CA:D→D→HD→Out D:=fun x y h=>match x,y with
 |.str a,.str b=>.ok (.bl (a==b)) h
 |_,_=>Ee x y h
def B1:D→D→HD→Out D:=fun x y h=>match x,y with
 |.str a,.str b=>.ok (.bl (!(a==b))) h
 |_,_=>Cg x y h
theorem Kl (hu:X.A.units+64<cLine):A7 X (compareOp .Eq) CA:=by
 obtain ⟨r0,hr0,i0⟩:=Nn (X:=X) hu
 refine ⟨_,op_eq.or hr0,fun m H h E x y v u Q hr rx ry q=>?_⟩
 unfold CA at q
 split at q
 ·simp only [DV] at rx ry
  subst rx ry
  exact .inl ⟨rfl,by rw [E6];exact AO hr q (by simp [DV])⟩
 ·exact .inr (i0 m H h E x y v u Q hr rx ry q)
theorem Km (hu:X.A.units+64<cLine):A7 X (compareOp .NotEq) B1:=by
 obtain ⟨r0,hr0,i0⟩:=Np (X:=X) hu
 refine ⟨_,op_ne.or hr0,fun m H h E x y v u Q hr rx ry q=>?_⟩
 unfold B1 at q
 split at q
 ·simp only [DV] at rx ry
  subst rx ry
  exact .inl ⟨rfl,by rw [E6];exact AO hr q (by simp [DV])⟩
 ·exact .inr (i0 m H h E x y v u Q hr rx ry q)
def Kn:List Nat→List D→Ae→Option Ae
 |[],[],ρ=>some ρ
 |i::is,d::ds,ρ=>Kn is ds (ρ.set i (some d))
 |_,_,_=>none
def Pb (is:List Nat):MG:=fun d ρ=>match d with
 |.tup ds=>Kn is ds ρ
 |_=>none
def Pc:List Nat→CG
 |[]=>DA
 |i::is=>B9 (Br i) (Pc is)
end
theorem Ko {K:Frag} (h:etOk K=true) {n:Str} (hn:n∈excNames):∃C,nsIn K mainGlobals n=some (some (.ref C)):=by
 unfold etOk at h
 split at h
 ·rename_i S hS
  have h1:=qaL.mp h n hn
  cases e:Cm K n with
  |none=>rw [e] at h1;cases h1
  |some C=>exact ⟨C,Kd e⟩
 ·cases h
section
variable {X:Cx} {E:XK}
theorem B2 {x:Str} {pos:Pos} (et:etOk X.K=true) (hn:x∈excNames) (hg:Gl X x:=by rfl) (hd:(x==("__debug__":Str))=false:=by decide):Ev X E (.Name x pos) (mC (.glo x)):=by
 obtain ⟨a,h⟩:=Ko et hn
 exact OP hg h hd
end
theorem CaM.mono {P:Program} {w:World} {K:Frag} {mg:Str→Option Value} {base:Heap} {x:Str} {j k:Nat} {F:List D→HD→Out D} (C:CaM P w K mg base x j F) (h:j≤k):CaM P w K mg base x k F:=by
 obtain ⟨f,fd,ps,G,r⟩:=C.ex
 exact ⟨f,fd,ps,⟨fun A outer s H args us vs Q hr=>G.run A outer s H args us vs Q (hr.mono h)⟩,r⟩
structure SaidD (K:Frag) (mg:Str→Option Value) (st:Stmt) (fs:Addr) (fd:FuncData):Prop where
 fn:Fun K "_law_said" "_law_said" st fs fd
 bd:Binds K fd ["_law_call"] []
 mg:mg "_law_said"=some (.ref fs)
structure Ts (st:Stmt):Prop where
 sc:Bt ["_law_call","_law_word","_law_e"] ["_law_call"] (defScope st)
 k0:(defScope st).names.lookup ("_law_call":Str)=some .local
 k1:(defScope st).names.lookup ("_law_word":Str)=some .local
 k2:(defScope st).names.lookup ("_law_e":Str)=some .local
 gS:(defScope st).names.lookup ("SwitchError":Str)=some .globalImplicit
 gK:(defScope st).names.lookup ("_law_kind":Str)=some .globalImplicit
 tx:∃p1 j1 p2 p3 p4 p5 p6 p7 p8 p9 p10 p11 p12 p13 p14 p15 p16,defBody st=[.Assign [.Name "_law_word" p1] (.Constant (.str "told") j1 p2) p3,.Try [.Expr (.Call (.Name "_law_call" p4) [] [] p5) p6] [.ExceptHandler (some (.Name "SwitchError" p7)) (some "_law_e") [.Assign [.Name "_law_word" p8] (.Call (.Name "_law_kind" p9) [.Name "_law_e" p10] [] p11) p12] p13] [] [] p14,.Return (some (.Name "_law_word" p15)) p16]
def Tt (K:Frag) (T:Addr):Bool:=match tabP K with
 |some (c,T')=>T'==T&&codeHdIn K c T
 |none=>false
end LS
namespace LS
open PySem PySem.Spec PyProof.Rows L2
def We {α:Type} (o:Out α) (Q:α→HD→Prop) (R:Str→List (Str×D)→HD→Prop):Prop:=match o with
 |.ok a h=>Q a h
 |.err (.str n _) fs h=>R n fs h
 |_=>False
section
variable {α β:Type} {o:Out α} {Q Q':α→HD→Prop} {R R':Str→List (Str×D)→HD→Prop}
@[simp] theorem Tu (a:α) (h:HD):We (.ok a h) Q R=Q a h:=rfl
@[simp] theorem Tv (n:Str) (t:Tok) (fs:List (Str×D)) (h:HD):We (.err (.str n t) fs h:Out α) Q R=R n fs h:=rfl
@[simp] theorem Tw:We .stuck Q R=False:=rfl
theorem Bp {k:α→HD→Out β} {Q:β→HD→Prop}:We (o.bind k) Q R=We o (fun a h=>We (k a h) Q R) R:=by
 cases o with
 |ok a h=>rfl
 |err C fs h=>cases C<;>rfl
 |stuck=>rfl
theorem We.mono (h:We o Q R) (f:∀a h,Q a h→Q' a h) (g:∀n fs h,R n fs h→R' n fs h):We o Q' R':=by
 cases o with
 |ok a h'=>exact f _ _ h
 |err C fs h'=>cases C<;>first |exact g _ _ _ h |exact h.elim
 |stuck=>exact h
end
def Er {α:Type} (o:Out α) (h:HD) (n:Str):Prop:=We o (fun _ _=>False) fun n' fs h'=>n'=n∧fs=[]∧Sm h h'
section
variable {ρ:Ae} {h:HD} {Q:Fl×Ae→HD→Prop} {QD:D→HD→Prop} {QB:Bool→HD→Prop} {R:Str→List (Str×D)→HD→Prop} {g g1 g2:MS} {f:ME} {t:MT} {fa:MA} {F:List D→HD→Out D}
def Hm (g2:MS) (Q:Fl×Ae→HD→Prop) (R:Str→List (Str×D)→HD→Prop):Fl×Ae→HD→Prop
 |(.nx,ρ),h=>We (g2 ρ h) Q R
 |y,h=>Q y h
@[simp] theorem Tx:Hm g2 Q R (.nx,ρ) h=We (g2 ρ h) Q R:=rfl
@[simp] theorem Tz {d:D}:Hm g2 Q R (.rt d,ρ) h=Q (.rt d,ρ) h:=rfl
@[simp] theorem TB:We (Ao g1 g2 ρ h) Q R=We (g1 ρ h) (Hm g2 Q R) R:=by
  unfold Ao
  rw [Bp]
  congr 1
  funext x h1
  obtain ⟨fl,ρ1⟩:=x
  cases fl<;>rfl
@[simp] theorem TC:We (Bw ρ h) Q R=Q (.nx,ρ) h:=rfl
@[simp] theorem TF:We (Fq f ρ h) Q R=We (f ρ h) (fun _ h1=>Q (.nx,ρ) h1) R:=by unfold Fq;rw [Bp];rfl
@[simp] theorem TH:We (AV f ρ h) Q R=We (f ρ h) (fun d h1=>Q (.rt d,ρ) h1) R:=by unfold AV;rw [Bp];rfl
@[simp] theorem TJ {i:Nat}:We (AE i f ρ h) Q R=We (f ρ h) (fun d h1=>Q (.nx,ρ.set i (some d)) h1) R:=by unfold AE;rw [Bp];rfl
@[simp] theorem TK:We (Bk t g1 g2 ρ h) Q R=We (t ρ h) (fun b h1=>We (if b=true then g1 ρ h1 else g2 ρ h1) Q R) R:=by unfold Bk;rw [Bp]
@[simp] theorem TL:We (Ai F fa ρ h) QD R=We (fa ρ h) (fun ds h1=>We (F ds h1) QD R) R:=by unfold Ai;rw [Bp]
@[simp] theorem TN {n:Str}:We (JZ n fa ρ h) Q R=We (fa ρ h) (fun xs h1=>We (if xs.length≤sizeLine then (.err (En n) [] h1:Out (Fl×Ae)) else .stuck) Q R) R:=by unfold JZ;rw [Bp]
@[simp] theorem TQ:We (BU t ρ h) QB R=We (t ρ h) (fun b h1=>QB (!b) h1) R:=by unfold BU;rw [Bp];rfl
@[simp] theorem TR {u:MT}:We (Ff t u ρ h) QB R=We (t ρ h) (fun b h1=>We (if b=true then u ρ h1 else .ok false h1) QB R) R:=by unfold Ff;rw [Bp]
@[simp] theorem TU {u:MT}:We (Cv t u ρ h) QB R=We (t ρ h) (fun b h1=>We (if b=true then .ok true h1 else u ρ h1) QB R) R:=by unfold Cv;rw [Bp]
@[simp] theorem TV:We (BS f ρ h) QB R=We (f ρ h) (fun x h1=>We (Ce x h1) QB R) R:=by unfold BS;rw [Bp]
@[simp] theorem TX:We (Bu f ρ h) QB R=We (f ρ h) (fun x h1=>We (Ec x h1) QB R) R:=by unfold Bu;rw [Bp]
@[simp] theorem TY {QA:List D→HD→Prop}:We (Ac ρ h) QA R=QA [] h:=rfl
@[simp] theorem TZ {QA:List D→HD→Prop}:We (Aa f fa ρ h) QA R=We (f ρ h) (fun x h1=>We (fa ρ h1) (fun xs h2=>QA (x::xs) h2) R) R:=by
  unfold Aa;simp only [Bp];rfl
@[simp] theorem T1 {d:D} {r:Ae}:We (Ab 0 (some d::r) h) QD R=QD d h:=rfl
@[simp] theorem T3 {i:Nat} {x:Option D} {r:Ae}:We (Ab (i+1) (x::r) h) QD R=We (Ab i r h) QD R:=rfl
@[simp] theorem T4 {d:D}:We (mC d ρ h) QD R=QD d h:=rfl
@[simp] theorem T5 {op:D→D→HD→Out D} {f':ME}:We (Ak op f f' ρ h) QD R=We (f ρ h) (fun x h1=>We (f' ρ h1) (fun y h2=>We (op x y h2) QD R) R) R:=by unfold Ak;simp only [Bp]
@[simp] theorem T6 {fj:MJ}:We (Eu fj ρ h) QD R=We (fj Str.empty ρ h) (fun x h1=>QD (.str x) h1) R:=by unfold Eu;rw [Bp];rfl
end
def Et {α:Type} (o:Out α) (h:HD) (n:Str) (fs:List (Str×D)):Prop:=We o (fun _ _=>False) fun n' fs' h'=>n'=n∧fs'=fs∧Sm h h'
def Rp (n L:Nat) (d:D):Prop:=∃p:PyData,(∀(h:HD) (m:Nat),Av h (n+m) d=some p)∧p.showable=true∧p.hasDict=false∧p.depth≤n∧p.shown.length≤L
theorem Kq {n L:Nat}:∀{ds:List D},(∀d∈ds,Rp n L d)→∃ps:List PyData,(∀(h:HD) (m:Nat),AG (ds.map (Av h (n+m)))=some ps)∧PyData.showableAll ps=true∧PyData.hasDictAll ps=false∧PyData.depthAll ps≤n∧ps.length=ds.length∧∀t∈PyData.shownAll ps,t.length≤L
 |[],_=>⟨[],fun _ _=>rfl,rfl,rfl,CF _,rfl,fun t ht=>by cases ht⟩
 |d::ds,hd=>by
  obtain ⟨p,a1,a2,a3,a4,a5⟩:=hd d Ax
  obtain ⟨ps,b1,b2,b3,b4,b5,b6⟩:=Kq (fun x hx=>hd x (AA _ hx))
  refine ⟨p::ps,fun h m=>?_,by simp [PyData.showableAll,a2,b2],by simp [PyData.hasDictAll,a3,b3],by simp only [PyData.depthAll];omega,by simp [b5],fun t ht=>?_⟩
  ·rw [BF,a1 h m]
   simp only [AG,b1 h m]
   rfl
  ·simp only [PyData.shownAll] at ht
   rcases qa6.mp ht with e |e
   ·rw [e];exact a5
   ·exact b6 t e
theorem Kr:∀{ps:List PyData},(PyData.shownAll ps).length=ps.length
 |[]=>rfl
 |p::ps=>by simp [PyData.shownAll,Kr (ps:=ps)]
section
variable {h:HD} {i j:Int} {ds:List D} {a b:D} {l:Nat} {x y:Str}
@[simp] theorem T7:B1 (.str x) (.str y) h=.ok (.bl (!(x==y))) h:=rfl
@[simp] theorem T8:CA (.str x) (.str y) h=.ok (.bl (x==y)) h:=rfl
@[simp] theorem T9:B1 (.int i) (.int j) h=.ok (.bl (!(i==j))) h:=rfl
@[simp] theorem Ua:CA (.int i) (.int j) h=.ok (.bl (i==j)) h:=rfl
@[simp] theorem Ub {c d:Bool}:B1 (.bl c) (.bl d) h=.ok (.bl (!(c==d))) h:=rfl
@[simp] theorem Uc {c d:Bool}:CA (.bl c) (.bl d) h=.ok (.bl (c==d)) h:=rfl
@[simp] theorem Ud {es:List D}:B1 (.tup ds) (.tup es) h=Cg (.tup ds) (.tup es) h:=rfl
@[simp] theorem Ue {es:List D}:CA (.tup ds) (.tup es) h=Ee (.tup ds) (.tup es) h:=rfl
@[simp] theorem Ug:BK (.int i) (.int j) h=BY (.int i) (.int j) h:=rfl
@[simp] theorem Uh:BK (.loc l) b h=BY (.loc l) b h:=rfl
@[simp] theorem Ui:An (.int i) b h=AY (.int i) b h:=rfl
@[simp] theorem Uj {c:Bool}:An (.bl c) b h=AY (.bl c) b h:=rfl
@[simp] theorem Uk:An .non b h=AY .non b h:=rfl
@[simp] theorem Ul:An (.str x) b h=AY (.str x) b h:=rfl
@[simp] theorem Um:An (.tup ds) b h=AY (.tup ds) b h:=rfl
@[simp] theorem Uo:An (.loc l) b h=AY (.loc l) b h:=rfl
@[simp] theorem Up {c:Bool}:AY (.bl c) (.ty "int") h=.ok (.bl true) h:=rfl
@[simp] theorem Uq {c:Bool}:AY (.bl c) (.ty "bool") h=.ok (.bl true) h:=rfl
@[simp] theorem Ur {c:Bool}:AY (.bl c) (.ty "tuple") h=.ok (.bl false) h:=rfl
@[simp] theorem Us:AY .non (.ty "int") h=.ok (.bl false) h:=rfl
@[simp] theorem Ut:AY .non (.ty "tuple") h=.ok (.bl false) h:=rfl
@[simp] theorem Uu:AY (.str x) (.ty "int") h=.ok (.bl false) h:=rfl
@[simp] theorem Uv:AY (.str x) (.ty "tuple") h=.ok (.bl false) h:=rfl
@[simp] theorem Uw:An .edic (.ty "int") h=.ok (.bl false) h:=rfl
@[simp] theorem Ux:An .edic (.ty "tuple") h=.ok (.bl false) h:=rfl
theorem B3 {n n':Str} {fs:List (Str×Int)} (h1:n∈excNames) (h2:n'∈excNames):An (.exc n fs) (.glo n') h=.ok (.bl (AH n n')) h:=if_pos ⟨h1,h2⟩
theorem Ks {n:Str} {fs:List (Str×Int)} (h1:n∈excNames):An (.exc n fs) (.ty "ValueError") h=.ok (.bl true) h:=if_pos ⟨h1,rfl⟩
@[simp] theorem Uy {ρ:Ae} {c d:D} {i j k l:Nat}:Pb [i,j,k,l] (.tup [a,b,c,d]) ρ=some ((((ρ.set i (some a)).set j (some b)).set k (some c)).set l (some d)):=rfl
theorem Pd (hz:x.length+y.length≤1000):AX (.str x) (.str y) h=.ok (.str (x++y)) h:=by
 simp only [AX]
 rw [if_pos (by unfold sizeLine;omega)]
theorem Hn {xs ys:List D} {k:Nat} (e1:h[l]?=some (.lst xs)) (e2:h[k]?=some (.lst ys)):AX (.loc l) (.loc k) h=Bj (xs++ys) h:=by simp only [AX,e1,e2]
theorem Pe {n n':Str} {fs:List (Str×Int)} {c:Bool} (h1:n∈excNames) (h2:n'∈excNames) (h3:AH n n'=c):An (.exc n fs) (.glo n') h=.ok (.bl c) h:=by rw [B3 h1 h2,h3]
@[simp] theorem Uz {chk:D→HD→Out D} {op:D→D→HD→Out D} {f g:ME} {ρ:Ae} {Q:D→HD→Prop}:Wp (DP chk op f g ρ h) Q=Wp (f ρ h) fun x h1=>Wp (chk x h1) fun x h2=>Wp (g ρ h2) fun y h3=>Wp (op x y h3) Q:=by unfold DP;simp only [Al]
@[simp] theorem UA:(6≤sizeLine)=True:=eq_true (by unfold sizeLine;omega)
@[simp] theorem UB:(7≤sizeLine)=True:=eq_true (by unfold sizeLine;omega)
@[simp] theorem UC:(8≤sizeLine)=True:=eq_true (by unfold sizeLine;omega)
@[simp] theorem UD:(9≤sizeLine)=True:=eq_true (by unfold sizeLine;omega)
@[simp] theorem UE:(10≤sizeLine)=True:=eq_true (by unfold sizeLine;omega)
end
section
variable {ρ:Ae} {h:HD} {Q:Str→HD→Prop} {R:Str→List (Str×D)→HD→Prop} {acc y:Str} {r:MJ} {f:ME} {n:Nat} {i:Int}
end
end LS
namespace LS
open PySem PySem.Spec PyProof.Rows L2 PySem.W
section
variable {X:Cx} {E:XK}
def UF:D→HD→Out D:=fun x h=>match Ba x h with
 |some ds=>Bj ds h
 |none=>.stuck
def UG (T:List (Str×(List D→HD→Out D))) (fv:ME) (fa:MA):ME:=fun ρ h=>(fv ρ h).bind fun d h1=>match d with
 |.glo n=>(match T.lookup n with
  |some F=>(fa ρ h1).bind F
  |none=>.stuck)
 |_=>.stuck
def UH (P:Program) (w:World) (K:Frag) (mg:Str→Option Value) (base:Heap) (k:Nat) (T:List (Str×(List D→HD→Out D))):Prop:=∀n F,T.lookup n=some F→CaE P w K mg base n k F
theorem CaE.mono {P:Program} {w:World} {K:Frag} {mg:Str→Option Value} {base:Heap} {x:Str} {j k:Nat} {F:List D→HD→Out D} (C:CaE P w K mg base x j F) (h:j≤k):CaE P w K mg base x k F:=by
 obtain ⟨f,fd,ps,G,r⟩:=C.ex
 exact ⟨f,fd,ps,G.mono h,r⟩
end
def UI (K:Frag) (c:Addr):Bool:=match tabP K with
 |some (c',T)=>c'==c&&codeHdIn K c T
 |none=>false
section
variable {prog:Program} {w:World} {A:Around} {E:Str→Value→Shared→Prop}
end
section
variable {X:Cx} {E:XK}
def UJ (K:PySem.W.Frag):V→Option Int→Option Int→Hp→VK→Prop:=fun x lo hi H Q=>∃a xs,x=.ref a∧SqT K H a xs∧HT.sIx xs.length 0 lo=0∧HT.sIx xs.length xs.length hi=xs.length∧Q (.ref a) H
def Kt (x:D) (lo hi:Option Int) (h:HD):Out D:=match x with
 |.tup xs=>.ok (.tup (FO xs lo hi)) h
 |_=>.stuck
def Ku (f:ME) (lo hi:MO):ME:=fun ρ h=>(f ρ h).bind fun x h1=>(lo ρ h1).bind fun l h2=>(hi ρ h2).bind fun u h3=>Kt x l u h3
end
section
variable {f:ME} {lo hi:MO} {ρ:Ae} {h:HD} {Q:D→HD→Prop}
@[simp] theorem UK:Wp (Ku f lo hi ρ h) Q=Wp (f ρ h) fun x h1=>Wp (lo ρ h1) fun l h2=>Wp (hi ρ h2) fun u h3=>Wp (Kt x l u h3) Q:=by unfold Ku;simp only [Al]
end
section
variable {K:Frag} {mg:Str→Option Value} {h:Heap}
theorem Pf {us:List Value} (h:us.length=0):us=[]:=List.length_eq_zero_iff.mp h
theorem Kv {us:List Value} (h:us.length=1):∃v0,us=[v0]:=by
 cases us with
 |nil=>cases h
 |cons v t=>
  obtain rfl:=Pf (Nat.succ.inj h)
  exact ⟨v,rfl⟩
theorem Pg {us:List Value} (h:us.length=2):∃v0 v1,us=[v0,v1]:=by
 cases us with
 |nil=>cases h
 |cons v t=>
  obtain ⟨w0,rfl⟩:=Kv (Nat.succ.inj h)
  exact ⟨v,w0,rfl⟩
theorem Ho {x p0:Str} {st:Stmt} {f:Addr} {oc:Value} {od an:Option Addr} {osl:Array (Option Value)} {kV doc pm cdv ct:Value} (X:K.In h) (G:h.Ns mainGlobals mg) (l:K.lookup f=some ⟨oc,od,.func (fnOf x x (defArgs st) (defBody st) (defScope st) .none kV doc pm an cdv ct),osl⟩) (c:codeIn K cdv x=true) (k:keepIn K (.ref f)=true) (a:nsIn K mainGlobals x=some (some (.ref f)))
 (b:∀(kV doc pm:Value) (an:Option Addr) (cdv ct v0:Value),bindArgs (fnOf x x (defArgs st) (defBody st) (defScope st) .none kV doc pm an cdv ct) ⟨[v0],[]⟩=pure (([p0]:List Str).zip [v0])):Dn K mg x [p0] st f (fnOf x x (defArgs st) (defBody st) (defScope st) .none kV doc pm an cdv ct):=
 ⟨Fc l c k,(Fc l c k).binds (fun kV doc pm an cdv ct us hl=>by obtain ⟨v0,rfl⟩:=Kv hl;exact b kV doc pm an cdv ct v0),mg_of X G a⟩
theorem FT {x p0 p1:Str} {st:Stmt} {f:Addr} {oc:Value} {od an:Option Addr} {osl:Array (Option Value)} {kV doc pm cdv ct:Value} (X:K.In h) (G:h.Ns mainGlobals mg) (l:K.lookup f=some ⟨oc,od,.func (fnOf x x (defArgs st) (defBody st) (defScope st) .none kV doc pm an cdv ct),osl⟩) (c:codeIn K cdv x=true) (k:keepIn K (.ref f)=true) (a:nsIn K mainGlobals x=some (some (.ref f)))
 (b:∀(kV doc pm:Value) (an:Option Addr) (cdv ct v0 v1:Value),bindArgs (fnOf x x (defArgs st) (defBody st) (defScope st) .none kV doc pm an cdv ct) ⟨[v0,v1],[]⟩=pure (([p0,p1]:List Str).zip [v0,v1])):Dn K mg x [p0,p1] st f (fnOf x x (defArgs st) (defBody st) (defScope st) .none kV doc pm an cdv ct):=
 ⟨Fc l c k,(Fc l c k).binds (fun kV doc pm an cdv ct us hl=>by obtain ⟨v0,v1,rfl⟩:=Pg hl;exact b kV doc pm an cdv ct v0 v1),mg_of X G a⟩
theorem SaidD.of {st:Stmt} {f:Addr} {fd:FuncData} (d:Dn K mg "_law_said" ["_law_call"] st f fd):SaidD K mg st f fd:=⟨d.fn,d.bd,d.mg⟩
end
open AutoSeq1 (wpAny_loadPart')
section
variable {prog:Program} {w:World} {A:Around} {E:Value→Shared→Prop} {s:Shared}
end
def Kw (r:Addr) (n:Nat) (h:Heap):Prop:=∃t u v,IsRange h r 0 (n:Int) 1 t u v
section
variable {X:Cx} {E:XK}
inductive Ph (vs:List V) (H:Hp) (Q:VK):Prop where
 |mk (n:Nat) (e:vs=[.int (n:Int)]) (hn:n≤1000) (q:∀p,H p=none→Q (.ref p) (Ag H p (.ext (Kw p n)))):Ph vs H Q
inductive Pi (vs:List V) (H:Hp) (Q:VK):Prop where
 |mk (r:Addr) (n:Nat) (e:vs=[.ref r]) (hr:H r=some (.ext (Kw r n))) (hn:n≤1000) (q:∀p,H p=none→Q (.ref p) (Ag H p (.tup ((List.range n).map fun i=>V.int ((i:Nat):Int))))):Pi vs H Q
noncomputable def Pj:D→HD→Out D:=fun d h=>match d with
 |.int i=>@ite _ (0≤i∧i≤1000) (Classical.propDecidable _) (.ok (.tup ((List.range i.toNat).map fun k=>D.int ((k:Nat):Int))) h) .stuck
 |_=>.stuck
noncomputable def UL (f:ME):ME:=fun ρ h=>(f ρ h).bind Pj
end
end LS
namespace LS
open PySem PySem.Spec PyProof.Rows L2 PySem.W
section
variable {X:Cx} {E:XK}
def Pk:D→HD→Out D:=fun x h=>match x with
 |.tup _=>.ok x h
 |_=>.stuck
def UM:D→D→HD→Out D:=fun x y h=>(Pk x h).bind fun _ _=>Ki x y h
mutual
def Hq:PyData→Bool
 |.list _=>false
 |.tuple xs=>Hr xs
 |_=>true
def Hr:List PyData→Bool
 |[]=>true
 |x::xs=>Hq x&&Hr xs
end
def Hs (h:HD):Nat→D→Option PyData
 |_,.non=>some .none
 |_,.bl b=>some (.bool b)
 |_,.int i=>some (.int i)
 |_,.str x=>some (.str x)
 |_,.edic=>some (.dict [])
 |n+1,.tup ds=>(AG (ds.map (Hs h n))).map .tuple
 |n+1,.loc l=>match h[l]? with
  |some (.lst ds)=>(AG (ds.map (Hs h n))).map .list
  |_=>none
 |_,_=>none
inductive Pl (h:Heap) (u:Value) (p:PyData):Prop where
 |mk (as:List Addr) (f1:Reads h u p as) (f2:Hq p=true→sysModules∉as):Pl h u p
inductive Pm (h:Heap) (us:List Value) (ps:List PyData):Prop where
 |mk (as:List Addr) (f1:ReadsAll h us ps as) (f2:Hr ps=true→sysModules∉as):Pm h us ps
variable {pins:List (Addr×Obj)} {σ:L2.St} {H:Hp} {s:Shared} {m:List Addr} {h:HD}
def UN:D→HD→Out D:=fun x h=>match Hs h 8 x with
 |some p=>if p.showable=true∧(p.hasDict=false∨Hq p=true)∧p.depth≤40∧p.shown.length≤sizeLine then .ok (.str p.shown) h else .stuck
 |none=>.stuck
end
end LS
namespace HT
open PySem PyProof.Rows
def lexLe:List Int→List Int→Bool
 |[],[]=>true
 |[],_::_=>true
 |_::_,[]=>false
 |x::xs,y::ys=>if x=y then lexLe xs ys else decide (x≤y)
section
open PySem.SeqAt
open PySem.AutoSeq1 (wpAny_loadPart')
open PySem.MeetsSeq PySem.MeetsSeq2 PySem.MeetsSeq3
end
section
variable {prog:Program} {w:World} {A:Around} {E:Value→Shared→Prop} {s:Shared}
end
end HT
namespace L2
open PySem PySem.Spec PyProof.Rows
section
variable {X:Cx}
def UO (K:PySem.W.Frag):R2:=fun x y H Q=>∃a b ns ms,x=.ref a∧y=.ref b∧SqT K H a (ns.map V.int)∧SqT K H b (ms.map V.int)∧Q (.bl (HT.lexLe ns ms)) H
end
end L2
namespace LS
open PySem PySem.Spec PyProof.Rows L2
section
variable {X:Cx} {E:XK}
def Kx:D→Option (List Int)
 |.tup ds=>AG (ds.map G4)
 |_=>none
def UP (f:List Int→List Int→Bool):D→D→HD→Out D:=fun x y h=>match Kx x,Kx y with
 |some ns,some ms=>.ok (.bl (f ns ms)) h
 |_,_=>.stuck
end
section
variable {prog:Program} {w:World} {A:Around} {E:Value→Shared→Prop} {s:Shared}
end
section
variable {X:Cx} {E:XK} {e:Expr} {f:ME}
def Pn:D→HD→Out D:=fun x h=>match x with
 |.tup ds=>.ok (.tup ds.reverse) h
 |_=>.stuck
def UQ (f:ME):ME:=fun ρ h=>(f ρ h).bind Pn
end
end LS
namespace LS
open PySem
section
variable {prog:Program} {w:World} {A:Around} {E:Value→Shared→Prop} {h:Heap} {g:Array GenState} {d:Drawn} {t:Nat} {os:OsState}
variable {nm q:Str} {C N:Addr} {bs bm bmB:List Value} {hdct:Bool} {sn:List Str} {sub:List Value} {ab:Bool} {col:Option Bool} {dd:Option Addr} {k0 k1 k2 k3 k5:Option Value} {B newId initId:String}
theorem Po (F:ExcBaseFacts B newId initId bmB) (T:OwnTail h bmB bm) {mN:Str→Option Value} {rest:List Value} {fI:Addr} {oI:Obj} {Q:Fin→Shared→Prop}
 (hC:h.get? C=some (excClassObj nm q C N bs bm hdct sn sub ab col dd k0 k1 k2 k3 k5 newId)) (hn:h.Ns N mN) (hi:mN "__init__"=some (.ref fI)) (hfI:h.get? fI=some oI) (hfc:oI.cls=.type "function")
 (hq:∀h' e,Heap.MadeExcOf h h' e (.ref C) rest→wpAny (model prog w) A (call (.ref fI) (.ref e::rest)) (fun r s'=>r=.none∧Q (.done (.ret (.ref e))) s') E ⟨h',g,d,t,os⟩) (hrest:rest.length≤sizeLine):
 wpAny (model prog w) A (Builtin.«type.__call__» ⟨.ref C::rest,[]⟩) Q E ⟨h,g,d,t,os⟩:=by
 repeat (first |with_reducible refine wpAny_loadPart_at hC ?_ |with_reducible refine wpAny_madeBy_exc hC ?_ |wp_step)
 refine codeAny_call_builtin_code (Code.quiet_builtin _ F.quiet) (wpAny_check_new_subT F T hC ?_)
 refine codeAny_exc_new_subT F T hC ?_ hrest
 generalize eT:({cls:=.type "tuple",data:=.seq rest.toArray}:Obj)=oT
 generalize eE:({cls:=.ref C,data:=.fields #[.ref h.objs.size,.none,.none,.none,.bool false,.none]}:Obj)=oE
 have up:∀b o,h.get? b=some o→((h.push oT).push oE).get? b=some o:=fun b o e=>AR _ (AR _ e)
 have hC₁:=up _ _ hC
 have hn₁:((h.push oT).push oE).Ns N mN:=hn.keeps up
 have hget:((h.push oT).push oE).get? (h.objs.size+1)=some oE:=Heap.get?_push_at (by rw [B7]) (by rw [←eE];rfl)
 have T₁:=T.keeps up
 have hcC:(Value.ref C::bm).contains (.ref C)=true:=by simp
 subst eT eE
 have hgetE:=hget
 show wpAny _ _ _ _ _ _
 unfold isInstance
 repeat (first |with_reducible refine wpAny_loadPart_at hgetE ?_ |(with_reducible refine wpAny_isSubtype_exc hC₁ ?_;rw [hcC]) |wp_step)
 show wpAny _ _ (typeLookup (.ref C) _) _ _ _
 refine wpAny_typeLookup_tail hC₁ hn₁ T₁ F.mroIs F.init.lookup ?_
 rw [hi]
 refine wpAny_holding (wpAny_bind ?_)
 unfold bindSpecial
 refine wpAny_bind (wpAny_typeOf (T:="function") ⟨_,up _ _ hfI,hfc⟩ ?_)
 rw [if_pos (by decide)]
 have mk:Heap.MadeExcOf h ((h.push {cls:=.type "tuple",data:=.seq rest.toArray}).push {cls:=.ref C,data:=.fields #[.ref h.objs.size,.none,.none,.none,.bool false,.none]}) (h.objs.size+1) (.ref C) rest:=⟨up,Gs (Nat.le_succ _),h.objs.size,hgetE,Gs (AJ _),AR _ (Heap.get?_push_at rfl rfl)⟩
 refine wpAny_pure (wpAny_bind (wpAny_mono (hq _ _ mk) (fun r s' hr=>?_) fun _ _ x=>x))
 obtain ⟨rfl,hQ⟩:=hr
 wp_walk
 exact hQ
theorem Pp (F:ExcBaseFacts B newId initId bmB) (T:OwnTail h bmB bm) {mN:Str→Option Value} {rest:List Value} {fI:Addr} {oI:Obj} {Q:Value→Shared→Prop}
 (hC:h.get? C=some (excClassObj nm q C N bs bm hdct sn sub ab col dd k0 k1 k2 k3 k5 newId)) (hn:h.Ns N mN) (hi:mN "__init__"=some (.ref fI)) (hfI:h.get? fI=some oI) (hfc:oI.cls=.type "function")
 (hq:∀h' e,Heap.MadeExcOf h h' e (.ref C) rest→wpAny (model prog w) (A.under (.builtin "type.__call__" ⟨.ref C::rest,[]⟩)) (call (.ref fI) (.ref e::rest)) (fun r s'=>r=.none∧Q (.ref e) s') E ⟨h',g,d,t,os⟩) (hrest:rest.length≤sizeLine):
 wpAny (model prog w) A (call (.ref C) rest) Q E ⟨h,g,d,t,os⟩:=by
 have f1:=tc_lookup
 have f2:=tc_bind (.ref C)
 have hT:(⟨h,g,d,t,os⟩:Shared).TypeIs (.ref C) "type":=⟨_,hC,rfl⟩
 refine wpAny_call (codeAny_of_tree ?_)
 show wpAny _ _ (callAny (.ref C) _) _ _ _
 repeat (any_goals (first |assumption |with_reducible refine wpAny_loadPart_at hC ?_ |wp_step))
 refine ⟨rfl,?_⟩
 exact codeAny_call_builtin_at (Code.quiet_builtin _ (by decide +kernel)) entry_typeCall (wpAny_check_type_call_sub hC (Po (hrest:=hrest) F T hC hn hi hfI hfc fun h' e hm=>hq h' e hm))
theorem Pq (F:ExcBaseFacts B newId initId bmB) (T:OwnTail h bmB bm) {rest:List Value} {e t0:Addr} {Q:Value→Shared→Prop}
 (hC:h.get? C=some (excClassObj nm q C N bs bm hdct sn sub ab col dd k0 k1 k2 k3 k5 newId)) (hget:h.get? e=some {cls:=.ref C,data:=.fields #[.ref t0,.none,.none,.none,.bool false,.none]}) (hrest:rest.length≤sizeLine)
 (hq:∀h',h'.objs.size=h.objs.size+1→(∀b o,b≠e→h.get? b=some o→h'.get? b=some o)→h'.get? e=some {cls:=.ref C,data:=.fields #[.ref h.objs.size,.none,.none,.none,.bool false,.none]}→h'.get? h.objs.size=some {cls:=.type "tuple",data:=.seq rest.toArray}→Q .none ⟨h',g,d,t,os⟩):
 wpAny (model prog w) A (call (.builtin initId) (.ref e::rest)) Q E ⟨h,g,d,t,os⟩:=by
 have he:=Ap hget
 refine wpAny_call (codeAny_call_builtin F.init.plain F.initEntry (wpAny_check_init_subT F T hC hget rfl ?_))
 wp_walk
 refine hq _ ?_ (fun b o hb eb=>?_) ?_ ?_
 ·simp
 ·rw [EK _ _ (Ne.symm hb)]
  exact AR _ eb
 ·rw [DZ _ (AR _ hget) rfl]
  rfl
 ·rw [EK _ _ (A6 he)]
  exact BD _ rfl
end
end LS
namespace LS
open PySem PySem.Spec PyProof.Rows L2
def UR (i j k:Nat):MG:=fun d ρ=>match d with
 |.tup [x,.tup [y,z]]=>some (((ρ.set i (some x)).set j (some y)).set k (some z))
 |_=>none
abbrev US (K:PySem.W.Frag) (i j k:Nat):TG:=D6 K 2 (B9 (Br i) (B9 (D6 K 2 (B9 (Br j) (B9 (Br k) DA))) DA))
def UT (elt:Expr) (gens:List Comprehension) (scope:Scope) (pos:Pos) (d:Nat) (acc:Value) (env:Env):Sem Unit:=match gens[d+1]? with
 |some g=>eval g.iter env >>=fun x=>standAt g.iter.pos >>=fun _=>foldedSetIterable g.iter env x >>=fun y=>holding [y] (pyIter y) >>=fun it=>
  runOwn (.compStart (.ListComp elt gens scope pos) (d+1) it acc env) env >>=fun _=>pure ()
 |none=>eval elt env >>=fun x=>call (.builtin "list.append") [acc,x] >>=fun _=>pure ()
section
variable {prog:Program} {w:World} {A:Around} {R:Result→Shared→Prop} {s:Shared} {elt tg iter:Expr} {gens:List Comprehension} {ifs:List Expr} {scope:Scope} {pos:Pos} {d:Nat} {it acc:Value} {env:Env}
end
abbrev Ht (its:List Value) (k:Nat):Obj:={cls:=.type "list",data:=.seq its.toArray k}
structure UU (X:Cx) (D:Addr):Prop where
 lo:D≠X.env.locals
 ce:∀x c,X.env.cells.lookup x=some c→c≠D
 pn:∀p∈X.pn,p.1≠D
 ex:D∈X.ex
 fs:D∉X.fs
section
variable {X:Cx} {D:Addr} {its its':List Value} {k k':Nat} {rest:List (Addr×Obj)} {σ:L2.St} {H:Hp} {s:Shared} {h':Heap}
def EM (X:Cx) (D:Addr) (em:Sem Unit) (te:L2.St→Hp→List V→(List V→Hp→Prop)→Prop):Prop:=
 ∀(rest:List (Addr×Obj)) (its:List Value) (k:Nat) (acc:List V) (σ:L2.St) (H:Hp) (s:Shared) (Q:List V→Hp→Prop),Inv X ((D,Ht its k)::rest) σ H s→(∀p∈rest,p.1≠D)→Vals acc its→te σ H acc Q→
  wpAny (model X.prog X.w) X.A em (fun _ s'=>∃its' k' acc' H',Inv X ((D,Ht its' k')::rest) σ H' s'∧Vals acc' its'∧Q acc' H') (fun _ _=>False) s
def UV (te:TE):L2.St→Hp→List V→(List V→Hp→Prop)→Prop:=fun σ H acc Q=>acc.length<sizeLine∧te σ H fun y H'=>Q (acc++[y]) H'
def UW (wi:TI) (g:TG) (tc:TT) (te:L2.St→Hp→List V→(List V→Hp→Prop)→Prop):L2.St→Hp→List V→(List V→Hp→Prop)→Prop:=fun σ H acc Q=>wi σ H fun J H1=>∃W:Nat→Nat→List V→Hp→Prop,(∃n,W 0 n acc H1)∧∀i n acc H,W i n acc H→
 (J.stop i H∧Q acc H)∨
 (J.go i H∧∀x H',J.yld i H x H'→g x σ H' fun σ2 H2=>Sub σ σ2∧tc σ2 H2 fun b H3=>if b=true then te σ2 H3 acc fun acc' H4=>∃n',n' < n∧W (i+1) n' acc' H4 else ∃n',n' < n∧W (i+1) n' acc H3)
inductive Pr (X:Cx) (D:Addr) (rest:List (Addr×Obj)) (σ:L2.St) (W:Nat→Nat→List V→Hp→Prop) (tn:Nat→Heap→Prop) (fp:List Addr) (n:Nat) (s':Shared):Prop where
 |mk (i:Nat) (acc:List V) (H':Hp) (its:List Value) (k:Nat) (w:W i n acc H') (ii:Inv X ((D,Ht its k)::rest) σ H' s') (st:tn i s'.heap) (fr:∀b∈fp,H' b=none) (rv:Vals acc its):Pr X D rest σ W tn fp n s'
end
def UX (cs:List (Option Nat)) (wi:TI) (g:TG) (tc:TT) (te:L2.St→Hp→List V→(List V→Hp→Prop)→Prop):TE:=fun σ H Q=>wi σ H fun J H1=>∃W:Nat→Nat→List V→Hp→Prop,(∃n,W 0 n [] H1)∧∀i n acc H,W i n acc H→
 (J.stop i H∧acc.length≤sizeLine∧∀p,H p=none→Q (.ref p) (Ag H p (.lst acc)))∨
 (J.go i H∧∀x H',J.yld i H x H'→g x (AL cs σ) H' fun σ2 H2=>Sub (AL cs σ) σ2∧tc σ2 H2 fun b H3=>if b=true then te σ2 H3 acc fun acc' H4=>∃n',n' < n∧W (i+1) n' acc' H4 else ∃n',n' < n∧W (i+1) n' acc H3)
section
variable {X:Cx} {elt tg iter:Expr} {ifs:List Expr} {gs:List Comprehension} {scope:Scope} {pos:Pos} {Nc:List Str} {cs:List (Option Nat)} {wi:TI} {g:TG} {tc:TT} {te:L2.St→Hp→List V→(List V→Hp→Prop)→Prop}
end
abbrev BL:=Ae→HD→List D→Out (List D)
abbrev Pt:=L2.St→Hp→List V→(List V→Hp→Prop)→Prop
def Frs (js:List Nat) (σ:L2.St):Prop:=∀j∈js,σ[j]?=some none
def UY (K:PySem.W.Frag) (is js:List Nat) (gg:TG) (sg:MG):Prop:=
 ∀m H d v ρ σ ρ' Q,DV K m H d v→ER K m H ρ σ→Frs (is++js) σ→sg d ρ=some ρ'→(∀σ',Sub σ σ'→Frs js σ'→ER K m H ρ' σ'→Q σ' H)→gg v σ H Q
theorem Frs.set {js:List Nat} {σ:L2.St} {i:Nat} {v:Option V} (h:Frs js σ) (n:i∉js):Frs js (σ.set i v):=fun j hj=>by
 have hn:i≠j:=by
  rintro rfl
  exact n hj
 rw [CB hn]
 exact h j hj
noncomputable def UZ (f:ME):BL:=fun ρ h acc=>if acc.length<sizeLine then (noErr (f ρ h)).bind fun y h2=>.ok (acc++[y]) h2 else .stuck
open Classical in
noncomputable def Ew (src:Ay) (items:List D) (sg:MG) (t:MT) (e:BL) (ρ:Ae):List D→HD→List D→Out (List D)
 |[],h,acc=>if Bm src items h then .ok acc h else .stuck
 |d::ds,h,acc=>if Bm src items h then match sg d ρ with
   |none=>.stuck
   |some ρ1=>(noErr (t ρ1 h)).bind fun b h1=>if b=true then (noErr (e ρ1 h1 acc)).bind fun acc2 h2=>Ew src items sg t e ρ ds h2 acc2 else Ew src items sg t e ρ ds h1 acc
  else .stuck
noncomputable def U0 (it:MI) (sg:MG) (t:MT) (e:BL):BL:=fun ρ h acc=>(noErr (it ρ h)).bind fun x h1=>Ew x.2 x.1 sg t e ρ x.1 h1 acc
noncomputable def FU (cs:List (Option Nat)) (it:MI) (sg:MG) (t:MT) (e:BL):ME:=fun ρ h=>(it ρ h).bind fun x h1=>(Ew x.2 x.1 sg t e (BW cs ρ) x.1 h1 []).bind Bj
def U1 (K:PySem.W.Frag) (js:List Nat) (e:BL):Pt:=fun σ H acc Q=>∃m ρ h dacc,HR K m h H∧ER K m H ρ σ∧DVs K m H dacc acc∧Frs js σ∧Post K (Cu K) m H E0 Q (e ρ h dacc)
inductive Pv {β:Type} (K:PySem.W.Frag) (E:XK) (α:Type) (R:List Addr→Hp→α→β→Prop) (Q:β→Hp→Prop) (kk:List D→HD→Out α) (src:Ay) (items:List D) (sg:MG) (t:MT) (e:BL) (ρ:Ae) (m1:List Addr) (H1:Hp) (i n:Nat) (acc:List V) (H2:Hp):Prop where
 |mk (en:n=items.length - i) (l:i≤items.length) (m2:List Addr) (h2:HD) (dacc:List D) (p:m1 <+:m2) (k:Kp H1 H2) (hr:HR K m2 h2 H2) (da:DVs K m2 H2 dacc acc) (q:Post K R m2 H2 E Q ((Ew src items sg t e ρ (items.drop i) h2 dacc).bind kk)):Pv K E α R Q kk src items sg t e ρ m1 H1 i n acc H2
section
variable {X:Cx} {E:XK} {D:Addr} {elt tg iter:Expr} {ifs:List Expr} {gs gens:List Comprehension} {scope:Scope} {pos:Pos} {Nc:List Str} {cs:List (Option Nat)} {it:MI} {gg:TG} {sg:MG} {t:MT} {f:ME} {e:BL} {d:Nat} {is js:List Nat}
end
section
variable {α β:Type} {cs:List (Option Nat)} {it:MI} {sg:MG} {t:MT} {f:ME} {e:BL} {ρ:Ae} {h:HD} {src:Ay} {xs:List α} {φ:α→D} {acc:List D}
noncomputable def Pw (cs:List (Option Nat)) (it:MI) (sg:MG) (t:MT) (e:BL):ME:=Ai (AF Ei) (Aa (FU cs it sg t e) Ac)
noncomputable def Px (cs:List (Option Nat)) (it:MI) (sg:MG) (t:MT) (e:BL):ME:=Ai (AF Fy) (Aa (FU cs it sg t e) Ac)
@[simp] theorem U2:Ai (AF Ei) (Aa (FU cs it sg t e) Ac) ρ h=Pw cs it sg t e ρ h:=rfl
@[simp] theorem U3:Ai (AF Fy) (Aa (FU cs it sg t e) Ac) ρ h=Px cs it sg t e ρ h:=rfl
end
end LS
namespace LS
open PySem
inductive TlN (h:Heap) (ns:List Str) (bB:List Value):List Value→Prop
 |base:TlN h ns bB bB
 |own {a:Addr} {c0:Value} {dd:Option Addr} {cd:ClassData} {sl:Array (Option Value)} {m:Str→Option Value} {tl:List Value} (ha:h.get? a=some {cls:=c0,dict:=dd,data:=.cls cd,slots:=sl}) (hm:h.Ns cd.ns m) (no:∀n∈ns,m n=none) (r:TlN h ns bB tl):TlN h ns bB (.ref a::tl)
theorem TlN.keeps {h h':Heap} {ns:List Str} {bB tl:List Value} (T:TlN h ns bB tl) (k:∀b o,h.get? b=some o→h'.get? b=some o):TlN h' ns bB tl:=by
 induction T with
 |base=>exact .base
 |own ha hm no _ ih=>exact .own (k _ _ ha) (hm.keeps k) no ih
theorem TlN.has {h:Heap} {ns:List Str} {bB tl:List Value} {v:Value} (T:TlN h ns bB tl) (hv:bB.contains v=true):tl.contains v=true:=by
 induction T with
 |base=>exact hv
 |own ha hm no _ ih=>rw [List.contains_cons,ih,Bool.or_true]
theorem TlN.refuse {h:Heap} {ns:List Str} {bB tl:List Value} {self:Value} {what:Str} (T:TlN h ns bB tl):refuseLoop self what tl=refuseLoop self what bB:=by
 induction T with
 |base=>rfl
 |own ha hm no _ ih=>rw [refuseLoop_ref,ih]
section
variable {M:Model} {A:Around} {E:Value→Shared→Prop} {h:Heap} {g:Array GenState} {d:Drawn} {t:Nat} {os:OsState}
theorem TlN.look {ns:List Str} {bB tl:List Value} {n:Str} {y:Option Value} {Q:Option Value→Shared→Prop} (T:TlN h ns bB tl) (hn:n∈ns) (e:lookupAlong bB n=pure y) (q:Q y ⟨h,g,d,t,os⟩):wpAny M A (lookupAlong tl n) Q E ⟨h,g,d,t,os⟩:=by
 induction T with
 |base=>rw [e];exact wpAny_pure q
 |own ha hm no _ ih=>
  rw [lookupAlong_cons];refine wpAny_bind (wpAny_classOwn_cls ha hm ?_);rw [no n hn]
  exact ih
variable {nm q:Str} {C N x:Addr} {bs bm bB:List Value} {hd:Bool} {sn:List Str} {sub:List Value} {ab:Bool} {col:Option Bool} {dd:Option Addr} {k0 k1 k2 k3 k5:Option Value} {B newId sa owner:String} {ns:List Str} {mN mA:Str→Option Value} {name:Str} {v:Value}
theorem Ey {n:Str} {y:Option Value} {Q:Option Value→Shared→Prop} (hC:h.get? C=some (excClassObj nm q C N bs bm hd sn sub ab col dd k0 k1 k2 k3 k5 newId)) (hN:h.Ns N mN) (T:TlN h ns bB bm) (hn:n∈ns) (hb:mroOf (.type B)=pure bB) (e:typeLookup (.type B) n=pure y)
 (q:Q (match mN n with |some v=>some v |none=>y) ⟨h,g,d,t,os⟩):wpAny M A (typeLookup (.ref C) n) Q E ⟨h,g,d,t,os⟩:=by
 have e2:lookupAlong bB n=pure y:=by rw [typeLookup_eq,hb] at e;exact e
 rw [typeLookup_eq];refine wpAny_bind (wpAny_mroOf_exc hC ?_);rw [lookupAlong_cons];refine wpAny_bind (wpAny_classOwn_exc hC hN ?_)
 cases hv:mN n with
 |some v=>rw [hv] at q;exact wpAny_pure q
 |none=>rw [hv] at q;exact T.look hn e2 q
end
section
variable {prog:Program} {w:World} {A:Around} {E:Value→Shared→Prop} {h:Heap} {g:Array GenState} {d:Drawn} {t:Nat} {os:OsState}
variable {nm q:Str} {C N x:Addr} {bs bm bB:List Value} {sn:List Str} {sub:List Value} {ab:Bool} {col:Option Bool} {dd:Option Addr} {k0 k1 k2 k3 k5:Option Value} {B newId sa owner:String} {ns:List Str} {mN mA:Str→Option Value} {name:Str} {v:Value}
structure Ky (h h':Heap) (x C:Addr) (name:Str) (v:Value) (mA:Str→Option Value):Prop where
 inst:h'.Inst x C (fun y=>if y=name then some v else mA y)
 keep:∀b o,b≠x→(∀o0 dx,h.get? x=some o0→o0.dict=some dx→b≠dx)→h.get? b=some o→h'.get? b=some o
 new:∀o0,h.get? x=some o0→o0.dict=none→∃o1,h'.get? x=some o1∧o1.dict=some h.objs.size
 same:∀o0,h.get? x=some o0→∃o1,h'.get? x=some o1∧o1.cls=o0.cls∧o1.data=o0.data∧o1.slots=o0.slots∧∀dx,o0.dict=some dx→o1.dict=some dx
theorem Pz {tk:Tok} {Q:Fin→Shared→Prop} {fs:List Str} (SF:StoreFacts B bB sa owner) (hC:h.get? C=some (excClassObj nm q C N bs bm true sn sub ab col dd k0 k1 k2 k3 k5 newId)) (hN:h.Ns N mN) (T:TlN h ns bB bm) (hin:name∈ns) (hna:mN name=none)
 (hB:typeLookup (.type B) name=pure none) (I:h.Inst x C mA) (hq:∀h' tk',Ky h h' x C name v mA→Q (.done (.ret .none)) ⟨h',g,d,tk',os⟩) (hw:Within mA fs) (hsz:fs.length+1≤sizeLine):
 wpAny (model prog w) A (Builtin.«object.__setattr__» ⟨[.ref x,.str name tk,v],[]⟩) Q E ⟨h,g,d,t,os⟩:=by
 obtain ⟨o,hx,hc,hnc,hdd⟩:=I
 have hpass:refuseLoop (.ref x) "__setattr__" bm=pure ():=T.refuse.trans (SF.passes (.ref x))
 unfold Builtin.«object.__setattr__»
 repeat (first |rw [refuse_eq] |(rw [refuseLoop_ref,hpass]) |(with_reducible refine wpAny_loadPart_at hx ?_;rw [hc]) |with_reducible refine wpAny_mroOf_exc hC ?_ |(with_reducible refine Ey hC hN T hin SF.mro hB ?_;rw [hna]) |wp_step)
 rcases hdd with ⟨hdn,hmA⟩ |⟨dx,hdx,hne,hns⟩
 ·rw [hdn,if_neg (by simp [typeHasDict])]
  split
  ·rename_i z;cases z
  split
  ·rename_i c z;exact absurd z (hnc c)
  ·have hx1:(h.push {cls:=.type "dict",data:=.dict #[]}).get? x=some o:=AR _ hx
   have hxs:x≠h.objs.size:=A6 (Ap hx)
   refine wpAny_bind (wpAny_alloc' (wpAny_bind (wpAny_update' hx1 (wpAny_pure ?_))))
   generalize eh:((h.push {cls:=.type "dict",data:=.dict #[]}).update x fun o=>{cls:=o.cls,dict:=some h.objs.size,data:=o.data,slots:=o.slots})=hp
   have hgd:hp.get? h.objs.size=some {cls:=.type "dict",data:=.dict #[]}:=by rw [←eh];exact (Heap.get?_update_ne _ _ _ _ hxs.symm).trans (Heap.get?_push_at rfl rfl)
   have hnd:hp.Ns h.objs.size (fun _=>none):=⟨_,#[],_,hgd,rfl,fun e he=>absurd he (by simp),fun _=>rfl⟩
   have hx2:hp.get? x=some {cls:=o.cls,dict:=some h.objs.size,data:=o.data,slots:=o.slots}:=by
    rw [←eh];refine DZ _ hx1 ?_
    have fr:=(Heap.get?_some_iff.mp hx).2
    obtain ⟨oc,od,odt,osl⟩:=o
    cases odt<;>first |rfl |exact fr
   have kp:∀b ob,b≠x→h.get? b=some ob→hp.get? b=some ob:=fun b ob hb e=>by rw [←eh];exact (Heap.get?_update_ne _ _ _ _ hb).trans (AR _ e)
   show wpAny _ _ (Builtin.ObjectAttr.storeInDict h.objs.size (.str name tk) name v) _ _ _
   unfold Builtin.ObjectAttr.storeInDict Builtin.ObjectAttr.newKeyGuard
   refine wpAny_bind (wpAny_pure (wpAny_bind (wpAny_nsSet1 (Heap.Ns1.of_empty hnd) fun h' hn' hs=>?_)))
   obtain ⟨oD,esD,epD,hoD,hdD,hcD⟩:=hn'.count (Within.cons name v Within.nil)
   refine wpAny_bind (wpAny_lookBehind hoD (by rw [hdD];exact pastItsLine_dict (Bi hcD (by rw [Dx,D2];omega))) ?_)
   wp_walk
   have hx3:h'.get? x=_:=(hs.2 x hxs).trans hx2
   refine hq h' _ ⟨⟨_,hx3,hc,hnc,.inr ⟨h.objs.size,rfl,hxs.symm,?_⟩⟩,fun b ob hb _ e=>(hs.2 b (A6 (Ap e))).trans (kp b ob hb e),fun o0 e0 _=>⟨_,hx3,rfl⟩,fun o0 e0=>?_⟩
   ·obtain ⟨o',es,ep,e1,e2,e3,eu,e4⟩:=hn'
    exact ⟨o',es,ep,e1,e2,e3,eu,fun y=>by rw [e4 y];by_cases hy:y=name<;>simp [hy,hmA]⟩
   ·obtain rfl:o=o0:=Option.some.inj (hx.symm.trans e0)
    exact ⟨_,hx3,rfl,rfl,rfl,fun dx e=>by rw [hdn] at e;cases e⟩
 ·rw [hdx]
  refine wpAny_pure ?_
  show wpAny _ _ (Builtin.ObjectAttr.storeInDict dx (.str name tk) name v) _ _ _
  unfold Builtin.ObjectAttr.storeInDict Builtin.ObjectAttr.newKeyGuard
  refine wpAny_bind (wpAny_pure (wpAny_bind (wpAny_nsSet1 hns fun h' hn' hs=>?_)))
  obtain ⟨oD,esD,epD,hoD,hdD,hcD⟩:=hn'.count (Within.cons name v hw)
  refine wpAny_bind (wpAny_lookBehind hoD (by rw [hdD];exact pastItsLine_dict (Bi hcD (by rw [Dx];omega))) ?_)
  wp_walk
  have hx3:h'.get? x=some o:=(hs.2 x hne.symm).trans hx
  exact hq h' _ ⟨⟨o,hx3,hc,hnc,.inr ⟨dx,hdx,hne,hn'⟩⟩,fun b ob _ hb e=>(hs.2 b (hb o dx hx hdx)).trans e,fun o0 e0 z=>(by rw [hx] at e0;cases e0;rw [hdx] at z;cases z),fun o0 e0=>⟨o0,(hs.2 x hne.symm).trans e0,rfl,rfl,rfl,fun _ e=>e⟩⟩
theorem PB {M:Model} {o:Obj} {nameV:Value} {Q:Unit→Shared→Prop} (SF:StoreFacts B bB sa owner) (hC:h.get? C=some (excClassObj nm q C N bs bm true sn sub ab col dd k0 k1 k2 k3 k5 newId)) (own:(Value.ref C::bm).contains (.type owner)=true) (hx:h.get? x=some o) (hc:o.cls=.ref C) (hq:Q () ⟨h,g,d,t,os⟩):
 wpAny M A (checkBuiltinCall sa ⟨[.ref x,nameV,v],[]⟩) Q E ⟨h,g,d,t,os⟩:=by
 have ha:=SF.args (.ref x) nameV v
 simp only [checkBuiltinCall,SF.kind,SF.split]
 refine wpAny_bind ?_
 unfold isInstance
 repeat (first |(with_reducible refine wpAny_loadPart_at hx ?_;rw [hc]) |(with_reducible refine wpAny_isSubtype_exc hC ?_;rw [own]) |wp_step)
 cases hs:Manifest.signature? sa with
 |none=>exact wpAny_pure hq
 |some sig=>
  simp only [argsOk,hs] at ha
  show wpAny M A (Bind.checkArgs sa sig ⟨[.ref x,nameV,v],[]⟩) Q E _
  rw [show Bind.checkArgs sa sig ⟨[.ref x,nameV,v],[]⟩=pure () from ha];exact wpAny_pure hq
theorem Kz {Q:Unit→Shared→Prop} {fs:List Str} (SF:StoreFacts B bB sa owner) (hC:h.get? C=some (excClassObj nm q C N bs bm true sn sub ab col dd k0 k1 k2 k3 k5 newId)) (hN:h.Ns N mN) (T:TlN h ns bB bm) (hin:name∈ns) (hin2:("__setattr__":Str)∈ns) (hna:mN name=none) (hns:mN "__setattr__"=none)
 (hB:typeLookup (.type B) name=pure none) (I:h.Inst x C mA) (hq:∀h' tk',Ky h h' x C name v mA→Q () ⟨h',g,d,tk',os⟩) (hw:Within mA fs) (hsz:fs.length+1≤sizeLine):
 wpAny (model prog w) A (setAttr (.ref x) name v) Q E ⟨h,g,d,t,os⟩:=by
 obtain ⟨o,hx,hc,_⟩:=id I
 have f3:=SF.slot.bind (.ref x)
 have own:(Value.ref C::bm).contains (.type owner)=true:=by rw [List.contains_cons,T.has SF.hasOwner,Bool.or_true]
 unfold setAttr callSpecial? specialOf
 repeat (any_goals (first |assumption |(with_reducible refine wpAny_loadPart_at hx ?_;rw [hc]) |(with_reducible refine Ey hC hN T hin2 SF.mro SF.slot.lookup ?_;rw [hns]) |wp_step))
 refine codeAny_call_builtin SF.slot.plain SF.entry (PB SF hC own hx hc (Pz SF hC hN T hin hna hB I (fun h' tk' st=>?_) hw hsz))
 repeat (any_goals (first |assumption |wp_step))
 exact hq h' tk' st
end
section
variable {prog:Program} {w:World} {A:Around} {E:Value→Shared→Prop} {h:Heap} {g:Array GenState} {d:Drawn} {t:Nat} {os:OsState}
variable {nm q:Str} {C N x:Addr} {bs bm bB:List Value} {sn:List Str} {sub:List Value} {ab:Bool} {col:Option Bool} {dd:Option Addr} {k0 k1 k2 k3 k5:Option Value} {B newId:String} {ns:List Str} {mN mA:Str→Option Value} {name:Str} {v:Value}
theorem PC {tk:Tok} {Q:Fin→Shared→Prop} (FB:ExcAttrBase B bB) (hC:h.get? C=some (excClassObj nm q C N bs bm true sn sub ab col dd k0 k1 k2 k3 k5 newId)) (hN:h.Ns N mN) (T:TlN h ns bB bm) (hin:name∈ns) (hna:mN name=none)
 (hB:typeLookup (.type B) name=pure none) (I:h.Inst x C mA) (hv:mA name=some v) (hq:Q (.done (.ret v)) ⟨h,g,d,t,os⟩):wpAny (model prog w) A (Builtin.«object.__getattribute__» ⟨[.ref x,.str name tk],[]⟩) Q E ⟨h,g,d,t,os⟩:=by
 obtain ⟨o,hx,hc,hnc,hdd⟩:=I
 rcases hdd with ⟨_,hmA⟩ |⟨dx,hdx,hne,hns⟩
 ·rw [hmA name] at hv;cases hv
 repeat (any_goals (first |assumption |(with_reducible refine wpAny_loadPart_at hx ?_;rw [hc]) |(with_reducible refine Ey hC hN T hin FB.mro hB ?_;rw [hna]) |wp_step))
 split
 ·rename_i c z;exact absurd z (hnc c)
 unfold instanceDict
 repeat (first |(with_reducible refine wpAny_loadPart_at hx ?_;rw [hc]) |with_reducible refine wpAny_loadPart_at hC ?_ |wp_step)
 rw [hdx]
 repeat (first |(with_reducible refine wpAny_nsGet hns.ns ?_;rw [hv]) |wp_step)
 exact hq
theorem PD {M:Model} {o:Obj} {nameV:Value} {Q:Unit→Shared→Prop} (hC:h.get? C=some (excClassObj nm q C N bs bm true sn sub ab col dd k0 k1 k2 k3 k5 newId)) (own:(Value.ref C::bm).contains (.type "BaseException")=true) (hx:h.get? x=some o) (hc:o.cls=.ref C) (hq:Q () ⟨h,g,d,t,os⟩):
 wpAny M A (checkBuiltinCall "BaseException.__getattribute__" ⟨[.ref x,nameV],[]⟩) Q E ⟨h,g,d,t,os⟩:=by
 have e1:builtinKind "BaseException.__getattribute__"=some .slot:=by decide +kernel
 have e2:splitId "BaseException.__getattribute__"=some ("BaseException","__getattribute__"):=by decide +kernel
 have ha:=F.args_bexc_ga (.ref x) nameV
 simp only [checkBuiltinCall,e1,e2]
 refine wpAny_bind ?_
 unfold isInstance
 repeat (first |(with_reducible refine wpAny_loadPart_at hx ?_;rw [hc]) |(with_reducible refine wpAny_isSubtype_exc hC ?_;rw [own]) |wp_step)
 exact hq
theorem PF {expr:Bool} {Q:Value→Shared→Prop} (FB:ExcAttrBase B bB) (hC:h.get? C=some (excClassObj nm q C N bs bm true sn sub ab col dd k0 k1 k2 k3 k5 newId)) (hN:h.Ns N mN) (T:TlN h ns bB bm) (hin:name∈ns) (hin2:("__getattribute__":Str)∈ns) (hin3:("__getattr__":Str)∈ns) (hna:mN name=none) (hn2:mN "__getattribute__"=none) (hn3:mN "__getattr__"=none)
 (hB:typeLookup (.type B) name=pure none) (I:h.Inst x C mA) (hv:mA name=some v) (hh:handedOut v=pure v) (hq:Q v ⟨h,g,d,t+1,os⟩):wpAny (model prog w) A (getAttr (.ref x) name expr) Q E ⟨h,g,d,t,os⟩:=by
 obtain ⟨o,hx,hc,_⟩:=id I
 have own:(Value.ref C::bm).contains (.type "BaseException")=true:=by rw [List.contains_cons,T.has FB.hasBase,Bool.or_true]
 have f3:=FB.ga.bind (.ref x)
 have hx0:(expr&&onTheHeap (Value.builtin "BaseException.__getattribute__"))=false:=by cases expr<;>rfl
 have hx2:(Value.builtin "BaseException.__getattribute__"==Value.builtin "object.__getattribute__")=false:=by decide +kernel
 have hx1:(onTheHeap (Value.ref C)&&Value.builtin "BaseException.__getattribute__"==Value.builtin "object.__getattribute__")=false:=by rw [hx2];rfl
 unfold getAttr getAttrBy
 repeat (any_goals (first |assumption |(with_reducible refine wpAny_loadPart_at hx ?_;rw [hc]) |(with_reducible refine Ey hC hN T hin2 FB.mro FB.ga.lookup ?_;rw [hn2]) |(with_reducible refine Ey hC hN T hin3 FB.mro FB.noGetattr ?_;rw [hn3]) |wp_step))
 refine codeAny_call_builtin FB.ga.plain F.entry_bexc_ga (PD hC own hx hc (PC FB hC hN T hin hna hB I hv ?_))
 show wpAny _ _ (handedOut v) _ _ _
 rw [hh];exact wpAny_pure hq
end
end LS
namespace LS
open PySem PySem.Spec PyProof.Rows L2
def tmNames:List Str:=["__init__","__setattr__","__getattribute__","__getattr__","many","most"]
def FV (K:PySem.W.Frag) (ns:List Str) (bB:List Value):List Value→Bool
 |[]=>bB==[]
 |v::r=>(v::r)==bB||match v with
  |.ref a=>(match K.lookup a with
   |some o=>(match clsOf o.data with
    |some cd=>PySem.W.nsOkIn K cd.ns&&(ns.all (fun n=>PySem.W.nsIn K cd.ns n==some none)&&FV K ns bB r)
    |none=>false)
   |none=>false)
  |_=>false
theorem KA {K:PySem.W.Frag} {h:Heap} {ns:List Str} {bB:List Value} (X:K.In h):∀{l:List Value},FV K ns bB l=true→TlN h ns bB l
 |[],e=>by rw [←beq_iff_eq.mp e];exact .base
 |v::r,e=>by
  unfold FV at e
  rcases Bool.or_eq_true_iff.mp e with q |q
  ·rw [beq_iff_eq.mp q];exact .base
  ·cases v with
   |ref a=>
    simp only at q
    cases lk:K.lookup a with
    |none=>rw [lk] at q;cases q
    |some o=>
     rw [lk] at q
     simp only at q
     cases ec:clsOf o.data with
     |none=>rw [ec] at q;cases q
     |some cd=>
      rw [ec] at q
      simp only [BE] at q
      obtain ⟨q1,q2,q3⟩:=q
      obtain ⟨cls,od,dt,sl⟩:=o
      replace ec:=Hg ec
      simp only at ec
      subst ec
      exact .own (X _ _ lk) (.of_isNs (PySem.W.isNs_of_in X q1)) (fun n hn=>PySem.W.nsMap_none_of_in X q1 (beq_iff_eq.mp (qaL.mp q2 n hn))) (KA X q3)
   |_=>cases q
theorem TlN.tail {h:Heap} {ns:List Str} {bB tl:List Value} (T:TlN h ns bB tl) (hi:("__init__":Str)∈ns):OwnTail h bB tl:=by
 induction T with
 |base=>exact .base
 |own ha hm no _ ih=>exact .own ha hm (no _ hi) ih
theorem PH {K:PySem.W.Frag} {h:Heap} {N:Addr} {m:Str→Option Value} {n:Str} {v:Value} (X:K.In h) (G:h.Ns N m) (e:PySem.W.nsIn K N n=some (some v)):m n=some v:=by
 obtain ⟨o,es,ep,ho,hd,_,hf⟩:=G
 unfold PySem.W.nsIn at e
 split at e
 ·rename_i lk
  have z:=(X _ _ lk).symm.trans ho
  cases z
  cases hd
  split at e
  ·rename_i en he
   cases e
   rw [←hf];unfold nsFind findBy;first |(rw [he];rfl) |(rw [←Array.find?_toList,he];rfl)
  ·split at e<;>cases e
 ·cases e
inductive KB (h:Heap) (C fI:Addr):Prop where
 |mk (bm:List Value) (N:Addr) (nm q:Str) (bs:List Value) (sn:List Str) (sub:List Value) (ab:Bool) (col:Option Bool) (dd:Option Addr) (k0 k1 k2 k3 k5:Option Value) (mN:Str→Option Value)
  (hC:h.get? C=some (excClassObj nm q C N bs bm true sn sub ab col dd k0 k1 k2 k3 k5 "ValueError.__new__")) (hN:h.Ns N mN) (hi:mN "__init__"=some (.ref fI)) (no:∀n∈tmNames.tail,mN n=none) (T:TlN h tmNames FM bm):KB h C fI
def FW (K:PySem.W.Frag) (C fI:Addr) (o:Obj) (cd:ClassData):Bool:=
 decide (o.cls=.type "type")&&(decide (cd.mro=.ref C::cd.mro.tail)&&(!cd.hasDel&&(FV K tmNames FM cd.mro.tail&&(PySem.W.nsOkIn K cd.ns&&(PySem.W.nsIn K cd.ns "__init__"==some (some (.ref fI))&&(tmNames.tail.all (fun n=>PySem.W.nsIn K cd.ns n==some none)&&(decide (o.slots.toList.length=6)&&(decide (o.slots.toList[4]?=some (some (.builtin "ValueError.__new__")))&&cd.hasDict))))))))
def tmX (K:PySem.W.Frag) (C fI:Addr):Bool:=match K.lookup C with
 |some o=>(match clsOf o.data with
  |some cd=>FW K C fI o cd
  |none=>false)
 |none=>false
theorem Ez {K:PySem.W.Frag} {C fI:Addr} (q:tmX K C fI=true) {h:Heap} (X:K.In h):KB h C fI:=by
 unfold tmX at q
 cases lk:K.lookup C with
 |none=>rw [lk] at q;cases q
 |some o=>
  rw [lk] at q
  replace q:(match clsOf o.data with |some cd=>FW K C fI o cd |none=>false)=true:=q
  cases ec:clsOf o.data with
  |none=>rw [ec] at q;cases q
  |some cd=>
   rw [ec] at q
   replace q:FW K C fI o cd=true:=q
   unfold FW at q
   simp only [BE,decide_eq_true_eq,Bool.not_eq_true',beq_iff_eq] at q
   obtain ⟨e1,e2,e3,e4,e5,e6,e6b,e7,e8,e9⟩:=q
   obtain ⟨cls,od,dt,⟨sl⟩⟩:=o
   obtain ⟨nm,bs,mro,ns,qn,hd,sn,sub,ab,col,del⟩:=cd
   replace ec:=Hg ec
   simp only at ec e1 e2 e3 e4 e5 e6 e6b e7 e8 e9
   obtain ⟨k0,k1,k2,k3,k4,k5,rfl⟩:=JY e7
   cases mro with
   |nil=>cases e2
   |cons c bm=>
    cases e2
    cases Option.some.inj e8
    subst ec e1 e3 e9
    have hNs:h.Ns ns (h.nsMap ns):=.of_isNs (PySem.W.isNs_of_in X e5)
    exact ⟨bm,ns,nm,qn,bs,sn,sub,ab,col,od,k0,k1,k2,k3,k5,h.nsMap ns,X _ _ lk,hNs,PH X hNs e6,fun n hn=>PySem.W.nsMap_none_of_in X e5 (beq_iff_eq.mp (qaL.mp e6b n hn)),KA X e4⟩
def Df (C t0:Addr) (da:Option Addr):Obj:={cls:=.ref C,dict:=da,data:=.fields #[.ref t0,.none,.none,.none,.bool false,.none]}
def AM (C e:Addr) (da:Option Addr) (h:Heap):Prop:=∃t0,h.get? e=some (Df C t0 da)
def CP (d:Addr) (m:Str→Option Value) (h:Heap):Prop:=h.Ns1 d m
def one (n:Str) (u:Value):Str→Option Value:=fun y=>if y=n then some u else none
theorem FX {P:Program} {w:World} {H:Hp} {h:Heap} {C e:Addr} {da:Option Addr} (x:AM C e da h):ObjOk P w H h e (.mex (AM C e da)):=
 ⟨x,let ⟨_,q⟩:=x;⟨_,q⟩,fun h1 h2 ⟨t0,q⟩ k=>⟨t0,k _ q⟩⟩
theorem PJ {P:Program} {w:World} {H:Hp} {h:Heap} {d:Addr} {m:Str→Option Value} (x:CP d m h):ObjOk P w H h d (.mex (CP d m)):=
 ⟨x,let ⟨o,_,_,q,_⟩:=x;⟨o,q⟩,fun h1 h2 q k=>Heap.Ns1.at q k⟩
section
variable {X:Cx} {pins:List (Addr×Obj)} {σ:L2.St} {H:Hp} {s:Shared} {E:Value→Shared→Prop} {A:Around} {C fI e da:Addr} {n:Str} {u:Value}
def del (H:Hp) (a:Addr):Hp:=fun b=>if b=a then none else H b
theorem KC {H:Hp} {a:Addr}:del H a a=none:=by unfold del;rw [if_pos rfl]
theorem CQ {H:Hp} {a b:Addr} (h:b≠a):del H a b=H b:=by unfold del;rw [if_neg h]
theorem PK {H:Hp} {a:Addr} {o:HO} (h:H a=none):del (Ag H a o) a=H:=by
 funext b;unfold del Ag;split
 ·rename_i z;rw [z,h]
 ·rfl
theorem Kp.del {H:Hp} {a:Addr} {φ:Heap→Prop} (h:H a=some (.mex φ)):Kp H (LS.del H a):=fun b o e i=>by
 rw [CQ]
 ·exact e
 ·intro z
  rw [z,h] at e;cases e;cases i
theorem HR.del {K:PySem.W.Frag} {m:List Addr} {h:HD} {H:Hp} {a:Addr} {φ:Heap→Prop} (r:HR K m h H) (e:H a=some (.mex φ)):HR K m h (LS.del H a):=r.same (.del e) fun b hb=>CQ fun z=>by
 subst z
 obtain ⟨l,hl,el⟩:=List.getElem_of_mem hb
 have hl':l<h.length:=by rw [←r.len];exact hl
 have c:=r.cells l h[l] m[l] (A8 hl') (A8 hl)
 rw [el] at c
 cases hc:h[l] with
 |lst ds=>rw [hc] at c;obtain ⟨vs,q,_⟩:=c;rw [e] at q;cases q
 |tab=>rw [hc] at c;obtain ⟨_,ps,q,_⟩:=c;rw [e] at q;cases q
theorem Inv.untrack {φ:Heap→Prop} (I:Inv X pins σ H s) (h:H e=some (.mex φ)):Inv X pins σ (del H e) s:=by
 have ne:∀b u,H b=some u→(∀ψ,u≠.mex ψ)→b≠e:=fun b u q nn z=>by rw [z,h] at q;cases q;exact nn _ rfl
 have no:∀b,H b=none→del H e b=none:=fun b q=>by
  unfold del;split
  ·rfl
  ·exact q
 refine ⟨I.ok,I.os,I.bare,⟨I.base.keep,I.base.slot,fun b o q n x=>no b (I.base.free b o q n x),I.base.there,fun b xs q=>?_,fun b o u q=>?_,fun b ps q=>?_⟩,I.loc,I.cell,no _ I.free,fun x c q=>no _ (I.freeC x c q),fun p hp=>?_,fun b u q=>?_,I.len⟩
 ·have z:=I.base.tups b xs q
  rw [CQ (ne b _ z fun ψ y=>by cases y)];exact z
 ·have z:=I.base.frzs b o u q
  rw [CQ (ne b _ z fun ψ y=>by cases y)];exact z
 ·obtain ⟨more,z⟩:=I.base.tbls b ps q
  exact ⟨more,by rw [CQ (ne b _ z fun ψ y=>by cases y)];exact z⟩
 ·obtain ⟨a1,a2,a3⟩:=I.pin p hp
  exact ⟨a1,no _ a2,a3⟩
 ·by_cases z:b=e
  ·rw [z,KC] at q;cases q
  ·rw [CQ z] at q
   exact (I.hok b u q).stay (fun _ _ _ y=>y) (fun c y=>by rw [CQ (ne c _ y fun ψ w=>by cases w)];exact y) fun c xs y=>by rw [CQ (ne c _ y fun ψ w=>by cases w)];exact y
theorem Inv.retrack {o:HO} (I:Inv X pins σ H s) (old:X.H₀ e≠none) (no:H e=none) (hL:e≠X.env.locals) (hc:∀x c,X.env.cells.lookup x=some c→c≠e) (hp:∀p∈X.pn++pins,p.1≠e) (ok:ObjOk X.prog X.w (Ag H e o) s.heap e o):Inv X pins σ (Ag H e o) s:=by
 have ne:∀b u,H b=some u→b≠e:=fun b u q=>AZ q no
 refine ⟨I.ok,I.os,I.bare,⟨I.base.keep,I.base.slot,fun b ob q n hx=>?_,I.base.there,fun b xs q=>?_,fun b ob u q=>?_,fun b ps q=>?_⟩,I.loc,I.cell,?_,fun x c q=>?_,fun p hp'=>?_,fun b u q=>?_,I.len⟩
 ·rw [Af (fun z=>by rw [z] at n;exact old n)];exact I.base.free b ob q n hx
 ·have z:=I.base.tups b xs q
  rw [Af (ne _ _ z)];exact z
 ·have z:=I.base.frzs b ob u q
  rw [Af (ne _ _ z)];exact z
 ·obtain ⟨more,z⟩:=I.base.tbls b ps q
  exact ⟨more,by rw [Af (ne _ _ z)];exact z⟩
 ·rw [Af (Ne.symm hL)];exact I.free
 ·rw [Af (hc x c q)];exact I.freeC x c q
 ·obtain ⟨a1,a2,a3⟩:=I.pin p hp'
  exact ⟨a1,by rw [Af (hp p hp')];exact a2,a3⟩
 ·by_cases hb:b=e
  ·subst hb
   rw [AU] at q
   cases q
   exact ok
  ·rw [Af hb] at q
   exact (I.hok b u q).stay (fun _ _ _ y=>y) (fun c y=>by rw [Af (ne _ _ y)];exact y) fun c xs y=>by rw [Af (ne _ _ y)];exact y
theorem PL {Q:Unit→Shared→Prop} (I:Inv X pins σ H s) (tm:tmX X.K C fI=true) (hin:n∈tmNames.tail) (hB:typeLookup (.type "ValueError") n=pure none) (hH:H e=some (.mex (AM C e none)))
 (q:∀(da:Addr) (s':Shared),H da=none→da≠e→Inv X pins σ (Ag (Ag H e (.mex (AM C e (some da)))) da (.mex (CP da (one n u)))) s'→Q () s'):wpAny (model X.prog X.w) A (setAttr (.ref e) n u) Q E s:=by
 obtain ⟨bm,N,nm,qn,bs,sn,sub,ab,col,dd,k0,k1,k2,k3,k5,mN,hC,hN,hi,no,T⟩:=Ez tm I.kIn
 obtain ⟨⟨t0,he⟩,_,_⟩:=(show ObjOk X.prog X.w H s.heap e (.mex (AM C e none)) from I.hok e _ hH)
 have II:s.heap.Inst e C (fun _=>none):=⟨_,he,rfl,fun c z=>(by cases z),.inl ⟨rfl,fun _=>rfl⟩⟩
 refine Kz (fs:=[]) PySem.F.store_ValueError hC hN T (Gv hin) (by decide) (no n hin) (no _ (by decide)) hB II (fun h' tk' st=>?_) Within.nil (by unfold sizeLine;decide)
 obtain ⟨o1,a1,a2⟩:=st.new _ he rfl
 obtain ⟨o2,b1,b2,b3,b4,_⟩:=st.same _ he
 rw [a1] at b1
 cases b1
 have fresh:H s.heap.objs.size=none:=I.fresh
 have ne:s.heap.objs.size≠e:=fun z=>by rw [z,hH] at fresh;cases fresh
 have eo:o1=Df C t0 (some s.heap.objs.size):=by
  obtain ⟨c1,d1,dt1,sl1⟩:=o1
  simp only [Df] at b2 b3 b4 a2
  subst b2 b3 b4 a2
  rfl
 subst eo
 have hd:CP s.heap.objs.size (one n u) h':=by
  obtain ⟨o,x1,_,_,z⟩:=st.inst
  rw [a1] at x1
  cases x1
  rcases z with ⟨z,_⟩ |⟨d',z,_,z2⟩
  ·cases z
  ·cases z
   exact z2
 have keep:∀b o,b≠e→s.heap.get? b=some o→h'.get? b=some o:=fun b o hb eb=>st.keep b o hb (fun o0 dx x1 x2=>by rw [he] at x1;cases x1;cases x2) eb
 have nse:∀b w',H b=some w'→(∀φ,w'≠.mex φ)→b≠e∧b≠s.heap.objs.size:=fun b w' hb nn=>⟨fun z=>(by rw [z,hH] at hb;cases hb;exact nn _ rfl),fun z=>(by rw [z,fresh] at hb;cases hb)⟩
 refine q s.heap.objs.size _ fresh ne (I.un (t':=tk') (h':=h') ⟨fun b o eb nb _ _=>keep b o (fun z=>by rw [z,hH] at nb;cases nb) eb,fun b o eb nb _ _=>⟨o.slots,keep b o (fun z=>by rw [z,hH] at nb;cases nb) eb⟩,fun b o eb nb _=>?_,fun b o eb _=>?_,fun b xs eb=>?_,fun b o w' eb=>?_,fun b ps eb=>?_⟩ fun b w' eb=>?_)
 ·rw [Af (A6 (Ap eb)),Af (fun z=>by rw [z,hH] at nb;cases nb)];exact nb
 ·by_cases z:b=e
  ·subst z;exact ⟨_,a1⟩
  ·exact ⟨o,keep b o z eb⟩
 ·obtain ⟨z1,z2⟩:=nse b _ eb (fun φ z=>by cases z)
  rw [Af z2,Af z1];exact eb
 ·obtain ⟨z1,z2⟩:=nse b _ eb (fun φ z=>by cases z)
  rw [Af z2,Af z1];exact eb
 ·obtain ⟨z1,z2⟩:=nse b _ eb (fun φ z=>by cases z)
  exact ⟨#[],by rw [Af z2,Af z1,eb];simp⟩
 ·by_cases z2:b=s.heap.objs.size
  ·subst z2
   rw [AU] at eb
   cases eb
   exact PJ hd
  ·rw [Af z2] at eb
   by_cases z1:b=e
   ·subst z1
    rw [AU] at eb
    cases eb
    exact FX ⟨t0,a1⟩
   ·rw [Af z1] at eb
    refine (I.hok b w' eb).stay (fun c o hc ec=>keep c o (fun z=>?_) ec) (fun c hc=>?_) fun c xs hc=>?_
    ·rcases hc with hc |hc
     ·exact z1 (hc.symm.trans z)
     ·rw [z,hH] at hc;cases hc
    ·obtain ⟨y1,y2⟩:=nse c _ hc (fun φ z=>by cases z)
     rw [Af y2,Af y1];exact hc
    ·obtain ⟨y1,y2⟩:=nse c _ hc (fun φ z=>by cases z)
     rw [Af y2,Af y1];exact hc
theorem PM {Q:Unit→Shared→Prop} {n2:Str} {u2:Value} {fs:List (Str×V)} (I:Inv X pins σ H s) (tm:tmX X.K C fI=true) (hin:n2∈tmNames.tail) (hB:typeLookup (.type "ValueError") n2=pure none) (hH:H e=some (.mex (AM C e (some da)))) (hD:H da=some (.mex (CP da (one n u)))) (ne:da≠e)
 (rel:∀f,RelO (fs.lookup f) (if f=n2 then some u2 else one n u f)) (q:∀s':Shared,Inv X pins σ (Ag H da (.xd fs)) s'→Q () s'):wpAny (model X.prog X.w) A (setAttr (.ref e) n2 u2) Q E s:=by
 obtain ⟨bm,N,nm,qn,bs,sn,sub,ab,col,dd,k0,k1,k2,k3,k5,mN,hC,hN,hi,no,T⟩:=Ez tm I.kIn
 obtain ⟨⟨t0,he⟩,_,_⟩:=(show ObjOk X.prog X.w H s.heap e (.mex (AM C e (some da))) from I.hok e _ hH)
 obtain ⟨hd,_,_⟩:=(show ObjOk X.prog X.w H s.heap da (.mex (CP da (one n u))) from I.hok da _ hD)
 have II:s.heap.Inst e C (one n u):=⟨_,he,rfl,fun c z=>(by cases z),.inr ⟨da,rfl,ne,hd⟩⟩
 refine Kz (fs:=[n]) PySem.F.store_ValueError hC hN T (Gv hin) (by decide) (no n2 hin) (no _ (by decide)) hB II (fun h' tk' st=>?_) (Within.cons n u Within.nil) (by show 2≤sizeLine;unfold sizeLine;decide)
 obtain ⟨o2,b1,b2,b3,b4,b5⟩:=st.same _ he
 have eo:o2=Df C t0 (some da):=by
  obtain ⟨c1,d1,dt1,sl1⟩:=o2
  have b6:=b5 da rfl
  simp only [Df] at b2 b3 b4 b6
  subst b2 b3 b4 b6
  rfl
 subst eo
 have hd2:h'.Ns1 da (fun y=>if y=n2 then some u2 else one n u y):=by
  obtain ⟨o,x1,_,_,z⟩:=st.inst
  rw [b1] at x1
  cases x1
  rcases z with ⟨z,_⟩ |⟨d',z,_,z2⟩
  ·cases z
  ·cases z
   exact z2
 refine q _ (Inv.write (x:=da) (e:=da) (t':=tk') (h':=h') I (by rw [hD];trivial) (.inl rfl) (fun b o hb eb=>?_) ?_ ⟨_,hd2,rel⟩)
 ·by_cases z:b=e
  ·subst z
   rw [he] at eb
   cases eb
   exact b1
  ·exact st.keep b o z (fun o0 dx x1 x2=>by rw [he] at x1;cases x1;cases x2;exact hb) eb
 ·obtain ⟨o,_,_,x1,_⟩:=hd2
  exact ⟨o,x1⟩
end
end LS
namespace LS
open PySem PySem.Spec PyProof.Rows L2 PySem.Calls PySem.W
def swX (K:PySem.W.Frag) (S:Addr):Bool:=PySem.W.readsIn K S (.type "type")&&(match PySem.W.findCls K (.ref S) (.type "type") "__init__" with
 |some (.val (.builtin b))=>b=="ValueError.__init__"
 |_=>false)
theorem PN {prog:Program} {w:World} {A:Around} {E:Value→Shared→Prop} {s:Shared} {K:PySem.W.Frag} {S:Addr} {pl:Sem Bool} {Q:Value×List Value→Shared→Prop} (X:K.In s.heap) (q:swX K S=true)
 (h:Q (.builtin "ValueError.__init__",[]) {s with toks:=s.toks+1}):wpAny (model prog w) A (getMethod (.ref S) "__init__" pl) Q E s:=by
 unfold swX at q
 rw [BE] at q
 obtain ⟨hr,q⟩:=q
 split at q
 ·rename_i b e
  rw [beq_iff_eq] at q
  subst q
  have hr':=hr
  simp only [PySem.W.readsIn,BE,beq_iff_eq] at hr'
  obtain ⟨⟨⟨⟨_,ty⟩,hg⟩,_⟩,_⟩:=hr'
  have L0:Looks (model prog w) s.heap (typeOf (.ref S)) (.type "type"):=PySem.W.looks_typeIn X ty
  unfold getMethod specialOf
  refine wpAny_bind (wpAny_bind (L0.here ((PySem.W.looks_findIn X hg).here ?_)))
  dsimp only
  rw [if_pos PySem.W.canon_tga]
  refine wpAny_bind (wpAny_mono (Q:=fun v=>Q (v,[])) (E:=E) ?_ (fun _ _ z=>wpAny_pure z) fun _ _ z=>z)
  refine PySem.W.cls_read X hr e (wpAny_pure ?_)
  show wpAny _ _ (handedOut (.builtin "ValueError.__init__")) _ _ _
  rw [PySem.W.handedOut_of (by decide +kernel)];exact wpAny_pure h
 ·cases q
theorem PP {M:Model} {A:Around} {E:Value→Shared→Prop} {s:Shared} {env:Env} {pos:Pos} {b:String} {first:List Value} {Q:Value→Shared→Prop} {e:Expr} {rest:List Expr} (h:wpAny M A (spliced (backTo pos (starEach (e::rest) env))) (fun vs s1=>wpAny M A (call (.builtin b) (first++vs)) Q E s1) E s)
 (he:starEach (e::rest) env=(false,eval e env)::starEach rest env) (hpl:(backTo pos (starEach rest env)).any (·.1)=false):wpAny M A (callWith pos (.builtin b) first (backTo pos (starEach (e::rest) env)) []) Q E s:=by
 rw [he] at h ⊢
 exact callWith_of (P:=fun _=>True) (by show ((false||(backTo pos (starEach rest env)).any (·.1))||false)=false;rw [hpl];rfl) (fun _ _=>⟨.machine,.inr (.inl rfl),.now⟩) (evalArgs_plain (wpAny_mono h (fun _ _ z=>⟨trivial,z⟩) fun _ _ z=>z))
def PQ (H₀:Hp) (C:Addr) (ta:TA):TE:=fun σ H Q=>∃e,H₀ e≠none∧H e=some (.mex (AM C e none))∧ta σ (del H e) fun vs H1=>∃x,vs=[.ref e,.str x]∧(H1 e=none→Q .non (Ag H1 e (.mex (AM C e none))))
section
variable {X:Cx} {C fI S:Addr} {ta:TA} {a1 a2:Expr} {p1 p2 p5:Pos}
theorem PR (tm:tmX X.K C fI=true) (sw:swX X.K S=true) (hg:Gl X "SwitchError") (hS:PySem.W.nsIn X.K mainGlobals "SwitchError"=some (some (.ref S))) (ha:PA X [a1,a2] ta)
 (he:∀pl:Sem Bool,pl=(do return (←importBound (.Name "SwitchError" p1) X.env).getD true)→eval (.Call (.Attribute (.Name "SwitchError" p1) "__init__" p2) [a1,a2] [] p5) X.env=(do
  let ov ←eval (.Name "SwitchError" p1) X.env
  standAt p2.atName
  let (f,first) ←holding [ov] (getMethod ov "__init__" pl)
  callWith p5 f first (backTo p5 (starEach [a1,a2] X.env)) (backToKw p5 (keywordEach [] X.env)))) (hs:starEach [a1,a2] X.env=(false,eval a1 X.env)::starEach [a2] X.env:=by rfl) (hpl:(backTo p5 (starEach [a2] X.env)).any (·.1)=false:=by rfl):
 PE X (.Call (.Attribute (.Name "SwitchError" p1) "__init__" p2) [a1,a2] [] p5) (PQ X.H₀ C ta):=by
 rintro pins s σ H Q I ⟨e,old,hH,h⟩
 refine PySem.W.methodCall_KW (D5 I hg (PySem.W.mg_of I.mod.kin I.mod.glob hS) ?_) (he _ rfl)
 refine PN I.kIn sw ?_
 obtain ⟨⟨t0,ho0⟩,_,_⟩:=(show ObjOk X.prog X.w H s.heap e (.mex (AM C e none)) from I.hok e _ hH)
 have neL:e≠X.env.locals:=fun z=>by have:=I.free;rw [←z,hH] at this;cases this
 have neF:e∉X.fs:=fun z=>old (I.ok.frf e z)
 have neC:∀x c,X.env.cells.lookup x=some c→c≠e:=fun x c q z=>by have:=I.freeC x c q;rw [z,hH] at this;cases this
 have neP:∀p∈X.pn++pins,p.1≠e:=fun p hp z=>by have:=(I.pin p hp).2.1;rw [z,hH] at this;cases this
 have I0:L2.Inv X ((e,Df C t0 none)::pins) σ (del H e) {s with toks:=s.toks+1}:=((LS.Inv.untrack I hH).tok (s.toks+1)).pins_of fun p hp=>by
  rcases qa6.mp hp with rfl |hp
  ·exact ⟨ho0,KC,neL,neF,fun v z=>by cases z⟩
  ·exact (LS.Inv.untrack I hH).pin p (Bh _ hp)
 refine PP (Am (ha p5 _ _ σ (del H e) _ I0 h) ?_) hs hpl
 rintro us s1 ⟨vs,H1,I2,r,x,rfl,q⟩
 obtain ⟨bm,N,nm,qn,bs,sn,sub,ab,col,dd,k0,k1,k2,k3,k5,mN,hC,hN,hi,no,T⟩:=Ez tm I2.kIn
 obtain ⟨ho,no1,_⟩:=I2.pin _ (Bh _ Ax)
 have I3:Inv X pins σ (Ag H1 e (.mex (AM C e none))) s1:=LS.Inv.retrack (I2.pins_of fun p hp=>I2.pin p (Bh _ (AA _ hp))) old no1 neL neC neP (FX ⟨t0,ho⟩)
 cases r with
 |cons r1 r2=>
  cases r2 with
  |cons r2 r3=>
   cases r3
   cases (show _=Value.ref e from r1)
   refine Pq (rest:=[_]) PySem.F.excBase_ValueError (T.tail (by decide)) hC ho (by simp [sizeLine]) fun h' sz kp e1 e2=>?_
   have I4:Inv X pins σ (Ag (Ag H1 e (.mex (AM C e none))) e (.mex (AM C e none))) {s1 with heap:=h'}:=Inv.write (x:=e) (e:=e) (t':=s1.toks) I3 (by rw [AU];trivial) (.inl rfl) (fun b o hb eb=>kp b o hb eb) ⟨_,e1⟩ (FX ⟨_,e1⟩)
   rw [Gw] at I4
   exact ⟨.non,_,I4,rfl,q no1⟩
end
end LS
namespace LS
open PySem PySem.Spec PyProof.Rows L2 PySem.Calls
section
variable {X:Cx} {C fI S:Addr}
theorem PU {p1 p2 p3 p4:Pos} (tm:tmX X.K C fI=true) (h0:X.N[0]?=some ("self":Str)) (v0:BP X.env.scope "self") (h1:X.N[1]?=some ("many":Str)) (v1:BP X.env.scope "many") (hs:swapsWith (.Name "many" p3) (some (.Attribute (.Name "self" p1) "many" p2)) p4.line X.env=pure false:=by rfl):
 PS X (.Assign [.Attribute (.Name "self" p1) "many" p2] (.Name "many" p3) p4) (fun D σ H=>∃e a,σ[0]?=some (some (.ref e))∧σ[1]?=some (some (.int a))∧H e=some (.mex (AM C e none))∧
  ∀da u,RelV (.int a) u→H da=none→da≠e→D.nx σ (Ag (Ag H e (.mex (AM C e (some da)))) da (.mex (CP da (one "many" u))))):=by
 rintro pins s σ H D I ⟨e,a,s0,s1,hH,q⟩
 refine plainObj_wpAny_Assign_Attribute (Am ((D4 (pos:=p3) h1 v1:PE X _ _) pins s σ H (fun v H1=>v=.int a∧H1=H) I ⟨_,s1,rfl,rfl⟩) fun u t1 z=>?_) hs
 obtain ⟨v,H1,I1,r1,rfl,rfl⟩:=z
 refine Am ((D4 (pos:=p1) h0 v0:PE X _ _) pins t1 σ H1 (fun v H2=>v=.ref e∧H2=H1) I1 ⟨_,s0,rfl,rfl⟩) fun ou t2 z=>?_
 obtain ⟨v,H2,I2,r2,rfl,rfl⟩:=z
 cases (show ou=Value.ref e from r2)
 exact PL I2 tm (by decide) (by rw [typeLookup_type,builtinLookup_eq_fast];kernel_rfl) hH fun da s' n1 n2 I3=>⟨σ,_,I3,q da u r1 n1 n2⟩
theorem PV {p1 p2 p3 p4:Pos} (tm:tmX X.K C fI=true) (h0:X.N[0]?=some ("self":Str)) (v0:BP X.env.scope "self") (h1:X.N[2]?=some ("most":Str)) (v1:BP X.env.scope "most") (hs:swapsWith (.Name "most" p3) (some (.Attribute (.Name "self" p1) "most" p2)) p4.line X.env=pure false:=by rfl):
 PS X (.Assign [.Attribute (.Name "self" p1) "most" p2] (.Name "most" p3) p4) (fun D σ H=>∃e da a b u,σ[0]?=some (some (.ref e))∧σ[2]?=some (some (.int b))∧RelV (.int a) u∧H e=some (.mex (AM C e (some da)))∧H da=some (.mex (CP da (one "many" u)))∧da≠e∧
  D.nx σ (Ag H da (.xd [("many",.int a),("most",.int b)]))):=by
 rintro pins s σ H D I ⟨e,da,a,b,u,s0,s1,ru,hH,hD,ne,q⟩
 refine plainObj_wpAny_Assign_Attribute (Am ((D4 (pos:=p3) h1 v1:PE X _ _) pins s σ H (fun v H1=>v=.int b∧H1=H) I ⟨_,s1,rfl,rfl⟩) fun u2 t1 z=>?_) hs
 obtain ⟨v,H1,I1,r1,rfl,rfl⟩:=z
 refine Am ((D4 (pos:=p1) h0 v0:PE X _ _) pins t1 σ H1 (fun v H2=>v=.ref e∧H2=H1) I1 ⟨_,s0,rfl,rfl⟩) fun ou t2 z=>?_
 obtain ⟨v,H2,I2,r2,rfl,rfl⟩:=z
 cases (show ou=Value.ref e from r2)
 refine PM I2 tm (by decide) (by rw [typeLookup_type,builtinLookup_eq_fast];kernel_rfl) hH hD ne (fun f=>?_) fun s' I3=>⟨σ,_,I3,q⟩
 by_cases f1:f="most"
 ·subst f1
  exact r1
 ·by_cases f2:f="many"
  ·subst f2
   exact ru
  ·have e1:(f=="many")=false:=by simp [f2]
   have e2:(f=="most")=false:=by simp [f1]
   simp only [CD,e1,e2,one,if_neg f1,if_neg f2]
   trivial
end
noncomputable abbrev B4:ME:=Eu (FS (Ab 1) (FR " are more than " (FS (Ab 2) FQ)))
inductive FY (K:PySem.W.Frag) (C:Addr) (vs:List V) (H:Hp) (Q:VK) (E:XK):Prop
 |mk (e:Addr) (a b:Int) (m:List Addr) (h h2:HD) (x:Str) (ev:vs=[.ref e,.int a,.int b]) (hr:HR K m h H) (hH:H e=some (.mex (AM C e none))) (hj:B4 [none,some (.int a),some (.int b)] h=.ok (.str x) h2)
  (q:∀m1 H1 da,m <+:m1→Kp (del H e) H1→HR K m1 h2 H1→H1 e=none→H1 da=none→da≠e→Q .non (Ag (Ag H1 e (.mex (AM C e (some da)))) da (.xd [("many",.int a),("most",.int b)]))):FY K C vs H Q E
section
variable {P:Program} {w:World} {K:PySem.W.Frag} {mg:Str→Option Value} {base:Heap} {C f S:Addr} {k:Nat} {qual:Str} {scope:Scope} {p1 p2 p3 p4 p5 p6 q1 q2 q3 q4 r1 r2 r3 r4:Pos} {js:Expr}
abbrev KG (js:Expr) (p1 p2 p3 p5 p6 q1 q2 q3 q4 r1 r2 r3 r4:Pos):List Stmt:=[.Expr (.Call (.Attribute (.Name "SwitchError" p1) "__init__" p2) [.Name "self" p3,js] [] p5) p6,.Assign [.Attribute (.Name "self" q1) "many" q2] (.Name "many" q3) q4,.Assign [.Attribute (.Name "self" r1) "most" r2] (.Name "most" r3) r4]
theorem PX {name:Str} {params:Arguments} {dV kV doc pm cdv ct oc:Value} {an od:Option Addr} {osl:Array (Option Value)}
 (lk:K.lookup f=some ⟨oc,od,.func (PySem.W.fnOf name qual params (KG js p1 p2 p3 p5 p6 q1 q2 q3 q4 r1 r2 r3 r4) scope dV kV doc pm an cdv ct),osl⟩) (hcd:PySem.W.codeIn K cdv qual=true) (Sc:Bt ["self","many","most"] ["self","many","most"] scope)
 (tm:tmX K C f=true) (sw:swX K S=true) (hS:PySem.W.nsIn K mainGlobals "SwitchError"=some (some (.ref S)))
 (hg:∀A outer s H E,Gl (A0 (Aw P w K) P w K mg base ["self","many","most"] qual scope f cdv A outer s H E) "SwitchError")
 (ha:∀A outer s H E,BI (A0 (Aw P w K) P w K mg base ["self","many","most"] qual scope f cdv A outer s H E) E [.Name "self" p3,js] (Aa (Ab 0) (Aa B4 Ac)))
 (he:∀(env:Env) (pl:Sem Bool),pl=(do return (←importBound (.Name "SwitchError" p1) env).getD true)→eval (.Call (.Attribute (.Name "SwitchError" p1) "__init__" p2) [.Name "self" p3,js] [] p5) env=(do
  let ov ←eval (.Name "SwitchError" p1) env
  standAt p2.atName
  let (f,first) ←holding [ov] (getMethod ov "__init__" pl)
  callWith p5 f first (backTo p5 (starEach [.Name "self" p3,js] env)) (backToKw p5 (keywordEach [] env))))
 (hst:∀env:Env,starEach [.Name "self" p3,js] env=(false,eval (.Name "self" p3) env)::starEach [js] env) (hpl:∀env:Env,(backTo p5 (starEach [js] env)).any (·.1)=false)
 (hsw1:∀env:Env,swapsWith (.Call (.Attribute (.Name "SwitchError" p1) "__init__" p2) [.Name "self" p3,js] [] p5) none p6.line env=pure false) (hsw2:∀env:Env,swapsWith (.Name "many" q3) (some (.Attribute (.Name "self" q1) "many" q2)) q4.line env=pure false) (hsw3:∀env:Env,swapsWith (.Name "most" r3) (some (.Attribute (.Name "self" r1) "most" r2)) r4.line env=pure false)
 (v0:BP scope "self") (v1:BP scope "many") (v2:BP scope "most"):
 FnOk P w K mg base (Aw P w K) (k+1) f (PySem.W.fnOf name qual params (KG js p1 p2 p3 p5 p6 q1 q2 q3 q4 r1 r2 r3 r4) scope dV kV doc pm an cdv ct) ["self","many","most"] (FY K C):=by
 refine Il lk hcd Sc (fun vs H Q E z=>by obtain ⟨e,a,b,_,_,_,_,rfl,_⟩:=z;rfl) fun A outer s H vs Q E hr z=>?_
 obtain ⟨e,a,b,m,h,h2,x,rfl,hr1,hH,hj,q⟩:=z
 refine ⟨_,Gy (LL (PR (fI:=f) tm sw (hg A outer s H E) hS (ha A outer s H E) (he _) (hst _) (hpl _)) (hsw1 _)) (Gy (PU (fI:=f) tm rfl v0 rfl v1 (hsw2 _)) (HU (PV (fI:=f) tm rfl v0 rfl v2 (hsw3 _)))),?_⟩
 refine ⟨e,by show H e≠none;rw [hH];simp,hH,m,[some (.adr e),some (.int a),some (.int b)],h,HR.del hr1 hH,?_,?_⟩
 ·refine ⟨rfl,fun i d ed=>?_⟩
  match i,ed with
  |0,ed=>cases ed;exact ⟨.ref e,rfl,by simp [DV]⟩
  |1,ed=>cases ed;exact ⟨.int a,rfl,by simp [DV]⟩
  |2,ed=>cases ed;exact ⟨.int b,rfl,by simp [DV]⟩
  |i+3,ed=>cases ed
 ·have ev:Aa (Ab 0) (Aa B4 Ac) [some (.adr e),some (.int a),some (.int b)] h=.ok [.adr e,.str x] h2:=by
   unfold Aa Ac
   show (Out.ok (D.adr e) h).bind _=_
   simp only [Out.bind_ok]
   rw [show B4 [some (.adr e),some (.int a),some (.int b)] h=B4 [none,some (.int a),some (.int b)] h from rfl,hj]
   rfl
  rw [ev]
  intro vs m1 H1 p1 k1 hr2 r
  simp only [Cu,DVs,DV] at r
  obtain ⟨v1,w1,rfl,rfl,v2,w2,rfl,rfl,rfl⟩:=r
  refine ⟨x,rfl,fun ne=>⟨e,a,rfl,rfl,AU,fun da u ru n1 n2=>⟨e,da,a,b,u,rfl,rfl,ru,?_,AU,n2,?_⟩⟩⟩
  ·rw [Af (Ne.symm n2)];exact AU
  ·rw [Gw,Gw]
   exact q m1 H1 da p1 k1 hr2 ne (by rw [Af n2] at n1;exact n1) n2
end
noncomputable def U4 (fa:MA):MS:=fun ρ h=>(fa ρ h).bind fun xs h1=>match xs with
 |[.int a,.int b]=>(match B4 [none,some (.int a),some (.int b)] h1 with
  |.ok (.str _) h2=>.err (En "TooMany") [("many",.int a),("most",.int b)] h2
  |_=>.stuck)
 |_=>.stuck
section
variable {X:Cx} {E:XK} {C fI:Addr} {fd:FuncData} {k:Nat}
end
def EA (nm:Str):D→HD→Out D
 |.exc n fs,h=>if n="TooMany" then (match fs.lookup nm with
  |some i=>.ok (.int i) h
  |none=>.stuck) else .stuck
 |_,_=>.stuck
noncomputable def Dg (f:ME) (nm:Str):ME:=fun ρ h=>(f ρ h).bind fun d h1=>EA nm d h1
section
variable {X:Cx} {E:XK} {C fI:Addr}
end
end LS
namespace Tp
open PySem PySem.W PySem.Spec PySem.Calls PyProof.Rows
section
variable {α β:Type}
noncomputable def fN (n:Nat) (k:Nat→α):α:=@Nat.rec (fun _=>α) (k 0) (fun m _=>k (Nat.succ m)) n
theorem FZ (n:Nat) (k:Nat→α):fN n k=k n:=by cases n<;>rfl
noncomputable def fL (l:List β):(List β→α)→α:=@List.rec β (fun _=>(List β→α)→α) (fun k=>k []) (fun a _ ih k=>ih fun l'=>k (a::l')) l
theorem EB:∀(l:List β) (k:List β→α),fL l k=k l
 |[],_=>rfl
 |a::l,k=>EB l fun l'=>k (a::l')
noncomputable def fE (l:List DictEntry):(List DictEntry→α)→α:=@List.rec DictEntry (fun _=>(List DictEntry→α)→α) (fun k=>k []) (fun a _ ih k=>ih fun l'=>@DictEntry.rec (fun _=>α) (fun x y z=>k (⟨x,y,z⟩::l')) a) l
theorem KH:∀(l:List DictEntry) (k:List DictEntry→α),fE l k=k l
 |[],_=>rfl
 |⟨_,_,_⟩::l,k=>KH l fun l'=>k (_::l')
noncomputable def fD (d:Data) (k:Data→α):α:=@Data.rec (fun _=>α) (k .plain) (fun v=>k (.prim v)) (fun x n=>@Array.rec Value (fun _=>α) (fun l=>fL l fun l=>fN n fun n=>k (.seq ⟨l⟩ n)) x)
 (fun x n=>@Array.rec DictEntry (fun _=>α) (fun l=>fE l fun l=>fN n fun n=>k (.dict ⟨l⟩ n)) x) (fun x n t=>k (.set x n t)) (fun b n=>k (.bytearray b n)) (fun v=>k (.cell v)) (fun f=>k (.func f)) (fun c=>k (.cls c))
 (fun x=>@Array.rec Value (fun _=>α) (fun l=>fL l fun l=>k (.fields ⟨l⟩)) x) (k .freed) d
theorem PY (d:Data) (k:Data→α):fD d k=k d:=by
 cases d with
 |seq x n=>cases x;simp only [fD,EB,FZ]
 |dict x n=>cases x;simp only [fD,KH,FZ]
 |fields x=>cases x;simp only [fD,EB]
 |_=>rfl
noncomputable def fO (o:Obj) (k:Obj→α):α:=@Obj.rec (fun _=>α) (fun c d da sl=>fD da fun da=>k ⟨c,d,da,sl⟩) o
theorem KI (o:Obj) (k:Obj→α):fO o k=k o:=by cases o;simp only [fO,PY]
noncomputable def fT (t:BT):(BT→α)→α:=@BT.rec (fun _=>(BT→α)→α) (fun k=>k .nil) (fun v _ _ il ir k=>fO v fun v=>il fun l=>ir fun r=>k (.node v l r)) t
theorem Hu:∀(t:BT) (k:BT→α),fT t k=k t
 |.nil,_=>rfl
 |.node v l r,k=>by
  show fO v (fun v=>fT l fun l=>fT r fun r=>k (.node v l r))=_
  rw [KI,Hu l,Hu r]
noncomputable def fS (s:SharedT) (k:SharedT→α):α:=@SharedT.rec (fun _=>α) (fun t n li g d tk os=>fT t fun t=>fN n fun n=>fN tk fun tk=>@Drawn.rec (fun _=>α) (fun a b c e=>@Array.rec GenState (fun _=>α) (fun g=>fL g fun g=>k ⟨t,n,li,⟨g⟩,⟨a,b,c,e⟩,tk,os⟩) g) d) s
theorem Hv (s:SharedT) (k:SharedT→α):fS s k=k s:=by
 obtain ⟨t,n,li,⟨g⟩,⟨a,b,c,e⟩,tk,os⟩:=s
 simp only [fS,Hu,FZ,EB]
noncomputable def fP (p:Pos) (k:Pos→α):α:=@Pos.rec (fun _=>α) (fun a b c d=>fN a fun a=>fN b fun b=>fN c fun c=>fN d fun d=>k ⟨a,b,c,d⟩) p
theorem Hw (p:Pos) (k:Pos→α):fP p k=k p:=by cases p;simp only [fP,FZ]
end
section
variable (stp:SharedT→Thread→Option (SharedT×Thread)) (ok:Thread→Bool) (seg:Nat→SharedT→Thread→Option (Flow×SharedT×Code×Pos))
noncomputable def DS (env:Env) (c:Code) (f:Nat):List (List Stmt)→SharedT→Pos→List Code→Option (SharedT×Pos×List Code)
 |[],s,pos,cs=>some (s,pos,cs)
 |l::ls,s,pos,cs=>match seg f s (piecesOf l env c pos [topFrame ⟨0,0,0,0⟩]) with
  |some (.next,s',c',pos')=>fS s' fun s'=>fP pos' fun pos'=>DS env c f ls s' pos' (c'::cs)
  |_=>none
def F0:Nat→SharedT→Thread→Option (SharedT×Thread)
 |0,s,t=>some (s,t)
 |n+1,s,t=>match through t with
  |true=>none
  |false=>match ok t with
   |false=>none
   |true=>match stp s t with
    |some (s',t')=>F0 n s' t'
    |none=>none
def F4:Nat→SharedT→Thread→Option SharedT
 |0,_,_=>none
 |n+1,s,t=>match through t with
  |true=>some s
  |false=>match ok t with
   |false=>none
   |true=>match stp s t with
    |some (s',t')=>F4 n s' t'
    |none=>none
def cut:Nat→List Stmt→List (List Stmt)
 |0,l=>[l]
 |n+1,l=>match l with
  |[]=>[]
  |x::l=>[x]::cut n l
theorem KJ:∀(n:Nat) (l:List Stmt),(cut n l).flatten=l
 |0,l=>by simp [cut]
 |_+1,[]=>rfl
 |n+1,x::l=>by simp [cut,KJ n l]
theorem KL:∀(n:Nat) (l:List Stmt),(cut n l).length≤n+1
 |0,l=>AJ _
 |_+1,[]=>CF _
 |n+1,x::l=>Nat.succ_le_succ (KL n l)
def Hx (p:Program):Env:={scope:=p.main.scope,locals:=mainNs,globals:=mainNs,cells:=[],code:=.ref 13,frame:=some 14}
def Dh (p:Program):Code:=.body (behindTheImports p) (Hx p)
noncomputable def Cn (p:Program) (S0:SharedT):Option (Thread×List Code×SharedT):=match F0 stp ok 12 S0 (topStub p) with
 |some (sa,ta)=>match seg 1 sa (blockOf (behindTheImports p) (Hx p) (Dh p) ⟨0,0,0,0⟩ [topFrame ⟨0,0,0,0⟩]) with
  |some (.next,sb,cb,pb)=>fS sb fun sb=>fP pb fun pb=>match DS seg (Hx p) (Dh p) 2000 (cut 400 (behindTheImports p)) sb pb [cb] with
   |some (sf,pf,cs)=>match F4 stp ok 2 sf ⟨doneF .next,Dh p,pf,[topFrame ⟨0,0,0,0⟩]⟩ with
    |some sg=>some (ta,cs,sg)
    |none=>none
   |none=>none
  |_=>none
 |none=>none
end
noncomputable def KM (P:Params) (os:OsState):SharedT:=⟨((boot_heap P).objs.toList.foldl (fun (x:BT×Nat) o=>(x.1.ins x.2 o,x.2+1)) (.nil,0)).1,11,(boot_heap P).life,⟨[]⟩,boot_drawn,boot_toks,os⟩
theorem PZ (P:Params) (os:OsState):(KM P os).abs=⟨boot_heap P,⟨[]⟩,boot_drawn,boot_toks,os⟩:=by kernel_rfl
section
variable {α:Type}
noncomputable def Hz (l:List Obj):(List Obj→α)→α:=@List.rec Obj (fun _=>(List Obj→α)→α) (fun k=>k []) (fun a _ ih k=>fO a fun a=>ih fun l'=>k (a::l')) l
theorem KN:∀(l:List Obj) (k:List Obj→α),Hz l k=k l
 |[],_=>rfl
 |a::l,k=>by show fO a (fun a=>Hz l fun l'=>k (a::l'))=_;rw [KI,KN]
noncomputable def Aq (s:SharedT) (k:Shared→α):α:=Hz (s.tree.list s.n) fun l=>k ⟨⟨⟨l⟩,s.life⟩,s.gens,s.drawn,s.toks,s.os⟩
theorem P0 (s:SharedT) (k:Shared→α):Aq s k=k s.abs:=KN _ _
end
section
variable {tb:String→Option Builtin} {p:Program} {w:World} {m0:Nat} {ann:Option Value}
theorem KO:∀{n:Nat} {s s':SharedT} {t t':Thread},F0 (stepT (denote tb) p w) (stepOk m0 ann) n s t=some (s',t')→topGo tb p w m0 ann n s.abs t=some (s'.abs,t')
 |0,_,_,_,_,h=>by cases h;rfl
 |n+1,s,s',t,t',h=>by
  unfold F0 at h
  unfold topGo
  cases he:through t with
  |true=>rw [he] at h;cases h
  |false=>
   rw [he] at h
   cases hk:stepOk m0 ann t with
   |false=>rw [hk] at h;cases h
   |true=>
    rw [hk] at h
    cases hs:stepT (denote tb) p w s t with
    |none=>rw [hs] at h;cases h
    |some r=>obtain ⟨s₂,t₂⟩:=r;rw [hs] at h;rw [stepT_spec hs];exact KO h
theorem KP:∀{n:Nat} {s s':SharedT} {t:Thread},F4 (stepT (denote tb) p w) (stepOk m0 ann) n s t=some s'→topRun tb p w m0 ann n s.abs t=some s'.abs
 |0,_,_,_,h=>by cases h
 |n+1,s,s',t,h=>by
  unfold F4 at h
  unfold topRun
  cases he:through t with
  |true=>rw [he] at h;cases h;rfl
  |false=>
   rw [he] at h
   cases hk:stepOk m0 ann t with
   |false=>rw [hk] at h;cases h
   |true=>
    rw [hk] at h
    cases hs:stepT (denote tb) p w s t with
    |none=>rw [hs] at h;cases h
    |some r=>obtain ⟨s₂,t₂⟩:=r;rw [hs] at h;rw [stepT_spec hs];exact KP h
theorem HA {seg:Nat→SharedT→Thread→Option (Flow×SharedT×Code×Pos)} {env:Env} {c:Code} {f:Nat}:∀{ls:List (List Stmt)} {s sf:SharedT} {pos pf:Pos} {c0 cs:List Code},DS seg env c f ls s pos c0=some (sf,pf,cs)→∀x∈c0,x∈cs
 |[],_,_,_,_,_,_,h,x,hx=>by cases h;exact hx
 |l::ls,s,sf,pos,pf,c0,cs,h,x,hx=>by
  unfold DS at h
  split at h
  ·rw [Hv,Hw] at h;exact HA h x (.tail _ hx)
  ·cases h
theorem KQ {env:Env} {c:Code} {f:Nat}:∀{ls:List (List Stmt)} {s sf:SharedT} {pos pf:Pos} {c0 cs:List Code},DS (segRunT tb p w m0 ann 1) env c f ls s pos c0=some (sf,pf,cs)→(∀x∈cs,x=c)→∀{N:Nat} {r:Shared},
 topRun tb p w m0 ann N sf.abs ⟨doneF .next,c,pf,[topFrame ⟨0,0,0,0⟩]⟩=some r→topRun tb p w m0 ann (ls.length*f+N) s.abs (restOf ls.flatten env c pos [topFrame ⟨0,0,0,0⟩])=some r
 |[],s,sf,pos,pf,c0,cs,h,hc,N,r,k=>by
  cases h
  rw [D2,Nat.zero_mul,Nat.zero_add]
  exact piece_nil k
 |l::ls,s,sf,pos,pf,c0,cs,h,hc,N,r,k=>by
  unfold DS at h
  split at h
  ·rename_i s' c' pos' e
   rw [Hv,Hw] at h
   have e1:=segRun_of e
   rw [hc c' (HA h c' (.head _))] at e1
   have:=piece_app (rest:=ls.flatten) e1 (KQ h hc k)
   rw [Dx,Nat.succ_mul,Nat.add_comm (ls.length*f) f,Nat.add_assoc]
   exact this
  ·cases h
end
noncomputable def P3 {α:Type} (OS:Program→List Str→List Str→(Shared→Bool)→Bool→Shared→_) (IM:List Stmt→List Str) (p q:Program) (loose:List Str) (Yf:Shared→α) (H₀:Heap) (s:Shared):=
 ((staticsOk (IM p.main.body) H₀ s.heap&&namesBound p s.heap&&gensDone s&&laidKept H₀ s.heap),(OS q loose (IM p.main.body) (fun _=>true) true s:type_of% (openSeen q loose [] (fun _=>true) true s)),Yf s)
theorem left_of {p q:Program} {loose:List Str} {α:Type} {Yf:Shared→α} {Ya:World→α} {n:Nat} (e:opening p=plainProg p.main.scope.names) (fm:∀s,fenceModules? p s=some s)
 (size:∀w:World,((boot_heap w.params).isNs mainGlobals&&(Array.mk ([]:List GenState)).size==0,(boot_heap w.params).objs.size,(boot_heap w.params).nsMap mainGlobals "__annotations__")=(true,11,some (.ref 6)))
 (h:∀(w:World) (os:OsState),(Cn (stepT (denote treeTable) p w) (stepOk 11 (some (.ref 6))) (segRunT treeTable p w 11 (some (.ref 6)) 1) p (KM w.params os)).map (fun r=>(r.1,r.2.1,Aq r.2.2 (P3 openSeen importedModules p q loose Yf (boot_heap w.params))))=
  some (⟨denote treeTable (Dh p),Dh p,⟨0,0,0,0⟩,[topFrame ⟨0,0,0,0⟩]⟩,List.replicate n (Dh p),(true,openGood q loose,Ya w))):
 LeftO p q loose (fun _=>true) Yf Ya 1000000:=fun w=>by
 obtain ⟨⟨hp,gs,d,k,os⟩,e0,e'⟩:=qaN.mp (boot_open (N:=1000000) e rfl fm w)
 obtain ⟨rfl,rfl,rfl,rfl⟩:hp=boot_heap w.params∧gs=Array.mk []∧d=boot_drawn∧k=boot_toks:=by simpa using e'
 obtain ⟨z1,z2,z3⟩:_∧_∧_:=by simpa only [Prod.mk.injEq] using size w
 obtain ⟨⟨ta,cs,sg⟩,h1,h2⟩:=qaN.mp (h w os)
 dsimp only at h2
 rw [P0] at h2
 obtain ⟨h3,h4⟩:=Prod.mk.inj h2
 obtain ⟨h5,h6⟩:=Prod.mk.inj h4
 obtain ⟨l1,h7⟩:=Prod.mk.inj h6
 obtain ⟨l2,l3⟩:=Prod.mk.inj h7
 have hcs:∀x∈cs,x=Dh p:=fun x hx=>by rw [h5] at hx;exact List.eq_of_mem_replicate hx
 have run:topRun treeTable p w 11 (some (.ref 6)) 1000000 ⟨boot_heap w.params,Array.mk [],boot_drawn,boot_toks,os⟩ (topStub p)=some sg.abs:=by
  rw [←PZ]
  unfold Cn at h1
  split at h1
  ·rename_i sa ta' ea
   split at h1
   ·rename_i sb cb pb eb
    rw [Hv,Hw] at h1
    split at h1
    ·rename_i sf pf cs' ec
     split at h1
     ·rename_i sg' eg
      cases h1
      have hb:=segRun_of eb
      rw [hcs cb (HA ec cb (.head _))] at hb
      have c1:=KQ ec hcs (KP eg)
      rw [KJ] at c1
      have c2:=piece_block hb c1
      have c3:=KO ea
      rw [h3] at c3
      have c4:=go_top c3 c2
      have hl:=KL 400 (behindTheImports p)
      have:=topRun_mono (1000000 - (12+(1+((cut 400 (behindTheImports p)).length*2000+2)))) _ _ _ _ c4
      rwa [show 12+(1+((cut 400 (behindTheImports p)).length*2000+2))+(1000000 - (12+(1+((cut 400 (behindTheImports p)).length*2000+2))))=1000000 by omega] at this
     ·cases h1
    ·cases h1
   ·cases h1
  ·cases h1
 have t:topFrom treeTable p w 1000000 ⟨boot_heap w.params,Array.mk [],boot_drawn,boot_toks,os⟩=some sg.abs:=by
  unfold topFrom
  dsimp only
  rw [z1,z2,z3,run]
  show (match staticsOk (importedModules p.main.body) (boot_heap w.params) sg.abs.heap&&namesBound p sg.abs.heap&&gensDone sg.abs&&laidKept (boot_heap w.params) sg.abs.heap with |true=>_ |false=>_)=_
  rw [l1]
 unfold openEnds
 rw [e0]
 show (topFrom treeTable p w 1000000 _).map _=_
 rw [t]
 exact congrArg some (Prod.ext l2 l3)
def KR (h:Heap) (a:Addr):Option (Addr×Obj):=match h.get? a with
 |some o=>(match o.cls,a==mainNs||a==cStatics with
  |.none,false=>none
  |_,_=>some (a,o))
 |none=>none
def ED (h:Heap):Frag:=(List.range h.objs.size).filterMap (KR h)
theorem lookup_mem {a:Addr} {o:Obj}:∀{l:Frag},l.lookup a=some o→(a,o)∈l
 |[],h=>by cases h
 |(b,o')::l,h=>by
  rw [CD] at h
  split at h
  ·rename_i q
   cases h
   rw [beq_iff_eq.mp q]
   exact .head _
  ·exact .tail _ (lookup_mem h)
theorem P4 (h:Heap):(ED h).In h:=fun a o e=>by
 obtain ⟨b,_,hb⟩:=List.mem_filterMap.mp (lookup_mem e)
 unfold KR at hb
 split at hb
 ·rename_i o' e'
  split at hb
  ·cases hb
  ·cases hb;exact e'
 ·cases hb
def blank (fd:FuncData):FuncData:={fd with kwdefaults:=.none,doc:=.none,pyModule:=.none,annotations:=none,code:=.none,closureTuple:=.none}
def DT (K:Frag) (n:Str):Option (FuncData×Bool×Bool):=match nsIn K mainGlobals n with
 |some (some (.ref f))=>(match K.lookup f with
  |some ⟨_,_,.func fd,_⟩=>some (blank fd,codeIn K fd.code n,keepIn K (.ref f))
  |_=>none)
 |_=>none
abbrev F5 (n:Str) (st:Stmt):FuncData:=fnOf n n (L2.defArgs st) (L2.defBody st) (L2.defScope st) .none .none .none .none none .none .none
inductive EE (K:Frag) (n:Str) (st:Stmt):Prop where
 |mk (f:Addr) (od an:Option Addr) (sl:Array (Option Value)) (oc kV dc pm cd ct:Value) (a:nsIn K mainGlobals n=some (some (.ref f)))
  (l:K.lookup f=some ⟨oc,od,.func (fnOf n n (L2.defArgs st) (L2.defBody st) (L2.defScope st) .none kV dc pm an cd ct),sl⟩) (c:codeIn K cd n=true) (k:keepIn K (.ref f)=true):EE K n st
theorem P5 {K:Frag} {n:Str} {st:Stmt} (e:DT K n=some (F5 n st,true,true)):EE K n st:=by
 unfold DT at e
 split at e
 ·rename_i f hf
  split at e
  ·rename_i oc od fd sl hl
   obtain ⟨e1,e2⟩:=Prod.mk.inj (Option.some.inj e)
   obtain ⟨e3,e4⟩:=Prod.mk.inj e2
   obtain ⟨x1,x2,x3,x4,x5,x6,x7,x8,x9,x10,x11,x12,x13,x14,x15⟩:=fd
   replace e1:FuncData.mk x1 x2 x3 x4 x5 x6 x7 x8 .none .none .none none .none .none x15=F5 n st:=e1
   injection e1 with y1 y2 y3 y4 y5 y6 y7 y8 y9 y10 y11 y12 y13 y14 y15
   subst x1 x2 x3 x4 x5 x6 x7 x8 x15
   exact ⟨f,od,x12,sl,oc,x9,x10,x11,x13,x14,hf,hl,e3,e4⟩
  ·cases e
 ·cases e
def DU (K:Frag) (x:Str):Option Int:=match nsIn K mainGlobals x with
 |some (some (.int v _))=>some v
 |_=>none
theorem P6 {K:Frag} {x:Str} {v:Int} (e:DU K x=some v):∃t,nsIn K mainGlobals x=some (some (.int v t)):=by
 unfold DU at e
 split at e
 ·rename_i t h;cases e;exact ⟨t,h⟩
 ·cases e
def KS (K:Frag) (h:Heap):Option (Option Obj×Bool×Bool):=match LS.tabP K with
 |some (c,T)=>some (h.get? T,codeHdIn K c T,(K.lookup T).isNone)
 |none=>none
structure Want where
 fs:List (Str×Stmt)
 cs:List (Str×Int)
 bs:List Str
abbrev F6:=List (Option (FuncData×Bool×Bool))×List (Option Int)×List (Option (Option Value))×Bool×Option (Option Obj×Bool×Bool)
noncomputable def U5 (W:Want) (s:Shared):F6:=fL (ED s.heap) fun K=>
 (W.fs.map fun x=>DT K x.1,W.cs.map fun x=>DU K x.1,W.bs.map (nsIn K mainGlobals),LS.etOk K,KS K s.heap)
def P7 (W:Want):F6:=(W.fs.map fun x=>some (F5 x.1 x.2,true,true),W.cs.map fun x=>some x.2,W.bs.map fun _=>some none,true,some (some (tabObj #[]),true,true))
inductive HB (W:Want) (K:Frag) (c T:Addr):Prop where
 |mk (fs:∀(i:Nat) n st,W.fs[i]?=some (n,st)→EE K n st) (cs:∀(i:Nat) n v,W.cs[i]?=some (n,v)→∃t,nsIn K mainGlobals n=some (some (.int v t))) (bs:∀(i:Nat) n,W.bs[i]?=some n→nsIn K mainGlobals n=some none)
  (et:LS.etOk K=true) (tb:LS.tabP K=some (c,T)) (hd:codeHdIn K c T=true) (no:K.lookup T=none):HB W K c T
def Says (W:Want) (_:World) (h:Heap):Prop:=∃(K:Frag) (c T:Addr),K.In h∧HB W K c T∧h.get? T=some (tabObj #[])
theorem Says.keeps {W:Want} (w:World) (h h':Heap) (x:Says W w h) (k:∀b o,h.get? b=some o→h'.get? b=some o):Says W w h':=by
 obtain ⟨K,c,T,h1,h2,h3⟩:=x
 exact ⟨K,c,T,h1.keeps k,h2,k _ _ h3⟩
theorem HC {α β:Type} {f g:α→β} {l:List α} (e:l.map f=l.map g) {i:Nat} {x:α} (h:l[i]?=some x):f x=g x:=by
 have:=congrArg (·[i]?) e
 simp only [CC,h,Dz,Option.some.injEq] at this
 exact this
end Tp
namespace LS
open PySem PySem.W PySem.Spec PySem.Calls PyProof.Rows L2
end LS
namespace Tp
open PySem PySem.W PySem.Spec PySem.Calls PyProof.Rows
def F7 (K:Frag):Option (FuncData×List Bool):=match nsIn K mainGlobals "TooMany",nsIn K mainGlobals "SwitchError" with
 |some (some (.ref C)),some (some (.ref S))=>(match K.lookup C with
  |some o=>(match LS.clsOf o.data with
   |some cd=>(match nsIn K cd.ns "__init__" with
    |some (some (.ref f))=>(match K.lookup f with
     |some ⟨oc,_,.func fd,_⟩=>some (blank fd,[codeIn K fd.code "TooMany.__init__",LS.tmX K C f,LS.swX K S,keepIn K (.ref C),oc==.type "function"])
     |_=>none)
    |_=>none)
   |none=>none)
  |none=>none)
 |_,_=>none
abbrev F8 (st:Stmt):FuncData:=fnOf "__init__" "TooMany.__init__" (L2.defArgs st) (L2.defBody st) (L2.defScope st) .none .none .none .none none .none .none
inductive HasT (K:Frag) (st:Stmt):Prop where
 |mk (C S f:Addr) (od an:Option Addr) (sl:Array (Option Value)) (kV dc pm cd ct:Value) (nC:nsIn K mainGlobals "TooMany"=some (some (.ref C))) (nS:nsIn K mainGlobals "SwitchError"=some (some (.ref S)))
  (l:K.lookup f=some ⟨.type "function",od,.func (fnOf "__init__" "TooMany.__init__" (L2.defArgs st) (L2.defBody st) (L2.defScope st) .none kV dc pm an cd ct),sl⟩) (c:codeIn K cd "TooMany.__init__"=true) (tm:LS.tmX K C f=true) (sw:LS.swX K S=true) (kp:keepIn K (.ref C)=true):HasT K st
theorem P8 {K:Frag} {st:Stmt} (e:F7 K=some (F8 st,[true,true,true,true,true])):HasT K st:=by
 unfold F7 at e
 split at e
 ·rename_i C S hC hS
  split at e
  ·split at e
   ·rename_i cd _
    split at e
    ·rename_i f hf
     split at e
     ·rename_i oc od fd sl hl
      obtain ⟨e1,e2⟩:=Prod.mk.inj (Option.some.inj e)
      simp only [List.cons.injEq,and_true] at e2
      obtain ⟨e3,e4,e5,e6,e7⟩:=e2
      rw [beq_iff_eq] at e7
      subst e7
      obtain ⟨x1,x2,x3,x4,x5,x6,x7,x8,x9,x10,x11,x12,x13,x14,x15⟩:=fd
      replace e1:FuncData.mk x1 x2 x3 x4 x5 x6 x7 x8 .none .none .none none .none .none x15=F8 st:=e1
      injection e1 with y1 y2 y3 y4 y5 y6 y7 y8 y9 y10 y11 y12 y13 y14 y15
      subst x1 x2 x3 x4 x5 x6 x7 x8 x15
      exact ⟨C,S,f,od,x12,sl,x9,x10,x11,x13,x14,hC,hS,hl,e3,e4,e5,e6⟩
     ·cases e
    ·cases e
   ·cases e
  ·cases e
 ·cases e
noncomputable def U6 (W:Want) (s:Shared):F6×Option (FuncData×List Bool):=fL (ED s.heap) fun K=>
 ((W.fs.map fun x=>DT K x.1,W.cs.map fun x=>DU K x.1,W.bs.map (nsIn K mainGlobals),LS.etOk K,KS K s.heap),F7 K)
def U7 (W:Want) (st:Stmt):F6×Option (FuncData×List Bool):=(P7 W,some (F8 st,[true,true,true,true,true]))
def SaysT (W:Want) (st:Stmt) (_:World) (h:Heap):Prop:=∃(K:Frag) (c T:Addr),K.In h∧(HB W K c T∧HasT K st)∧h.get? T=some (tabObj #[])
theorem SaysT.keeps {W:Want} {st:Stmt} (w:World) (h h':Heap) (x:SaysT W st w h) (k:∀b o,h.get? b=some o→h'.get? b=some o):SaysT W st w h':=by
 obtain ⟨K,c,T,h1,h2,h3⟩:=x
 exact ⟨K,c,T,h1.keeps k,h2,k _ _ h3⟩
end Tp
namespace LS
open PySem PySem.W PySem.Spec PySem.Calls PyProof.Rows L2
structure KU (P:Program) (w:World) (K:Frag) (mg:Str→Option Value) (base:Heap) (C f:Addr) (fd:FuncData) (oI:Obj):Prop where
 tm:tmX K C f=true
 F:FnOk P w K mg base (Aw P w K) 1 f fd ["self","many","most"] (FY K C)
 hb:Binds K fd ["self","many","most"] []
 lI:K.lookup f=some oI
 cI:oI.cls=.type "function"
 kp:keepIn K (.ref C)=true
 nC:nsIn K mainGlobals "TooMany"=some (some (.ref C))
end LS
namespace LS
open PySem PySem.Spec PyProof.Rows L2
open Classical in
noncomputable def U8:D→HD→Out D
 |.int i,h=>if i.natAbs<4611686018427387904 then .ok (.str (toString i)) h else .stuck
 |_,_=>.stuck
section
variable {X:Cx}
def U9 (i j k:Nat) (ta:TA):TS:=fun Dn σ H=>ta σ H fun vs H1=>∃u v w,vs=[u,v,w]∧Dn.nx (((σ.set i (some u)).set j (some v)).set k (some w)) H1
def HE (i j k:Nat) (ρ:Ae):List D→HD→Out (Fl×Ae)
 |[u,v,w],h=>.ok (.nx,((ρ.set i (some u)).set j (some v)).set k (some w)) h
 |_,_=>.stuck
noncomputable def KV (i j k:Nat) (fa:MA):MS:=fun ρ h=>(fa ρ h).bind fun ds h1=>HE i j k ρ ds h1
end
@[simp] theorem Va {i j k:Nat} {fa:MA} {ρ:Ae} {h:HD} {Q:Fl×Ae→HD→Prop}:Wp (KV i j k fa ρ h) Q=Wp (fa ρ h) fun ds h1=>Wp (HE i j k ρ ds h1) Q:=by unfold KV;rw [Al]
@[simp] theorem Vb {i j k:Nat} {ρ:Ae} {u v w:D} {h:HD} {Q:Fl×Ae→HD→Prop}:Wp (HE i j k ρ [u,v,w] h) Q=Q (.nx,((ρ.set i (some u)).set j (some v)).set k (some w)) h:=rfl
section
variable {X:Cx}
abbrev Vc:=CJ fun i j=>.int (Builtin.bitXor i j)
end
section
variable {X:Cx} {E:XK} {D:Addr} {elt tg iter:Expr} {ifs:List Expr} {gs gens:List Comprehension} {scope:Scope} {pos:Pos} {Nc:List Str} {cs:List (Option Nat)} {it:MI} {gg:TG} {sg:MG} {t:MT} {f:ME} {e:BL} {d:Nat} {is js:List Nat}
end
def P9:List Expr→Option (List (Int×Int))
 |[]=>some []
 |.Tuple [.Constant (.int a) _ _,.Constant (.int b) _ _] _ _::es=>(P9 es).map ((a,b)::·)
 |_=>none
noncomputable def F9:List (Int×Int)→MA
 |[]=>Ac
 |p::ps=>Aa (Fh (Aa (mC (.int p.1)) (Aa (mC (.int p.2)) Ac))) (F9 ps)
@[simp] theorem Vd:F9 []=Ac:=rfl
@[simp] theorem Ve {p:Int×Int} {ps:List (Int×Int)}:F9 (p::ps)=Aa (Fh (Aa (mC (.int p.1)) (Aa (mC (.int p.2)) Ac))) (F9 ps):=rfl
section
variable {X:Cx} {E:XK}
@[irreducible] def Vf (X:Cx) (E:XK) (st:Stmt) (g:MS):Prop:=Ex X E st g
@[irreducible] def Vg (X:Cx) (E:XK) (sts:List Stmt) (g:MS):Prop:=Be X E sts g
end
end LS
namespace LS
open PySem PySem.Spec PySem.W PyProof.Rows L2
end LS
namespace LS
open PySem PySem.Spec PyProof.Rows L2 PySem.W
theorem Qa {P:Program} {w:World} {K:Frag} {mg mb:Str→Option Value} {k:Nat} {fa a:Addr} {fd:FuncData} {x:Str} {F:List D→HD→Out D} {s₁:Shared} {vs:List Value} {ns:List Int}
 (KX:K.In s₁.heap) (hns:s₁.heap.Ns mainGlobals mg) (hb:s₁.heap.Ns builtinsNs mb) (hbb:∀x:Str,x≠"__name__"→mb x=bootBuiltins x) (hlim:s₁.heap.NoLimit) (hg:s₁.gens=#[]) (hbm:Es mg s₁.heap)
 (ha:s₁.heap.get? a=some {cls:=.type "list",data:=.seq vs.toArray}) (hi:IntsAre vs ns) (hl:ns.length≤sizeLine) (hr:Room k callerA)
 (FF:∀base:Heap,K.In base→base.Ns mainGlobals mg→Es mg base→FnOk P w K mg base (Aw P w K) k fa fd [x] (CN K F)) (hbind:∀(s:Shared) (u:Value),BindsTo s fd ⟨[u],[]⟩ [(x,u)])
 (hF:∃h',F [.scr ns] []=.ok (.bl true) h'):
 codeAny (model P w) callerA (.call (.ref fa) ⟨[.ref a],[]⟩) (fun r s'=>r=.ok (.ret (.bool true))∧OldK s₁.heap s'.heap∧s'.os=s₁.os∧AllBare s'.gens) s₁:=by
 have rv:=L2.vals_ints hi
 have lenV:=hi.length
 have core:∀H:Hp,(∀b,H b=none∨∃o xs,H b=some (.frz o (.lst xs)))→FzL K H a (ns.map V.int)→HOk P w H s₁.heap→(∀b,H b≠none→b=a)→(H a≠none→K.lookup a=none)→
  codeAny (model P w) callerA (.call (.ref fa) ⟨[.ref a],[]⟩) (fun r s'=>r=.ok (.ret (.bool true))∧OldK s₁.heap s'.heap∧s'.os=s₁.os∧AllBare s'.gens) s₁:=by
  intro H hO hS hok hA hK
  have base_of:∀{b:Addr} {o:Obj},s₁.heap.get? b=some o→H b=none→(B8 s₁.heap H).get? b=some o:=fun e n=>Ln e n
  have noA:∀{b:Addr} {o:Obj},s₁.heap.get? b=some o→(∀its n,o.data≠.seq its n)→(∀ws,o.data≠.fields ws)→H b=none:=fun {b o} e d1 d2=>by
   cases q:H b with
   |none=>rfl
   |some u=>
    have e':=hA b (by rw [q];simp)
    subst e'
    rw [ha] at e;cases e
    exact absurd rfl (d1 _ _)
  have nsK:∀{b:Addr} {m:Str→Option Value},s₁.heap.Ns b m→(B8 s₁.heap H).Ns b m:=fun {b m} ⟨o,es,ep,e,d,r⟩=>⟨o,es,ep,base_of e (noA e (fun _ _ z=>by rw [d] at z;cases z) (fun _ z=>by rw [d] at z;cases z)),d,r⟩
  have hKb:K.In (B8 s₁.heap H):=fun b o e=>base_of (KX b o e) (by
   cases q:H b with
   |none=>rfl
   |some u=>
    have e':=hA b (by rw [q];simp)
    subst e'
    rw [hK (by rw [q];simp)] at e;cases e)
  have hM:Mod K mg (B8 s₁.heap H):=⟨hKb,nsK hns,⟨mb,nsK hb,hbb⟩,let ⟨mc,h1,h2⟩:=hlim;⟨mc,nsK h1,h2⟩⟩
  have e0:Env0 P w K mg (B8 s₁.heap H) callerA [] s₁ H:=⟨rfl,hM,fun b o e=>Lo e,Nat.le_of_eq (Lm _ _),trivial,fun b hb=>absurd (show b∈([]:List Addr) from hb) (by simp),hok,.of_eq hg⟩
  have hBM:Es mg (B8 s₁.heap H):=by
   obtain ⟨bm,o,h1,h2,h3,h4,h5,h6⟩:=hbm
   exact ⟨bm,o,h1,h2,base_of h3 (noA h3 (fun _ _ z=>by rw [h6] at z;cases z) (fun _ z=>by rw [h6] at z;cases z)),h4,h5,h6⟩
  have hsp:CN K F [.ref a] H (fun v _=>v=.bl true) fun _ _ _=>False:=by
   obtain ⟨h',e⟩:=hF
   refine ⟨[],[.scr ns],[],⟨rfl,by simp,fun l cc b e1 e2=>by simp at e1⟩,.cons (by simp only [DV];exact ⟨a,rfl,hS⟩) .nil,?_⟩
   ·rw [e]
    intro v m' H' _ _ _ r
    simpa [rD,DV] using r
  refine codeAny_mono ((FF _ hKb (nsK hns) hBM).run callerA [] s₁ H ⟨[.ref a],[]⟩ [.ref a] [.ref a] _ _ hr e0 (hbind s₁ (.ref a)) (.cons rfl .nil) hsp) fun r s' h=>?_
  cases r with
  |error e=>
   obtain ⟨_,_,_,_,_,_,_,_,_,_,_,_,q⟩:=h
   exact q.elim
  |ok fl=>
   cases fl with
   |next=>exact False.elim h
   |brk=>exact False.elim h
   |cont=>exact False.elim h
   |ret u=>
    obtain ⟨v,H',os,bare,un,hok',r',q⟩:=h
    have q':v=.bl true:=q
    subst q'
    obtain rfl:u=Value.bool true:=r'
    have keepO:∀b o,s₁.heap.get? b=some o→s'.heap.get? b=some o:=fun b o e=>by
     cases q:H b with
     |none=>exact un.keep b o e q (by intro z;exact absurd (show b∈([]:List Addr) from z) (by simp)) (by simp)
     |some u=>
      rcases hO b with z |⟨ob,xs,z⟩
      ·rw [q] at z;cases z
      ·have z2:=un.frzs b ob _ z
       obtain ⟨e1,_⟩:=hok b _ z
       obtain ⟨e2,_⟩:=hok' b _ z2
       rw [e] at e1;cases e1
       exact e2
    exact ⟨rfl,⟨fun b o e=>.inl (keepO b o e),fun b o e=>⟨o,keepO b o e⟩⟩,os,bare⟩
 cases hk:K.lookup a with
 |some o=>
  have e:=KX a o hk
  rw [ha] at e
  cases e
  exact core (fun b=>none) (fun b=>.inl rfl) (.inr (.inr ⟨_,vs.toArray,_,hk,rfl,rfl,rfl,by rw [AN,lenV];exact hl,by simpa using rv⟩)) (fun b u z=>by cases z) (fun b z=>absurd rfl z) fun z=>absurd rfl z
 |none=>
  refine core (fun b=>if b=a then some (.frz {cls:=.type "list",data:=.seq vs.toArray} (.lst (ns.map V.int))) else none) (fun b=>?_) (.inl ⟨{cls:=.type "list",data:=.seq vs.toArray},if_pos rfl⟩) (fun b u z=>?_) (fun b z=>?_) fun _=>hk
  ·by_cases hba:b=a
   ·exact .inr ⟨_,_,if_pos hba⟩
   ·exact .inl (if_neg hba)
  ·by_cases hba:b=a
   ·have z':=(if_pos hba).symm.trans z
    cases z'
    subst hba
    exact ⟨ha,by rw [Dy];exact hl,vs,_,rv,ha⟩
   ·have z':=(if_neg hba).symm.trans z
    cases z'
  ·by_cases hba:b=a
   ·exact hba
   ·exact absurd (if_neg hba) z
end LS
namespace Tp
open PySem PySem.W PySem.Spec PySem.Calls PyProof.Rows
abbrev Ga:=List (Option (FuncData×Bool×Bool))×List (Option Int)×List (Option (Option Value))×Bool
noncomputable def Vh (W:Want) (s:Shared):Ga:=fL (ED s.heap) fun K=>
 (W.fs.map fun x=>DT K x.1,W.cs.map fun x=>DU K x.1,W.bs.map (nsIn K mainGlobals),true)
def KW (W:Want):Ga:=(W.fs.map fun x=>some (F5 x.1 x.2,true,true),W.cs.map fun x=>some x.2,W.bs.map fun _=>some none,true)
inductive KY (W:Want) (K:Frag):Prop where
 |mk (fs:∀(i:Nat) n st,W.fs[i]?=some (n,st)→EE K n st) (cs:∀(i:Nat) n v,W.cs[i]?=some (n,v)→∃t,nsIn K mainGlobals n=some (some (.int v t))) (bs:∀(i:Nat) n,W.bs[i]?=some n→nsIn K mainGlobals n=some none)
  (et:True):KY W K
def Says0 (W:Want) (_:World) (h:Heap):Prop:=∃K:Frag,K.In h∧KY W K
theorem Says0.keeps {W:Want} (w:World) (h h':Heap) (x:Says0 W w h) (k:∀b o,h.get? b=some o→h'.get? b=some o):Says0 W w h':=by
 obtain ⟨K,h1,h2⟩:=x
 exact ⟨K,h1.keeps k,h2⟩
end Tp
namespace LS
open PySem PySem.W PySem.Spec PySem.Calls PyProof.Rows L2
end LS
namespace LS
open PySem PySem.Spec PyProof.Rows L2
def Qb:D→HD→Out D:=fun x h=>match x with
 |.loc l=>(match h[l]? with
  |some (.lst ds)=>Bj ds.reverse h
  |_=>.stuck)
 |_=>.stuck
def Vi (f:ME):ME:=fun ρ h=>(f ρ h).bind Qb
section
variable {X:Cx} {E:XK} {e:Expr} {f:ME}
end
def DW:D→D→HD→Out D:=fun x y h=>match x with
 |.exc _ _=>.stuck
 |.edic=>.stuck
 |_=>An x y h
section
variable {h:HD} {y:D} {i:Int} {b:Bool} {x:Str} {ds:List D} {l:Nat}
@[simp] theorem Vj:DW (.int i) y h=An (.int i) y h:=rfl
@[simp] theorem Vk:DW (.bl b) y h=An (.bl b) y h:=rfl
@[simp] theorem Vl:DW .non y h=An .non y h:=rfl
@[simp] theorem Vm:DW (.str x) y h=An (.str x) y h:=rfl
@[simp] theorem Vn:DW (.tup ds) y h=An (.tup ds) y h:=rfl
@[simp] theorem Vo:DW (.loc l) y h=An (.loc l) y h:=rfl
end
end LS
namespace LS
open PySem PySem.Spec PyProof.Rows L2 PySem.W PySem.Calls
section
variable {X:Cx} {E:XK}
def DX:D→D→HD→Out D:=fun x y h=>match x,y with
 |.str z,.int i=>if z.length≤sizeLine then (match A4 z.cps.toList i with
  |some c=>.ok (.str ⟨#[c]⟩) h
  |none=>.stuck) else .stuck
 |_,_=>.stuck
theorem Qc {a b:Expr} {pos:Pos} {f g:ME} (ha:Ev X E a f) (hb:Ev X E b g) (hs:GH b):Ev X E (.Subscript a b pos) (Ak DX f g):=
 BR (Ip MU ha hb hs) fun σ H Q hq=>Eb hq fun m H2 h2 x y v u hr rx ry q=>by
  unfold DX at q
  split at q
  ·rename_i z i
   split at q
   ·rename_i hz
    split at q
    ·rename_i c ec
     simp only [DV] at rx ry
     subst rx ry
     exact ⟨z,i,c,rfl,rfl,hz,ec,AO hr q (by simp [DV])⟩
    ·exact q.elim
   ·exact q.elim
  ·exact q.elim
def Di:List D→Option (List Str)
 |[]=>some []
 |.str x::ds=>(Di ds).map (x::·)
 |_=>none
def Dj (sep:Str):List Str→Str
 |[x]=>x
 |xs=>Builtin.Str.glued sep xs
def DY:D→HD→Out D
 |.str x,h=>.ok (.str x) h
 |_,_=>.stuck
def CS:D→D→HD→Out D:=fun x y h=>match x,y with
 |.str sep,.loc l=>(match h[l]? with
  |some (.lst ds)=>(match Di ds with
   |some xs=>if xs.toArray.foldl (·+ ·.length+sep.length) 0≤sizeLine∧(Dj sep xs).length≤sizeLine then .ok (.str (Dj sep xs)) h else .stuck
   |none=>.stuck)
  |_=>.stuck)
 |_,_=>.stuck
theorem Qd (x y:D) (h:HD):FP (CS x y h):=by
 unfold CS
 repeat' split
 all_goals trivial
theorem Qe:Kg X "str" DY where
 two:=fun x h=>by
  unfold DY
  split
  ·exact .inl rfl
  ·exact .inr rfl
 ty:=fun m H h x v hr r e=>by
  unfold DY at e
  split at e
  ·simp only [DV] at r
   subst r
   exact fun pins σ s u I ru=>M1 I ru rfl
  ·cases e
theorem KZ {K:Frag} {m:List Addr} {H:Hp}:∀{ds:List D} {vs:List V} {us:List Value} {xs:List Str},DVs K m H ds vs→Vals vs us→Di ds=some xs→∃l:List (Str×Tok),us=strValues l∧l.map (·.1)=xs
 |[],_,_,_,r,t,e=>by
  simp only [DVs] at r
  subst r
  cases t
  cases e
  exact ⟨[],rfl,rfl⟩
 |d::ds,_,_,xs,r,t,e=>by
  simp only [DVs] at r
  obtain ⟨v,w,rfl,rv,rw'⟩:=r
  cases t with
  |cons t1 t2=>
   cases d<;>simp only [Di] at e<;>try cases e
   rename_i x
   cases q:Di ds with
   |none=>rw [q] at e;cases e
   |some ys=>
    rw [q] at e
    cases e
    obtain ⟨l,e1,e2⟩:=KZ rw' t2 q
    simp only [DV] at rv
    subst rv
    obtain ⟨tk,rfl⟩:=t1
    exact ⟨(x,tk)::l,by rw [e1];rfl,by simp [e2]⟩
theorem Qf:Kh X "str.join" CS:=by
 intro pins s σ H m h x y v yv u uy Q I hr rx ry r r2 q
 unfold CS at q
 split at q
 ·rename_i sep l
  split at q
  ·rename_i ds el
   split at q
   ·rename_i xs ex
    split at q
    ·rename_i hz
     simp only [DV] at rx ry
     subst rx
     obtain ⟨a,rfl,ha⟩:=ry
     cases (show uy=Value.ref a from r2)
     obtain ⟨t,rfl⟩:=r
     obtain ⟨vs,hv,dv⟩:=hr.cells l _ a el ha
     obtain ⟨z,its,n,rr,hl,e⟩:=I.lstM hv
     obtain ⟨ps,e1,e2⟩:=KZ dv rr ex
     subst e1
     have hlen:Builtin.Str.tooLong ((ps.map (·.1)).toArray.foldl (·+ ·.length+sep.length) 0)=false:=by
      rw [e2]
      exact decide_eq_false (Nat.not_lt.mpr hz.1)
     have Aq:∀(tk tk':Tok),EP X pins σ Q (.str (Dj sep xs) tk) {s with toks:=tk'}:=fun tk tk'=>⟨.str (Dj sep xs),H,I.tok _,⟨tk,rfl⟩,AO hr q (by simp [DV])⟩
     refine call_meets F.slot_str_join (typeIs_str _ _ _) F.entry_str_join (F.args_str_join_2 _ _) (meets_str_join_list sep t a ps hlen) ⟨⟨_,e,rfl,n,rfl⟩,?_⟩
     subst e2
     match ps,Aq,hz with
     |[],Aq,hz=>exact ⟨hz.2,Aq _ _⟩
     |[p],Aq,hz=>exact Aq _ _
     |p::p'::ps,Aq,hz=>exact ⟨hz.2,Aq _ _⟩
    ·exact q.elim
   ·exact q.elim
  ·exact q.elim
 ·exact q.elim
theorem K0 {P:Program} {w:World} {H:Hp} {h:Heap} {C e t:Addr} {da:Option Addr} (x:h.get? e=some (Df C t da)):ObjOk P w H h e (.ext (CZ C da e)):=
 ⟨⟨_,_,x,rfl,fun d z=>z,rfl⟩,⟨_,x⟩,fun h1 h2 ⟨o,vs,q,r⟩ k=>⟨o,vs,k _ q,r⟩⟩
theorem Qg {prog:Program} {w:World} {A:Around} {E:Value→Shared→Prop} {s:Shared} {env:Env} {nm q:Str} {C N:Addr} {bs bm bmB:List Value} {hdct:Bool} {sn:List Str} {sub:List Value} {ab:Bool} {col:Option Bool} {dd:Option Addr} {k0 k1 k2 k3 k5:Option Value} {B newId initId:String}
 (F:ExcBaseFacts B newId initId bmB) {mN:Str→Option Value} {x:Str} {np cpos:Pos} {args:List Expr} {Q:Value→Shared→Prop}
 (hplain:(backTo cpos (starEach args env)).any (·.1)=false) (hni:mN "__init__"=none)
 (h:wpAny (model prog w) A (eval (.Name x np) env) (fun f s₁=>f=.ref C∧wpAny (model prog w) A (evalArgs (.ref C) true (backTo cpos (starEach args env)) [])
  (fun a s₂=>a.kw=[]∧a.pos.length≤sizeLine∧s₂.heap.get? C=some (excClassObj nm q C N bs bm hdct sn sub ab col dd k0 k1 k2 k3 k5 newId)∧s₂.heap.Ns N mN∧OwnTail s₂.heap bmB bm∧
   ∀h' e,Heap.MadeExcOf s₂.heap h' e (.ref C) a.pos→Q (.ref e) {s₂ with heap:=h'}) E s₁) E s):
 wpAny (model prog w) A (eval (.Call (.Name x np) args [] cpos) env) Q E s:=by
 refine wpAny_Call_ofName (wpAny_mono h (fun f s₁ h₁=>?_) fun _ _ x=>x)
 obtain ⟨rfl,h₁⟩:=h₁
 unfold callWith
 refine wpAny_bind (wpAny_holding (wpAny_mono h₁ (fun a s₂ h₂=>wpAny_bind (wpAny_standAt ?_)) fun _ _ x=>x))
 obtain ⟨apos,akw⟩:=a
 obtain ⟨hkw,hlen,hC,hn,T,h₂⟩:=h₂
 obtain rfl:akw=[]:=hkw
 obtain ⟨hp,g,d,tk,os⟩:=s₂
 simp only [hplain]
 refine wpAny_bind (wpAny_keeperOf_exc hC ?_)
 exact wpAny_bind (wpAny_call_exc_subT (hrest:=hlen) F T hC hn hni fun h' e hm=>wpAny_bind (wpAny_holding (wpAny_point (wpAny_pure (h₂ h' e hm)))))
theorem Qh {pins:List (Addr×Obj)} {σ:L2.St} {H1:Hp} {s1 s2:Shared} {e:Addr} {o:HO} (lv:Lv X E) (I1:Inv X pins σ H1 s1) (I2:Inv X pins σ H1 s2) (new:s1.heap.get? e=none) (ok:ObjOk X.prog X.w (Ag H1 e o) s2.heap e o):H1 e=none∧Inv X pins σ (Ag H1 e o) s2:=by
 have no1:H1 e=none:=by
  cases q:H1 e with
  |none=>rfl
  |some o=>
   obtain ⟨ob,eb⟩:=Hf (I1.hok e o q)
   rw [new] at eb;cases eb
 refine ⟨no1,LS.Inv.track I2 (lv.older I1 e new) no1 (fun z=>?_) (fun x c ex z=>?_) (fun q hq z=>?_) ok⟩
 ·obtain ⟨mL,⟨oL,_,_,hoL,_⟩,_⟩:=I1.loc
  rw [←z,new] at hoL;cases hoL
 ·obtain ⟨v,o,hoc,_⟩:=I1.cell x c ex
  rw [z,new] at hoc;cases hoc
 ·have:=(I1.pin q hq).1
  rw [z,new] at this;cases this
def Gb (n:Str):List D→HD→Out D:=fun xs h1=>if xs.length≤sizeLine then .ok (.exc n []) h1 else .stuck
def AW (n:Str) (fa:MA):ME:=fun ρ h=>(fa ρ h).bind (Gb n)
theorem Co {x:Str} {e:Expr} {es:List Expr} {fa:MA} {np cpos:Pos} (lv:Lv X E) (et:etOk X.K=true) (hn:x∈excNames) (hne:x≠"TooMany") (hg:Gl X x) (ha:BI X E (e::es) fa)
 (hdb:(x==("__debug__":Str))=false:=by decide) (he:starEach (e::es) X.env=(false,eval e X.env)::starEach es X.env:=by rfl) (hpl:(backTo cpos (starEach (e::es) X.env)).any (·.1)=false:=by rfl):
 Ev X E (.Call (.Name x np) (e::es) [] cpos) (AW x fa):=by
 obtain ⟨C,nmC⟩:=Ko et hn
 have O:=(Hk et hn nmC).at_ hne
 rintro pins s σ H Q I ⟨m,ρ,h,hr,er,p⟩
 have hm:X.mg x=some (.ref C):=PySem.W.mg_of I.mod.kin I.mod.glob nmC
 obtain ⟨bm,NN,nm,q,bs,hdct,sn,sub,ab,col,dd,k0,k1,k2,k3,k5,mN,hC,hN,hni,T⟩:=O X.base I.mod.kin
 refine Qg (C:=C) (nm:=nm) (q:=q) (N:=NN) (bs:=bs) (bm:=bm) (hdct:=hdct) (sn:=sn) (sub:=sub) (ab:=ab) (col:=col) (dd:=dd) (k0:=k0) (k1:=k1) (k2:=k2) (k3:=k3) (k5:=k5)
  PySem.F.excBase_ValueError (mN:=mN) hpl hni (D5 I hg hm ⟨rfl,?_⟩ hdb)
 have hh:=ha cpos pins s σ H (fun vs H1=>vs.length≤sizeLine∧∃m1 h1,HR X.K m1 h1 H1∧Post X.K (rD X.K) m1 H1 E Q (.ok (.exc x []) h1)) I ⟨m,ρ,h,hr,er,Post.bind p fun xs h1 vs m1 H1 _ p1 k1 hr1 r1 q1=>by
  unfold Gb at q1
  split at q1
  ·rename_i hz
   exact ⟨by rw [←DVs.len r1];exact hz,m1,h1,hr1,q1⟩
  ·exact q1.elim⟩
 rw [he] at hh ⊢
 refine Calls.evalArgs_plain (Am hh fun us s1 z1_=>?_)
 obtain ⟨vs,H1,I1,r,hl,m1,h1,hr1,q1⟩:=z1_
 refine ⟨rfl,by rw [←r.length];exact hl,I1.bk _ _ hC,hN.keeps I1.bk,T.keeps I1.bk,fun h' a z=>?_⟩
 have I2:Inv X pins σ H1 {s1 with heap:=h'}:=I1.kept (t':=s1.toks) z.keeps
 obtain ⟨t0,x1,x2,x3⟩:=z.there
 obtain ⟨no1,I3⟩:=Qh (o:=.ext (CZ C none a)) lv I1 I2 z.new (K0 (t:=t0) (da:=none) x1)
 exact ⟨.ref a,_,I3,rfl,q1 (.ref a) m1 _ (Au _) (.new no1) (hr1.new no1) (by
  simp only [rD,DV]
  exact ⟨a,C,none,rfl,nmC,AU,fun f i z=>by cases z⟩)⟩
noncomputable def EF:List D→HD→Out D:=fun xs h1=>match xs with
 |[.int a,.int b]=>(match B4 [none,some (.int a),some (.int b)] h1 with
  |.ok (.str _) h2=>.ok (.exc "TooMany" [("many",a),("most",b)]) h2
  |_=>.stuck)
 |_=>.stuck
noncomputable def EG (fa:MA):ME:=fun ρ h=>(fa ρ h).bind EF
theorem Qi {C fI:Addr} {fd:FuncData} {k:Nat} {e1 e2:Expr} {fa:MA} {np cpos:Pos} {oI:Obj} (lv:Lv X E) (tm:tmX X.K C fI=true) (F:FnOk X.prog X.w X.K X.mg X.base (Aw X.prog X.w X.K) k fI fd ["self","many","most"] (FY X.K C)) (hb:Binds X.K fd ["self","many","most"] []) (hr:Room (k+1) X.A)
 (lI:X.K.lookup fI=some oI) (cI:oI.cls=.type "function") (kp:PySem.W.keepIn X.K (.ref C)=true) (nmC:PySem.W.nsIn X.K mainGlobals "TooMany"=some (some (.ref C))) (hg:Gl X "TooMany") (ha:BI X E [e1,e2] fa)
 (hs:starEach [e1,e2] X.env=(false,eval e1 X.env)::starEach [e2] X.env:=by rfl) (hpl:(backTo cpos (starEach [e2] X.env)).any (·.1)=false:=by rfl):Ev X E (.Call (.Name "TooMany" np) [e1,e2] [] cpos) (EG fa):=by
 rintro pins s σ H Q I ⟨m,ρ,h,hr0,er,p⟩
 obtain ⟨bm,N,nm,qn,bs,sn,sub,ab,col,dd,k0,k1,k2,k3,k5,mN,hC,hN,hi,no,T⟩:=Ez tm I.mod.kin
 refine wpAny_Call_Name_kw (D5 I hg (PySem.W.mg_of I.mod.kin I.mod.glob nmC) ?_)
 refine PySem.W.callWith_K (h₀:=X.base) I.ok.mod.kin kp (Am (ha cpos pins s σ H (fun vs H1=>∃a b m1 h1 h2 x,vs=[.int a,.int b]∧HR X.K m1 h1 H1∧B4 [none,some (.int a),some (.int b)] h1=.ok (.str x) h2∧Post X.K (rD X.K) m1 H1 E Q (.ok (.exc "TooMany" [("many",a),("most",b)]) h2:Out LS.D)) I ⟨m,ρ,h,hr0,er,?_⟩) ?_) hs hpl
 ·refine Post.bind p fun xs h1 vs m1 H1 _ p1 k1 hr1 r1 q1=>?_
  unfold EF at q1
  split at q1
  ·rename_i a b _
   split at q1
   ·rename_i x h2 hx
    simp only [Cu,DVs,DV] at r1
    obtain ⟨v1,w1,rfl,rfl,v2,w2,rfl,rfl,rfl⟩:=r1
    exact ⟨a,b,m1,h1,h2,x,rfl,hr1,hx,q1⟩
   ·exact q1.elim
  ·exact q1.elim
 ·rintro us s1 ⟨vs,H1,I1,r,a,b,m1,h1,h2,x,rfl,hr1,hj,pq⟩
  refine ⟨I1.kIn,?_⟩
  obtain ⟨hp,g,d,tk,os⟩:=s1
  refine Pp PySem.F.excBase_ValueError ((T.keeps I1.bk).tail (by decide)) (I1.bk _ _ hC) (hN.keeps I1.bk) hi (I1.kIn _ _ lI) cI (fun h' e mk=>?_) (by rw [ES,←r.length];simp [sizeLine])
  have I2:Inv X pins σ H1 ⟨h',g,d,tk,os⟩:=I1.kept (t':=tk) mk.keeps
  obtain ⟨t0,x1,x2,x3⟩:=mk.there
  have new:X.s₀.heap.get? e=none:=lv.older I1 e mk.new
  have no1:H1 e=none:=by
   cases q:H1 e with
   |none=>rfl
   |some o=>
    obtain ⟨ob,eb⟩:=Hf (I1.hok e o q)
    rw [show hp.get? e=none from mk.new] at eb;cases eb
  have neL:e≠X.env.locals:=fun z=>by
   obtain ⟨mL,⟨oL,_,_,hoL,_⟩,_⟩:=I1.loc
   rw [←z,show hp.get? e=none from mk.new] at hoL;cases hoL
  have neC:∀x c,X.env.cells.lookup x=some c→c≠e:=fun x c ex z=>by
   obtain ⟨v,o,hoc,_⟩:=I1.cell x c ex
   rw [z,show hp.get? e=none from mk.new] at hoc;cases hoc
  have neP:∀q∈X.pn++pins,q.1≠e:=fun q hq z=>by
   have:=(I1.pin q hq).1
   rw [z,show hp.get? e=none from mk.new] at this;cases this
  have I3:=LS.Inv.track I2 (o:=.mex (AM C e none)) new no1 neL neC neP (FX ⟨t0,x1⟩)
  have hr3:HR X.K m1 h1 (Ag H1 e (.mex (AM C e none))):=hr1.new no1
  have rv:Vals [.ref e,.int a,.int b] (.ref e::us):=.cons rfl r
  refine wpAny_call (codeAny_mono (F.run (X.A.under (.builtin "type.__call__" ⟨.ref C::us,[]⟩)) X.stack ⟨h',g,d,tk,os⟩ (Ag H1 e (.mex (AM C e none))) ⟨.ref e::us,[]⟩ (.ref e::us) [.ref e,.int a,.int b]
   (fun v H4=>v=.non∧∃m4 H3 da,m1 <+:m4∧Kp H1 H3∧HR X.K m4 h2 H3∧H3 e=none∧H3 da=none∧da≠e∧H4=Ag (Ag H3 e (.mex (AM C e (some da)))) da (.xd [("many",.int a),("most",.int b)])) E0 (hr.make C us []) (I3.env0.make C us []) ?_ rv
   ⟨e,a,b,m1,h1,h2,x,rfl,hr3,AU,hj,fun m4 H3 da y1 y2 y3 y0 y4 y5=>⟨rfl,m4,H3,da,y1,by rw [PK no1] at y2;exact y2,y3,y0,y4,y5,rfl⟩⟩) fun res s4 hq=>?_)
  ·have:=hb ⟨h',g,d,tk,os⟩ (.ref e::us) I3.kIn (by rw [D1,←rv.length];rfl)
   rwa [D1] at this
  ·cases res with
   |error z=>obtain ⟨_,_,_,_,_,_,_,_,_,_,_,_,z⟩:=hq;exact z.elim
   |ok fl=>
    cases fl with
    |ret u=>
     obtain ⟨v,H4,os4,bare,un,hok,rr,rfl,m4,H3,da,y1,y2,y3,y0,y4,y5,rfl⟩:=hq
     have I4:Inv X pins σ _ s4:=I3.call' os4 un hok bare (fun b hb=>absurd hb (by simp))
     have he4:(Ag (Ag H3 e (.mex (AM C e (some da)))) da (.xd [("many",.int a),("most",.int b)])) e=some (.mex (AM C e (some da))):=by rw [Af (Ne.symm y5)];exact AU
     obtain ⟨⟨t4,o4⟩,_,_⟩:=(show ObjOk X.prog X.w _ s4.heap e (.mex (AM C e (some da))) from I4.hok e _ he4)
     have e5:del (Ag (Ag H3 e (.mex (AM C e (some da)))) da (.xd [("many",.int a),("most",.int b)])) e=Ag H3 da (.xd [("many",.int a),("most",.int b)]):=by
      funext c;unfold del Ag
      by_cases z:c=e
      ·subst z;rw [if_pos rfl,if_neg (Ne.symm y5),y0]
      ·rw [if_neg z]
       split
       ·rfl
       ·first |rfl |rw [if_neg z]
     have I5:=LS.Inv.untrack I4 he4
     rw [e5] at I5
     have I6:=LS.Inv.track I5 (o:=.ext (CZ C (some da) e)) new (by rw [Af (Ne.symm y5)];exact y0) neL neC neP (K0 o4)
     have y0':Ag H3 da (.xd [("many",.int a),("most",.int b)]) e=none:=by rw [Af (Ne.symm y5)];exact y0
     refine ⟨rr,.ref e,_,I6,rfl,pq (.ref e) m4 _ y1 ((y2.trans (.new y4)).trans (.new y0')) ((y3.new y4).new y0') ?_⟩
     simp only [rD,DV]
     refine ⟨e,C,some da,rfl,nmC,AU,fun f i z=>⟨da,_,rfl,(Af y5).trans AU,?_⟩⟩
     by_cases f1:f="many"
     ·subst f1
      cases z
      rfl
     ·by_cases f2:f="most"
      ·subst f2
       cases z
       rfl
      ·have g1:(f=="many")=false:=by simp [f1]
       have g2:(f=="most")=false:=by simp [f2]
       simp only [CD,g1,g2] at z
       cases z
    |next=>exact hq.elim
    |brk=>exact hq.elim
    |cont=>exact hq.elim
theorem K1 {C fI:Addr} {o:Expr} {f:ME} {nm:Str} {pos:Pos} (tm:tmX X.K C fI=true) (nmC:PySem.W.nsIn X.K mainGlobals "TooMany"=some (some (.ref C))) (hin:nm="many"∨nm="most") (ho:Ev X E o f)
 (he:eval (.Attribute o nm pos) X.env=(do let v ←eval o X.env;standAt pos.atName;let r ←holding [v] (getAttr v nm true);letTemporaryGo o v r;pure r):=by with_unfolding_all rfl):Ev X E (.Attribute o nm pos) (Dg f nm):=by
 rintro pins s σ H Q I ⟨m,ρ,h,hr,er,p⟩
 have hB:typeLookup (.type "ValueError") nm=pure none:=by rcases hin with rfl |rfl<;>(rw [typeLookup_type,builtinLookup_eq_fast];kernel_rfl)
 have hin2:nm∈tmNames.tail:=by rcases hin with rfl |rfl<;>decide
 refine Attribute_any_ (Am (ho pins s σ H (fun v H1=>∃a i C' da d fv,v=.ref a∧C'=C∧H1 a=some (.ext (CZ C' da a))∧da=some d∧H1 d=some (.xd fv)∧fv.lookup nm=some (.int i)∧Q (.int i) H1) I ⟨m,ρ,h,hr,er,Post.bind p fun d h1 v m1 H1 _ p1 k1 hr1 r1 q1=>?_⟩) fun u s1 z=>?_) he
 ·unfold EA at q1
  split at q1
  ·rename_i n fs
   split at q1
   ·rename_i hn
    subst hn
    split at q1
    ·rename_i i hi
     simp only [rD,DV] at r1
     obtain ⟨a,C',da,rfl,c1,c2,c3⟩:=r1
     rw [nmC] at c1
     cases c1
     obtain ⟨d,fv,z1,z2,z3⟩:=c3 nm i hi
     exact ⟨a,i,C,da,d,fv,rfl,rfl,c2,z1,z2,z3,q1 (.int i) m1 H1 (Au _) (.refl _) hr1 (by simp [rD,DV])⟩
    ·exact q1.elim
   ·exact q1.elim
  ·exact q1.elim
 ·obtain ⟨v,H1,I1,r,a,i,C',da,d,fv,rfl,rfl,ha,rfl,hd,hf,q⟩:=z
  cases (show u=Value.ref a from r)
  obtain ⟨bm,N,nn,qn,bs,sn,sub,ab,col,dd,k0,k1,k2,k3,k5,mN,hC,hN,hi,no,T⟩:=Ez tm I1.kIn
  obtain ⟨⟨oe,vs,x1,x2,x3,x4⟩,_,_⟩:=(show ObjOk X.prog X.w H1 s1.heap a (.ext (CZ C' (some d) a)) from I1.hok a _ ha)
  obtain ⟨mA,n1,rel⟩:=(show ObjOk X.prog X.w H1 s1.heap d (.xd fv) from I1.hok d _ hd)
  have rl:=rel nm
  rw [hf] at rl
  obtain ⟨w,ew,rw1⟩:=RelO.some_of rl
  have ne:d≠a:=Ll hd ha (by intro z;cases z)
  have II:s1.heap.Inst a C' mA:=⟨oe,x1,x2,fun c z=>(by rw [x4] at z;cases z),.inr ⟨d,x3 d rfl,ne,n1⟩⟩
  obtain ⟨hp,g,dr,tk,os⟩:=s1
  obtain ⟨t1,rfl⟩:∃t1,w=.int i t1:=rw1
  refine PF PySem.F.attrBase_ValueError hC hN T (Gv hin2) (by decide) (by decide) (no nm hin2) (no _ (by decide)) (no _ (by decide)) hB II ew (by rfl) ?_
  exact ⟨.int i,H1,I1.tok (tk+1),⟨t1,rfl⟩,q⟩
end
section
variable {n:Str} {fa:MA} {f:ME} {ρ:Ae} {h:HD} {Q:D→HD→Prop}
@[simp] theorem Vp:Wp (AW n fa ρ h) Q=Wp (fa ρ h) fun xs h1=>Wp (Gb n xs h1) Q:=by unfold AW;rw [Al]
@[simp] theorem Vq {x:D}:Gb n [x] h=.ok (.exc n []) h:=if_pos (by show 1≤sizeLine;decide)
@[simp] theorem Vr:Wp (EG fa ρ h) Q=Wp (fa ρ h) fun xs h1=>Wp (EF xs h1) Q:=by unfold EG;rw [Al]
theorem Qj {a b:Int} {x:Str} (e:B4 [none,some (.int a),some (.int b)] h=.ok (.str x) h):EF [.int a,.int b] h=.ok (.exc "TooMany" [("many",a),("most",b)]) h:=by
 unfold EF
 simp only [e]
@[simp] theorem Vs {x:Str}:DY (.str x) h=.ok (.str x) h:=rfl
@[simp] theorem Vt {nm:Str}:Wp (Dg f nm ρ h) Q=Wp (f ρ h) fun d h1=>Wp (EA nm d h1) Q:=by unfold Dg;rw [Al]
end
end LS
namespace Tp
open PySem PySem.W PySem.Spec PySem.Calls PyProof.Rows
noncomputable def obs1 (W:Want) (s:Shared):Ga×Option (FuncData×List Bool):=fL (ED s.heap) fun K=>
 ((W.fs.map fun x=>DT K x.1,W.cs.map fun x=>DU K x.1,W.bs.map (nsIn K mainGlobals),LS.etOk K),F7 K)
def val1 (W:Want) (st:Stmt):Ga×Option (FuncData×List Bool):=(KW W,some (F8 st,[true,true,true,true,true]))
inductive Has1 (W:Want) (K:Frag):Prop where
 |mk (fs:∀(i:Nat) n st,W.fs[i]?=some (n,st)→EE K n st) (cs:∀(i:Nat) n v,W.cs[i]?=some (n,v)→∃t,nsIn K mainGlobals n=some (some (.int v t))) (bs:∀(i:Nat) n,W.bs[i]?=some n→nsIn K mainGlobals n=some none)
  (et:LS.etOk K=true):Has1 W K
def Says1 (W:Want) (st:Stmt) (_:World) (h:Heap):Prop:=∃K:Frag,K.In h∧(Has1 W K∧HasT K st)
theorem Says1.keeps {W:Want} {st:Stmt} (w:World) (h h':Heap) (x:Says1 W st w h) (k:∀b o,h.get? b=some o→h'.get? b=some o):Says1 W st w h':=by
 obtain ⟨K,h1,h2⟩:=x
 exact ⟨K,h1.keeps k,h2⟩
theorem says1_of {W:Want} {st:Stmt} (w:World) (s:Shared) (e:obs1 W s=val1 W st):Says1 W st w s.heap:=by
 unfold obs1 val1 KW at e
 rw [EB] at e
 obtain ⟨e,e6⟩:=Prod.mk.inj e
 obtain ⟨e1,e⟩:=Prod.mk.inj e
 obtain ⟨e2,e⟩:=Prod.mk.inj e
 obtain ⟨e3,e4⟩:=Prod.mk.inj e
 exact ⟨_,P4 _,⟨fun i n st h=>P5 (HC e1 h),fun i n v h=>P6 (HC e2 h),fun i n h=>HC e3 h,e4⟩,P8 e6⟩
end Tp
namespace LS
open PySem PySem.W PySem.Spec PySem.Calls PyProof.Rows L2
theorem walk_hd1 {l:OpenLaw} {n k:Nat} {q:Program} {loose:List Str} {XP:(Str→Option Value)→Heap→Prop} {W:Tp.Want} {st:Stmt} {d:DefRec} {x:Str} {F:List D→HD→Out D}
 (hn:l.most=some n) (hn2:n≤sizeLine) (hdf:d.params.defaults=[]) (hr:Room k callerA)
 (Fn:∀(w:World) (K:Frag) (mg:Str→Option Value) (fa:Addr) (h:Heap),Tp.Has1 W K∧Tp.HasT K st→K.In h→h.Ns mainGlobals mg→mg d.name=some (.ref fa)→
  ∃fd:FuncData,(∀(s:Shared) (u:Value),BindsTo s fd ⟨[u],[]⟩ [(x,u)])∧
   ∀base:Heap,K.In base→base.Ns mainGlobals mg→Es mg base→FnOk l.prog w K mg base (Aw l.prog w K) k fa fd [x] (CN K F))
 (hF:∀ns:List Int,ns.length≤n→(∀i∈ns,Builtin.Int.intBits i≤2^20)→∃h',F [.scr ns] []=.ok (.bl true) h'):
 WalkO q loose XP (Tp.Says1 W st) l.row.toRowW d [] (fun f vs=>PySem.call f vs):=by
 refine Att.attach_bits hn hdf fun w s₀ s₁ mg mb fa o pm cd doc a vs ns hbits G Y ho hd hcd' hmg hobj hints hlen hg=>?_
 obtain ⟨K,KX,HS⟩:=Y
 obtain ⟨fd,hb,hF'⟩:=Fn w K mg fa _ HS KX G.T.g hmg
 obtain ⟨bm,ob,b1,b2,b3,b4,b5,b6⟩:=G.T.bmain
 exact Qa KX G.T.g G.T.b G.T.builtins G.T.nolimit hg ⟨bm,ob,b1,b2,b3,b4,b5,b6⟩ hobj hints (Bi hlen hn2) hr hF' hb (hF ns hlen hbits)
end LS
set_option maxHeartbeats 0
namespace LK
open PySem PySem.Spec PyProof.Rows L2 LS
def CU (i:Nat):Stmt:=PySem.Challenge.pw_lineswitch_k94_errors_made.main.body.getD i (.Pass ⟨0,0,0,0⟩)
structure Bl (mg:Str→Option Value):Prop where
 n_ValueError:mg "ValueError"=none
 n_divmod:mg "divmod"=none
 n_enumerate:mg "enumerate"=none
 n_isinstance:mg "isinstance"=none
 n_len:mg "len"=none
 n_max:mg "max"=none
 n_min:mg "min"=none
 n_range:mg "range"=none
 n_repr:mg "repr"=none
theorem K2:bootBuiltins "ValueError"=some (.type "ValueError"):=by decide +kernel
theorem Qk:bootBuiltins "divmod"=some (.builtin "divmod"):=by decide +kernel
theorem BB:bootBuiltins "isinstance"=some (.builtin "isinstance"):=by decide +kernel
theorem K3:bootBuiltins "len"=some (.builtin "len"):=by decide +kernel
theorem Ql:bootBuiltins "max"=some (.builtin "max"):=by decide +kernel
theorem Qm:bootBuiltins "min"=some (.builtin "min"):=by decide +kernel
theorem K4:bootBuiltins "repr"=some (.builtin "repr"):=by decide +kernel
abbrev BM:Stmt:=match CU 11 with
 |.ClassDef _ _ _ b _ _ _ _ _ _ _=>b.getD 0 (.Pass ⟨0,0,0,0⟩)
 |_=>.Pass ⟨0,0,0,0⟩
theorem Qn:Bt ["self","many","most"] ["self","many","most"] (defScope BM):=⟨rfl,rfl,rfl,by decide +kernel,rfl,by decide +kernel,by decide +kernel⟩
theorem Qo {P:Program} {w:World} {K:PySem.W.Frag} {mg:Str→Option Value} {base:Heap} {C S f:Addr} {od an:Option Addr} {sl:Array (Option Value)} {kV dc pm cd ct:Value} (nC:PySem.W.nsIn K mainGlobals "TooMany"=some (some (.ref C))) (nS:PySem.W.nsIn K mainGlobals "SwitchError"=some (some (.ref S)))
 (l:K.lookup f=some ⟨.type "function",od,.func (PySem.W.fnOf "__init__" "TooMany.__init__" (defArgs BM) (defBody BM) (defScope BM) .none kV dc pm an cd ct),sl⟩) (c:PySem.W.codeIn K cd "TooMany.__init__"=true) (tm:tmX K C f=true) (sw:swX K S=true) (kp:PySem.W.keepIn K (.ref C)=true):
 KU P w K mg base C f (PySem.W.fnOf "__init__" "TooMany.__init__" (defArgs BM) (defBody BM) (defScope BM) .none kV dc pm an cd ct) ⟨.type "function",od,.func (PySem.W.fnOf "__init__" "TooMany.__init__" (defArgs BM) (defBody BM) (defScope BM) .none kV dc pm an cd ct),sl⟩:=
 ⟨tm,PX l c Qn tm sw nS (fun _ _ _ _ _=>rfl) (fun A outer s H E=>Ad (Ah (pv 0)) (Ad (Pa (Kj (Ah (pv 1)) (O9 (Kj (Ah (pv 2)) O8)))) Aj)) (fun env pl e=>by subst e;rfl) (fun _=>rfl) (fun _=>rfl) (fun _=>rfl) (fun _=>rfl) (fun _=>rfl) (.inl rfl) (.inl rfl) (.inl rfl),
  Binds.all (fun us hl=>by match us,hl with |[a,b,d],_=>rfl),l,rfl,kp,nC⟩
abbrev Dk:Stmt:=CU 13
theorem Qp:Bt ["_law_script","_law_k"] ["_law_script","_law_k"] (defScope Dk):=⟨rfl,rfl,rfl,by decide +kernel,rfl,by decide +kernel,by decide +kernel⟩
noncomputable abbrev Gc:MS:=Ao (Bk (Bu (Ak IS (Ab 1) (Ai (AF CK) (Aa (Ab 0) (Ac))))) (AV (Ak Bb (Ab 0) (Ab 1))) (Bw)) (AV (Ak AX (Ak BK (mC (.int 6151)) (Ab 1)) (mC (.int 29))))
abbrev Dl:Stmt:=CU 14
theorem sc__law_mix:Bt ["_law_cell_here","_law_k","_law_number"] ["_law_cell_here","_law_k"] (defScope Dl):=⟨rfl,rfl,rfl,by decide +kernel,rfl,by decide +kernel,by decide +kernel⟩
noncomputable abbrev HF:MS:=Ao (AE 2 (Ak AX (Ak BK (Ak AX (Ab 0) (mC (.int 1))) (mC (.int 40692))) (Ak BK (mC (.int 104729)) (Ab 1)))) (Ao (AE 2 (Ak AX (Ak C8 (Ak BK (Ab 2) (Ab 2)) (mC (.int 2147483399))) (Ab 1))) (AV (Ak C8 (Ak BK (Ab 2) (Ak AX (Ab 2) (mC (.int 31)))) (mC (.int 2147483563)))))
abbrev Dm:Stmt:=CU 16
theorem sc__law_take:Bt ["_law_box_here","_law_many","_law_left","_law_digit"] ["_law_box_here","_law_many"] (defScope Dm):=⟨rfl,rfl,rfl,by decide +kernel,rfl,by decide +kernel,by decide +kernel⟩
noncomputable abbrev HG:MS:=Ao (Ft (DK 2 3) (Ai (AB Ef) (Aa (Ak Bb (Ab 0) (mC (.int 0))) (Aa (Ab 1) (Ac))))) (Ao (Fz (Ab 0) (mC (.int 0)) (Ab 2)) (AV (Ab 3)))
abbrev Do:Stmt:=CU 18
theorem sc__law_classes:Bt ["_law_e","_law_found"] ["_law_e"] (defScope Do):=⟨rfl,rfl,rfl,by decide +kernel,rfl,by decide +kernel,by decide +kernel⟩
noncomputable abbrev HH:MS:=Ao (AE 1 (A9 (Aa (Ai (AB An) (Aa (Ab 0) (Aa (mC (.glo "NoBoard")) (Ac)))) (Aa (Ai (AB An) (Aa (Ab 0) (Aa (mC (.glo "NoLine")) (Ac)))) (Aa (Ai (AB An) (Aa (Ab 0) (Aa (mC (.glo "NoSwitching")) (Ac)))) (Aa (Ai (AB An) (Aa (Ab 0) (Aa (mC (.glo "NoNumber")) (Ac)))) (Ac))))))) (Ao (AE 1 (Ak AX (Ab 1) (A9 (Aa (Ai (AB An) (Aa (Ab 0) (Aa (mC (.glo "Unlike")) (Ac)))) (Aa (Ai (AB An) (Aa (Ab 0) (Aa (mC (.glo "NoNet")) (Ac)))) (Aa (Ai (AB An) (Aa (Ab 0) (Aa (mC (.glo "NoPlace")) (Ac)))) (Aa (Ai (AB An) (Aa (Ab 0) (Aa (mC (.glo "NoText")) (Ac)))) (Ac)))))))) (AV (Ak AX (Ab 1) (A9 (Aa (Ai (AB An) (Aa (Ab 0) (Aa (mC (.glo "NoRow")) (Ac)))) (Aa (Ai (AB An) (Aa (Ab 0) (Aa (mC (.glo "TooMany")) (Ac)))) (Ac)))))))
abbrev Dp:Stmt:=CU 15
theorem sc__law_box:Bt ["_law_script","_law_k","_law_here","_law_number","_law_j"] ["_law_script","_law_k"] (defScope Dp):=⟨rfl,rfl,rfl,by decide +kernel,rfl,by decide +kernel,by decide +kernel⟩
noncomputable abbrev HI (Cp:List D→HD→Out D) (Cq:List D→HD→Out D):MS:=Ao (AE 2 (Ai Cp (Aa (Ab 0) (Aa (Ab 1) (Ac))))) (Ao (Bk (Bu (Ak CA (Ak C8 (Ab 2) (mC (.int 2))) (mC (.int 0)))) (AV (A9 (Aa (Ak Fp (Ab 2) (mC (.int 2))) (Ac)))) (Bw)) (Ao (AE 3 (mC (.int 0))) (Ao (Cw (BV (Aa (mC (.int 24)) (Ac))) (By 4) (AE 3 (Ak AX (Ak BK (Ab 3) (mC (.int 2147483647))) (Ai Cq (Aa (Ab 2) (Aa (Ab 4) (Ac))))))) (AV (A9 (Aa (Ab 3) (Ac)))))))
abbrev Dq:Stmt:=CU 17
theorem sc__law_wide_box:Bt ["_law_box_here","_law_number","_law_many","_law_j"] ["_law_box_here"] (defScope Dq):=⟨rfl,rfl,rfl,by decide +kernel,rfl,by decide +kernel,by decide +kernel⟩
noncomputable abbrev HJ (AQ:List D→HD→Out D):MS:=Ao (DJ 1 2 (Aa (Ai AQ (Aa (Ab 0) (Aa (mC (.int 2147483647)) (Ac)))) (Aa (mC (.int 0)) (Ac)))) (Ao (Cw (BV (Aa (mC (.int 24)) (Ac))) (By 3) (Ao (AE 1 (Ak C8 (Ak AX (Ak AX (Ak BK (Ab 1) (mC (.int 48271))) (mC (.int 11))) (Ab 3)) (mC (.int 2147483647)))) (AE 2 (Ak AX (Ak BK (Ab 2) (mC (.int 2147483647))) (Ab 1))))) (AV (A9 (Aa (Ab 2) (Ac)))))
abbrev s_law:Stmt:=CU 19
theorem sc_law:Bt ["_law_script","_law_signs","_law_k","_law_box_here","_law_text","_law_one","_law_other","_law_made","_law_at","_law_e","_law_plain"] ["_law_script"] (defScope s_law):=⟨rfl,rfl,rfl,by decide +kernel,rfl,by decide +kernel,by decide +kernel⟩
noncomputable abbrev Gd (B5:List D→HD→Out D) (B6:List D→HD→Out D) (AQ:List D→HD→Out D) (BC:List D→HD→Out D):MS:=Ao (AE 1 (mC (.str " !\"#$&'()*+,-./0123456789:;<=>?@ABCDEFGHIJKLMNOPQRSTUVWXYZ[\\]^_`"))) (Ao (AE 1 (Ak AX (Ab 1) (mC (.str "abcdefghijklmnopqrstuvwxyz{|}~\n\t")))) (Ao (Cw (BV (Aa (Ai (AB Eg) (Aa (mC (.int 1)) (Aa (Ai (AB Eh) (Aa (Ai (AF CK) (Aa (Ab 0) (Ac))) (Aa (mC (.int 4)) (Ac)))) (Ac)))) (Ac))) (By 2) (Ao (AE 3 (Ai B6 (Aa (Ai B5 (Aa (Ab 0) (Aa (Ab 2) (Ac)))) (Ac)))) (Ao (AE 4 (DP DY CS (mC (.str "")) (A2 [none,some 1,some 3] (BV (Aa (Ai AQ (Aa (Ab 3) (Aa (mC (.int 11)) (Ac)))) (Ac))) (By 0) (DM) (Ak DX (Ab 1) (Ai AQ (Aa (Ab 2) (Aa (mC (.int 96)) (Ac)))))))) (Ao (DJ 5 6 (Aa (Ai AQ (Aa (Ab 3) (Aa (Ak DG (mC (.int 10)) (mC (.int 6))) (Ac)))) (Aa (Ai AQ (Aa (Ab 3) (Aa (Ak DG (mC (.int 10)) (mC (.int 6))) (Ac)))) (Ac)))) (Ao (AE 7 (A9 (Aa (AW "NoBoard" (Aa (Ab 4) (Ac))) (Aa (AW "NoLine" (Aa (Ab 4) (Ac))) (Aa (AW "NoSwitching" (Aa (Ab 4) (Ac))) (Aa (AW "NoNumber" (Aa (Ab 4) (Ac))) (Aa (AW "Unlike" (Aa (Ab 4) (Ac))) (Aa (AW "NoNet" (Aa (Ab 4) (Ac))) (Ac))))))))) (Ao (AE 7 (Ak AX (Ab 7) (A9 (Aa (AW "NoPlace" (Aa (Ab 4) (Ac))) (Aa (AW "NoText" (Aa (Ab 4) (Ac))) (Aa (AW "NoRow" (Aa (Ab 4) (Ac))) (Aa (EG (Aa (Ab 5) (Aa (Ab 6) (Ac)))) (Ac)))))))) (Ao (Cw (Ep (Aa (Ab 7) (Ac))) (DK 8 9) (Ao (Bk (Bu (Ak B1 (Ai BC (Aa (Ab 9) (Ac))) (A2 [none,some 8] (BV (Aa (mC (.int 10)) (Ac))) (By 0) (DM) (Ak CA (Ab 0) (Ab 1))))) (AV (mC (.bl false))) (Bw)) (Bk (Cv (BU (BS (Ai (AB An) (Aa (Ab 9) (Aa (mC (.glo "SwitchError")) (Ac)))))) (BU (BS (Ai (AB An) (Aa (Ab 9) (Aa (mC (.ty "ValueError")) (Ac))))))) (AV (mC (.bl false))) (Bw)))) (Ao (Bk (Bu (Ak B1 (Ai (AF Cz) (Aa (A9 (Aa (Dg (Ak Bb (Ab 7) (mC (.int 9))) "many") (Aa (Dg (Ak Bb (Ab 7) (mC (.int 9))) "most") (Ac)))) (Ac))) (Ai (AF Cz) (Aa (A9 (Aa (Ab 5) (Aa (Ab 6) (Ac)))) (Ac))))) (AV (mC (.bl false))) (Bw)) (Ao (AE 10 (AW "SwitchError" (Aa (Ab 4) (Ac)))) (Bk (Cv (Bu (Ak (Dc false) (mC (.bl true)) (Ai BC (Aa (Ab 10) (Ac))))) (BU (BS (Ai (AB An) (Aa (Ab 10) (Aa (mC (.ty "ValueError")) (Ac))))))) (AV (mC (.bl false))) (Bw))))))))))) (AV (mC (.bl true)))))
section
variable {P:Program} {w:World} {K:PySem.W.Frag} {mg:Str→Option Value} {base:Heap} (B:Bl mg) (et:etOk K=true) {CT fT:Addr} {fdT:FuncData} {oT:Obj} (TM:KU P w K mg base CT fT fdT oT)
include B et TM
theorem Qq (f:Addr) (cdv:Value) (A:Around) (outer:List Env) (s:Shared) (H:Hp) (E:XK) (hr:Room 0 (A.deeper (envOfC "_law_cell" (defScope Dk) s.heap.objs.size f cdv))):
 Be (A0 (Aw P w K) P w K mg base ["_law_script","_law_k"] "_law_cell" (defScope Dk) f cdv A outer s H E) E (defBody Dk) (Gc):=
 AK (DI (Ed Nk (Ah (pv 1)) (A1 IZ rfl B.n_len K3 (Ad (Ah (pv 0)) (Aj))) (D9 _)) (Bc (Bx (Fm (Ah (pv 0)) (Ah (pv 1)) (fun _ _=>rfl)))) (DH)) (Bc (Bx (AD Bv (AD CO (As) (Ah (pv 1))) (As))))
theorem Qr (f:Addr) (cdv:Value) (A:Around) (outer:List Env) (s:Shared) (H:Hp) (E:XK) (hr:Room 0 (A.deeper (envOfC "_law_mix" (defScope Dl) s.heap.objs.size f cdv))):
 Be (A0 (Aw P w K) P w K mg base ["_law_cell_here","_law_k","_law_number"] "_law_mix" (defScope Dl) f cdv A outer s H E) E (defBody Dl) (HF):=
 AK (Bf (i:=2) sc__law_mix.nd rfl (by first|exact .inl rfl|exact .inr rfl) (AD Bv (AD CO (AD Bv (Ah (pv 0)) (As)) (As)) (AD CO (As) (Ah (pv 1))))) (AK (Bf (i:=2) sc__law_mix.nd rfl (by first|exact .inl rfl|exact .inr rfl) (AD Bv (AD Fj (AD CO (Ah (pv 2)) (Ah (pv 2))) (As)) (Ah (pv 1)))) (Bc (Bx (AD Fj (AD CO (Ah (pv 2)) (AD Bv (Ah (pv 2)) (As))) (As)))))
theorem Qs (f:Addr) (cdv:Value) (A:Around) (outer:List Env) (s:Shared) (H:Hp) (E:XK) (hr:Room 0 (A.deeper (envOfC "_law_take" (defScope Dm) s.heap.objs.size f cdv))):
 Be (A0 (Aw P w K) P w K mg base ["_law_box_here","_law_many","_law_left","_law_digit"] "_law_take" (defScope Dm) f cdv A outer s H E) E (defBody Dm) (HG):=
 AK (NB (A1 Nw rfl B.n_divmod Qk (Ad (Fm (Ah (pv 0)) (As) (fun _ _=>rfl)) (Ad (Ah (pv 1)) (Aj)))) (Jc (JE rfl (Cr (i:=2) (sc__law_take.nd) rfl (by first|exact .inl rfl|exact .inr rfl) (by first|exact .inl rfl|exact .inr rfl)) (Cr (i:=3) (sc__law_take.nd) rfl (by first|exact .inl rfl|exact .inr rfl) (by first|exact .inl rfl|exact .inr rfl))))) (AK (NU (Ah (pv 0)) (As) (Ah (pv 2))) (Bc (Bx (Ah (pv 3)))))
theorem Qt (f:Addr) (cdv:Value) (A:Around) (outer:List Env) (s:Shared) (H:Hp) (E:XK) (hr:Room 0 (A.deeper (envOfC "_law_classes" (defScope Do) s.heap.objs.size f cdv))):
 Be (A0 (Aw P w K) P w K mg base ["_law_e","_law_found"] "_law_classes" (defScope Do) f cdv A outer s H E) E (defBody Do) (HH):=
 AK (Bf (i:=1) sc__law_classes.nd rfl (by first|exact .inl rfl|exact .inr rfl) (Cf (Ad (A1 (BA et) rfl B.n_isinstance BB (Ad (Ah (pv 0)) (Ad (B2 et (by decide +kernel)) (Aj)))) (Ad (A1 (BA et) rfl B.n_isinstance BB (Ad (Ah (pv 0)) (Ad (B2 et (by decide +kernel)) (Aj)))) (Ad (A1 (BA et) rfl B.n_isinstance BB (Ad (Ah (pv 0)) (Ad (B2 et (by decide +kernel)) (Aj)))) (Ad (A1 (BA et) rfl B.n_isinstance BB (Ad (Ah (pv 0)) (Ad (B2 et (by decide +kernel)) (Aj)))) (Aj))))))) (AK (Bf (i:=1) sc__law_classes.nd rfl (by first|exact .inl rfl|exact .inr rfl) (AD Bv (Ah (pv 1)) (Cf (Ad (A1 (BA et) rfl B.n_isinstance BB (Ad (Ah (pv 0)) (Ad (B2 et (by decide +kernel)) (Aj)))) (Ad (A1 (BA et) rfl B.n_isinstance BB (Ad (Ah (pv 0)) (Ad (B2 et (by decide +kernel)) (Aj)))) (Ad (A1 (BA et) rfl B.n_isinstance BB (Ad (Ah (pv 0)) (Ad (B2 et (by decide +kernel)) (Aj)))) (Ad (A1 (BA et) rfl B.n_isinstance BB (Ad (Ah (pv 0)) (Ad (B2 et (by decide +kernel)) (Aj)))) (Aj)))))))) (Bc (Bx (AD Bv (Ah (pv 1)) (Cf (Ad (A1 (BA et) rfl B.n_isinstance BB (Ad (Ah (pv 0)) (Ad (B2 et (by decide +kernel)) (Aj)))) (Ad (A1 (BA et) rfl B.n_isinstance BB (Ad (Ah (pv 0)) (Ad (B2 et (by decide +kernel)) (Aj)))) (Aj))))))))
theorem Qu {Cp:List D→HD→Out D} {Cq:List D→HD→Out D} (c__law_cell:CaE P w K mg base "_law_cell" 1 Cp) (c__law_mix:CaE P w K mg base "_law_mix" 1 Cq) (f:Addr) (cdv:Value) (A:Around) (outer:List Env) (s:Shared) (H:Hp) (E:XK) (hr:Room 1 (A.deeper (envOfC "_law_box" (defScope Dp) s.heap.objs.size f cdv))):
 Be (A0 (Aw P w K) P w K mg base ["_law_script","_law_k","_law_here","_law_number","_law_j"] "_law_box" (defScope Dp) f cdv A outer s H E) E (defBody Dp) (HI Cp Cq):=
 AK (Bf (i:=2) sc__law_box.nd rfl (by first|exact .inl rfl|exact .inr rfl) (B0 c__law_cell hr Ck (Ad (Ah (pv 0)) (Ad (Ah (pv 1)) (Aj))))) (AK (DI (Ed (Kl hr.units) (AD Fj (Ah (pv 2)) (As)) (As) (D9 _)) (Bc (Bx (Cf (Ad (AD Ny (Ah (pv 2)) (As)) (Aj))))) (DH)) (AK (Bf (i:=3) sc__law_box.nd rfl (by first|exact .inl rfl|exact .inr rfl) (As)) (AK (Fv FN rfl (Ek rfl B.n_range (Ad (As) (Aj))) (GW (Cr (i:=4) (sc__law_box.nd) rfl (by first|exact .inl rfl|exact .inr rfl) (by first|exact .inl rfl|exact .inr rfl))) (Bc (Bf (i:=3) sc__law_box.nd rfl (by first|exact .inl rfl|exact .inr rfl) (AD Bv (AD CO (Ah (pv 3)) (As)) (B0 c__law_mix hr Ck (Ad (Ah (pv 2)) (Ad (Ah (pv 4)) (Aj)))))))) (Bc (Bx (Cf (Ad (Ah (pv 3)) (Aj))))))))
theorem Qv {AQ:List D→HD→Out D} (c__law_take:CaE P w K mg base "_law_take" 1 AQ) (f:Addr) (cdv:Value) (A:Around) (outer:List Env) (s:Shared) (H:Hp) (E:XK) (hr:Room 1 (A.deeper (envOfC "_law_wide_box" (defScope Dq) s.heap.objs.size f cdv))):
 Be (A0 (Aw P w K) P w K mg base ["_law_box_here","_law_number","_law_many","_law_j"] "_law_wide_box" (defScope Dq) f cdv A outer s H E) E (defBody Dq) (HJ AQ):=
 AK (Jb (i:=1) (j:=2) rfl sc__law_wide_box.nd rfl rfl (by decide) rfl rfl (Ad (B0 c__law_take hr Ck (Ad (Ah (pv 0)) (Ad (As) (Aj)))) (Ad (As) (Aj))) (by first |rfl |with_unfolding_all rfl)) (AK (Fv FN rfl (Ek rfl B.n_range (Ad (As) (Aj))) (GW (Cr (i:=3) (sc__law_wide_box.nd) rfl (by first|exact .inl rfl|exact .inr rfl) (by first|exact .inl rfl|exact .inr rfl))) (AK (Bf (i:=1) sc__law_wide_box.nd rfl (by first|exact .inl rfl|exact .inr rfl) (AD Fj (AD Bv (AD Bv (AD CO (Ah (pv 1)) (As)) (As)) (Ah (pv 3))) (As))) (Bc (Bf (i:=2) sc__law_wide_box.nd rfl (by first|exact .inl rfl|exact .inr rfl) (AD Bv (AD CO (Ah (pv 2)) (As)) (Ah (pv 1))))))) (Bc (Bx (Cf (Ad (Ah (pv 2)) (Aj))))))
theorem Qw {B5:List D→HD→Out D} {B6:List D→HD→Out D} {AQ:List D→HD→Out D} {BC:List D→HD→Out D} (c__law_box:CaE P w K mg base "_law_box" 2 B5) (c__law_wide_box:CaE P w K mg base "_law_wide_box" 2 B6) (c__law_take:CaE P w K mg base "_law_take" 1 AQ) (c__law_classes:CaE P w K mg base "_law_classes" 1 BC) (f:Addr) (cdv:Value) (A:Around) (outer:List Env) (s:Shared) (H:Hp) (E:XK) (hr:Room 2 (A.deeper (envOfC "law" (defScope s_law) s.heap.objs.size f cdv))):
 Be (A0 (Aw P w K) P w K mg base ["_law_script","_law_signs","_law_k","_law_box_here","_law_text","_law_one","_law_other","_law_made","_law_at","_law_e","_law_plain"] "law" (defScope s_law) f cdv A outer s H E) E (defBody s_law) (Gd B5 B6 AQ BC):=
 AK (Bf (i:=1) sc_law.nd rfl (by first|exact .inl rfl|exact .inr rfl) (GN)) (AK (Bf (i:=1) sc_law.nd rfl (by first|exact .inl rfl|exact .inr rfl) (AD Bv (Ah (pv 1)) (GN))) (AK (Fv FN rfl (Ek rfl B.n_range (Ad (A1 (Nz rfl) rfl B.n_max Ql (Ad (As) (Ad (A1 (NA rfl) rfl B.n_min Qm (Ad (A1 IZ rfl B.n_len K3 (Ad (Ah (pv 0)) (Aj))) (Ad (As) (Aj)))) (Aj)))) (Aj))) (GW (Cr (i:=2) (sc_law.nd) rfl (by first|exact .inl rfl|exact .inr rfl) (by first|exact .inl rfl|exact .inr rfl))) (AK (Bf (i:=3) sc_law.nd rfl (by first|exact .inl rfl|exact .inr rfl) (B0 c__law_wide_box hr Ck (Ad (B0 c__law_box hr Ck (Ad (Ah (pv 0)) (Ad (Ah (pv 2)) (Aj)))) (Aj)))) (AK (Bf (i:=4) sc_law.nd rfl (by first|exact .inl rfl|exact .inr rfl) (OU PySem.F.plainAttrs_str PySem.F.slot_str_join PySem.F.type_str_join Qe Qd Qf (GN) (Jr (Nc:=["_law_sign","_law_signs","_law_box_here"]) (cs:=[none,some 1,some 3]) rfl (CSc.ok ⟨rfl,by decide +kernel,by kernel_rfl,by decide +kernel,rfl,by kernel_rfl⟩) (Ek rfl B.n_range (Ad (B0 c__law_take hr Ck (Ad (Ah (pv 3)) (Ad (As) (Aj)))) (Aj))) (Jn rfl) (fun C D cells fp s₀ H₀ pins=>⟨Cr (i:=0) (show (["_law_sign","_law_signs","_law_box_here"]:List Str).Nodup from by decide +kernel) rfl (by first|exact .inl rfl|exact .inr rfl) (by first|exact .inl rfl|exact .inr rfl),Jp,Qc (Ah (pv 1)) (B0 c__law_take hr Ox (Ad (Ah (pv 2)) (Ad (As) (Aj)))) (fun _ _=>rfl)⟩)))) (AK (Jb (i:=5) (j:=6) rfl sc_law.nd rfl rfl (by decide) rfl rfl (Ad (B0 c__law_take hr Ck (Ad (Ah (pv 3)) (Ad (AD IT (As) (As)) (Aj)))) (Ad (B0 c__law_take hr Ck (Ad (Ah (pv 3)) (Ad (AD IT (As) (As)) (Aj)))) (Aj))) (by first |rfl |with_unfolding_all rfl)) (AK (Bf (i:=7) sc_law.nd rfl (by first|exact .inl rfl|exact .inr rfl) (Cf (Ad (Co BJ et (by decide +kernel) (by decide +kernel) rfl (Ad (Ah (pv 4)) (Aj))) (Ad (Co BJ et (by decide +kernel) (by decide +kernel) rfl (Ad (Ah (pv 4)) (Aj))) (Ad (Co BJ et (by decide +kernel) (by decide +kernel) rfl (Ad (Ah (pv 4)) (Aj))) (Ad (Co BJ et (by decide +kernel) (by decide +kernel) rfl (Ad (Ah (pv 4)) (Aj))) (Ad (Co BJ et (by decide +kernel) (by decide +kernel) rfl (Ad (Ah (pv 4)) (Aj))) (Ad (Co BJ et (by decide +kernel) (by decide +kernel) rfl (Ad (Ah (pv 4)) (Aj))) (Aj))))))))) (AK (Bf (i:=7) sc_law.nd rfl (by first|exact .inl rfl|exact .inr rfl) (AD Bv (Ah (pv 7)) (Cf (Ad (Co BJ et (by decide +kernel) (by decide +kernel) rfl (Ad (Ah (pv 4)) (Aj))) (Ad (Co BJ et (by decide +kernel) (by decide +kernel) rfl (Ad (Ah (pv 4)) (Aj))) (Ad (Co BJ et (by decide +kernel) (by decide +kernel) rfl (Ad (Ah (pv 4)) (Aj))) (Ad (Qi BJ TM.tm TM.F TM.hb (hr.mono (by decide)) TM.lI TM.cI TM.kp TM.nC rfl (Ad (Ah (pv 5)) (Ad (Ah (pv 6)) (Aj)))) (Aj)))))))) (AK (Fv FN rfl (OB rfl B.n_enumerate (Ad (Ah (pv 7)) (Aj))) (Jc (JE rfl (Cr (i:=8) (sc_law.nd) rfl (by first|exact .inl rfl|exact .inr rfl) (by first|exact .inl rfl|exact .inr rfl)) (Cr (i:=9) (sc_law.nd) rfl (by first|exact .inl rfl|exact .inr rfl) (by first|exact .inl rfl|exact .inr rfl)))) (AK (DI (Ed (Km hr.units) (B0 c__law_classes hr Ck (Ad (Ah (pv 9)) (Aj))) (Jr (Nc:=["_law_place","_law_at"]) (cs:=[none,some 8]) rfl (CSc.ok ⟨rfl,by decide +kernel,by kernel_rfl,by decide +kernel,rfl,by kernel_rfl⟩) (Ek rfl B.n_range (Ad (As) (Aj))) (Jn rfl) (fun C D cells fp s₀ H₀ pins=>⟨Cr (i:=0) (show (["_law_place","_law_at"]:List Str).Nodup from by decide +kernel) rfl (by first|exact .inl rfl|exact .inr rfl) (by first|exact .inl rfl|exact .inr rfl),Jp,Nd (Kl hr.units) (Ah (pv 0)) (Ah (pv 1)) (D9 _)⟩)) (D9 _)) (Bc (Bx (DF))) (DH)) (Bc (DI (IH (IG (GP (GO (A1 (BA et) rfl B.n_isinstance BB (Ad (Ah (pv 9)) (Ad (B2 et (by decide +kernel)) (Aj)))))) (IF (GP (GO (A1 (BA et) rfl B.n_isinstance BB (Ad (Ah (pv 9)) (Ad (Jt rfl B.n_ValueError K2) (Aj))))))))) (Bc (Bx (DF))) (DH))))) (AK (DI (Ed (Km hr.units) (A1 (Kk hr.units hr.gd) rfl B.n_repr K4 (Ad (Cf (Ad (K1 TM.tm TM.nC (.inl rfl) (Fm (Ah (pv 7)) (As) (fun _ _=>rfl))) (Ad (K1 TM.tm TM.nC (.inr rfl) (Fm (Ah (pv 7)) (As) (fun _ _=>rfl))) (Aj)))) (Aj))) (A1 (Kk hr.units hr.gd) rfl B.n_repr K4 (Ad (Cf (Ad (Ah (pv 5)) (Ad (Ah (pv 6)) (Aj)))) (Aj))) (D9 _)) (Bc (Bx (DF))) (DH)) (AK (Bf (i:=10) sc_law.nd rfl (by first|exact .inl rfl|exact .inr rfl) (Co BJ et (by decide +kernel) (by decide +kernel) rfl (Ad (Ah (pv 4)) (Aj)))) (Bc (DI (IH (IG (Ed Nt (DF) (B0 c__law_classes hr Ck (Ad (Ah (pv 10)) (Aj))) (by with_unfolding_all rfl)) (IF (GP (GO (A1 (BA et) rfl B.n_isinstance BB (Ad (Ah (pv 10)) (Ad (Jt rfl B.n_ValueError K2) (Aj))))))))) (Bc (Bx (DF))) (DH)))))))))))) (Bc (Bx (DF)))))
noncomputable def Cp:List D→HD→Out D:=fun ds h=>if ds.length=2 then A5 2 (Gc) ds h else .stuck
theorem Qx {f:Addr} {fd:FuncData} (D:Dn K mg "_law_cell" ["_law_script","_law_k"] Dk f fd):CaE P w K mg base "_law_cell" 1 Cp:=
 ⟨f,fd,_,De D.fn Qp (fun ds h e=>if_neg e) (fun ds h e=>if_pos e) (fun cdv A outer s H E hr=>Qq B et TM f cdv A outer s H E hr),D.bd,D.mg,D.fn.kp⟩
noncomputable def Cq:List D→HD→Out D:=fun ds h=>if ds.length=2 then A5 3 (HF) ds h else .stuck
theorem Qy {f:Addr} {fd:FuncData} (D:Dn K mg "_law_mix" ["_law_cell_here","_law_k"] Dl f fd):CaE P w K mg base "_law_mix" 1 Cq:=
 ⟨f,fd,_,De D.fn sc__law_mix (fun ds h e=>if_neg e) (fun ds h e=>if_pos e) (fun cdv A outer s H E hr=>Qr B et TM f cdv A outer s H E hr),D.bd,D.mg,D.fn.kp⟩
noncomputable def AQ:List D→HD→Out D:=fun ds h=>if ds.length=2 then A5 4 (HG) ds h else .stuck
theorem Qz {f:Addr} {fd:FuncData} (D:Dn K mg "_law_take" ["_law_box_here","_law_many"] Dm f fd):CaE P w K mg base "_law_take" 1 AQ:=
 ⟨f,fd,_,De D.fn sc__law_take (fun ds h e=>if_neg e) (fun ds h e=>if_pos e) (fun cdv A outer s H E hr=>Qs B et TM f cdv A outer s H E hr),D.bd,D.mg,D.fn.kp⟩
noncomputable def BC:List D→HD→Out D:=fun ds h=>if ds.length=1 then A5 2 (HH) ds h else .stuck
theorem QC {f:Addr} {fd:FuncData} (D:Dn K mg "_law_classes" ["_law_e"] Do f fd):CaE P w K mg base "_law_classes" 1 BC:=
 ⟨f,fd,_,De D.fn sc__law_classes (fun ds h e=>if_neg e) (fun ds h e=>if_pos e) (fun cdv A outer s H E hr=>Qt B et TM f cdv A outer s H E hr),D.bd,D.mg,D.fn.kp⟩
noncomputable def B5:List D→HD→Out D:=fun ds h=>if ds.length=2 then A5 5 (HI Cp Cq) ds h else .stuck
theorem QE (c__law_cell:CaE P w K mg base "_law_cell" 1 Cp) (c__law_mix:CaE P w K mg base "_law_mix" 1 Cq) {f:Addr} {fd:FuncData} (D:Dn K mg "_law_box" ["_law_script","_law_k"] Dp f fd):CaE P w K mg base "_law_box" 2 B5:=
 ⟨f,fd,_,De D.fn sc__law_box (fun ds h e=>if_neg e) (fun ds h e=>if_pos e) (fun cdv A outer s H E hr=>Qu B et TM c__law_cell c__law_mix f cdv A outer s H E hr),D.bd,D.mg,D.fn.kp⟩
noncomputable def B6:List D→HD→Out D:=fun ds h=>if ds.length=1 then A5 4 (HJ AQ) ds h else .stuck
theorem QF (c__law_take:CaE P w K mg base "_law_take" 1 AQ) {f:Addr} {fd:FuncData} (D:Dn K mg "_law_wide_box" ["_law_box_here"] Dq f fd):CaE P w K mg base "_law_wide_box" 2 B6:=
 ⟨f,fd,_,De D.fn sc__law_wide_box (fun ds h e=>if_neg e) (fun ds h e=>if_pos e) (fun cdv A outer s H E hr=>Qv B et TM c__law_take f cdv A outer s H E hr),D.bd,D.mg,D.fn.kp⟩
noncomputable def F_law:List D→HD→Out D:=fun ds h=>if ds.length=1 then A5 11 (Gd B5 B6 AQ BC) ds h else .stuck
end
theorem _root_.LS.Sm.len {h h':HD} (s:Sm h h'):h.length≤h'.length:=by
 cases e:h.length with
 |zero=>exact CF _
 |succ n=>
  have hn:n<h.length:=by omega
  have:=s n h[n] (A8 hn)
  have:=(qa7.mp this).1
  omega
theorem sz {n:Nat} (hn:n≤8):(List.range n).length≤sizeLine:=by
 rw [List.length_range];unfold sizeLine;omega
theorem QG {ns:List Int} {k:Nat} (hb:∀i∈ns,Builtin.Int.intBits i≤2^20) (hk:k≤1000):∃c:Int,Builtin.Int.intBits c≤2^20∧∀h,Pu (Cp [.scr ns,.int (k:Nat)] h) h (.int c):=by
 by_cases hl:k<ns.length
 ·refine ⟨ns[k],hb _ (List.getElem_mem hl),fun h=>?_⟩
  change Wp (A5 2 Gc [.scr ns,.int (k:Nat)] h) _
  refine Eq.mpr (CL) ?_
  have:(k:Int)<ns.length:=by omega
  simp [this]
  refine Bd (N8 (A8 hl)) ?_
  simp [Sm.refl]
 ·refine ⟨6151*(k:Int)+29,?_,fun h=>?_⟩
  ·rw [intBits_le_iff]
   have h1:(6151*(k:Int)+29).natAbs<2^30:=by omega
   exact AC h1 (Nat.pow_le_pow_right (by decide) (by omega))
  ·change Wp (A5 2 Gc [.scr ns,.int (k:Nat)] h) _
   refine Eq.mpr (CL) ?_
   have:¬(k:Int)<ns.length:=by omega
   simp [this]
   rw [Hb (by decide) (by decide)]
   simp [Sm.refl]
def K5 (c:Int) (k:Nat):Int:=(((c+1)*40692+104729*(k:Int))*((c+1)*40692+104729*(k:Int))) % 2147483399+(k:Int)
theorem K6 {h:HD}:DL [.int 24] h=.ok ((List.range 24).map fun k=>D.int ((k:Nat):Int),[]) h:=FC (n:=24) (by decide)
theorem QH {c:Int} {k:Nat} (hc:Builtin.Int.intBits c≤2^20) (hk:k≤1000):∃r:Int,∀h,Pu (Cq [.int c,.int (k:Nat)] h) h (.int r):=by
 refine ⟨K5 c k*(K5 c k+31) % 2147483563,fun h=>?_⟩
 change Wp (A5 3 HF [.int c,.int (k:Nat)] h) _
 refine Eq.mpr (CL) ?_
 have bX:Builtin.Int.intBits ((c+1)*40692+104729*(k:Int))≤16777216:=by
  have hk':Builtin.Int.intBits ((k:Nat):Int)≤10:=PySem.intBits_le_iff.mpr (by omega)
  have:=PySem.intBits_add_le (PySem.intBits_mul_le (PySem.intBits_add_le hc (show Builtin.Int.intBits 1≤1 by decide)) (show Builtin.Int.intBits 40692≤16 by decide)) (PySem.intBits_mul_le (show Builtin.Int.intBits 104729≤17 by decide) hk')
  exact Bi this (by decide)
 have h1:=Int.emod_nonneg (((c+1)*40692+104729*(k:Int))*((c+1)*40692+104729*(k:Int))) (show (2147483399:Int)≠0 by decide)
 have h2:=Int.emod_lt_of_pos (((c+1)*40692+104729*(k:Int))*((c+1)*40692+104729*(k:Int))) (show (0:Int)<2147483399 by decide)
 simp
 rw [FG (by decide) (by decide)]
 simp
 rw [Hb (by decide) (by decide)]
 simp
 rw [Oc bX bX]
 simp
 rw [FH (by decide)]
 simp
 rw [Hb (by omega) (by omega)]
 simp
 rw [FH (by decide)]
 simp
 exact ⟨rfl,.refl _⟩
def BoxAt (h:HD) (b:Nat):Prop:=∃n:Int,h[b]?=some (.lst [.int n])
inductive K7 (ns:List Int) (k:Nat) (c:Int) (h:HD) (xs:List Nat) (ρ:Ae) (h':HD):Prop where
 |mk (N:Int) (x:Option D) (f0:ρ=[some (.scr ns),some (.int (k:Nat)),some (.int c),some (.int N),x]) (f1:Sm h h') (f2:∀j∈xs,j<24):K7 ns k c h xs ρ h'
theorem QJ {ns:List Int} {k:Nat} {h:HD} {Q:D→HD→Prop} (hb:∀i∈ns,Builtin.Int.intBits i≤2^20) (hk:k≤1000) (q:∀l h',BoxAt h' l→h.length≤l→Sm h h'→Q (.loc l) h'):Wp (B5 [.scr ns,.int (k:Nat)] h) Q:=by
 change Wp (A5 5 (HI Cp Cq) [.scr ns,.int (k:Nat)] h) _
 refine Eq.mpr (CL) ?_
 obtain ⟨c,bc,pc⟩:=QG (k:=k) hb hk
 simp
 refine (pc h).wp fun h1 s1=>?_
 rw [FH (by decide)]
 simp
 by_cases hz:c % 2=0
 ·simp [hz]
  rw [Od (by decide) (by decide)]
  simp
  exact Bo (by simp) fun l h' s e el _=>q l h' ⟨_,e⟩ (by have:=s1.len;omega) (s1.trans s)
 ·simp [hz]
  refine FD (src:=[]) (xs:=List.range 24) (fun i=>.int ((i:Nat):Int)) (K7 ns k c h) ?_ (fun ys ρ h' _=>Ej) ?_ ?_
  ·simp [K6]
   exact ⟨_,_,rfl,s1,fun j hj=>List.mem_range.mp hj⟩
  ·rintro x xs ρ h' ⟨N,y,rfl,sh,hx⟩
   refine ⟨_,rfl,?_⟩
   obtain ⟨m,pm⟩:=QH (k:=x) bc (by have:=hx x Ax;omega)
   simp
   rw [FG (by decide) (by decide)]
   simp
   refine (pm h').wp fun h2 s2=>?_
   simp [DO]
   exact ⟨_,_,rfl,sh.trans s2,fun j hj=>hx j (AA _ hj)⟩
  ·rintro ρ h' ⟨N,y,rfl,sh,_⟩
   simp
   exact Bo (by simp) fun l h' s e el _=>q l h' ⟨_,e⟩ (by have:=sh.len;omega) (sh.trans s)
def Smx (b:Nat) (h h':HD):Prop:=∀(l:Nat) (c:BH),l≠b→h[l]?=some c→h'[l]?=some c
theorem Smx.refl (b:Nat) (h:HD):Smx b h h:=fun _ _ _ e=>e
theorem Smx.trans {b:Nat} {h h1 h2:HD} (a:Smx b h h1) (c:Smx b h1 h2):Smx b h h2:=fun l x n e=>c l x n (a l x n e)
theorem K8 {b:Nat} {h h':HD} (s:Sm h h'):Smx b h h':=fun l c _ e=>s l c e
theorem EH {b:Nat} {m:Int} {h:HD} {Q:D→HD→Prop} (hx:BoxAt h b) (h1:0<m) (h2:m<18446744073709551616) (q:∀d h',0≤d→d<m→BoxAt h' b→Smx b h h'→Q (.int d) h'):Wp (AQ [.loc b,.int m] h) Q:=by
 change Wp (A5 4 HG [.loc b,.int m] h) _
 refine Eq.mpr (CL) ?_
 obtain ⟨N,e⟩:=hx
 simp
 rw [show (0:Int)=((0:Nat):Int) from rfl]
 refine Bd (JQ e (k:=0) rfl) ?_
 simp
 refine Bd (Oe h1 h2) ?_
 simp
 rw [show (0:Int)=((0:Nat):Int) from rfl]
 refine Bd (N9 e (by simp)) ?_
 simp
 have hl:b<h.length:=(qa7.mp e).1
 refine q _ _ (Int.emod_nonneg _ (by omega)) (Int.emod_lt_of_pos _ h1) ⟨_,by rw [Dt hl]⟩ fun l c ne el=>?_
 rw [CB (Ne.symm ne)]
 exact el
theorem BoxAt.sm {b:Nat} {h h':HD} (x:BoxAt h b) (s:Sm h h'):BoxAt h' b:=let ⟨n,e⟩:=x;⟨n,s _ _ e⟩
theorem BoxAt.new {b:Nat} {h:HD} {c:BH} (x:BoxAt h b):BoxAt (h++[c]) b:=x.sm (.app _ _)
theorem BoxAt.lt {b:Nat} {h:HD} (x:BoxAt h b):b<h.length:=let ⟨_,e⟩:=x;(qa7.mp e).1
theorem Smx.over {a b:Nat} {h h1 h2:HD} (s:Smx b h h1) (s2:Smx a h1 h2) (hl:h.length≤a):Smx b h h2:=fun l c n e=>s2 l c (by have:=(qa7.mp e).1;omega) (s l c n e)
theorem Smx.new {b:Nat} {c:BH} {h h1:HD} (s:Smx b h h1):Smx b h (h1++[c]):=s.trans (K8 (.app _ _))
theorem Smx.len {b:Nat} {h h':HD} (s:Smx b h h') (hb:b<h'.length):h.length≤h'.length:=by
 cases e:h.length with
 |zero=>exact CF _
 |succ n=>
  have hn:n<h.length:=by omega
  by_cases hz:n=b
  ·omega
  ·have:=s n h[n] hz (A8 hn)
   have:=(qa7.mp this).1
   omega
inductive K9 (b:Nat) (h1:HD) (xs:List Nat) (ρ:Ae) (h':HD):Prop where
 |mk (N M:Int) (x:Option D) (f0:ρ=[some (.loc b),some (.int N),some (.int M),x]) (f1:h'=h1):K9 b h1 xs ρ h'
theorem QK {b:Nat} {h:HD} {Q:D→HD→Prop} (hx:BoxAt h b) (q:∀l h',BoxAt h' b→BoxAt h' l→l≠b→h.length≤l→Smx b h h'→Q (.loc l) h'):Wp (B6 [.loc b] h) Q:=by
 change Wp (A5 4 (HJ AQ) [.loc b] h) _
 refine Eq.mpr (CL) ?_
 simp
 refine EH hx (by decide) (by decide) fun d h1 d0 d1 x1 s1=>?_
 refine FD (src:=[]) (xs:=List.range 24) (fun i=>.int ((i:Nat):Int)) (K9 b h1) ?_ (fun ys ρ h' _=>Ej) ?_ ?_
 ·simp [K6]
  exact ⟨_,_,_,rfl,rfl⟩
 ·rintro x xs ρ h' ⟨N,M,y,rfl,rfl⟩
  refine ⟨_,rfl,?_⟩
  simp
  rw [FG (by decide) (by decide)]
  simp
  rw [FH (by decide)]
  simp
  rw [FG (by decide) (by decide)]
  simp [DO]
  exact ⟨_,_,_,rfl,rfl⟩
 ·rintro ρ h' ⟨N,M,y,rfl,rfl⟩
  simp
  refine Bo (by simp) fun l h2 s e el _=>?_
  exact q l h2 (x1.sm s) ⟨_,e⟩ (by have:=x1.lt;omega) (by have:=s1.len x1.lt;omega) (s1.trans (K8 s))
theorem QL {i:Int} (h:i.natAbs<10^12):Rp 0 13 (.int i):=by
 refine ⟨.int i,fun h m=>by cases m<;>rfl,?_,rfl,by simp [PyData.depth],PyData.shown_int_le h⟩
 simp only [PyData.showable,decide_eq_true_eq]
 by_cases z:i.natAbs=0
 ·rw [z];decide
 ·exact AC ((Nat.log2_lt (k:=40) z).mpr (AC h (by decide))) (by decide)
theorem La {n:Nat} (h:n<10^12):Rp 0 13 (.int (n:Nat)):=QL (by rw [EN];exact h)
theorem Lb {L:Nat}:∀{ts:List Str},(∀t∈ts,t.length≤L)→(ts.map (·.length)).sum≤ts.length*L
 |[],_=>by simp
 |t::ts,h=>by
  have h1:=h t Ax
  have h2:=Lb (fun x hx=>h x (AA _ hx)) (ts:=ts)
  simp [Nat.succ_mul]
  omega
theorem QM {n L k:Nat} {ds:List D} (h:∀d∈ds,Rp n L d) (hk:ds.length≤k) (hn:n+1≤8) (hl:k*(L+2)+3≤sizeLine):∃x:Str,∀(hd:HD) (l:Nat),hd[l]?=some (.lst ds)→Cz (.loc l) hd=.ok (.str x) hd:=by
 obtain ⟨ps,b1,b2,b3,b4,b5,b6⟩:=Kq h
 refine ⟨(PyData.list ps).shown,fun hd l e=>?_⟩
 have e8:Av hd 8 (.loc l)=some (.list ps):=by
  have:=b1 hd (8 - (n+1))
  rw [show (8:Nat)=(n+(8 - (n+1)))+1 by omega]
  simp only [Av,e,this]
  rfl
 unfold Cz
 rw [e8]
 simp only
 rw [if_pos]
 refine ⟨by simpa [PyData.showable] using b2,by simpa [PyData.hasDict] using b3,by simp only [PyData.depth];omega,Bi ?_ hl⟩
 simp only [PyData.shown]
 have e1:=listText_len_le (PyData.shownAll ps)
 have e2:=Lb b6
 have e3:(PyData.shownAll ps).length=ds.length:=by rw [Kr,b5]
 rw [e3] at e1 e2
 have e4:ds.length*(L+2)≤k*(L+2):=Nat.mul_le_mul_right _ hk
 rw [Nat.mul_add] at e4
 omega
@[irreducible] noncomputable def Ge:MS:=AE 3 (Ai B6 (Aa (Ai B5 (Aa (Ab 0) (Aa (Ab 2) (Ac)))) (Ac)))
@[irreducible] noncomputable def Gf:MS:=AE 4 (DP DY CS (mC (.str "")) (A2 [none,some 1,some 3] (BV (Aa (Ai AQ (Aa (Ab 3) (Aa (mC (.int 11)) (Ac)))) (Ac))) (By 0) (DM) (Ak DX (Ab 1) (Ai AQ (Aa (Ab 2) (Aa (mC (.int 96)) (Ac)))))))
@[irreducible] noncomputable def Gg:MS:=DJ 5 6 (Aa (Ai AQ (Aa (Ab 3) (Aa (Ak DG (mC (.int 10)) (mC (.int 6))) (Ac)))) (Aa (Ai AQ (Aa (Ab 3) (Aa (Ak DG (mC (.int 10)) (mC (.int 6))) (Ac)))) (Ac)))
@[irreducible] noncomputable def Gh:MS:=AE 7 (A9 (Aa (AW "NoBoard" (Aa (Ab 4) (Ac))) (Aa (AW "NoLine" (Aa (Ab 4) (Ac))) (Aa (AW "NoSwitching" (Aa (Ab 4) (Ac))) (Aa (AW "NoNumber" (Aa (Ab 4) (Ac))) (Aa (AW "Unlike" (Aa (Ab 4) (Ac))) (Aa (AW "NoNet" (Aa (Ab 4) (Ac))) (Ac))))))))
@[irreducible] noncomputable def Gi:MS:=AE 7 (Ak AX (Ab 7) (A9 (Aa (AW "NoPlace" (Aa (Ab 4) (Ac))) (Aa (AW "NoText" (Aa (Ab 4) (Ac))) (Aa (AW "NoRow" (Aa (Ab 4) (Ac))) (Aa (EG (Aa (Ab 5) (Aa (Ab 6) (Ac)))) (Ac)))))))
@[irreducible] noncomputable def Gj:MS:=Cw (Ep (Aa (Ab 7) (Ac))) (DK 8 9) (Ao (Bk (Bu (Ak B1 (Ai BC (Aa (Ab 9) (Ac))) (A2 [none,some 8] (BV (Aa (mC (.int 10)) (Ac))) (By 0) (DM) (Ak CA (Ab 0) (Ab 1))))) (AV (mC (.bl false))) (Bw)) (Bk (Cv (BU (BS (Ai (AB An) (Aa (Ab 9) (Aa (mC (.glo "SwitchError")) (Ac)))))) (BU (BS (Ai (AB An) (Aa (Ab 9) (Aa (mC (.ty "ValueError")) (Ac))))))) (AV (mC (.bl false))) (Bw)))
@[irreducible] noncomputable def Gk:MS:=Bk (Bu (Ak B1 (Ai (AF Cz) (Aa (A9 (Aa (Dg (Ak Bb (Ab 7) (mC (.int 9))) "many") (Aa (Dg (Ak Bb (Ab 7) (mC (.int 9))) "most") (Ac)))) (Ac))) (Ai (AF Cz) (Aa (A9 (Aa (Ab 5) (Aa (Ab 6) (Ac)))) (Ac))))) (AV (mC (.bl false))) (Bw)
@[irreducible] noncomputable def Gm:MS:=AE 10 (AW "SwitchError" (Aa (Ab 4) (Ac)))
@[irreducible] noncomputable def Gn:MS:=Bk (Cv (Bu (Ak (Dc false) (mC (.bl true)) (Ai BC (Aa (Ab 10) (Ac))))) (BU (BS (Ai (AB An) (Aa (Ab 10) (Aa (mC (.ty "ValueError")) (Ac))))))) (AV (mC (.bl false))) (Bw)
theorem QN {l k:Nat} {ds:List D} {ps:List PyData} {h:HD} (e1:h[l]?=some (.lst ds)) (e2:h[k]?=some (.lst ds)) (hp:AG (ds.map (Av h 7))=some ps) (hs:SeqAt.shaped (.list ps)=true):B1 (.loc l) (.loc k) h=.ok (.bl false) h:=by
 have a:∀j,h[j]?=some (.lst ds)→Av h 8 (.loc j)=some (.list ps):=fun j e=>by
  simp only [Av,e,hp,Dz]
 change Cg (.loc l) (.loc k) h=_
 simp only [Cg,C9,a l e1,a k e2]
 rw [if_pos ⟨hs,hs⟩,SeqAt.eqv_refl _ (SeqAt.canLay_of_shaped hs)]
 rfl
theorem QP {cs:List (Option Nat)} {it:MI} {sg:MG} {t:MT} {f:ME} {ρ:Ae} {h:HD} {Q:D→HD→Prop} {N:Nat} (φ:Nat→D) (I:HD→Prop) (T:Nat→Bool→Prop) (R:Nat→D→Prop) (ρ1:Nat→Ae) (hi:Wp (it ρ h) fun x h'=>∃n:Nat,x=((List.range n).map φ,[])∧n≤N∧I h')
 (hnew:∀h c,I h→I (h++[c])) (hn:N≤sizeLine) (hg:∀x,sg (φ x) (BW cs ρ)=some (ρ1 x)) (ht:∀x,∀h,I h→Wp (t (ρ1 x) h) fun b h1=>T x b∧if b=true then Wp (f (ρ1 x) h1) (fun y h2=>I h2∧R x y) else I h1)
 (q:∀l h' n (g:Nat→Bool) (e:Nat→D),I h'→n≤N→h'[l]?=some (.lst (((List.range n).filter g).map e))→(∀x∈List.range n,g x=true→R x (e x))→(∀x∈List.range n,T x (g x))→Q (.loc l) h'):Wp (A2 cs it sg t f ρ h) Q:=by
 unfold A2
 rw [Al]
 refine Wp.mono hi fun x h1 z5_=>?_
 obtain ⟨n,ex,hN,i1⟩:=z5_
 subst ex
 rw [if_pos (by simp;omega),Al]
 refine Wp.mono (JS φ I T R ρ1 (fun _ _=>Ej) (List.range n) h1 List.nodup_range i1 (fun x _=>hg x) (fun x _=>ht x)) fun ys h2 z6_=>?_
 obtain ⟨i2,g,e,ey,hr,tr⟩:=z6_
 subst ey
 refine Bo ?_ fun l h3 s3 e3 _ eh=>?_
 ·rw [Dy]
  exact Bi (Gr _ _) (by simp;omega)
 ·refine q l h3 n g e ?_ hN e3 hr tr
  rw [eh]
  exact hnew _ _ i2
theorem Lc {n:Nat}:∀{ds:List D},(∀d∈ds,∃c,d=.str ⟨#[c]⟩)→ds.length≤n→∃xs,Di ds=some xs∧xs.length=ds.length∧∀x∈xs,x.length=1
 |[],_,_=>⟨[],rfl,rfl,by simp⟩
 |d::ds,hd,hl=>by
  obtain ⟨c,rfl⟩:=hd d Ax
  obtain ⟨xs,e1,e2,e3⟩:=Lc (n:=n) (fun x hx=>hd x (AA _ hx)) (by simp at hl;omega)
  refine ⟨⟨#[c]⟩::xs,by simp [Di,e1],by simp [e2],fun x hx=>?_⟩
  rcases qa6.mp hx with rfl |hx
  ·rfl
  ·exact e3 x hx
theorem Ld:∀(xs:List Str) (a:Nat),(∀x∈xs,x.length=1)→xs.foldl (fun n (x:Str)=>n+x.length+(("":String):Str).length) a=a+xs.length
 |[],_,_=>rfl
 |x::xs,a,h=>by
  rw [List.foldl_cons,Ld xs _ (fun y hy=>h y (AA _ hy)),h x Ax]
  have:(("":String):Str).length=0:=by decide +kernel
  simp [this]
  omega
theorem Le:∀(xs:List Str) (a:Array Nat),(∀x∈xs,x.length=1)→(xs.foldl (fun acc (p:Str)=>acc++(("":String):Str).cps++p.cps) a).size=a.size+xs.length
 |[],_,_=>rfl
 |x::xs,a,h=>by
  rw [List.foldl_cons,Le xs _ (fun y hy=>h y (AA _ hy))]
  have:(("":String):Str).cps.size=0:=by decide +kernel
  have h1:x.cps.size=1:=h x Ax
  simp [this,h1]
  omega
theorem QR {xs:List Str} (h:∀x∈xs,x.length=1) (hl:xs.length≤1000):(Dj "" xs).length≤1000:=by
 unfold Dj
 split
 ·rename_i x
  rw [h x Ax];decide
 ·unfold Builtin.Str.glued
  show Array.size _≤1000
  rw [Le _ _ fun x hx=>h x (List.mem_of_mem_drop hx)]
  cases xs with
  |nil=>decide
  |cons x xs=>
   have:x.cps.size=1:=h x Ax
   simp [this] at hl ⊢
   omega
theorem QT {l:Nat} {ds:List D} {h:HD} (e:h[l]?=some (.lst ds)) (hd:∀d∈ds,∃c,d=.str ⟨#[c]⟩) (hl:ds.length≤1000):∃x,CS (.str "") (.loc l) h=.ok (.str x) h:=by
 obtain ⟨xs,e1,e2,e3⟩:=Lc hd (AJ _)
 refine ⟨Dj "" xs,?_⟩
 unfold CS
 simp only [e,e1]
 rw [if_pos]
 refine ⟨?_,?_⟩
 ·rw [List.foldl_toArray,Ld xs 0 e3]
  unfold sizeLine;omega
 ·have:=QR e3 (by omega)
  unfold sizeLine;omega
def Gp (c:Str):List Bool:=[AH c "NoBoard",AH c "NoLine",AH c "NoSwitching",AH c "NoNumber",AH c "Unlike",AH c "NoNet",AH c "NoPlace",AH c "NoText",AH c "NoRow",AH c "TooMany"]
theorem Lf {c:Str} {fs:List (Str×Int)} {h:HD} {Q:D→HD→Prop} (hc:c∈excNames) (q:∀l h',Sm h h'→h'[l]?=some (.lst ((Gp c).map D.bl))→Q (.loc l) h'):Wp (BC [.exc c fs] h) Q:=by
 have i0:∀h,An (.exc c fs) (.glo "NoBoard") h=.ok (.bl (AH c "NoBoard")) h:=fun h=>B3 hc (by decide +kernel)
 have i1:∀h,An (.exc c fs) (.glo "NoLine") h=.ok (.bl (AH c "NoLine")) h:=fun h=>B3 hc (by decide +kernel)
 have i2:∀h,An (.exc c fs) (.glo "NoSwitching") h=.ok (.bl (AH c "NoSwitching")) h:=fun h=>B3 hc (by decide +kernel)
 have i3:∀h,An (.exc c fs) (.glo "NoNumber") h=.ok (.bl (AH c "NoNumber")) h:=fun h=>B3 hc (by decide +kernel)
 have i4:∀h,An (.exc c fs) (.glo "Unlike") h=.ok (.bl (AH c "Unlike")) h:=fun h=>B3 hc (by decide +kernel)
 have i5:∀h,An (.exc c fs) (.glo "NoNet") h=.ok (.bl (AH c "NoNet")) h:=fun h=>B3 hc (by decide +kernel)
 have i6:∀h,An (.exc c fs) (.glo "NoPlace") h=.ok (.bl (AH c "NoPlace")) h:=fun h=>B3 hc (by decide +kernel)
 have i7:∀h,An (.exc c fs) (.glo "NoText") h=.ok (.bl (AH c "NoText")) h:=fun h=>B3 hc (by decide +kernel)
 have i8:∀h,An (.exc c fs) (.glo "NoRow") h=.ok (.bl (AH c "NoRow")) h:=fun h=>B3 hc (by decide +kernel)
 have i9:∀h,An (.exc c fs) (.glo "TooMany") h=.ok (.bl (AH c "TooMany")) h:=fun h=>B3 hc (by decide +kernel)
 change Wp (A5 2 HH [.exc c fs] h) _
 refine Eq.mpr CL ?_
 simp [-A3,i0,i1,i2,i3]
 refine Bo (by simp) fun l1 h1 s1 e1 _ _=>?_
 refine Eq.mpr A3 ?_
 simp [-A3,i4,i5,i6,i7]
 refine Bo (by simp) fun l2 h2 s2 e2 _ _=>?_
 refine Bd (Hn (s2 _ _ e1) e2) ?_
 refine Bo (by simp) fun l3 h3 s3 e3 _ _=>?_
 refine Eq.mpr A3 ?_
 simp [-A3,i8,i9]
 refine Bo (by simp) fun l4 h4 s4 e4 _ _=>?_
 refine Bd (Hn (s4 _ _ e3) e4) ?_
 refine Bo (by simp) fun l5 h5 s5 e5 _ _=>?_
 exact q l5 h5 ((((s1.trans s2).trans s3).trans s4).trans s5) e5
def sgA:Str:=" !\"#$&'()*+,-./0123456789:;<=>?@ABCDEFGHIJKLMNOPQRSTUVWXYZ[\\]^_`"
def sgB:Str:="abcdefghijklmnopqrstuvwxyz{|}~\n\t"
def sg:Str:=sgA++sgB
theorem Lg:sgA.length=64:=by decide +kernel
theorem Lh:sgB.length=32:=by decide +kernel
theorem Li:sg.length=96:=by unfold sg;rw [Str.length_append,Lg,Lh]
theorem QU {d:Int} (h0:0≤d) (h1:d<96):∃c,A4 sg.cps.toList d=some c:=by
 have hl:sg.cps.toList.length=96:=by
  have:=Li
  simpa [Str.length] using this
 obtain ⟨k,rfl⟩:∃k:Nat,d=(k:Int):=⟨d.toNat,by omega⟩
 have hk:k<sg.cps.toList.length:=by omega
 exact ⟨_,MN (A8 hk)⟩
def Dr (i:Nat):Str:=(["NoBoard","NoLine","NoSwitching","NoNumber","Unlike","NoNet","NoPlace","NoText","NoRow","TooMany"]:List Str).getD i "SwitchError"
def QV (a b:Nat) (i:Nat):List (Str×Int):=if i=9 then [("many",((a:Nat):Int)),("most",((b:Nat):Int))] else []
def Bq (a b:Nat) (i:Nat):D:=.exc (Dr i) (QV a b i)
theorem HK (i:Nat) (hi:i<10):Dr i∈excNames:=by
 have:∀i<10,Dr i∈excNames:=by decide +kernel
 exact this i hi
theorem QW (i:Nat) (hi:i<10):Gp (Dr i)=(List.range 10).map fun j=>decide (j=i):=by
 have:∀i<10,Gp (Dr i)=(List.range 10).map fun j=>decide (j=i):=by decide +kernel
 exact this i hi
theorem QX (i:Nat) (hi:i<10):AH (Dr i) "SwitchError"=true:=by
 have:∀i<10,AH (Dr i) "SwitchError"=true:=by decide +kernel
 exact this i hi
theorem QY:Gp "SwitchError"=List.replicate 10 false:=by decide +kernel
theorem QZ:∀bs:List Bool,bs.length=10→SeqAt.shaped (.list (bs.map PyData.bool))=true:=by
 intro bs hb
 match bs,hb with
 |[a,b,c,d,e,f,g,h,i,j],_=>rfl
theorem Q0 {n m:Nat} (hn:n<10^6) (hm:m<10^6):∃x,∀h,B4 [none,some (.int (n:Nat)),some (.int (m:Nat))] h=.ok (.str x) h:=by
 have l1:(((toString ((n:Nat):Int)):String):Str).length≤13:=PyData.shown_int_le (i:=((n:Nat):Int)) (by rw [EN];omega)
 have l2:(((toString ((m:Nat):Int)):String):Str).length≤13:=PyData.shown_int_le (i:=((m:Nat):Int)) (by rw [EN];omega)
 have l3:((" are more than ":String):Str).length≤20:=by decide +kernel
 have lg:∀k:Nat,k<10^6→((k:Nat):Int).natAbs.log2<1920:=fun k hk=>by
  rw [EN]
  by_cases z:k=0
  ·rw [z];decide
  ·exact AC ((Nat.log2_lt (k:=40) z).mpr (AC hk (by decide))) (by decide)
 have g1:=lg n hn
 have g2:=lg m hm
 have z0:(Str.empty:Str).length=0:=rfl
 refine ⟨Str.empty++(((toString ((n:Nat):Int)):String):Str)++((" are more than ":String):Str)++(((toString ((m:Nat):Int)):String):Str),fun h=>?_⟩
 have e1:Ab 1 [none,some (.int (n:Nat)),some (.int (m:Nat))] h=.ok (.int (n:Nat)) h:=rfl
 have e2:Ab 2 [none,some (.int (n:Nat)),some (.int (m:Nat))] h=.ok (.int (m:Nat)) h:=rfl
 unfold B4 Eu FS FR FQ
 rw [e1]
 simp only [Out.bind_ok]
 rw [if_pos ⟨g1,by rw [Str.length_append];unfold sizeLine;omega⟩,if_pos (by rw [Str.length_append,Str.length_append];unfold sizeLine;omega),e2]
 simp only [Out.bind_ok]
 rw [if_pos ⟨g2,by rw [Str.length_append,Str.length_append,Str.length_append];unfold sizeLine;omega⟩,if_pos (by rw [Str.length_append,Str.length_append,Str.length_append];unfold sizeLine;omega)]
 rfl
def AI (ns:List Int) (k b:Nat) (c4 c5 c6 c7 c8 c9 c10:Option D):Ae:=[some (.scr ns),some (.str sg),some (.int (k:Nat)),some (.loc b),c4,c5,c6,c7,c8,c9,c10]
section
variable {ns:List Int} {k b x y l:Nat} {tx:Str} {h:HD} {c3 c4 c5 c6 c7 c8 c9 c10:Option D} {Q:Fl×Ae→HD→Prop}
theorem Q1 (hb:∀i∈ns,Builtin.Int.intBits i≤2^20) (hk:k≤1000) (q:∀b h',BoxAt h' b→Q (.nx,AI ns k b c4 c5 c6 c7 c8 c9 c10) h'):Wp (Ge [some (.scr ns),some (.str sg),some (.int (k:Nat)),c3,c4,c5,c6,c7,c8,c9,c10] h) Q:=by
 unfold Ge
 simp
 refine QJ hb hk fun b h1 x1 lb s1=>?_
 refine QK x1 fun l h2 x2 y2 _ _ _=>?_
 exact q l h2 y2
theorem Q2 (bx:BoxAt h b) (q:∀tx h',BoxAt h' b→Q (.nx,AI ns k b (some (.str tx)) c5 c6 c7 c8 c9 c10) h'):Wp (Gf (AI ns k b c4 c5 c6 c7 c8 c9 c10) h) Q:=by
 unfold Gf
 simp [AI]
 refine QP (N:=10) (fun i=>.int ((i:Nat):Int)) (fun h'=>BoxAt h' b) (fun _ b=>b=true) (fun i d=>∃c,d=.str ⟨#[c]⟩) (fun i=>[some (.int ((i:Nat):Int)),some (.str sg),some (.loc b)]) ?_ (fun h c x=>x.new) (by unfold sizeLine;decide) (fun x=>rfl) ?_ ?_
 ·simp
  refine EH bx (by decide) (by decide) fun d h1 d0 d1 x1 s1=>?_
  obtain ⟨n,rfl⟩:∃n:Nat,d=(n:Int):=⟨d.toNat,by omega⟩
  refine Bd (FC (show n≤1000 by omega)) ?_
  exact ⟨n,rfl,by omega,x1⟩
 ·intro x h' i
  simp
  refine EH i (by decide) (by decide) fun d h1 d0 d1 x1 s1=>?_
  obtain ⟨c,ec⟩:=QU d0 d1
  have e:DX (.str sg) (.int d) h1=.ok (.str ⟨#[c]⟩) h1:=by
   unfold DX
   simp only
   rw [if_pos (by rw [Li];unfold sizeLine;decide),ec]
  refine Bd e ?_
  exact ⟨x1,c,rfl⟩
 ·intro l h' n g e i hn el hr tr
  obtain ⟨tx,et⟩:=QT el (fun d hd=>by
   obtain ⟨j,hj,rfl⟩:=List.mem_map.mp hd
   have:=qbD.mp hj
   exact hr j this.1 this.2) (by
   rw [Dy]
   exact Bi (Gr _ _) (by simp;omega))
  refine Bd et ?_
  exact q tx h' i
theorem Ds (bx:BoxAt h b) (q:∀x y h',x<10^6→y<10^6→BoxAt h' b→Q (.nx,AI ns k b c4 (some (.int ((x:Nat):Int))) (some (.int ((y:Nat):Int))) c7 c8 c9 c10) h'):Wp (Gg (AI ns k b c4 c5 c6 c7 c8 c9 c10) h) Q:=by
 unfold Gg
 have e:∀h:HD,DG (.int 10) (.int 6) h=.ok (.int 1000000) h:=fun h=>rfl
 simp [AI,e]
 refine EH bx (by decide) (by decide) fun d h1 d0 d1 x1 s1=>?_
 refine EH x1 (by decide) (by decide) fun d' h2 d0' d1' x2 s2=>?_
 obtain ⟨x,rfl⟩:∃n:Nat,d=(n:Int):=⟨d.toNat,by omega⟩
 obtain ⟨y,rfl⟩:∃n:Nat,d'=(n:Int):=⟨d'.toNat,by omega⟩
 exact q x y h2 (by omega) (by omega) x2
theorem Gq (bx:BoxAt h b) (q:∀l h',h'[l]?=some (.lst ((List.range 6).map (Bq x y)))→Q (.nx,AI ns k b (some (.str tx)) c5 c6 (some (.loc l)) c8 c9 c10) h'):Wp (Gh (AI ns k b (some (.str tx)) c5 c6 c7 c8 c9 c10) h) Q:=by
 unfold Gh
 simp [AI,-A3]
 exact Bo (by simp) fun l h' s e _ _=>q l h' e
theorem Q3 (hx:x<10^6) (hy:y<10^6) (el:h[l]?=some (.lst ((List.range 6).map (Bq x y)))) (q:∀l h',h'[l]?=some (.lst ((List.range 10).map (Bq x y)))→Q (.nx,AI ns k b (some (.str tx)) (some (.int ((x:Nat):Int))) (some (.int ((y:Nat):Int))) (some (.loc l)) c8 c9 c10) h'):Wp (Gi (AI ns k b (some (.str tx)) (some (.int ((x:Nat):Int))) (some (.int ((y:Nat):Int))) (some (.loc l)) c8 c9 c10) h) Q:=by
 unfold Gi
 obtain ⟨t,et⟩:=Q0 hx hy
 simp [AI,Qj (et h)]
 refine Bo (by simp) fun l2 h2 s2 e2 _ _=>?_
 refine Bd (Hn (s2 _ _ el) e2) ?_
 exact Bo (by simp) fun l3 h3 s3 e3 _ _=>q l3 h3 e3
inductive Lj (ns:List Int) (k b l x y:Nat) (c4 c5 c6 c10:Option D) (xs:List Nat) (ρ:Ae) (h':HD):Prop where
 |mk (c8 c9:Option D) (f0:ρ=AI ns k b c4 c5 c6 (some (.loc l)) c8 c9 c10) (f1:h'[l]?=some (.lst ((List.range 10).map (Bq x y)))) (f2:∀i∈xs,i<10):Lj ns k b l x y c4 c5 c6 c10 xs ρ h'
theorem CV (el:h[l]?=some (.lst ((List.range 10).map (Bq x y)))) (q:∀c8 c9 h',h'[l]?=some (.lst ((List.range 10).map (Bq x y)))→Q (.nx,AI ns k b c4 c5 c6 (some (.loc l)) c8 c9 c10) h'):Wp (Gj (AI ns k b c4 c5 c6 (some (.loc l)) c8 c9 c10) h) Q:=by
 unfold Gj
 refine FD (src:=[(l,(List.range 10).map (Bq x y))]) (xs:=List.range 10) (fun i=>.tup [.int ((i:Nat):Int),Bq x y i]) (Lj ns k b l x y c4 c5 c6 c10) ?_ (fun ys ρ h' z=>by obtain ⟨_,_,_,f1,_⟩:=z;exact NC f1) ?_ ?_
 ·simp only [AI,OE,JN,JK,JJ,JM]
  refine Bd (OG el) ?_
  exact ⟨rfl,_,_,rfl,el,fun i hi=>by simpa using hi⟩
 ·rintro i xs ρ h' ⟨c8,c9,rfl,f1,f2⟩
  have hi:=f2 i Ax
  refine ⟨_,rfl,?_⟩
  simp [-A3,AI]
  refine Lf (HK i hi) fun l1 h1 s1 e1=>?_
  refine N7 (src:=[]) (xs:=List.range 10) (φ:=fun i=>.int ((i:Nat):Int)) (fun _=>true) (fun j=>.bl (decide (j=i))) (fun j=>[some (.int ((j:Nat):Int)),some (.int ((i:Nat):Int))]) ?_ (by simp) (fun x _=>rfl) (fun x _ h' s'=>(.ok:Pu (.ok true h') h' true)) (fun j _ _ h' s'=>?_) fun l2 h2 s2 e2=>?_
  ·simp only [N5,JN,JM,JL]
   refine Bd (FC (n:=10) (by decide)) ?_
   exact ⟨rfl,.refl _,fun _ _=>Ej⟩
  ·simp [Pu]
   refine ⟨?_,.refl _⟩
   by_cases z:j=i
   ·subst z;simp
   ·have:¬((j:Nat):Int)=((i:Nat):Int):=by omega
    simp [z,this]
  ·rw [N6] at e2
   rw [QW i hi,List.map_map] at e1
   refine Bd (QN (ps:=(List.range 10).map fun j=>PyData.bool (decide (j=i))) (s2 _ _ e1) e2 ?_ ?_) ?_
   ·rw [List.map_map]
    exact JP fun x _=>rfl
   ·have:=QZ ((List.range 10).map fun j=>decide (j=i)) (by simp)
    rwa [List.map_map] at this
   have i1:∀h,An (Bq x y i) (.glo "SwitchError") h=.ok (.bl true) h:=fun h=>Pe (HK i hi) (by decide +kernel) (QX i hi)
   have i2:∀h,An (Bq x y i) (.ty "ValueError") h=.ok (.bl true) h:=fun h=>Ks (HK i hi)
   simp [-A3]
   refine Eq.mpr A3 ?_
   simp [i1,i2,DO]
   exact ⟨_,_,rfl,s2 _ _ (s1 _ _ f1),fun j hj=>f2 j (AA _ hj)⟩
 ·rintro ρ h' ⟨c8,c9,rfl,f1,f2⟩
  exact q _ _ _ f1
theorem Q4 (hx:x<10^6) (hy:y<10^6) (el:h[l]?=some (.lst ((List.range 10).map (Bq x y)))) (q:∀h',Q (.nx,AI ns k b c4 (some (.int ((x:Nat):Int))) (some (.int ((y:Nat):Int))) (some (.loc l)) c8 c9 c10) h'):Wp (Gk (AI ns k b c4 (some (.int ((x:Nat):Int))) (some (.int ((y:Nat):Int))) (some (.loc l)) c8 c9 c10) h) Q:=by
 unfold Gk
 have e9:∀h:HD,h[l]?=some (.lst ((List.range 10).map (Bq x y)))→Bb (.loc l) (.int 9) h=.ok (Bq x y 9) h:=fun h e=>by
  rw [show (9:Int)=((9:Nat):Int) from rfl]
  exact JQ e (k:=9) rfl
 have a1:∀h:HD,EA "many" (Bq x y 9) h=.ok (.int ((x:Nat):Int)) h:=fun h=>rfl
 have a2:∀h:HD,EA "most" (Bq x y 9) h=.ok (.int ((y:Nat):Int)) h:=fun h=>rfl
 obtain ⟨r,er⟩:=QM (n:=0) (L:=13) (k:=2) (ds:=[.int ((x:Nat):Int),.int ((y:Nat):Int)]) (fun d hd=>by
  rcases qa6.mp hd with rfl |hd
  ·exact La (by omega)
  ·rw [qaD.mp hd];exact La (by omega)) (by simp) (by decide) (by unfold sizeLine;decide)
 simp [AI,e9 h el,a1,a2]
 refine Bo (by simp) fun l1 h1 s1 e1 _ _=>?_
 refine Bd (er _ _ e1) ?_
 simp
 refine Bo (by simp) fun l2 h2 s2 e2 _ _=>?_
 refine Bd (er _ _ e2) ?_
 simp
 exact q h2
theorem EI (q:Q (.nx,AI ns k b (some (.str tx)) c5 c6 c7 c8 c9 (some (.exc "SwitchError" []))) h):Wp (Gm (AI ns k b (some (.str tx)) c5 c6 c7 c8 c9 c10) h) Q:=by
 unfold Gm
 simp [AI]
 exact q
theorem Q5 (q:∀h',Q (.nx,AI ns k b c4 c5 c6 c7 c8 c9 (some (.exc "SwitchError" []))) h'):Wp (Gn (AI ns k b c4 c5 c6 c7 c8 c9 (some (.exc "SwitchError" []))) h) Q:=by
 unfold Gn
 have iv:∀h,An (.exc "SwitchError" []) (.ty "ValueError") h=.ok (.bl true) h:=fun h=>Ks (by decide +kernel)
 simp [AI]
 refine Lf (by decide +kernel) fun l1 h1 s1 e1=>?_
 rw [QY] at e1
 have e:Dc false (.bl true) (.loc l1) h1=.ok (.bl false) h1:=by
  unfold Dc Ba
  simp only [e1]
  rfl
 refine Bd e ?_
 simp [iv]
 exact q h1
end
inductive IL (ns:List Int) (xs:List Nat) (ρ:Ae) (h':HD):Prop where
 |mk (d2 d3 d4 d5 d6 d7 d8 d9 d10:Option D) (f0:ρ=[some (.scr ns),some (.str sg),d2,d3,d4,d5,d6,d7,d8,d9,d10]) (f1:∀k∈xs,k≤1000):IL ns xs ρ h'
theorem Q6:Gd B5 B6 AQ BC=Ao (AE 1 (mC (.str " !\"#$&'()*+,-./0123456789:;<=>?@ABCDEFGHIJKLMNOPQRSTUVWXYZ[\\]^_`"))) (Ao (AE 1 (Ak AX (Ab 1) (mC (.str "abcdefghijklmnopqrstuvwxyz{|}~\n\t")))) (Ao (Cw (BV (Aa (Ai (AB Eg) (Aa (mC (.int 1)) (Aa (Ai (AB Eh) (Aa (Ai (AF CK) (Aa (Ab 0) (Ac))) (Aa (mC (.int 4)) (Ac)))) (Ac)))) (Ac))) (By 2) (Ao Ge (Ao Gf (Ao Gg (Ao Gh (Ao Gi (Ao Gj (Ao Gk (Ao Gm (Gn)))))))))) (AV (mC (.bl true))))):=by
 unfold Ge Gf Gg Gh Gi Gj Gk Gm Gn
 rfl
theorem law_true (ns:List Int) (hl:ns.length≤63) (hb:∀i∈ns,Builtin.Int.intBits i≤2^20):∃h',F_law [.scr ns] []=.ok (.bl true) h':=by
 have main:Wp (F_law [.scr ns] []) fun d _=>d=.bl true:=by
  change Wp (A5 11 (Gd B5 B6 AQ BC) [.scr ns] []) _
  rw [Q6,CL,BZ]
  simp [-A3]
  refine Eq.mpr A3 ?_
  rw [BZ]
  simp only [N3,N4,JK,JJ,JL]
  refine Bd (Pd (x:=sgA) (y:=sgB) (by rw [Lg,Lh];decide)) ?_
  rw [N2]
  refine Eq.mpr A3 ?_
  rw [BZ]
  obtain ⟨n,en,hn⟩:∃n:Nat,(if (if (4:Int)<(ns.length:Int) then (4:Int) else (ns.length:Int))>1 then (if (4:Int)<(ns.length:Int) then (4:Int) else (ns.length:Int)) else 1)=(n:Int)∧n≤99:=by
   have h0:0≤(if (if (4:Int)<(ns.length:Int) then (4:Int) else (ns.length:Int))>1 then (if (4:Int)<(ns.length:Int) then (4:Int) else (ns.length:Int)) else 1)∧(if (if (4:Int)<(ns.length:Int) then (4:Int) else (ns.length:Int))>1 then (if (4:Int)<(ns.length:Int) then (4:Int) else (ns.length:Int)) else 1)≤99:=by
    constructor<;>(split<;>split<;>omega)
   generalize (if (if (4:Int)<(ns.length:Int) then (4:Int) else (ns.length:Int))>1 then (if (4:Int)<(ns.length:Int) then (4:Int) else (ns.length:Int)) else 1)=E at h0
   exact ⟨E.toNat,by omega,by omega⟩
  refine FD (src:=[]) (xs:=List.range n) (fun i=>.int ((i:Nat):Int)) (IL ns) ?_ (fun ys ρ h' _=>Ej) ?_ ?_
  ·simp
   rw [en,FC (by omega)]
   exact ⟨rfl,_,_,_,_,_,_,_,_,_,rfl,fun k hk=>by have:=List.mem_range.mp hk;omega⟩
  ·rintro x xs ρ h' ⟨d2,d3,d4,d5,d6,d7,d8,d9,d10,rfl,hx⟩
   refine ⟨_,rfl,?_⟩
   have hk:=hx x Ax
   rw [BZ]
   refine Q1 hb hk fun b h1 x1=>?_
   refine Eq.mpr A3 ?_
   rw [BZ]
   refine Q2 x1 fun tx h2 x2=>?_
   refine Eq.mpr A3 ?_
   rw [BZ]
   refine Ds x2 fun a c h3 ha hc x3=>?_
   refine Eq.mpr A3 ?_
   rw [BZ]
   refine Gq (x:=a) (y:=c) x3 fun l h4 e4=>?_
   refine Eq.mpr A3 ?_
   rw [BZ]
   refine Q3 ha hc e4 fun l h5 e5=>?_
   refine Eq.mpr A3 ?_
   rw [BZ]
   refine CV e5 fun c8 c9 h6 e6=>?_
   refine Eq.mpr A3 ?_
   rw [BZ]
   refine Q4 ha hc e6 fun h7=>?_
   refine Eq.mpr A3 ?_
   rw [BZ]
   refine EI ?_
   refine Eq.mpr A3 ?_
   refine Q5 fun h8=>?_
   simp only [DO]
   exact ⟨_,_,_,_,_,_,_,_,_,rfl,fun k hk=>hx k (AA _ hk)⟩
  ·rintro ρ h' ⟨d2,d3,d4,d5,d6,d7,d8,d9,d10,rfl,hx⟩
   simp
 obtain ⟨a,h',e,rfl⟩:=Wp.ex main
 exact ⟨h',e⟩
end LK
set_option maxHeartbeats 0
namespace LK
open PySem PySem.Spec PyProof.Rows L2 LS
def HL:Tp.Want:=⟨[(("_law_cell":Str),Dk),(("_law_mix":Str),Dl),(("_law_take":Str),Dm),(("_law_classes":Str),Do),(("_law_box":Str),Dp),(("_law_wide_box":Str),Dq),(("law":Str),s_law)],[],["ValueError","divmod","enumerate","isinstance","len","max","min","range","repr"]⟩
theorem all_mk {l:PySem.W.OpenLaw} {w:World} {K:PySem.W.Frag} {h:Heap} {mg:Str→Option Value} {fa:Addr} (HS:Tp.Has1 HL K∧Tp.HasT K BM) (X:K.In h) (G:h.Ns mainGlobals mg) (hfa:mg "law"=some (.ref fa)):
 ∃fd:FuncData,(∀(s:Shared) (v:Value),BindsTo s fd ⟨[v],[]⟩ [("_law_script",v)])∧∀base:Heap,K.In base→base.Ns mainGlobals mg→Es mg base→FnOk l.prog w K mg base (Aw l.prog w K) 3 fa fd ["_law_script"] (CN K F_law):=by
 obtain ⟨fs,cs,bs,et⟩:=HS.1
 obtain ⟨_,_,_,_,_,_,_,_,_,_,_,nC,nS,lT,cT,tmT,swT,kpT⟩:=HS.2
 obtain ⟨_,_,_,_,_,_,_,_,_,_,a0,l0,c0,k0⟩:=fs 0 "_law_cell" Dk rfl
 obtain ⟨_,_,_,_,_,_,_,_,_,_,a1,l1,c1,k1⟩:=fs 1 "_law_mix" Dl rfl
 obtain ⟨_,_,_,_,_,_,_,_,_,_,a2,l2,c2,k2⟩:=fs 2 "_law_take" Dm rfl
 obtain ⟨_,_,_,_,_,_,_,_,_,_,a3,l3,c3,k3⟩:=fs 3 "_law_classes" Do rfl
 obtain ⟨_,_,_,_,_,_,_,_,_,_,a4,l4,c4,k4⟩:=fs 4 "_law_box" Dp rfl
 obtain ⟨_,_,_,_,_,_,_,_,_,_,a5,l5,c5,k5⟩:=fs 5 "_law_wide_box" Dq rfl
 obtain ⟨f_law,_,an_law,_,_,kV_law,dc_law,pm_law,cd_law,ct_law,a_law,l_law,c_law,k_law⟩:=fs 6 "law" s_law rfl
 have e:=hfa.symm.trans (PySem.W.mg_of X G a_law)
 cases e
 have B:Bl mg:=⟨PySem.W.mg_none_of X G (bs 0 "ValueError" rfl),PySem.W.mg_none_of X G (bs 1 "divmod" rfl),PySem.W.mg_none_of X G (bs 2 "enumerate" rfl),PySem.W.mg_none_of X G (bs 3 "isinstance" rfl),PySem.W.mg_none_of X G (bs 4 "len" rfl),PySem.W.mg_none_of X G (bs 5 "max" rfl),PySem.W.mg_none_of X G (bs 6 "min" rfl),PySem.W.mg_none_of X G (bs 7 "range" rfl),PySem.W.mg_none_of X G (bs 8 "repr" rfl)⟩
 refine ⟨PySem.W.fnOf "law" "law" (defArgs s_law) (defBody s_law) (defScope s_law) .none kV_law dc_law pm_law an_law cd_law ct_law,fun s v=>.of_eq rfl,fun base _ _ hbm=>?_⟩
 have TM:=Qo (P:=l.prog) (w:=w) (mg:=mg) (base:=base) nC nS lT cT tmT swT kpT
 have C0:=Qx (P:=l.prog) (w:=w) (base:=base) B et TM (FT X G l0 c0 k0 a0 fun _ _ _ _ _ _ _ _=>rfl)
 have C1:=Qy (P:=l.prog) (w:=w) (base:=base) B et TM (FT X G l1 c1 k1 a1 fun _ _ _ _ _ _ _ _=>rfl)
 have C2:=Qz (P:=l.prog) (w:=w) (base:=base) B et TM (FT X G l2 c2 k2 a2 fun _ _ _ _ _ _ _ _=>rfl)
 have C3:=QC (P:=l.prog) (w:=w) (base:=base) B et TM (Ho X G l3 c3 k3 a3 fun _ _ _ _ _ _ _=>rfl)
 have C4:=QE (P:=l.prog) (w:=w) (base:=base) B et TM C0 C1 (FT X G l4 c4 k4 a4 fun _ _ _ _ _ _ _ _=>rfl)
 have C5:=QF (P:=l.prog) (w:=w) (base:=base) B et TM C2 (Ho X G l5 c5 k5 a5 fun _ _ _ _ _ _ _=>rfl)
 exact De (Ho X G l_law c_law k_law a_law fun _ _ _ _ _ _ _=>rfl).fn sc_law (fun ds h e=>if_neg e) (fun ds h e=>if_pos e) (fun cdv A outer s H E hr=>Qw B et TM C4 C5 C2 C3 _ cdv A outer s H E hr)
end LK
namespace LK
open PySem PySem.W
abbrev top_q:Program:=view PySem.Challenge.pw_lineswitch_k94_errors_made [19]
abbrev top_loose:List Str:=(PySem.Challenge.pw_lineswitch_k94_errors_made.main.scope.names.map (·.1)).filter fun x=>!(x=="law")
set_option maxHeartbeats 0 in
theorem top_left:LeftO PySem.Challenge.pw_lineswitch_k94_errors_made top_q top_loose (fun _=>true) (Tp.obs1 HL) (fun _=>Tp.val1 HL BM) 1000000:=
 Tp.left_of (n:=21) (by kernel_rfl) (fun s=>by kernel_rfl) (fun w=>by kernel_rfl) (fun w os=>by
  rw [PySem.W.Fast.te10156331382660048174,PySem.W.Fast.te11892475500146522536,PySem.W.Fast.te14364793385576792824,PySem.W.Fast.te10110043849684766642,PySem.W.Fast.te6613529449190102663,PySem.W.Fast.te4187177175401517315,PySem.W.Fast.te5923862056798008813]
  kernel_rfl)
end LK
open PySem PySem.W PyProof.Rows
set_option maxRecDepth 100000 in
set_option maxHeartbeats 0 in
theorem PySem.Challenge.cw_lineswitch_k94_errors_made_holds : PySem.Challenge.rw_lineswitch_k94_errors_made.Holds := by
 w_on;o_law
 refine PySem.W.holds_open (q:=LK.top_q) (loose:=LK.top_loose) (d:=⟨"law",L2.defArgs LK.s_law,L2.defBody LK.s_law,L2.defScope LK.s_law,_⟩) (kwd:=[]) (Xt:=fun _=>true) (XP:=fun _ _=>True) (N:=1000000) LK.top_left Tp.says1_of Tp.Says1.keeps (fun _ _=>trivial) (fun _ _ _ _ _=>trivial) (by rfl) (by kernel_rfl) (by kernel_rfl) (fun s _=>recFacts_nil (by rfl)) (by rfl) (by assumption) (by kernel_rfl) ⟨rfl,rfl,rfl,rfl,rfl,by decide +kernel⟩ ?hw ?hc
 case hw=>w_witness2
 case hc=>exact LS.walk_hd1 (n:=63) (k:=3) (x:="_law_script") (F:=LK.F_law) rfl (by decide) rfl ⟨rfl,by decide,by decide,rfl⟩ (fun w K mg fa h HS X G hfa=>LK.all_mk HS X G hfa) LK.law_true
