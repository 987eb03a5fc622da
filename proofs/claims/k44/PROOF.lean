import PyProof.Rows.All
import Wide.All
import OpenK.AllK
import Wide.FinOn
import Lean
import PyProof.EqAt
import PyProof.EqKinds
import PyProof.TupleCall
import PyProof.ExcBaseAll.ValueError
import PyProof.ZipIter
import KE.KIsAll
import KE.KTryMore
import PyProof.ExcArgsOwn
import PyProof.ExcAttrAll.ValueError
import KE.KLam
import KE.KNestM
import PyProof.NsDelKeeps
import PyProof.Rows.CatchPack
import PyProof.ReprRoads
import PyProof.Rows.FStr
import PyProof.ListRange
import PyProof.CollectIter
import KE.KRevSl
import PyProof.ExcInit
import PyProof.ExcClass2
import PyProof.InstStore
import PyProof.InstStoreFacts
import PyProof.InstLoad
import OpenK.KMore
import PyProof.Rows.StrKeys3
import PySem.Challenge.RW_lineswitch_k44_whole_bounds
set_option Elab.async false
set_option linter.all false
set_option maxRecDepth 100000
abbrev AY:=@PySem.Heap.get?_push_of_some
abbrev A1:=@List.mem_cons_of_mem
abbrev Bi:=@List.getElem?_eq_getElem
abbrev AW:=@List.mem_cons_self
abbrev AL:=@List.prefix_refl
abbrev qa5:=@List.getElem?_eq_some_iff
abbrev Ba:=@List.size_toArray
abbrev qa7:=@List.mem_cons
abbrev AX:=@PySem.Heap.lt_size
abbrev AV:=@Nat.le_refl
abbrev Bq:=@Nat.lt_of_lt_of_le
abbrev BJ:=@List.mem_append_right
abbrev Bu:=@Bool.false_ne_true
abbrev BK:=@PySem.Heap.get?_push_size
abbrev qaE:=@List.mem_singleton
abbrev CB:=@List.map_congr_left
abbrev DW:=@List.getD_eq_getElem?_getD
abbrev CU:=@List.getElem?_set_ne
abbrev BV:=@List.map_cons
abbrev BX:=@Nat.ne_of_lt
abbrev DX:=@List.getElem?_set_self
abbrev B8:=@Nat.le_trans
abbrev CV:=@List.map_append
abbrev CL:=@PySem.Heap.size_push
abbrev Dy:=@List.getElem?_map
abbrev Cp:=@Nat.ne_of_gt
abbrev DY:=@Bool.false_eq_true
abbrev CC:=@List.map_map
abbrev qaS:=@Option.map_eq_some_iff
abbrev Dz:=@List.range_succ
abbrev DZ:=@List.not_mem_nil
abbrev qaV:=@List.mem_append
abbrev D0:=@List.length_map
abbrev D3:=@List.sum_append
abbrev Ek:=@Bool.and_eq_true
abbrev Gy:=@List.getElem?_append_left
abbrev qb0:=@List.mem_map
abbrev qb1:=@Bool.eq_iff_iff
abbrev qb2:=@List.all_eq_true
abbrev D4:=@Nat.lt_irrefl
abbrev qb4:=@List.mem_range
abbrev FZ:=@List.replicate_succ
abbrev F0:=@List.length_append
abbrev FC:=@Nat.le_add_right
abbrev Gz:=@List.mem_append_left
abbrev qb9:=@List.mem_filter
abbrev HZ:=@List.mem_of_getElem?
abbrev GA:=@List.flatten_cons
abbrev H0:=@List.filterMap_cons
abbrev Ia:=@Int.toNat_of_nonneg
abbrev qbE:=@List.nodup_cons
abbrev Jc:=@List.length_filter_le
abbrev Ko:=@List.getElem?_append_right
abbrev Ib:=@Nat.lt_succ_of_lt
abbrev Kq:=@List.drop_eq_getElem_cons
abbrev FD:=@Nat.zero_le
abbrev Ic:=@Nat.le_of_not_lt
abbrev Ie:=@List.length_cons
abbrev Ig:=@List.lookup_cons
abbrev Ih:=@List.ext_getElem
abbrev Jd:=@List.getElem_of_mem
abbrev Ii:=@Option.map_some
abbrev LX:=@Int.mul_le_mul_of_nonneg_right
abbrev Je:=@List.getElem_mem
abbrev Kr:=@Nat.pow_le_pow_right
abbrev GB:=@Nat.pow_pos
abbrev Ks:=@List.getElem?_range
abbrev Kt:=@Nat.mul_div_cancel'
abbrev Jf:=@List.append_nil
abbrev Jg:=@List.length_nil
abbrev LY:=@Nat.gcd_pos_of_pos_right
abbrev LZ:=@List.filter_cons_of_neg
abbrev L0:=@List.filter_cons_of_pos
abbrev Ku:=@List.reverse_cons
abbrev L1:=@PySem.Heap.get?_update_other
abbrev Kv:=@Nat.lt_succ_self
abbrev L3:=@PySem.Heap.get?_update_self
abbrev Kw:=@List.foldl_cons
abbrev Kx:=@List.nil_append
abbrev Jh:=@List.map_nil
abbrev Ji:=@Int.le_trans
abbrev Ky:=@Int.natCast_mul
namespace L2
open PySem PySem.Spec PyProof.Rows
abbrev Tx:=Sum Int Str
inductive V where
 |non |bl (b:Bool) |int (i:Int) |str (x:Str) |byt (b:Array UInt8) |flt (b:UInt64) |ref (a:Addr) |ty (n:String)
 deriving DecidableEq
def RelV:V→Value→Prop
 |.non,u=>u=Value.none
 |.bl b,u=>u=Value.bool b
 |.int i,u=>∃t,u=Value.int i t
 |.str x,u=>∃t,u=Value.str x t
 |.byt b,u=>∃t,u=Value.bytes b t
 |.flt b,u=>∃t,u=Value.float b t
 |.ref a,u=>u=Value.ref a
 |.ty n,u=>u=Value.type n
abbrev Vals:List V→List Value→Prop:=Paired RelV
theorem Vals.length {xs:List V} {us:List Value} (r:Vals xs us):xs.length=us.length:=Paired.length r
theorem Vals.get:∀{xs:List V} {us:List Value} {i:Nat} {x:V},Vals xs us→xs[i]?=some x→∃u,us[i]?=some u∧RelV x u
 |_,_,_,_,.nil,e=>by simp at e
 |_,_,0,_,.cons r _,e=>by simp at e;subst e;exact ⟨_,rfl,r⟩
 |_,_,i+1,x,.cons _ t,e=>by
  obtain ⟨u,h1,h2⟩:=Vals.get (i:=i) (x:=x) t (by simpa using e)
  exact ⟨u,by simpa using h1,h2⟩
theorem Vals.set {x:V} {u:Value} (r:RelV x u):∀{xs:List V} {us:List Value} (i:Nat),Vals xs us→Vals (xs.set i x) (us.set i u)
 |_,_,_,.nil=>.nil
 |_,_,0,.cons _ t=>.cons r t
 |_,_,i+1,.cons q t=>.cons q (Vals.set r i t)
theorem Vals.append:∀{xs ys:List V} {us ws:List Value},Vals xs us→Vals ys ws→Vals (xs++ys) (us++ws)
 |_,_,_,_,.nil,s=>s
 |_,_,_,_,.cons r t,s=>.cons r (Vals.append t s)
theorem Vals.take:∀{xs:List V} {us:List Value} (n:Nat),Vals xs us→Vals (xs.take n) (us.take n)
 |_,_,0,_=>.nil
 |_,_,_+1,.nil=>.nil
 |_,_,n+1,.cons r t=>.cons r (Vals.take n t)
theorem Vals.drop:∀{xs:List V} {us:List Value} (n:Nat),Vals xs us→Vals (xs.drop n) (us.drop n)
 |_,_,0,r=>r
 |_,_,_+1,.nil=>.nil
 |_,_,n+1,.cons _ t=>Vals.drop n t
def Tz:Option V→Option Value→Prop
 |some v,some u=>RelV v u
 |none,none=>True
 |_,_=>False
def kV:Tx→V
 |.inl i=>.int i
 |.inr x=>.str x
inductive HO where
 |lst (xs:List V)
 |tup (xs:List V)
 |own (x:Addr)
 |xd (fs:List (Str×V))
 |frz (o:Obj) (u:HO)
 |tbl (ps:Array Value)
 |ext (φ:Heap→Prop)
 |mex (φ:Heap→Prop)
abbrev Hp:=Addr→Option HO
def Az (H:Hp) (a:Addr) (o:HO):Hp:=fun b=>if b=a then some o else H b
theorem Dp {H:Hp} {a:Addr} {o:HO}:Az H a o a=some o:=by unfold Az;rw [if_pos rfl]
theorem AM {H:Hp} {a b:Addr} {o:HO} (h:b≠a):Az H a o b=H b:=by unfold Az;rw [if_neg h]
theorem BO {H:Hp} {a b:Addr} {o:HO} (h:H a=some o) (h':H b=none):a≠b:=by
 intro e;subst e;rw [h] at h';cases h'
section
variable (P:Program) (w:World)
inductive OW (h:Heap) (a:Addr) (xs:List V):Prop where
 |mk (f1:xs.length≤sizeLine) (its:List Value) (n:Nat) (f2:Vals xs its) (f3:h.get? a=some {cls:=.type "list",data:=.seq its.toArray n}):OW h a xs
def NoDict (h:Heap) (a:Addr):Prop:=∀o,h.get? a=some o→o.dict=none
inductive OX (h:Heap) (a:Addr) (xs:List V):Prop where
 |mk (f1:xs.length≤sizeLine) (its:List Value) (f2:Vals xs its) (f3:IsTup h a its.toArray) (f4:NoDict h a):OX h a xs
theorem NoDict.new {h:Heap} {o:Obj} (hd:o.dict=none:=by rfl) (hf:o.isFreed=false:=by rfl):NoDict (h.push o) h.objs.size:=fun u e=>by
 rw [BK _ hf] at e
 cases e
 exact hd
def ObjOk (P:Program) (w:World) (H:Hp) (h:Heap) (a:Addr):HO→Prop
 |.lst xs=>OW h a xs
 |.tup xs=>OX h a xs
 |.own _=>∃o,h.get? a=some o
 |.xd fs=>∃mA,h.Ns1 a mA∧∀f,Tz (fs.lookup f) (mA f)
 |.frz o u=>h.get? a=some o∧ObjOk P w H h a u
 |.tbl ps=>h.get? a=some {cls:=.none,data:=.fields ps}
 |.ext φ=>φ h∧(∃o,h.get? a=some o)∧∀h1 h2:Heap,φ h1→(∀o,h1.get? a=some o→h2.get? a=some o)→φ h2
 |.mex φ=>φ h∧(∃o,h.get? a=some o)∧∀h1 h2:Heap,φ h1→(∀o,h1.get? a=some o→h2.get? a=some o)→φ h2
def HOk (H:Hp) (h:Heap):Prop:=∀a o,H a=some o→ObjOk P w H h a o
end
section
variable {P:Program} {w:World} {H H':Hp} {h h':Heap} {a:Addr} {o:HO}
theorem ObjOk.lt (x:ObjOk P w H h a o):a<h.objs.size:=by
 cases o with
 |lst xs=>obtain ⟨_,_,_,_,e⟩:=x;exact AX e
 |tup xs=>obtain ⟨_,_,_,p,_⟩:=x;exact p.lt
 |own y=>obtain ⟨_,e⟩:=x;exact AX e
 |xd fs=>obtain ⟨_,⟨_,_,_,e,_⟩,_⟩:=x;exact AX e
 |frz ob u=>obtain ⟨e,_⟩:=x;exact AX e
 |tbl ps=>exact AX (show h.get? a=some _ from x)
 |ext φ=>obtain ⟨_,⟨_,e⟩,_⟩:=x;exact AX e
 |mex φ=>obtain ⟨_,⟨_,e⟩,_⟩:=x;exact AX e
theorem ObjOk.stay (x:ObjOk P w H h a o) (k:∀b u,(b=a∨H b=some (.own a))→h.get? b=some u→h'.get? b=some u)
 (ho:∀b,H b=some (.own a)→H' b=some (.own a)) (ht:∀b xs,H b=some (.tup xs)→H' b=some (.tup xs)):ObjOk P w H' h' a o:=by
 induction o with
 |lst xs=>obtain ⟨z,its,n,r,e⟩:=x;exact ⟨z,its,n,r,k _ _ (.inl rfl) e⟩
 |tup xs=>obtain ⟨z,its,r,⟨ob,e,c⟩,nd⟩:=x;exact ⟨z,its,r,⟨ob,k _ _ (.inl rfl) e,c⟩,fun o e2=>by rw [k _ _ (.inl rfl) e] at e2;cases e2;exact nd _ e⟩
 |own y=>obtain ⟨ob,e⟩:=x;exact ⟨ob,k _ _ (.inl rfl) e⟩
 |xd fs=>obtain ⟨mA,⟨od,es,ep,e,c⟩,r⟩:=x;exact ⟨mA,⟨od,es,ep,k _ _ (.inl rfl) e,c⟩,r⟩
 |frz ob u ih=>obtain ⟨e,q⟩:=x;exact ⟨k _ _ (.inl rfl) e,ih q⟩
 |tbl ps=>
  have e:h.get? a=some {cls:=.none,data:=.fields ps}:=x
  show h'.get? a=some {cls:=.none,data:=.fields ps}
  exact k a _ (.inl rfl) e
 |ext φ=>obtain ⟨p,⟨o,e⟩,st⟩:=x;exact ⟨st _ _ p fun o q=>k _ _ (.inl rfl) q,⟨o,k _ _ (.inl rfl) e⟩,st⟩
 |mex φ=>obtain ⟨p,⟨o,e⟩,st⟩:=x;exact ⟨st _ _ p fun o q=>k _ _ (.inl rfl) q,⟨o,k _ _ (.inl rfl) e⟩,st⟩
theorem HOk.lt (x:HOk P w H h) (e:H a=some o):a<h.objs.size:=(x a o e).lt
theorem HOk.fresh (x:HOk P w H h) (e:h.objs.size≤a):H a=none:=by
 cases q:H a with
 |none=>rfl
 |some u=>exact absurd (Bq (x.lt q) e) (D4 _)
theorem HOk.kept (x:HOk P w H h) (k:∀b u,h.get? b=some u→h'.get? b=some u):HOk P w H h':=fun a o e=>
 (x a o e).stay (fun b u _ q=>k b u q) (fun _ q=>q) fun _ _ q=>q
theorem HOk.laid (x:HOk P w H h) (k:∀b u,h.get? b=some u→h'.get? b=some u) (hp:h.objs.size≤a) (new:ObjOk P w (Az H a o) h' a o):HOk P w (Az H a o) h':=fun b u e=>by
 have hn:=x.fresh hp
 by_cases hb:b=a
 ·subst hb;rw [Dp] at e;cases e;exact new
 ·rw [AM hb] at e
  exact (x b u e).stay (fun c v _ q=>k c v q) (fun c q=>by rw [AM (BO q hn)];exact q) fun c xs q=>by rw [AM (BO q hn)];exact q
end
def Rd (H:Hp) (a:Addr) (u:HO):Prop:=H a=some u∨∃o,H a=some (.frz o u)
theorem Rd.ok {P:Program} {w:World} {H:Hp} {h:Heap} {a:Addr} {u:HO} (r:Rd H a u) (x:HOk P w H h):ObjOk P w H h a u:=by
 rcases r with r |⟨o,r⟩
 ·exact x a u r
 ·obtain ⟨_,q⟩:=x a _ r
  exact q
def Kz:Option HO→Prop
 |some (.lst _)=>True
 |some (.ext _)=>True
 |some (.mex _)=>True
 |_=>False
section
variable {P:Program} {w:World} {H:Hp} {h h':Heap} {x e:Addr} {o':HO}
theorem HOk.write (ok:HOk P w H h) (mu:Kz (H x)) (he:e=x∨H e=some (.own x)) (k:∀b u,b≠e→h.get? b=some u→h'.get? b=some u) (heo:∃u,h'.get? e=some u)
 (new:ObjOk P w (Az H x o') h' x o'):HOk P w (Az H x o') h':=fun b u q=>by
 have nown:∀c y,H c=some (.own y)→c≠x:=fun c y r z=>by subst z;rw [r] at mu;exact mu
 have ntup:∀c xs,H c=some (.tup xs)→c≠x:=fun c xs r z=>by subst z;rw [r] at mu;exact mu
 by_cases hb:b=x
 ·subst hb;rw [Dp] at q;cases q;exact new
 ·rw [AM hb] at q
  by_cases hbe:b=e
  ·have q':H b=some (.own x):=by
    rcases he with z |z
    ·exact absurd (hbe.trans z) hb
    ·rw [hbe];exact z
   rw [q] at q';cases q'
   obtain ⟨v,hv⟩:=heo
   exact ⟨v,by rw [hbe];exact hv⟩
  ·refine (ok b u q).stay (fun c v hc r=>k c v ?_ r) (fun c r=>by rw [AM (nown c b r)];exact r) fun c xs r=>by rw [AM (ntup c xs r)];exact r
   rcases hc with rfl |hc
   ·exact hbe
   ·rintro rfl
    rcases he with z |z
    ·exact nown c b hc z
    ·rw [hc] at z;cases z;exact hb rfl
end
structure Un (fs ex:List Addr) (H H':Hp) (h h':Heap):Prop where
 keep:∀b o,h.get? b=some o→H b=none→b∉fs→b∉ex→h'.get? b=some o
 slot:∀b o,h.get? b=some o→H b=none→b∈fs→b∉ex→∃sl,h'.get? b=some {o with slots:=sl}
 free:∀b o,h.get? b=some o→H b=none→b∉ex→H' b=none
 there:∀b o,h.get? b=some o→b∉ex→∃o',h'.get? b=some o'
 tups:∀b xs,H b=some (.tup xs)→H' b=some (.tup xs)
 frzs:∀b o u,H b=some (.frz o u)→H' b=some (.frz o u)
 tbls:∀b ps,H b=some (.tbl ps)→∃more,H' b=some (.tbl (ps++more))
section
variable {fs fs' ex ex':List Addr} {H H1 H2:Hp} {h h1 h2 h':Heap} {a x e:Addr} {o:HO}
theorem Un.any (u:Un fs ex H H1 h h1) {b:Addr} {ob:Obj} (q:h.get? b=some ob) (n:H b=none) (hx:b∉ex):∃sl,h1.get? b=some {ob with slots:=sl}:=by
 by_cases hb:b∈fs
 ·exact u.slot b ob q n hb hx
 ·exact ⟨ob.slots,u.keep b ob q n hb hx⟩
theorem Un.kept (k:∀b u,h.get? b=some u→h'.get? b=some u):Un fs ex H H h h':=
 ⟨fun b ob q _ _ _=>k b ob q,fun b ob q _ _ _=>⟨ob.slots,k b ob q⟩,fun _ _ _ n _=>n,fun b ob q _=>⟨ob,k b ob q⟩,fun _ _ q=>q,fun _ _ _ q=>q,fun _ ps q=>⟨#[],by rw [q];simp⟩⟩
theorem Un.refl:Un fs ex H H h h:=Un.kept fun _ _ q=>q
theorem Un.laid (k:∀b u,h.get? b=some u→h'.get? b=some u) (hp:h.objs.size≤a) (hn:H a=none):Un fs ex H (Az H a o) h h' where
 keep:=fun b u q _ _ _=>k b u q
 slot:=fun b u q _ _ _=>⟨u.slots,k b u q⟩
 free:=fun b u q n _=>by rw [AM (BX (Bq (AX q) hp))];exact n
 there:=fun b u q _=>⟨u,k b u q⟩
 tups:=fun b xs q=>by rw [AM (BO q hn)];exact q
 frzs:=fun b u xs q=>by rw [AM (BO q hn)];exact q
 tbls:=fun b ps q=>⟨#[],by rw [AM (BO q hn),q];simp⟩
theorem Un.write (mu:Kz (H x)) (he:e=x∨H e=some (.own x)) (k:∀b u,b≠e→h.get? b=some u→h'.get? b=some u) (heo:∃u,h'.get? e=some u):Un fs ex H (Az H x o) h h':=by
 have hx:∀b,H b=none→b≠x:=fun b n z=>by subst z;rw [n] at mu;exact mu
 have hb:∀b,H b=none→b≠e:=fun b n z=>by
  subst z
  rcases he with r |r
  ·exact hx b n r
  ·rw [n] at r;cases r
 have hm:∀b u,H b=some u→¬Kz (some u)→b≠x:=fun b u q nm z=>by subst z;rw [q] at mu;exact nm mu
 refine ⟨fun b u q n _ _=>k b u (hb b n) q,fun b u q n _ _=>⟨u.slots,k b u (hb b n) q⟩,fun b u q n _=>by rw [AM (hx b n)];exact n,fun b u q _=>?_,
  fun b xs q=>by rw [AM (hm b _ q fun z=>z)];exact q,fun b u xs q=>by rw [AM (hm b _ q fun z=>z)];exact q,fun b ps q=>⟨#[],by rw [AM (hm b _ q fun z=>z),q];simp⟩⟩
 by_cases hbe:b=e
 ·subst hbe;exact heo
 ·exact ⟨u,k b u hbe q⟩
end
def KA (h:Heap) (H:Hp):List Addr:=(List.range h.objs.size).filter fun a=>(H a).isSome
def EV (h:Heap) (H:Hp):Heap:=PySem.W.hideAll h (KA h H)
theorem TB (h:Heap) (H:Hp):(EV h H).objs.size=h.objs.size:=PySem.W.hideAll_size _ _
theorem TC {h:Heap} {H:Hp} {b:Addr} {o:Obj} (e:h.get? b=some o) (n:H b=none):(EV h H).get? b=some o:=
 PySem.W.hideAll_get _ e fun hm=>by
  have q:(H b).isSome=true:=(qb9.mp hm).2
  rw [n] at q;simp at q
theorem TF {h:Heap} {H:Hp} {b:Addr} {o:Obj} (e:(EV h H).get? b=some o):h.get? b=some o∧H b=none:=by
 have e':h.get? b=some o:=PySem.W.of_hideAll (KA h H) e
 refine ⟨e',?_⟩
 cases q:H b with
 |none=>rfl
 |some x=>
  have hm:b∈KA h H:=qb9.mpr ⟨qb4.mpr (AX e'),by simp [q]⟩
  have z:(EV h H).get? b=none:=PySem.W.hideAll_none (KA h H) hm
  rw [z] at e;cases e
def TH (g h:Heap) (L:Addr):List (Addr×Obj):=(List.range h.objs.size).filterMap fun a=>if a=L∨(g.get? a).isSome=true then none else (h.get? a).map fun o=>(a,o)
def rest (g h:Heap) (L d:Addr):List (Addr×Obj):=(TH g h L).filter fun p=>decide (p.1≠d)
structure Mod (K:PySem.W.Frag) (mg:Str→Option Value) (base:Heap):Prop where
 kin:K.In base
 glob:base.Ns mainGlobals mg
 blt:∃mb,base.Ns builtinsNs mb∧∀x:Str,x≠"__name__"→mb x=bootBuiltins x
 nolimit:base.NoLimit
structure Cx where
 prog:Program
 w:World
 K:PySem.W.Frag
 mg:Str→Option Value
 base:Heap
 A:Around
 N:List Str
 s₀:Shared
 H₀:Hp
 env:Env
 outer:List Env
 stack:List Env
 ex:List Addr
 fn:Str→Bool
 calm:Bool
 pn:List (Addr×Obj)
 xe:Value→Shared→Prop
def frs (l:List Env):List Addr:=l.filterMap (·.frame)
abbrev Cx.fs (X:Cx):List Addr:=frs X.outer
def KB (sc:Scope) (x:Str):Prop:=sc.names.lookup x=some .local∨sc.names.lookup x=some .cell∨sc.names.lookup x=some .free
def Ij (sc:Scope) (x:Str):Prop:=sc.names.lookup x=some .local∨sc.names.lookup x=some .cell
def OY (env:Env) (h:Heap) (m:Str→Option Value) (x:Str) (u:Value):Prop:=
 (env.kindOf x=some .local∧m x=some u)∨((env.kindOf x=some .cell∨env.kindOf x=some .free)∧∃c,env.cells.lookup x=some c∧h.IsCell c (some u))
structure Cx.Ok (X:Cx):Prop where
 mod:Mod X.K X.mg X.base
 kind:X.env.scope.kind=.function
 glob:X.env.globals=mainGlobals
 blt:X.env.builtins=builtinsNs
 above:X.s₀.heap.objs.size≤X.env.locals
 inj:∀x y c,X.env.cells.lookup x=some c→X.env.cells.lookup y=some c→x=y
 has:∀x,(X.env.kindOf x=some .cell∨X.env.kindOf x=some .free)→∃c,X.env.cells.lookup x=some c
 cab:∀x c,X.fn x=true→X.env.cells.lookup x=some c→X.s₀.heap.objs.size≤c
 hd:X.calm=true→X.A.handled=none
 frames:X.A.frames=some X.stack
 stk:X.stack=X.outer∨(X.stack=X.env::X.outer∧X.env.frame=some X.env.locals)
 exf:∀b∈X.ex,b≠X.env.locals∧∀x c,X.env.cells.lookup x=some c→c≠b
 bs:∀b o,X.base.get? b=some o→X.s₀.heap.get? b=some o∧X.H₀ b=none
 bsz:X.base.objs.size≤X.s₀.heap.objs.size
 noex:∀b o,X.base.get? b=some o→b∉X.ex
 exfs:∀b∈X.ex,b∉X.fs
 funs:X.s₀.heap.FunFrames X.base X.outer
 frf:∀b∈X.fs,X.H₀ b=none
structure Inv (X:Cx) (pins:List (Addr×Obj)) (σ:List (Option V)) (H:Hp) (s:Shared):Prop where
 ok:X.Ok
 os:s.os=X.s₀.os
 bare:AllBare s.gens
 base:Un X.fs X.ex X.H₀ H X.s₀.heap s.heap
 loc:∃m,s.heap.Ns X.env.locals m∧∀(i:Nat) (x:Str) (v:V),X.N[i]?=some x→σ[i]?=some (some v)→KB X.env.scope x→∃u,RelV v u∧OY X.env s.heap m x u
 cell:∀x c,X.env.cells.lookup x=some c→∃v,s.heap.IsCell c v
 free:H X.env.locals=none
 freeC:∀x c,X.env.cells.lookup x=some c→H c=none
 pin:∀p∈X.pn++pins,s.heap.get? p.1=some p.2∧H p.1=none∧p.1≠X.env.locals∧p.1∉X.fs∧∀v,p.2.data≠.cell v
 hok:HOk X.prog X.w H s.heap
 len:σ.length=X.N.length
section
variable {X:Cx} {pins:List (Addr×Obj)} {σ:List (Option V)} {H H':Hp} {s:Shared} {h':Heap}
theorem Cx.Ok.nofr (ok:X.Ok) {b:Addr} {o:Obj} (e:X.base.get? b=some o):b∉X.fs:=fun hb=>by
 have:=(ok.funs.mem hb).1
 rw [e] at this;cases this
theorem Inv.bs (I:Inv X pins σ H s):∀b o,X.base.get? b=some o→s.heap.get? b=some o∧H b=none:=fun b o e=>
 ⟨I.base.keep b o (I.ok.bs b o e).1 (I.ok.bs b o e).2 (I.ok.nofr e) (I.ok.noex b o e),I.base.free b o (I.ok.bs b o e).1 (I.ok.bs b o e).2 (I.ok.noex b o e)⟩
theorem Inv.bk (I:Inv X pins σ H s):∀b o,X.base.get? b=some o→s.heap.get? b=some o:=fun b o e=>(I.bs b o e).1
theorem Inv.mod (I:Inv X pins σ H s):Mod X.K X.mg X.base:=I.ok.mod
theorem Inv.kIn (I:Inv X pins σ H s):X.K.In s.heap:=I.ok.mod.kin.keeps I.bk
theorem Inv.nolimit (I:Inv X pins σ H s):s.heap.NoLimit:=I.ok.mod.nolimit.keeps I.bk
theorem Inv.lt (I:Inv X pins σ H s):X.env.locals<s.heap.objs.size:=let ⟨_,hn,_⟩:=I.loc;hn.lt
theorem Inv.sz (I:Inv X pins σ H s):X.s₀.heap.objs.size≤s.heap.objs.size:=B8 I.ok.above (Nat.le_of_lt I.lt)
theorem Inv.nofs (I:Inv X pins σ H s) {a:Addr} (h:s.heap.objs.size≤a):a∉X.fs:=fun hb=>by
 obtain ⟨_,o,ho,_⟩:=I.ok.funs.mem hb
 exact absurd (Bq (AX ho) (B8 I.sz h)) (D4 _)
theorem Inv.cne (I:Inv X pins σ H s):∀x c,X.env.cells.lookup x=some c→c≠X.env.locals:=fun x c e z=>by
 obtain ⟨v,o,ho,hd⟩:=I.cell x c e
 obtain ⟨m,⟨o',es,ep,ho',hd',_⟩,_⟩:=I.loc
 rw [z,ho'] at ho;cases ho;rw [hd'] at hd;cases hd
theorem Inv.funs (I:Inv X pins σ H s):s.heap.FunFrames X.base X.outer:=by
 have all:∀(l:List Env),(∀b∈frs l,b∈X.fs)→X.s₀.heap.FunFrames X.base l→s.heap.FunFrames X.base l:=by
  intro l
  induction l with
  |nil=>intro _ _;trivial
  |cons env r ih=>
   intro hs hl
   obtain ⟨hk,⟨L,o,hf,hn,ho,hd⟩,hr⟩:=hl
   have hL:L∈X.fs:=hs L (by unfold frs;rw [H0,hf];exact AW)
   obtain ⟨sl,e⟩:=I.base.slot L o ho (I.ok.frf L hL) hL fun z=>I.ok.exfs L z hL
   exact ⟨hk,⟨L,_,hf,hn,e,hd⟩,ih (fun b hb=>hs b (by unfold frs;rw [H0,hf];exact A1 _ hb)) hr⟩
 exact all X.outer (fun _ hb=>hb) I.ok.funs
theorem Inv.stack (I:Inv X pins σ H s):s.heap.FunFrames X.base X.stack:=by
 rcases I.ok.stk with e |⟨e,hf⟩
 ·rw [e];exact I.funs
 ·rw [e]
  obtain ⟨m,hn,_⟩:=I.loc
  refine .cons (by rw [I.ok.kind];decide) hf hn ?_ I.funs
  exact Heap.get?_none_of_le (B8 I.ok.bsz I.ok.above)
theorem Inv.stkSub (I:Inv X pins σ H s):∀b∈frs X.stack,b∈X.env.locals::X.fs:=fun b hb=>by
 rcases I.ok.stk with e |⟨e,hf⟩
 ·rw [e] at hb;exact A1 _ hb
 ·rw [e] at hb
  unfold frs at hb
  rw [H0,hf] at hb
  exact hb
theorem Inv.stkFree (I:Inv X pins σ H s):∀b∈frs X.stack,H b=none:=fun b hb=>by
 rcases qa7.mp (I.stkSub b hb) with e |hb
 ·rw [e];exact I.free
 ·obtain ⟨_,o,ho,_⟩:=I.ok.funs.mem hb
  exact I.base.free b o ho (I.ok.frf b hb) fun z=>I.ok.exfs b z hb
theorem Inv.step {g':Array GenState} {t':Nat} {d':Drawn} {ch:List Addr} (I:Inv X pins σ H s)
 (hch:∀b∈ch,(b∈X.ex∨X.s₀.heap.objs.size≤b)∧b≠X.env.locals∧(∀x c,X.env.cells.lookup x=some c→c≠b)∧∀p∈X.pn++pins,p.1≠b)
 (keep:∀b o,b≠X.env.locals→b∉X.fs→b∉ch→s.heap.get? b=some o→H b=none→h'.get? b=some o)
 (slot:∀b o,b≠X.env.locals→b∈X.fs→b∉ch→s.heap.get? b=some o→H b=none→∃sl,h'.get? b=some {o with slots:=sl}) (free:∀b o,b∉ch→s.heap.get? b=some o→H b=none→H' b=none)
 (there:∀b o,b∉ch→s.heap.get? b=some o→∃o',h'.get? b=some o')
 (tups:∀b xs,H b=some (.tup xs)→H' b=some (.tup xs)) (frzs:∀b o u,H b=some (.frz o u)→H' b=some (.frz o u)) (tbls:∀b ps,H b=some (.tbl ps)→∃more,H' b=some (.tbl (ps++more)))
 (ns:∀m,s.heap.Ns X.env.locals m→h'.Ns X.env.locals m) (hok:HOk X.prog X.w H' h') (hg:AllBare g'):
 Inv X pins σ H' {s with heap:=h',gens:=g',drawn:=d',toks:=t'}:=by
 have neL:∀b o,X.s₀.heap.get? b=some o→b≠X.env.locals:=fun b o e=>BX (Bq (AX e) I.ok.above)
 have neC:∀b o,X.s₀.heap.get? b=some o→b∉X.ex→b∉ch:=fun b o e hx hb=>by
  rcases (hch b hb).1 with z |z
  ·exact hx z
  ·exact absurd (Bq (AX e) z) (D4 _)
 have cellK:∀x c,X.env.cells.lookup x=some c→∀v,s.heap.IsCell c v→h'.IsCell c v:=fun x c e v z1_=>by
  obtain ⟨o,ho,hd⟩:=z1_
  have nch:c∉ch:=fun z=>(hch c z).2.2.1 x c e rfl
  by_cases hc:c∈X.fs
  ·obtain ⟨sl,q⟩:=slot c o (I.cne x c e) hc nch ho (I.freeC x c e)
   exact ⟨_,q,hd⟩
  ·exact ⟨o,keep c o (I.cne x c e) hc nch ho (I.freeC x c e),hd⟩
 refine ⟨I.ok,I.os,hg,⟨fun b o e n hb hx=>?_,fun b o e n hb hx=>?_,fun b o e n hx=>?_,fun b o e hx=>?_,fun b xs e=>tups b xs (I.base.tups b xs e),fun b o xs e=>frzs b o xs (I.base.frzs b o xs e),fun b ps e=>?_⟩,?_,fun x c e=>?_,?_,fun x c e=>?_,fun p hp=>?_,hok,I.len⟩
 ·exact keep b o (neL b o e) hb (neC b o e hx) (I.base.keep b o e n hb hx) (I.base.free b o e n hx)
 ·obtain ⟨sl,e1⟩:=I.base.slot b o e n hb hx
  obtain ⟨sl',e2⟩:=slot b _ (neL b o e) hb (neC b o e hx) e1 (I.base.free b o e n hx)
  exact ⟨sl',e2⟩
 ·obtain ⟨o',e1⟩:=I.base.there b o e hx
  exact free b o' (neC b o e hx) e1 (I.base.free b o e n hx)
 ·obtain ⟨o',e1⟩:=I.base.there b o e hx
  exact there b o' (neC b o e hx) e1
 ·obtain ⟨m1,e1⟩:=I.base.tbls b ps e
  obtain ⟨m2,e2⟩:=tbls b _ e1
  exact ⟨m1++m2,by rw [e2,Array.append_assoc]⟩
 ·obtain ⟨m,hn,hl⟩:=I.loc
  refine ⟨m,ns m hn,fun i x v e1 e2 e3=>?_⟩
  obtain ⟨u,r,l⟩:=hl i x v e1 e2 e3
  refine ⟨u,r,?_⟩
  rcases l with l |⟨k,c,e,z⟩
  ·exact .inl l
  ·exact .inr ⟨k,c,e,cellK x c e _ z⟩
 ·obtain ⟨v,z⟩:=I.cell x c e
  exact ⟨v,cellK x c e v z⟩
 ·obtain ⟨m,⟨o,_,_,ho,_⟩,_⟩:=I.loc
  exact free _ o (fun z=>(hch _ z).2.1 rfl) ho I.free
 ·obtain ⟨v,o,ho,hd⟩:=I.cell x c e
  exact free c o (fun z=>(hch c z).2.2.1 x c e rfl) ho (I.freeC x c e)
 ·obtain ⟨e,n,ne,nf,d⟩:=I.pin p hp
  have nch:p.1∉ch:=fun z=>(hch p.1 z).2.2.2 p hp rfl
  exact ⟨keep p.1 p.2 ne nf nch e n,free p.1 p.2 nch e n,ne,nf,d⟩
theorem Inv.un {t':Nat} (I:Inv X pins σ H s) (u:Un X.fs [] H H' s.heap h') (hok:HOk X.prog X.w H' h'):Inv X pins σ H' {s with heap:=h',toks:=t'}:=by
 obtain ⟨m,⟨o,es,ep,ho,r⟩,_⟩:=id I.loc
 obtain ⟨sl,hL⟩:=u.any ho I.free (by simp)
 exact I.step (g':=s.gens) (d':=s.drawn) (ch:=[]) (fun _ z=>nomatch z) (fun b o _ hb _ e n=>u.keep b o e n hb (by simp)) (fun b o _ hb _ e n=>u.slot b o e n hb (by simp)) (fun b o _ e n=>u.free b o e n (by simp)) (fun b o _ e=>u.there b o e (by simp)) u.tups u.frzs u.tbls (fun m' hm=>by
  obtain ⟨o',es',ep',ho',r'⟩:=hm
  rw [ho] at ho';cases ho'
  exact ⟨_,es',ep',hL,r'⟩) hok I.bare
theorem Inv.call {g':Array GenState} {t':Nat} {d':Drawn} {ch:List Addr} (I:Inv X pins σ H s) (u:Un (frs X.stack) ch H H' s.heap h') (hok:HOk X.prog X.w H' h') (hg:AllBare g')
 (hch:∀b∈ch,(b∈X.ex∨X.s₀.heap.objs.size≤b)∧b≠X.env.locals∧(∀x c,X.env.cells.lookup x=some c→c≠b)∧∀p∈X.pn++pins,p.1≠b):
 Inv X pins σ H' {s with heap:=h',gens:=g',drawn:=d',toks:=t'}:=by
 obtain ⟨m,⟨o,es,ep,ho,r⟩,_⟩:=id I.loc
 obtain ⟨sl,hL⟩:=u.any ho I.free fun z=>(hch _ z).2.1 rfl
 exact I.step (ch:=ch) hch (fun b o hL hb hc e n=>u.keep b o e n (fun z=>(qa7.mp (I.stkSub b z)).elim hL hb) hc) (fun b o _ _ hc e n=>u.any e n hc) (fun b o hc e n=>u.free b o e n hc) (fun b o hc e=>u.there b o e hc) u.tups u.frzs u.tbls (fun m' hm=>by
  obtain ⟨o',es',ep',ho',r'⟩:=hm
  rw [ho] at ho';cases ho'
  exact ⟨_,es',ep',hL,r'⟩) hok hg
theorem Inv.turned {t':Nat} {it:Addr} (I:Inv X pins σ H s) (k:∀b o,b≠it→s.heap.get? b=some o→h'.get? b=some o) (hn:H it=none) (hL:it≠X.env.locals)
 (h1:it∈X.ex∨X.s₀.heap.objs.size≤it) (h2:∀x c,X.env.cells.lookup x=some c→c≠it) (h3:∀p∈X.pn++pins,p.1≠it):Inv X pins σ H {s with heap:=h',toks:=t'}:=by
 have nit:∀b u,H b=some u→b≠it:=fun b u e z=>by rw [z,hn] at e;cases e
 refine I.step (g':=s.gens) (d':=s.drawn) (ch:=[it]) (fun b hb=>?_) (fun b o _ _ hc e _=>k b o (fun z=>hc (by simp [z])) e) (fun b o _ _ hc e _=>⟨o.slots,k b o (fun z=>hc (by simp [z])) e⟩) (fun _ _ _ _ n=>n)
  (fun b o hc e=>⟨o,k b o (fun z=>hc (by simp [z])) e⟩) (fun _ _ e=>e) (fun _ _ _ e=>e) (fun b ps e=>⟨#[],by rw [e];simp⟩) (fun m hm=>?_) (fun b u e=>?_) I.bare
 ·have e:b=it:=by simpa using hb
  subst e
  exact ⟨h1,hL,h2,h3⟩
 ·obtain ⟨o,es,ep,ho,r⟩:=hm
  exact ⟨o,es,ep,k _ o (Ne.symm hL) ho,r⟩
 ·refine (I.hok b u e).stay (fun c v hc q=>k c v ?_ q) (fun _ q=>q) fun _ _ q=>q
  rcases hc with z |z
  ·rw [z];exact nit b u e
  ·exact nit c _ z
theorem Inv.tok (I:Inv X pins σ H s) (t:Nat):Inv X pins σ H {s with toks:=t}:=I.un (h':=s.heap) (t':=t) Un.refl I.hok
theorem Inv.kept {t':Nat} (I:Inv X pins σ H s) (k:∀b u,s.heap.get? b=some u→h'.get? b=some u):Inv X pins σ H {s with heap:=h',toks:=t'}:=I.un (Un.kept k) (I.hok.kept k)
theorem Inv.laid {a:Addr} {o:HO} {t':Nat} (I:Inv X pins σ H s) (k:∀b u,s.heap.get? b=some u→h'.get? b=some u) (hp:s.heap.objs.size≤a) (new:ObjOk X.prog X.w (Az H a o) h' a o):
 Inv X pins σ (Az H a o) {s with heap:=h',toks:=t'}:=I.un (Un.laid k hp (I.hok.fresh hp)) (I.hok.laid k hp new)
theorem Inv.write {x e:Addr} {o:HO} {t':Nat} (I:Inv X pins σ H s) (mu:Kz (H x)) (he:e=x∨H e=some (.own x)) (k:∀b u,b≠e→s.heap.get? b=some u→h'.get? b=some u) (heo:∃u,h'.get? e=some u)
 (new:ObjOk X.prog X.w (Az H x o) h' x o):Inv X pins σ (Az H x o) {s with heap:=h',toks:=t'}:=I.un (Un.write mu he k heo) (I.hok.write mu he k heo new)
theorem Inv.weak {σ':List (Option V)} (I:Inv X pins σ H s) (hl:σ'.length=σ.length) (w:∀(i:Nat) v,σ'[i]?=some (some v)→σ[i]?=some (some v)):Inv X pins σ' H s:=
 ⟨I.ok,I.os,I.bare,I.base,let ⟨m,hn,hl'⟩:=I.loc;⟨m,hn,fun i x v e1 e2 e3=>hl' i x v e1 (w i v e2) e3⟩,I.cell,I.free,I.freeC,I.pin,I.hok,hl.trans I.len⟩
theorem Inv.pins_of {pins':List (Addr×Obj)} (I:Inv X pins σ H s) (h:∀p∈pins',s.heap.get? p.1=some p.2∧H p.1=none∧p.1≠X.env.locals∧p.1∉X.fs∧∀v,p.2.data≠.cell v):Inv X pins' σ H s:=
 ⟨I.ok,I.os,I.bare,I.base,I.loc,I.cell,I.free,I.freeC,fun p hp=>(qaV.mp hp).elim (fun z=>I.pin p (Gz _ z)) (h p),I.hok,I.len⟩
theorem OZ {N:List Str} (hN:N.Nodup) {i j:Nat} {x:Str} (a:N[i]?=some x) (b:N[j]?=some x):i=j:=by
 obtain ⟨h1,e1⟩:=qa5.mp a
 obtain ⟨h2,e2⟩:=qa5.mp b
 exact (List.getElem_inj hN).mp (e1.trans e2.symm)
theorem O0 {M:Model} {A:Around} {E:Value→Shared→Prop} {i:Nat} {x:Str} {v:V} {u:Value} {Q:Unit→Shared→Prop} (I:Inv X pins σ H s) (hN:X.N.Nodup) (hi:X.N[i]?=some x) (hx:Ij X.env.scope x) (r:RelV v u)
 (h:∀s',Inv X pins (σ.set i (some v)) H s'→(∃a,Heap.SameBut a s.heap s'.heap∧(a=X.env.locals∨X.env.cells.lookup x=some a))→Q () s') (hf:X.fn x=true∨X.env.scope.names.lookup x=some .local:=by first |exact .inl rfl |exact .inr rfl |assumption):wpAny M A (storeName X.env x u) Q E s:=by
 obtain ⟨m,hn,hl⟩:=id I.loc
 have hcls:(X.env.scope.kind==.class||(X.env.scope.kind==.module&&X.env.locals != X.env.globals))=false:=by rw [I.ok.kind];rfl
 have hiσ:i < σ.length:=by rw [I.len];exact (qa5.mp hi).1
 have cne:=I.cne
 have tracked:∀{a:Addr} {h':Heap},(∃o,s.heap.get? a=some o∧H a=none)→Heap.SameBut a s.heap h'→HOk X.prog X.w H h':=fun {a h'} ha hs b ob e=>by
  obtain ⟨_,_,hfree⟩:=ha
  refine (I.hok b ob e).stay (fun c w' hc q=>(hs.2 c ?_).trans q) (fun _ q=>q) fun _ _ q=>q
  rintro rfl
  rcases hc with rfl |hc
  ·rw [hfree] at e;cases e
  ·rw [hfree] at hc;cases hc
 rcases hx with hk |hk
 ·refine wpAny_storeName_local hk hn (fun h' hn' hs=>?_) hcls
  obtain ⟨oL,_,_,hoL,_⟩:=id hn
  refine h _ ⟨I.ok,I.os,I.bare,⟨fun b o e n hb hx=>?_,fun b o e n hb hx=>?_,I.base.free,fun b o e hx=>?_,I.base.tups,I.base.frzs,I.base.tbls⟩,⟨_,hn',fun j y v' e1 e2 e3=>?_⟩,fun y c e=>?_,I.free,I.freeC,fun p hp=>?_,tracked ⟨oL,hoL,I.free⟩ hs,by simpa using I.len⟩ ⟨_,hs,.inl rfl⟩
  ·exact (hs.2 b (BX (Bq (AX e) I.ok.above))).trans (I.base.keep b o e n hb hx)
  ·obtain ⟨sl,e1⟩:=I.base.slot b o e n hb hx
   exact ⟨sl,(hs.2 b (BX (Bq (AX e) I.ok.above))).trans e1⟩
  ·obtain ⟨o',e1⟩:=I.base.there b o e hx
   exact ⟨o',(hs.2 b (BX (Bq (AX e) I.ok.above))).trans e1⟩
  ·by_cases hj:j=i
   ·subst hj
    rw [hi] at e1;cases e1
    rw [DX hiσ] at e2
    cases e2
    exact ⟨u,r,.inl ⟨hk,by simp⟩⟩
   ·rw [CU (Ne.symm hj)] at e2
    obtain ⟨u',r',q⟩:=hl j y v' e1 e2 e3
    refine ⟨u',r',?_⟩
    rcases q with ⟨k,e⟩ |⟨k,c,e,z⟩
    ·refine .inl ⟨k,?_⟩
     have:y≠x:=fun e=>hj (OZ hN e1 (e ▸ hi))
     simp [this,e]
    ·exact .inr ⟨k,c,e,z.sameBut hs (cne y c e)⟩
  ·obtain ⟨w',z⟩:=I.cell y c e
   exact ⟨w',z.sameBut hs (cne y c e)⟩
  ·obtain ⟨e,n,ne,nf,d⟩:=I.pin p hp
   exact ⟨(hs.2 p.1 ne).trans e,n,ne,nf,d⟩
 ·have hfn:X.fn x=true:=by
   rcases hf with z |z
   ·exact z
   ·rw [z] at hk;cases hk
  obtain ⟨c,hc⟩:=I.ok.has x (.inl hk)
  obtain ⟨w',z⟩:=I.cell x c hc
  refine wpAny_storeName_cell I.ok.kind hk hc z (fun h' hc' hs=>?_)
  obtain ⟨oc,hoc,hocd⟩:=id z
  refine h {s with heap:=h'} ⟨I.ok,I.os,I.bare,⟨fun b o e n hb hx=>?_,fun b o e n hb hx=>?_,I.base.free,fun b o e hx=>?_,I.base.tups,I.base.frzs,I.base.tbls⟩,⟨m,hn.sameBut hs (Ne.symm (cne x c hc)),fun j y v' e1 e2 e3=>?_⟩,fun y c' e=>?_,I.free,I.freeC,fun p hp=>?_,tracked ⟨oc,hoc,I.freeC x c hc⟩ hs,by simpa using I.len⟩ ⟨c,hs,.inr hc⟩
  ·exact (hs.2 b (BX (Bq (AX e) (I.ok.cab x c hfn hc)))).trans (I.base.keep b o e n hb hx)
  ·obtain ⟨sl,e1⟩:=I.base.slot b o e n hb hx
   exact ⟨sl,(hs.2 b (BX (Bq (AX e) (I.ok.cab x c hfn hc)))).trans e1⟩
  ·obtain ⟨o',e1⟩:=I.base.there b o e hx
   exact ⟨o',(hs.2 b (BX (Bq (AX e) (I.ok.cab x c hfn hc)))).trans e1⟩
  ·by_cases hj:j=i
   ·subst hj
    rw [hi] at e1;cases e1
    rw [DX hiσ] at e2
    cases e2
    exact ⟨u,r,.inr ⟨.inl hk,c,hc,hc'⟩⟩
   ·rw [CU (Ne.symm hj)] at e2
    obtain ⟨u',r',q⟩:=hl j y v' e1 e2 e3
    refine ⟨u',r',?_⟩
    rcases q with q |⟨k,c',e,z'⟩
    ·exact .inl q
    ·refine .inr ⟨k,c',e,z'.sameBut hs ?_⟩
     rintro rfl
     exact hj (OZ hN e1 (I.ok.inj _ _ _ e hc ▸ hi))
  ·by_cases hcc:c'=c
   ·subst hcc;exact ⟨_,hc'⟩
   ·obtain ⟨w2,z2⟩:=I.cell y c' e
    exact ⟨w2,z2.sameBut hs hcc⟩
  ·obtain ⟨e,n,ne,nf,d⟩:=I.pin p hp
   refine ⟨(hs.2 p.1 ?_).trans e,n,ne,nf,d⟩
   intro q
   rw [q,hoc] at e
   have q':oc=p.2:=Option.some.inj e
   exact d w' (by rw [←q'];exact hocd)
theorem KC {M:Model} {A:Around} {E:Value→Shared→Prop} {i:Nat} {x:Str} {v:V} {u:Value} {Q:Unit→Shared→Prop} (I:Inv X pins σ H s) (hN:X.N.Nodup) (hi:X.N[i]?=some x) (hx:Ij X.env.scope x) (r:RelV v u)
 (h:∀s',Inv X pins (σ.set i (some v)) H s'→Q () s') (hf:X.fn x=true∨X.env.scope.names.lookup x=some .local:=by first |exact .inl rfl |exact .inr rfl |assumption):wpAny M A (storeName X.env x u) Q E s:=
 O0 I hN hi hx r (fun s' I' _=>h s' I') hf
theorem Inv.call' {s':Shared} {ch:List Addr} (I:Inv X pins σ H s) (ho:s'.os=s.os) (u:Un (frs X.stack) ch H H' s.heap s'.heap) (hok:HOk X.prog X.w H' s'.heap) (hg:AllBare s'.gens)
 (hch:∀b∈ch,(b∈X.ex∨X.s₀.heap.objs.size≤b)∧b≠X.env.locals∧(∀x c,X.env.cells.lookup x=some c→c≠b)∧∀p∈X.pn++pins,p.1≠b):Inv X pins σ H' s':=by
 obtain ⟨h',g',d',t',o'⟩:=s'
 have e:o'=s.os:=ho
 subst e
 exact I.call (g':=g') (t':=t') (d':=d') u hok hg hch
end
abbrev XK:=Value→Option Addr→Hp→Prop
abbrev St:=List (Option V)
abbrev VK:=V→Hp→Prop
abbrev TE:=St→Hp→VK→Prop
abbrev TT:=St→Hp→(Bool→Hp→Prop)→Prop
abbrev TA:=St→Hp→(List V→Hp→Prop)→Prop
structure D5 where
 nx:St→Hp→Prop
 rt:VK
 bk:St→Hp→Prop:=fun _ _=>False
 ct:St→Hp→Prop:=fun _ _=>False
abbrev TS:=D5→St→Hp→Prop
inductive EP (X:Cx) (pins:List (Addr×Obj)) (σ:St) (Q:VK) (u:Value) (s':Shared):Prop where
 |mk (v:V) (H':Hp) (i:Inv X pins σ H' s') (r:RelV v u) (q:Q v H'):EP X pins σ Q u s'
inductive TP (X:Cx) (pins:List (Addr×Obj)) (σ:St) (Q:Bool→Hp→Prop) (b:Bool) (s':Shared):Prop where
 |mk (H':Hp) (i:Inv X pins σ H' s') (q:Q b H'):TP X pins σ Q b s'
inductive AP (X:Cx) (pins:List (Addr×Obj)) (σ:St) (Q:List V→Hp→Prop) (us:List Value) (s':Shared):Prop where
 |mk (vs:List V) (H':Hp) (i:Inv X pins σ H' s') (r:Vals vs us) (q:Q vs H'):AP X pins σ Q us s'
inductive SN (X:Cx) (pins:List (Addr×Obj)) (q:St→Hp→Prop) (s':Shared):Prop where
 |mk (σ':St) (H':Hp) (i:Inv X pins σ' H' s') (p:q σ' H'):SN X pins q s'
inductive SR (X:Cx) (pins:List (Addr×Obj)) (q:V→Hp→Prop) (u:Value) (s':Shared):Prop where
 |mk (v:V) (σ':St) (H':Hp) (i:Inv X pins σ' H' s') (r:RelV v u) (p:q v H'):SR X pins q u s'
def SP (X:Cx) (pins:List (Addr×Obj)) (D:D5) (f:Flow) (s':Shared):Prop:=
 match f with
 |.next=>SN X pins D.nx s'
 |.brk=>SN X pins D.bk s'
 |.cont=>SN X pins D.ct s'
 |.ret u=>SR X pins D.rt u s'
def PE (X:Cx) (e:Expr) (t:TE):Prop:=
 ∀(pins:List (Addr×Obj)) (s:Shared) (σ:St) (H:Hp) (Q:VK),Inv X pins σ H s→t σ H Q→wpAny (model X.prog X.w) X.A (eval e X.env) (EP X pins σ Q) X.xe s
def PT (X:Cx) (e:Expr) (t:TT):Prop:=
 ∀(pins:List (Addr×Obj)) (s:Shared) (σ:St) (H:Hp) (Q:Bool→Hp→Prop),Inv X pins σ H s→t σ H Q→wpAny (model X.prog X.w) X.A (isTrue e X.env (eval e X.env)) (TP X pins σ Q) X.xe s
def PW (X:Cx) (e:Expr) (t:TT):Prop:=
 ∀(Fe:Sem Value) (pins:List (Addr×Obj)) (s:Shared) (σ:St) (H:Hp) (Q:Bool→Hp→Prop),Inv X pins σ H s→t σ H Q→wpAny (model X.prog X.w) X.A (isTrue e X.env Fe) (TP X pins σ Q) X.xe s
theorem PW.pt {X:Cx} {e:Expr} {t:TT} (h:PW X e t):PT X e t:=h _
def PA (X:Cx) (es:List Expr) (t:TA):Prop:=
 ∀(pos:Pos) (pins:List (Addr×Obj)) (s:Shared) (σ:St) (H:Hp) (Q:List V→Hp→Prop),Inv X pins σ H s→t σ H Q→wpAny (model X.prog X.w) X.A (spliced (backTo pos (starEach es X.env))) (AP X pins σ Q) X.xe s
def PS (X:Cx) (st:Stmt) (t:TS):Prop:=
 ∀(pins:List (Addr×Obj)) (s:Shared) (σ:St) (H:Hp) (D:D5),Inv X pins σ H s→t D σ H→wpAny (model X.prog X.w) X.A (exec st X.env) (SP X pins D) X.xe s
def D6 (X:Cx) (st:List Stmt) (t:TS):Prop:=
 ∀(pins:List (Addr×Obj)) (s:Shared) (σ:St) (H:Hp) (D:D5),Inv X pins σ H s→t D σ H→wpAny (model X.prog X.w) X.A (execs st X.env) (SP X pins D) X.xe s
theorem Au {α:Type} {t:Sem α} {Q Q':α→Shared→Prop} {M:Model} {A:Around} {E:Value→Shared→Prop} {s:Shared} (h:wpAny M A t Q E s) (hQ:∀a s,Q a s→Q' a s):wpAny M A t Q' E s:=wpAny_mono h hQ fun _ _ x=>x
section
variable {X:Cx}
def L4 (i:Nat):TE:=fun σ H Q=>∃v,σ[i]?=some (some v)∧Q v H
def tC (v:V):TE:=fun _ H Q=>Q v H
theorem TJ {i:Nat} {x:Str} {pos:Pos} (hN:X.N[i]?=some x) (hv:KB X.env.scope x) (hd:(x==("__debug__":Str))=false:=by decide) (hcd:(x==("__classdict__":Str))=false:=by decide):PE X (.Name x pos) (L4 i):=by
 intro pins s σ H Q I h
 obtain ⟨v,e,h⟩:=h
 obtain ⟨m,hn,hl⟩:=I.loc
 obtain ⟨u,r,l⟩:=hl i x v hN e hv
 have Bm:EP X pins σ Q u s:=⟨v,H,I,r,h⟩
 rcases l with ⟨hk,hm⟩ |⟨hk,c,hc,hcell⟩
 ·exact wpAny_Name (wpAny_loadName_local I.ok.kind hk hn hm Bm) hd
 ·rcases hk with hk |hk
  ·exact wpAny_Name (wpAny_loadName_cell I.ok.kind hk hc hcell Bm) hd
  ·exact wpAny_Name (wpAny_loadName_free I.ok.kind hk hc hcell Bm hcd) hd
theorem O1 {i j pos}:PE X (.Constant (.int i) j pos) (tC (.int i)):=fun _ _ _ H _ I h=>wpAny_Constant_int ⟨.int i,H,I.tok _,⟨_,rfl⟩,h⟩
theorem TK {b j pos}:PE X (.Constant (.bool b) j pos) (tC (.bl b)):=fun _ _ _ H _ I h=>Constant_bool ⟨.bl b,H,I,rfl,h⟩
theorem TL {j pos}:PE X (.Constant .none j pos) (tC .non):=fun _ _ _ H _ I h=>Constant_none ⟨.non,H,I,rfl,h⟩
def Gl (X:Cx) (x:Str):Prop:=X.env.kindOf x=some .globalImplicit
theorem O2 {E:Value→Shared→Prop} {pins:List (Addr×Obj)} {s:Shared} {σ:St} {H:Hp} {x:Str} {u:Value} {pos:Pos} {Q:Value→Shared→Prop} (I:Inv X pins σ H s) (hg:Gl X x) (hm:X.mg x=some u) (h:Q u s)
 (hd:(x==("__debug__":Str))=false:=by decide):wpAny (model X.prog X.w) X.A (eval (.Name x pos) X.env) Q E s:=
 Calls.Name_function_global I.ok.kind hg (Calls.loadGlobal_global (by rw [I.ok.glob];exact I.mod.glob.keeps I.bk) hm h) hd
theorem GC {E:Value→Shared→Prop} {pins:List (Addr×Obj)} {s:Shared} {σ:St} {H:Hp} {x:Str} {u:Value} {pos:Pos} {Q:Value→Shared→Prop} (I:Inv X pins σ H s) (hg:Gl X x) (hm:X.mg x=none) (hv:bootBuiltins x=some u) (h:Q u s)
 (hn:x≠"__name__":=by decide) (hd:(x==("__debug__":Str))=false:=by decide):wpAny (model X.prog X.w) X.A (eval (.Name x pos) X.env) Q E s:=by
 obtain ⟨mb,h1,h2⟩:=I.mod.blt
 exact Calls.Name_function_global I.ok.kind hg (Calls.loadGlobal_builtin (by rw [I.ok.glob];exact I.mod.glob.keeps I.bk) hm (by rw [I.ok.blt];exact h1.keeps I.bk) ((h2 x hn).trans hv) h) hd
theorem TM {x:Str} {v:V} {u:Value} {pos:Pos} (hg:Gl X x) (hm:X.mg x=some u) (r:RelV v u) (hd:(x==("__debug__":Str))=false:=by decide):PE X (.Name x pos) (tC v):=
 fun _ _ _ H _ I h=>O2 I hg hm ⟨v,H,I,r,h⟩ hd
theorem TN {x:Str} {v:V} {u:Value} {pos:Pos} (hg:Gl X x) (hm:X.mg x=none) (hv:bootBuiltins x=some u) (r:RelV v u) (hn:x≠"__name__":=by decide) (hd:(x==("__debug__":Str))=false:=by decide):PE X (.Name x pos) (tC v):=
 fun _ _ _ H _ I h=>GC I hg hm hv ⟨v,H,I,r,h⟩ hn hd
variable {a b:Expr} {ta tb:TE} {pos:Pos}
variable {tA tB':TT} {rest:List Expr}
def TQ (t u:TT):TT:=fun σ H Q=>t σ H fun c H1=>if c=true then Q true H1 else u σ H1 Q
def TR (t:TT):TT:=fun σ H Q=>t σ H fun c H1=>Q (!c) H1
theorem TU (ha:PT X a tA):PW X (.BoolOp .Or [a] pos) tA:=by
 intro wh pins s σ H Q I h
 refine isTrue_or (Au (ha pins s σ H Q I h) fun c s1 e=>?_)
 cases c with
 |false=>exact isTrue_or_nil e
 |true=>exact e
theorem TV (ha:PT X a tA) (hb:PW X (.BoolOp .Or (b::rest) pos) tB'):PW X (.BoolOp .Or (a::b::rest) pos) (TQ tA tB'):=by
 intro wh pins s σ H Q I h
 refine isTrue_or (Au (ha pins s σ H _ I h) fun c s1 z9_=>?_)
 obtain ⟨H1,I1,q1⟩:=z9_
 cases c with
 |true=>exact ⟨H1,I1,q1⟩
 |false=>exact hb wh pins s1 σ H1 Q I1 q1
theorem TX (ha:PT X a tA):PT X (.UnaryOp .Not a pos) (TR tA):=by
 intro pins s σ H Q I h
 exact isTrue_not (Au (ha pins s σ H (fun c H1=>Q (!c) H1) I h) fun c s1 z=>by cases z with |mk H1 I1 q=>exact ⟨H1,I1,q⟩)
def TY (ta tb:TE):TE:=fun σ H Q=>ta σ H fun x H1=>∃c,x=.bl c∧if c=true then tb σ H1 Q else Q (.bl false) H1
def TZ (ta tb:TE):TE:=fun σ H Q=>ta σ H fun x H1=>∃c,x=.bl c∧if c=true then Q (.bl true) H1 else tb σ H1 Q
def T1 (ta:TE):TE:=fun σ H Q=>ta σ H fun x H1=>∃c,x=.bl c∧Q (.bl (!c)) H1
theorem T3 {op} {t:TE} (h:PE X a t):PE X (.BoolOp op [a] pos) t:=fun pins s σ H Q I hw=>BoolOp_one (h pins s σ H Q I hw)
theorem T4 (ha:PE X a ta) (hb:PE X (.BoolOp .And (b::rest) pos) tb):PE X (.BoolOp .And (a::b::rest) pos) (TY ta tb):=by
 intro pins s σ H Q I h
 refine BoolOp_and (Au (ha pins s σ H _ I h) fun v s1 z10_=>?_)
 obtain ⟨x,H1,I1,r1,q1⟩:=z10_
 obtain ⟨c,rfl,q1⟩:=q1
 cases r1
 refine wpAny_truthy_bool ?_
 cases c with
 |true=>exact hb pins s1 σ H1 Q I1 q1
 |false=>exact ⟨.bl false,H1,I1,rfl,q1⟩
theorem T5 (ha:PE X a ta) (hb:PE X (.BoolOp .Or (b::rest) pos) tb):PE X (.BoolOp .Or (a::b::rest) pos) (TZ ta tb):=by
 intro pins s σ H Q I h
 refine BoolOp_or (Au (ha pins s σ H _ I h) fun v s1 z11_=>?_)
 obtain ⟨x,H1,I1,r1,q1⟩:=z11_
 obtain ⟨c,rfl,q1⟩:=q1
 cases r1
 refine wpAny_truthy_bool ?_
 cases c with
 |false=>exact hb pins s1 σ H1 Q I1 q1
 |true=>exact ⟨.bl true,H1,I1,rfl,q1⟩
theorem T6 (ha:PE X a ta):PE X (.UnaryOp .Not a pos) (T1 ta):=by
 intro pins s σ H Q I h
 refine UnaryOp_ (Au (ha pins s σ H _ I h) fun v s1 z12_=>?_)
 obtain ⟨x,H1,I1,r1,q1⟩:=z12_
 obtain ⟨c,rfl,q1⟩:=q1
 cases r1
 exact not_of (wpAny_truthy_bool ⟨.bl (!c),H1,I1,rfl,q1⟩)
def T7 (t:TT) (ta tb:TE):TE:=fun σ H Q=>t σ H fun c H1=>if c=true then ta σ H1 Q else tb σ H1 Q
theorem T8 {c:Expr} (hc:PT X c tA) (ha:PE X a ta) (hb:PE X b tb):PE X (.IfExp c a b pos) (T7 tA ta tb):=by
 intro pins s σ H Q I h
 refine wpAny_IfExp (Au (hc pins s σ H _ I h) fun d s1 z13_=>?_)
 obtain ⟨H1,I1,q1⟩:=z13_
 cases d with
 |true=>exact ha pins s1 σ H1 Q I1 q1
 |false=>exact hb pins s1 σ H1 Q I1 q1
end
def SqL (K:PySem.W.Frag) (H:Hp) (a:Addr) (xs:List V):Prop:=
 Rd H a (.lst xs)∨
  ∃(o:Obj) (its:Array Value) (n:Nat),K.lookup a=some o∧o.cls=.type "list"∧o.dict=none∧o.data=.seq its n∧its.size≤sizeLine∧Vals xs its.toList
def SqT (K:PySem.W.Frag) (H:Hp) (a:Addr) (xs:List V):Prop:=
 Rd H a (.tup xs)∨
  ∃(o:Obj) (its:Array Value) (n:Nat),K.lookup a=some o∧o.cls=.type "tuple"∧o.data=.seq its n∧its.size≤sizeLine∧Vals xs its.toList
def T9:Value→Option V
 |.none=>some .non
 |.bool b=>some (.bl b)
 |.int i _=>some (.int i)
 |.str x _=>some (.str x)
 |.bytes b _=>some (.byt b)
 |.float b _=>some (.flt b)
 |.ref a=>some (.ref a)
 |.type n=>some (.ty n)
 |_=>none
theorem RelV.abs {x:V} {u:Value} (r:RelV x u):T9 u=some x:=by
 cases x with
 |non=>cases r;rfl
 |bl _=>cases r;rfl
 |int _=>obtain ⟨t,rfl⟩:=r;rfl
 |str _=>obtain ⟨t,rfl⟩:=r;rfl
 |byt _=>obtain ⟨t,rfl⟩:=r;rfl
 |flt _=>obtain ⟨t,rfl⟩:=r;rfl
 |ref _=>cases r;rfl
 |ty _=>cases r;rfl
theorem RelV.inj {x y:V} {u:Value} (r:RelV x u) (q:RelV y u):x=y:=Option.some.inj (r.abs.symm.trans q.abs)
theorem Vals.inj {xs ys:List V} {us:List Value} (h:Vals xs us) (g:Vals ys us):xs=ys:=by
 induction h generalizing ys with
 |nil=>cases g;rfl
 |cons r t ih=>cases g with |cons r' t'=>rw [r.inj r',ih t']
section
variable {X:Cx} {pins:List (Addr×Obj)} {σ:St} {H:Hp} {s:Shared} {a:Addr} {xs ys:List V}
theorem SqL.of {K:PySem.W.Frag} (h:H a=some (.lst xs)):SqL K H a xs:=.inl (.inl h)
theorem SqT.of {K:PySem.W.Frag} (h:H a=some (.tup xs)):SqT K H a xs:=.inl (.inl h)
theorem Inv.list (I:Inv X pins σ H s) (h:SqL X.K H a xs):∃its:List Value,Vals xs its∧PlainL s.heap a its.toArray∧xs.length≤sizeLine:=by
 rcases h with h |⟨o,its,n,hk,hc,hd,hs,hz,r⟩
 ·obtain ⟨z,its,n,r,e⟩:=h.ok I.hok
  exact ⟨its,r,⟨_,n,e,rfl,rfl,rfl⟩,z⟩
 ·refine ⟨its.toList,r,⟨o,n,I.kIn a o hk,hc,hd,by simpa using hs⟩,?_⟩
  have e:=r.length
  simp only [Array.length_toList] at e
  omega
theorem Inv.tuple (I:Inv X pins σ H s) (h:SqT X.K H a xs):∃its:List Value,Vals xs its∧IsTup s.heap a its.toArray∧xs.length≤sizeLine:=by
 rcases h with h |⟨o,its,n,hk,hc,hs,hz,r⟩
 ·obtain ⟨z,its,r,p,_⟩:=h.ok I.hok
  exact ⟨its,r,p,z⟩
 ·refine ⟨its.toList,r,⟨o,I.kIn a o hk,hc,n,by simpa using hs⟩,?_⟩
  have e:=r.length
  simp only [Array.length_toList] at e
  omega
theorem Inv.list_inj (I:Inv X pins σ H s) (h:SqL X.K H a xs) (h':SqL X.K H a ys):xs=ys:=by
 obtain ⟨its,r,⟨o,n,e,_,_,d⟩,_⟩:=I.list h
 obtain ⟨its',r',⟨o',n',e',_,_,d'⟩,_⟩:=I.list h'
 rw [e] at e';cases e'
 rw [d] at d'
 injection d' with d1 _
 have:its=its':=by simpa using congrArg Array.toList d1
 subst this
 exact r.inj r'
theorem Inv.tuple_inj (I:Inv X pins σ H s) (h:SqT X.K H a xs) (h':SqT X.K H a ys):xs=ys:=by
 obtain ⟨its,r,⟨o,e,_,n,d⟩,_⟩:=I.tuple h
 obtain ⟨its',r',⟨o',e',_,n',d'⟩,_⟩:=I.tuple h'
 rw [e] at e';cases e'
 rw [d] at d'
 injection d' with d1 _
 have:its=its':=by simpa using congrArg Array.toList d1
 subst this
 exact r.inj r'
end
section
variable {X:Cx} {pins:List (Addr×Obj)} {σ:St} {H:Hp} {s:Shared} {E:Value→Shared→Prop}
end
section
variable {X:Cx} {st:Stmt} {rest:List Stmt} {t u:TS} {e:Expr} {te:TE} {pos:Pos}
def Ua:TS:=fun D σ H=>D.nx σ H
def Ub (t u:TS):TS:=fun D σ H=>t {D with nx:=u D} σ H
theorem Uc:D6 X [] Ua:=fun _ _ σ H _ I h=>wpAny_execs_nil ⟨σ,H,I,h⟩
theorem Ud (h1:PS X st t) (h2:D6 X rest u):D6 X (st::rest) (Ub t u):=by
 intro pins s σ H D I h
 refine wpAny_execs_cons (Au (h1 pins s σ H {D with nx:=u D} I h) fun f s1 q=>?_)
 cases f with
 |next=>
  obtain ⟨σ',H',I',q⟩:=q
  exact h2 pins s1 σ' H' D I' q
 |ret v=>exact q
 |brk=>exact q
 |cont=>exact q
theorem Ue (h1:PS X st t):D6 X [st] t:=by
 intro pins s σ H D I h
 refine wpAny_execs_cons (Au (h1 pins s σ H D I h) fun f s1 q=>?_)
 cases f with
 |next=>exact wpAny_execs_nil q
 |ret v=>exact q
 |brk=>exact q
 |cont=>exact q
theorem Inv.quiet {pins:List (Addr×Obj)} {σ:St} {H:Hp} {s:Shared} (I:Inv X pins σ H s):interactive X.env=false:=by simp [interactive,I.ok.kind]
def Ug (te:TE):TS:=fun D σ H=>te σ H fun _ H1=>D.nx σ H1
theorem Uh (he:PE X e te) (hs:swapsWith e none pos.line X.env=pure false:=by rfl):PS X (.Expr e pos) (Ug te):=by
 intro pins s σ H D I h
 exact wpAny_Expr_any (Au (he pins s σ H _ I h) fun v s1 z16_=>by obtain ⟨x,H1,I1,r1,q1⟩:=z16_;exact (⟨σ,H1,I1,q1⟩)) I.quiet hs
def Ui (te:TE):TS:=fun D σ H=>te σ H D.rt
theorem Uj (he:PE X e te):PS X (.Return (some e) pos) (Ui te):=by
 intro pins s σ H D I h
 exact wpAny_Return_some (Au (he pins s σ H _ I h) fun v s1 z17_=>by obtain ⟨x,H1,I1,r1,q1⟩:=z17_;exact (⟨x,σ,H1,I1,r1,q1⟩))
def Uk (c:TT) (t u:TS):TS:=fun D σ H=>c σ H fun b H1=>if b=true then t D σ H1 else u D σ H1
theorem Ul {c:Expr} {a b:List Stmt} {tc:TT} (hc:PT X c tc) (ha:D6 X a t) (hb:D6 X b u):PS X (.If c a b pos) (Uk tc t u):=by
 intro pins s σ H D I h
 refine wpAny_If (Au (hc pins s σ H _ I h) fun d s1 z18_=>?_)
 obtain ⟨H1,I1,q1⟩:=z18_
 cases d with
 |true=>exact ha pins s1 σ H1 D I1 q1
 |false=>exact hb pins s1 σ H1 D I1 q1
def Um:TS:=fun _ _ _=>False
theorem Uo:PS X st Um:=fun _ _ _ _ _ _ h=>h.elim
end
abbrev TG:=V→St→Hp→(St→Hp→Prop)→Prop
abbrev F4:=List V→St→Hp→(St→Hp→Prop)→Prop
def PG (X:Cx) (target:Expr) (t:TG):Prop:=
 ∀(pins:List (Addr×Obj)) (s:Shared) (σ:St) (H:Hp) (v:V) (u:Value) (Q:St→Hp→Prop),Inv X pins σ H s→RelV v u→t v σ H Q→
  wpAny (model X.prog X.w) X.A (assign target X.env u) (fun _ s'=>SN X pins Q s') X.xe s
def KF (X:Cx) (ts:List Expr) (t:F4):Prop:=
 ∀(pins:List (Addr×Obj)) (s:Shared) (σ:St) (H:Hp) (vs:List V) (us:List Value) (Q:St→Hp→Prop),Inv X pins σ H s→Vals vs us→t vs σ H Q→
  wpAny (model X.prog X.w) X.A (assignInOrder ((assignEach ts X.env).map (·.2)) us) (fun _ s'=>SN X pins Q s') X.xe s
abbrev Jj:=V→V→V→Hp→(Hp→Prop)→Prop
def L5 (X:Cx) (t:Jj):Prop:=
 ∀(pins:List (Addr×Obj)) (s:Shared) (σ:St) (H:Hp) (o i v:V) (ov iv u:Value) (Q:Hp→Prop),Inv X pins σ H s→RelV o ov→RelV i iv→RelV v u→t o i v H Q→
  wpAny (model X.prog X.w) X.A (setItem ov iv u) (fun _ s'=>∃H',Inv X pins σ H' s'∧Q H') X.xe s
abbrev KG:=V→V→Hp→VK→Prop
def O3 (X:Cx) (op:Operator) (t:KG):Prop:=
 ∀(pins:List (Addr×Obj)) (s:Shared) (σ:St) (H:Hp) (x y:V) (v u:Value) (Q:VK),Inv X pins σ H s→RelV x v→RelV y u→t x y H Q→
  wpAny (model X.prog X.w) X.A (inplaceOp op v u) (EP X pins σ Q) X.xe s
section
variable {X:Cx} {pos:Pos}
def CD (i:Nat):TG:=fun v σ H Q=>Q (σ.set i (some v)) H
theorem Ay {i:Nat} {x:Str} (hN:X.N.Nodup) (hi:X.N[i]?=some x) (hx:Ij X.env.scope x) (hf:X.fn x=true∨X.env.scope.names.lookup x=some .local:=by first |exact .inl rfl |exact .inr rfl |assumption):PG X (.Name x pos) (CD i):=by
 intro pins s σ H v u Q I r h
 exact wpAny_assign_Name (KC I hN hi hx r (fun s' I'=>⟨_,H,I',h⟩) hf)
def GD:F4:=fun vs σ H Q=>vs=[]∧Q σ H
def D7 (t:TG) (u:F4):F4:=fun vs σ H Q=>∃v r,vs=v::r∧t v σ H fun σ' H'=>u r σ' H' Q
theorem KH:KF X [] GD:=by
 intro pins s σ H vs us Q I r h
 obtain ⟨e,h⟩:=h
 subst e
 cases r
 exact assignInOrder_nil ⟨σ,H,I,h⟩
theorem EW {e:Expr} {es:List Expr} {t:TG} {u:F4} (h1:PG X e t) (h2:KF X es u)
 (hs:(assignEach (e::es) X.env).map (·.2)=assign e X.env::(assignEach es X.env).map (·.2):=by rfl):KF X (e::es) (D7 t u):=by
 intro pins s σ H vs us Q I r h
 obtain ⟨v,vr,e1,h⟩:=h
 subst e1
 cases r with
 |cons r rr=>
  rw [hs]
  refine assignInOrder_cons (Au (h1 pins s σ H _ _ _ I r h) fun _ s1 z19_=>?_)
  obtain ⟨σ1,H1,I1,q1⟩:=z19_
  exact h2 pins s1 σ1 H1 _ _ Q I1 rr q1
def GE (K:PySem.W.Frag) (n:Nat) (t:F4):TG:=fun v σ H Q=>∃a xs,v=.ref a∧SqT K H a xs∧xs.length=n∧t xs σ H Q
theorem KI {es:List Expr} {k:Nat} {t:F4} {n:Nat} (hc:X.calm=true) (h:KF X es t)
 (hn:(assignEach es X.env).length=n:=by rfl) (hst:(assignEach es X.env).findIdx? (·.1)=none:=by rfl):PG X (.Tuple es k pos) (GE X.K n t):=by
 intro pins s σ H v u Q I r hw
 obtain ⟨a,xs,e1,hq,hl,hw⟩:=hw
 subst e1
 cases r
 obtain ⟨its,rv,ht,hz⟩:=I.tuple hq
 refine assign_Tuple_tuple (I.ok.hd hc) ht (by simp [hn,←hl,rv.length]) hst fun h' hx=>?_
 have I1:Inv X pins σ H {s with heap:=h'}:=I.kept (t':=s.toks) fun b o e=>hx b o (BX (AX e)) e
 exact h pins _ σ H xs _ Q I1 (by simpa using rv) hw
def Up (to ti:TE) (t:Jj):TG:=fun v σ H Q=>to σ H fun o H1=>ti σ H1 fun i H2=>t o i v H2 fun H3=>Q σ H3
theorem Uq {o i:Expr} {to ti:TE} {t:Jj} (ho:PE X o to) (hi:PE X i ti) (hs:L5 X t)
 (ha:∀v,assign (.Subscript o i pos) X.env v=(do
  let ov ←holding [v] (eval o X.env)
  let iv ←holding [v,ov] (eval i X.env)
  standAt pos
  holding [v,ov,iv] (setItem ov iv v)
  release [v,ov,iv] []):=by intro _;rfl):PG X (.Subscript o i pos) (Up to ti t):=by
 intro pins s σ H v u Q I r h
 rw [ha]
 refine wpAny_bind (wpAny_holding (Au (ho pins s σ H _ I h) fun ov s1 z20_=>?_))
 obtain ⟨x,H1,I1,r1,q1⟩:=z20_
 refine wpAny_bind (wpAny_holding (Au (hi pins s1 σ H1 _ I1 q1) fun iv s2 z21_=>?_))
 obtain ⟨y,H2,I2,r2,q2⟩:=z21_
 refine wpAny_bind (wpAny_standAt (wpAny_bind (wpAny_holding (Au (hs pins s2 σ H2 x y v ov iv u _ I2 r1 r2 r q2) fun _ s3 z22_=>?_))))
 obtain ⟨H3,I3,q3⟩:=z22_
 exact wpAny_release ⟨σ,H3,I3,q3⟩
def O4 (te:TE) (g:TG):TS:=fun D σ H=>te σ H fun x H1=>g x σ H1 D.nx
theorem O5 {tg e:Expr} {te:TE} {g:TG} (he:PE X e te) (hg:PG X tg g) (hs:swapsWithSole [tg] e pos.line X.env=pure false:=by rfl) (hw:swappedStores [tg] e X.env=pure none:=by rfl)
 (h1:(assignEach [tg] X.env).map (·.2)=[assign tg X.env]:=by rfl):PS X (.Assign [tg] e pos) (O4 te g):=by
 intro pins s σ H D I h
 refine wpAny_Assign_stores (Au (he pins s σ H _ I h) fun v s1 z23_=>?_) hs hw
 obtain ⟨x,H1,I1,r1,q1⟩:=z23_
 rw [h1]
 exact Au (hg pins s1 σ H1 x v _ I1 r1 q1) fun _ s2 q=>q
theorem Ur {i:Nat} {x:Str} {e:Expr} {te:TE} {pos':Pos} (hN:X.N.Nodup) (hi:X.N[i]?=some x) (hx:Ij X.env.scope x) (he:PE X e te) (hs:swapsWith e (some (.Name x pos')) pos.line X.env=pure false:=by rfl) (hf:X.fn x=true∨X.env.scope.names.lookup x=some .local:=by first |exact .inl rfl |exact .inr rfl |assumption):
 PS X (.Assign [.Name x pos'] e pos) (O4 te (CD i)):=by
 intro pins s σ H D I h
 refine wpAny_Assign_Name (Au (he pins s σ H _ I h) fun v s1 z24_=>?_) hs
 obtain ⟨y,H1,I1,r1,q1⟩:=z24_
 exact KC I1 hN hi hx r1 (fun s2 I2=>⟨_,H1,I2,q1⟩) hf
def Us (i j:Nat) (ta:TA):TS:=fun D σ H=>ta σ H fun vs H1=>∃v w,vs=[v,w]∧D.nx ((σ.set i (some v)).set j (some w)) H1
theorem Ut {i j:Nat} {x y:Str} {a b:Expr} {ta:TA} {px py pt:Pos} {kt k2 pt2} (hc:X.calm=true) (hN:X.N.Nodup) (hi:X.N[i]?=some x) (hj:X.N[j]?=some y) (hij:i≠j)
 (hx:X.env.scope.names.lookup x=some .local) (hy:X.env.scope.names.lookup y=some .local) (ha:PA X [a,b] ta)
 (hw:swappedStores [.Tuple [.Name x px,.Name y py] kt pt] (.Tuple [a,b] k2 pt2) X.env=pure (some [x,y]))
 (hs:swapsWithSole [.Tuple [.Name x px,.Name y py] kt pt] (.Tuple [a,b] k2 pt2) pos.line X.env=pure false:=by rfl):
 PS X (.Assign [.Tuple [.Name x px,.Name y py] kt pt] (.Tuple [a,b] k2 pt2) pos) (Us i j ta):=by
 intro pins s σ H D I h
 rw [exec_Assign_arm]
 refine wpAny_bind (wpAny_standAt ?_)
 rw [hs]
 refine wpAny_bind (wpAny_pure ?_)
 rw [if_neg (by decide)]
 refine wpAny_bind (Tuple_ (Au (ha _ pins s σ H _ I h) fun us s1 z25_=>?_))
 obtain ⟨vs,H1,I1,r1,q1⟩:=z25_
 obtain ⟨v,w,e1,q1⟩:=q1
 subst e1
 obtain ⟨u1,u2,rfl,rv,rw'⟩:∃u1 u2,us=[u1,u2]∧RelV v u1∧RelV w u2:=by
  cases r1 with
  |cons p q=>
   cases q with
   |cons p' q'=>
    cases q'
    exact ⟨_,_,rfl,p,p'⟩
 refine wpAny_newObj_type ?_ (by show 2≤sizeLine;decide)
 have I2:Inv X pins σ H1 {s1 with heap:=s1.heap.push {cls:=.type "tuple",data:=.seq [u1,u2].toArray}}:=I1.kept (t':=s1.toks) fun b o e=>AY _ e
 rw [hw]
 refine wpAny_bind (wpAny_pure ?_)
 show wpAny (model X.prog X.w) X.A (do rule "assign.swapped-stores";let items ←unpackItems (.ref s1.heap.objs.size) 2 none;assignInOrder [fun v=>bindName X.env y v,fun v=>bindName X.env x v] items.reverse;pure Flow.next) _ _ _
 refine wpAny_bind (wpAny_rule (wpAny_bind (unpackItems_tuple (items:=#[u1,u2]) (I.ok.hd hc) (IsTup.new s1.heap _) fun h' hx'=>?_)))
 have I3:=I2.kept (h':=h') (t':=s1.toks) fun b o e=>hx' b o (BX (AX e)) e
 show wpAny _ _ (assignInOrder [fun v=>bindName X.env y v,fun v=>bindName X.env x v] [u2,u1] >>=fun _=>pure Flow.next) _ _ _
 refine wpAny_bind (assignInOrder_cons (wpAny_bindName (KC I3 hN hj (.inl hy) rw' (fun s2 I4=>?_) (.inr hy))))
 refine assignInOrder_cons (wpAny_bindName (KC I4 hN hi (.inl hx) rv (fun s3 I5=>assignInOrder_nil (wpAny_pure ?_)) (.inr hx)))
 rw [List.set_comm _ _ (Ne.symm hij)] at I5
 exact ⟨_,H1,I5,q1⟩
def Uu (to ti te:TE) (tget:V→V→Hp→VK→Prop) (tip:KG) (tset:Jj):TS:=fun D σ H=>to σ H fun o H1=>ti σ H1 fun i H2=>tget o i H2 fun x H3=>te σ H3 fun y H4=>tip x y H4 fun z H5=>tset o i z H5 fun H6=>D.nx σ H6
def O6 (X:Cx) (t:V→V→Hp→VK→Prop):Prop:=
 ∀(pins:List (Addr×Obj)) (s:Shared) (σ:St) (H:Hp) (o i:V) (ov iv:Value) (Q:VK),Inv X pins σ H s→RelV o ov→RelV i iv→t o i H Q→
  wpAny (model X.prog X.w) X.A (getItem ov iv) (EP X pins σ Q) X.xe s
theorem Uv {o i e:Expr} {to ti te:TE} {tget:V→V→Hp→VK→Prop} {tip:KG} {tset:Jj} {op:Operator} {tpos:Pos} (ho:PE X o to) (hi:PE X i ti) (hg:O6 X tget) (he:PE X e te) (hp:O3 X op tip) (hs:L5 X tset)
 (ha:∀ov iv new,augStore i ov iv new=(do holding [new,ov,iv] (setItem ov iv new);release [new,ov,iv] [];pure .next):=by intros;rfl):PS X (.AugAssign (.Subscript o i tpos) op e pos) (Uu to ti te tget tip tset):=by
 intro pins s σ H D I h
 refine wpAny_AugAssign_SubscriptAny (Au (ho pins s σ H _ I h) fun ov s1 z28_=>?_) ha
 obtain ⟨x1,H1,I1,r1,q1⟩:=z28_
 refine Au (hi pins s1 σ H1 _ I1 q1) fun iv s2 z29_=>?_
 obtain ⟨x2,H2,I2,r2,q2⟩:=z29_
 refine Au (hg pins s2 σ H2 x1 x2 ov iv _ I2 r1 r2 q2) fun old s3 z30_=>?_
 obtain ⟨x3,H3,I3,r3,q3⟩:=z30_
 refine Au (he pins s3 σ H3 _ I3 q3) fun v s4 z31_=>?_
 obtain ⟨x4,H4,I4,r4,q4⟩:=z31_
 refine Au (hp pins s4 σ H4 x3 x4 old v _ I4 r3 r4 q4) fun new s5 z32_=>?_
 obtain ⟨x5,H5,I5,r5,q5⟩:=z32_
 exact Au (hs pins s5 σ H5 x1 x2 x5 ov iv new _ I5 r1 r2 r5 q5) fun _ s6 z33_=>by obtain ⟨H6,I6,q6⟩:=z33_;exact (⟨σ,H6,I6,q6⟩)
def Uw (f:Int→Int→Int):KG:=fun x y H Q=>∃i j,x=.int i∧y=.int j∧Q (.int (f i j)) H
theorem Ux:O3 X .Add (Uw fun i j=>i+j):=by
 intro pins s σ H x y v u Q I r1 r2 h
 obtain ⟨i,j,e1,e2,q⟩:=h
 subst e1;subst e2
 obtain ⟨t,rfl⟩:=r1
 obtain ⟨t',rfl⟩:=r2
 exact iadd_int ⟨.int _,H,I.tok _,⟨_,rfl⟩,q⟩
end
section
variable {X:Cx} {pos:Pos}
def Uy (c:TT) (tb:TS):TS:=fun D σ H=>∃W:Nat→St→Hp→Prop,(∃m,W m σ H)∧∀m σ H,W m σ H→
 c σ H fun b H1=>if b=true then ∃N:St→Hp→Prop,(∀σ' H',N σ' H'→∃m',m' < m∧W m' σ' H')∧tb {D with nx:=N,ct:=N,bk:=D.nx} σ H1 else D.nx σ H1
theorem Uz {c:Expr} {body:List Stmt} {tc:TT} {tb:TS} (hp:PassesOwn (model X.prog X.w) X.A X.env X.xe) (hc:PT X c tc) (hb:D6 X body tb):PS X (.While c body [] pos) (Uy tc tb):=by
 intro pins s σ H D I h
 obtain ⟨W,⟨m0,w0⟩,turn⟩:=h
 refine wpAny_While (codeAny_whileLoop (fun n s'=>SN X pins (W n) s') ?_ m0 ⟨σ,H,I,w0⟩)
 rintro n s1 ⟨σ1,H1,I1,w1⟩
 refine wpAny_passesOwn hp (Au (hc pins s1 σ1 H1 _ I1 (turn n σ1 H1 w1)) fun b s2 z34_=>?_)
 obtain ⟨H2,I2,q2⟩:=z34_
 cases b with
 |true=>
  obtain ⟨N,hN,q2⟩:=q2
  rw [if_pos rfl]
  refine wpAny_passesOwn hp (Au (hb pins s2 σ1 H2 _ I2 q2) fun f s3 q3=>?_)
  cases f with
  |next=>
   obtain ⟨σ3,H3,I3,n3⟩:=q3
   obtain ⟨m',hm,w3⟩:=hN σ3 H3 n3
   exact ⟨m',hm,σ3,H3,I3,w3⟩
  |cont=>
   obtain ⟨σ3,H3,I3,n3⟩:=q3
   obtain ⟨m',hm,w3⟩:=hN σ3 H3 n3
   exact ⟨m',hm,σ3,H3,I3,w3⟩
  |brk=>exact q3
  |ret v=>exact q3
 |false=>
  rw [if_neg Bu]
  exact wpAny_execs_nil ⟨σ1,H2,I2,q2⟩
end
structure It where
 go:Nat→Hp→Prop
 yld:Nat→Hp→V→Hp→Prop
 stop:Nat→Hp→Prop
def CW (X:Cx) (pins:List (Addr×Obj)) (H:Hp) (b:Addr):Prop:=
 H b=none∧b≠X.env.locals∧b∉X.fs∧(b∈X.ex∨X.s₀.heap.objs.size≤b)∧(∀x c,X.env.cells.lookup x=some c→c≠b)∧∀p∈X.pn++pins,p.1≠b
theorem Inv.fpOk {X:Cx} {pins:List (Addr×Obj)} {σ:St} {H H':Hp} {s:Shared} {b:Addr} (I:Inv X pins σ H s) (hb:s.heap.objs.size≤b) (hn:H' b=none):CW X pins H' b:=by
 refine ⟨hn,Cp (Bq I.lt hb),I.nofs hb,.inr (B8 I.sz hb),fun x c e z=>?_,fun p hp z=>?_⟩
 ·obtain ⟨v,q⟩:=I.cell x c e
  exact absurd (Bq q.lt (by rw [z];exact hb)) (D4 _)
 ·exact absurd (Bq (AX (I.pin p hp).1) (by rw [z];exact hb)) (D4 _)
structure F5 (P:Program) (w:World) (K:PySem.W.Frag) (tg:Expr) (J:It) (fp:List Addr) (it:Addr) (tn:Nat→Heap→Prop):Prop where
 mem:it∈fp
 obj:∀i h,tn i h→∀b∈fp,∃o,h.get? b=some o∧∀v,o.data≠.cell v
 keep:∀i h h',tn i h→(∀b∈fp,∀o,h.get? b=some o→h'.get? b=some o)→tn i h'
 item:∀(X:Cx),X.prog=P→X.w=w→X.K=K→X.calm=true→∀(i:Nat) (pins:List (Addr×Obj)) (s:Shared) (σ:St) (H:Hp) (E:Value→Shared→Prop),Inv X pins σ H s→(∀b∈fp,CW X pins H b)→tn i s.heap→J.go i H→
  wpAny (model P w) X.A (pyNext (.ref it)) (fun r s1=>∃u,r=some u∧
   wpAny (model P w) X.A (letOwnedTupleGo tg (.ref it) u) (fun _ s2=>∃x H',Inv X pins σ H' s2∧RelV x u∧J.yld i H x H'∧tn (i+1) s2.heap∧∀b∈fp,H' b=none) E s1) E s
 done:∀(X:Cx),X.prog=P→X.w=w→X.K=K→X.calm=true→∀(i:Nat) (pins:List (Addr×Obj)) (s:Shared) (σ:St) (H:Hp) (E:Value→Shared→Prop),Inv X pins σ H s→(∀b∈fp,CW X pins H b)→tn i s.heap→J.stop i H→
  wpAny (model P w) X.A (pyNext (.ref it)) (fun r s1=>r=none∧Inv X pins σ H s1) E s
 self:∀(A:Around) (i:Nat) (s:Shared) (Q:Value→Shared→Prop) (E:Value→Shared→Prop),tn i s.heap→Q (.ref it) s→wpAny (model P w) A (pyIter (.ref it)) Q E s
abbrev TI:=St→Hp→(It→Hp→Prop)→Prop
inductive L6 (X:Cx) (pins:List (Addr×Obj)) (σ:St) (tg:Expr) (R:It→Hp→Prop) (itv:Value) (s2:Shared):Prop where
 |mk (it:Addr) (fp:List Addr) (tn:Nat→Heap→Prop) (J:It) (H':Hp) (e:itv=.ref it) (i:Inv X pins σ H' s2) (t:F5 X.prog X.w X.K tg J fp it tn) (st:tn 0 s2.heap) (f:∀b∈fp,CW X pins H' b) (r:R J H'):L6 X pins σ tg R itv s2
def PI (X:Cx) (tg iter:Expr) (wi:TI):Prop:=
 ∀(pins:List (Addr×Obj)) (s:Shared) (σ:St) (H:Hp) (R:It→Hp→Prop),Inv X pins σ H s→wi σ H R→
  wpAny (model X.prog X.w) X.A (eval iter X.env) (fun v s1=>wpAny (model X.prog X.w) X.A (pyIter v) (L6 X pins σ tg R) X.xe s1) X.xe s
theorem L8 {M:Model} {A:Around} {E:Value→Shared→Prop} {s:Shared} {tg:Expr} {it:Addr} {u:Value} {o:Obj} {n:String} {vs:Array Value} {Q:Unit→Shared→Prop} (ho:s.heap.get? it=some o) (hc:o.cls=.type n) (hd:o.data=.fields vs)
 (hn:["enumerate","zip","dict_itemiterator","dict_reverseitemiterator","odict_iterator","itertools.zip_longest","itertools.pairwise"].contains n=false) (hQ:Q () s):wpAny M A (letOwnedTupleGo tg (.ref it) u) Q E s:=by
 unfold letOwnedTupleGo
 cases tg<;>first
  |exact wpAny_pure hQ
  |(cases u<;>first
   |exact wpAny_pure hQ
   |(refine wpAny_bind (wpAny_load ho ?_)
     rw [hc,hd]
     show wpAny M A (if (["enumerate","zip","dict_itemiterator","dict_reverseitemiterator","odict_iterator","itertools.zip_longest","itertools.pairwise"].contains n&&vs[0]?==some (rawInt _))=true then _ else _) Q E s
     rw [if_neg (by intro h;rw [hn,Bool.false_and] at h;cases h)]
     exact wpAny_pure hQ))
def Jk (K:PySem.W.Frag) (a:Addr):It:=
 ⟨fun i H=>∃xs x,SqL K H a xs∧xs[i]?=some x,fun i H x H'=>H'=H∧∀xs,SqL K H a xs→xs[i]?=some x,fun i H=>∃xs,SqL K H a xs∧xs.length≤i⟩
def Jl (K:PySem.W.Frag) (a:Addr):It:=
 ⟨fun i H=>∃xs x,SqT K H a xs∧xs[i]?=some x,fun i H x H'=>H'=H∧∀xs,SqT K H a xs→xs[i]?=some x,fun i H=>∃xs,SqT K H a xs∧xs.length≤i⟩
def Jm (lo:Int) (n:Nat):It:=⟨fun i _=>i<n,fun i H x H'=>H'=H∧x=.int (lo+i),fun i _=>n≤i⟩
theorem UA {P:Program} {w:World} {K:PySem.W.Frag} {tg:Expr} (a it:Addr):F5 P w K tg (Jk K a) [it] it (fun i h=>h.IsListIter it a i) where
 mem:=by simp
 obj:=fun i h st b hb=>by
  have e:b=it:=by simpa using hb
  subst e
  obtain ⟨o,e,c,d⟩:=st
  exact ⟨o,e,fun v z=>by rw [d] at z;cases z⟩
 keep:=fun i h h' st k=>st.at fun o e=>k it (by simp) o e
 item:=by
  intro X hP hw hK hc i pins s σ H E I hf st hg
  subst hP hw hK
  obtain ⟨xs,x,hq,hx⟩:=hg
  obtain ⟨its,rv,p,hz⟩:=I.list hq
  obtain ⟨u,hu,ru⟩:=rv.get hx
  obtain ⟨f0,f1,f2,f3,f4,f5⟩:=hf it (by simp)
  refine wpAny_pyNext_list_item st p.isList (x:=u) (by simpa using hu) fun h' st' sb=>?_
  have I1:Inv X pins σ H {s with heap:=h'}:=I.turned (t':=s.toks) (fun b o hb e=>(sb.2 b hb).trans e) f0 f1 f3 f4 f5
  obtain ⟨o,e,c,d⟩:=id st'
  exact ⟨u,rfl,L8 (s:={s with heap:=h'}) e c d (by decide) ⟨x,H,I1,ru,⟨rfl,fun ys hy=>by rw [I.list_inj hy hq];exact hx⟩,st',fun b hb=>(hf b hb).1⟩⟩
 done:=by
  intro X hP hw hK hc i pins s σ H E I hf st hg
  subst hP hw hK
  obtain ⟨xs,hq,hx⟩:=hg
  obtain ⟨its,rv,p,hz⟩:=I.list hq
  obtain ⟨f0,f1,f2,f3,f4,f5⟩:=hf it (by simp)
  have hl:=rv.length
  exact wpAny_pyNext_list_end (I.ok.hd hc) st p.isList (by simp;omega) fun h' eb=>⟨rfl,I.turned (t':=s.toks) (fun b o hb e=>eb b o hb e) f0 f1 f3 f4 f5⟩
 self:=fun _ _ _ _ _ st h=>wpAny_pyIter_listiter st h
theorem UB {P:Program} {w:World} {K:PySem.W.Frag} {tg:Expr} (a it:Addr):F5 P w K tg (Jl K a) [it] it (fun i h=>h.IsTupleIter it a i) where
 mem:=by simp
 obj:=fun i h st b hb=>by
  have e:b=it:=by simpa using hb
  subst e
  obtain ⟨o,e,c,d⟩:=st
  exact ⟨o,e,fun v z=>by rw [d] at z;cases z⟩
 keep:=fun i h h' st k=>st.at fun o e=>k it (by simp) o e
 item:=by
  intro X hP hw hK hc i pins s σ H E I hf st hg
  subst hP hw hK
  obtain ⟨xs,x,hq,hx⟩:=hg
  obtain ⟨its,rv,p,hz⟩:=I.tuple hq
  obtain ⟨u,hu,ru⟩:=rv.get hx
  obtain ⟨f0,f1,f2,f3,f4,f5⟩:=hf it (by simp)
  refine wpAny_pyNext_tuple_item st (show s.heap.IsTuple a its.toArray from p) (x:=u) (by simpa using hu) fun h' st' sb=>?_
  have I1:Inv X pins σ H {s with heap:=h'}:=I.turned (t':=s.toks) (fun b o hb e=>(sb.2 b hb).trans e) f0 f1 f3 f4 f5
  obtain ⟨o,e,c,d⟩:=id st'
  exact ⟨u,rfl,L8 (s:={s with heap:=h'}) e c d (by decide) ⟨x,H,I1,ru,⟨rfl,fun ys hy=>by rw [I.tuple_inj hy hq];exact hx⟩,st',fun b hb=>(hf b hb).1⟩⟩
 done:=by
  intro X hP hw hK hc i pins s σ H E I hf st hg
  subst hP hw hK
  obtain ⟨xs,hq,hx⟩:=hg
  obtain ⟨its,rv,p,hz⟩:=I.tuple hq
  obtain ⟨f0,f1,f2,f3,f4,f5⟩:=hf it (by simp)
  have hl:=rv.length
  exact wpAny_pyNext_tuple_end (I.ok.hd hc) st (show s.heap.IsTuple a its.toArray from p) (by simp;omega) fun h' eb=>⟨rfl,I.turned (t':=s.toks) (fun b o hb e=>eb b o hb e) f0 f1 f3 f4 f5⟩
 self:=fun _ _ _ _ _ st h=>wpAny_pyIter_tupleiter st h
theorem UC {P:Program} {w:World} {K:PySem.W.Frag} {tg:Expr} (it:Addr) (lo:Int) (n:Nat):F5 P w K tg (Jm lo n) [it] it (fun i h=>IsRangeIter h it (lo+(i:Nat)*1) ((n:Int) - (i:Nat)) 1) where
 mem:=by simp
 obj:=fun i h st b hb=>by
  have e:b=it:=by simpa using hb
  subst e
  exact ⟨_,st,fun v z=>by
   have z':Data.fields _=Data.cell v:=z
   cases z'⟩
 keep:=fun i h h' st k=>k it (by simp) _ st
 item:=by
  intro X hP hw hK hc i pins s σ H E I hf st hg
  subst hP hw hK
  obtain ⟨f0,f1,f2,f3,f4,f5⟩:=hf it (by simp)
  have W:=Walks.range (prog:=X.prog) (w:=X.w) (I.ok.hd hc) it lo 1 n
  refine W.item i s _ _ hg st fun v h' tk hv st' kk=>?_
  obtain ⟨t,rfl⟩:=hv
  have I1:Inv X pins σ H {s with heap:=h',toks:=tk}:=I.turned (fun b o hb e=>kk b o (by simpa using hb) e) f0 f1 f3 f4 f5
  refine ⟨_,rfl,L8 (s:={s with heap:=h',toks:=tk}) (n:="range_iterator") st' rfl rfl (by decide) ⟨.int (lo+i),H,I1,⟨t,?_⟩,⟨rfl,rfl⟩,st',fun b hb=>(hf b hb).1⟩⟩
  rw [Int.mul_one]
 done:=by
  intro X hP hw hK hc i pins s σ H E I hf st hg
  subst hP hw hK
  obtain ⟨f0,f1,f2,f3,f4,f5⟩:=hf it (by simp)
  exact wpAny_pyNext_range_end (I.ok.hd hc) st (by have:n≤i:=hg;omega) fun h' eb=>⟨rfl,I.turned (t':=s.toks) (fun b o hb e=>eb b o hb e) f0 f1 f3 f4 f5⟩
 self:=fun _ _ _ _ _ st h=>wpAny_pyIter_rangeiter st h
section
variable {X:Cx} {tg:Expr}
theorem O7 {pins:List (Addr×Obj)} {σ:St} {H:Hp} {s:Shared} {R:It→Hp→Prop} {E:Value→Shared→Prop} {lo hi:Int} {t u v:Tok} {tk:Nat} (I:Inv X pins σ H s) (h1:-(2^62)≤lo) (h2:lo<2^62) (h3:-(2^62)≤hi) (h4:hi<2^62)
 (q:R (Jm lo (hi - lo).toNat) H):wpAny (model X.prog X.w) X.A (pyIter (.ref s.heap.objs.size)) (L6 X pins σ tg R) E {s with heap:=s.heap.push {cls:=.type "range",data:=.fields #[.int lo t,.int hi u,.int 1 v]},toks:=tk}:=by
 refine wpAny_pyIter_range (IsRange.new ..) (small_one h1 h2 h3 h4) ?_
 have I1:Inv X pins σ H {s with heap:=s.heap.push {cls:=.type "range",data:=.fields #[.int lo t,.int hi u,.int 1 v]},toks:=tk}:=I.kept fun b o e=>AY _ e
 refine ⟨(s.heap.push {cls:=.type "range",data:=.fields #[.int lo t,.int hi u,.int 1 v]}).objs.size,[(s.heap.push {cls:=.type "range",data:=.fields #[.int lo t,.int hi u,.int 1 v]}).objs.size],_,_,H,rfl,
  I1.kept (t':=tk) fun b o e=>AY _ e,UC _ lo (hi - lo).toNat,?_,fun b hb=>?_,q⟩
 ·have e1:lo+((0:Nat):Int)*1=lo:=by simp
  have e2:(((hi - lo).toNat:Nat):Int) - ((0:Nat):Int)=Builtin.Range.rangeSize lo hi 1:=by rw [rangeSize_one];split<;>omega
  show IsRangeIter _ _ (lo+((0:Nat):Int)*1) ((((hi - lo).toNat:Nat):Int) - ((0:Nat):Int)) 1
  rw [e1,e2]
  exact BK _ rfl
 ·have e:b=(s.heap.push {cls:=.type "range",data:=.fields #[.int lo t,.int hi u,.int 1 v]}).objs.size:=by simpa using hb
  subst e
  exact I1.fpOk (AV _) (I1.hok.fresh (AV _))
def UD (ta:TA):TI:=fun σ H R=>ta σ H fun vs H1=>∃j:Int,vs=[.int j]∧-(2^62)≤j∧j<2^62∧R (Jm 0 j.toNat) H1
def UE (ta:TA):TI:=fun σ H R=>ta σ H fun vs H1=>∃i j:Int,vs=[.int i,.int j]∧(-(2^62)≤i∧i<2^62∧-(2^62)≤j∧j<2^62)∧R (Jm i (j - i).toNat) H1
theorem UF {a:Expr} {ta:TA} {p pos:Pos} (hg:Gl X "range") (hm:X.mg "range"=none) (ha:PA X [a] ta) (hs:starEach [a] X.env=[(false,eval a X.env)]:=by rfl):PI X tg (.Call (.Name "range" p) [a] [] pos) (UD ta):=by
 intro pins s σ H R I h
 refine Call_ (GC I hg hm boot_range (PyProof.Rows.callWith_type1 (Au (ha pos pins s σ H _ I h) fun us s1 z37_=>?_) hs rfl))
 obtain ⟨vs,H1,I1,r1,q1⟩:=z37_
 obtain ⟨j,e,q1,q2,q⟩:=q1
 subst e
 cases r1 with
 |cons r rr=>
  cases rr
  obtain ⟨t,rfl⟩:=r
  exact call_range_1 (O7 I1 (by omega) (by omega) q1 q2 (by simpa using q))
theorem UG {a b:Expr} {ta:TA} {p pos:Pos} (hg:Gl X "range") (hm:X.mg "range"=none) (ha:PA X [a,b] ta) (hs:starEach [a,b] X.env=[(false,eval a X.env),(false,eval b X.env)]:=by rfl) (hs2:starEach [b] X.env=[(false,eval b X.env)]:=by rfl):
 PI X tg (.Call (.Name "range" p) [a,b] [] pos) (UE ta):=by
 intro pins s σ H R I h
 refine Call_ (GC I hg hm boot_range (PyProof.Rows.callWith_type1 (Au (ha pos pins s σ H _ I h) fun us s1 ⟨vs,H1,I1,r1,q1⟩=>?_) (by rw [hs,hs2]) (by rw [hs2];rfl)))
 obtain ⟨i,j,e,⟨q1,q2,q3,q4⟩,q⟩:=q1
 subst e
 cases r1 with
 |cons r rr=>
  cases rr with
  |cons r' rr=>
   cases rr
   obtain ⟨t,rfl⟩:=r
   obtain ⟨t',rfl⟩:=r'
   exact call_range_2 (O7 I1 q1 q2 q3 q4 q)
def UH (wi:TI) (g:TG) (tb:TS):TS:=fun D σ H=>wi σ H fun J H1=>∃W:Nat→Nat→St→Hp→Prop,(∃m,W 0 m σ H1)∧∀i m σ H,W i m σ H→
 (J.stop i H∧D.nx σ H)∨(J.go i H∧∃N:St→Hp→Prop,(∀σ' H',N σ' H'→∃m',m' < m∧W (i+1) m' σ' H')∧∀x H',J.yld i H x H'→g x σ H' fun σ2 H2=>tb {D with nx:=N,ct:=N,bk:=D.nx} σ2 H2)
def F6 (fp:List Addr) (h:Heap):List (Addr×Obj):=fp.filterMap fun b=>(h.get? b).map fun o=>(b,o)
theorem Jn {fp:List Addr} {h:Heap} {b:Addr} {o:Obj} (hb:b∈fp) (e:h.get? b=some o):(b,o)∈F6 fp h:=List.mem_filterMap.mpr ⟨b,hb,by rw [e];rfl⟩
theorem O8 {fp:List Addr} {h:Heap} {p:Addr×Obj} (hp:p∈F6 fp h):p.1∈fp∧h.get? p.1=some p.2:=by
 obtain ⟨b,hb,e⟩:=List.mem_filterMap.mp hp
 cases q:h.get? b with
 |none=>rw [q] at e;cases e
 |some o=>
  rw [q] at e
  have e':(b,o)=p:=Option.some.inj e
  subst e'
  exact ⟨hb,q⟩
theorem Inv.pinned {pins:List (Addr×Obj)} {σ:St} {H:Hp} {s:Shared} {fp:List Addr} (I:Inv X pins σ H s) (hf:∀b∈fp,CW X pins H b) (ho:∀b∈fp,∃o,s.heap.get? b=some o∧∀v,o.data≠.cell v):Inv X (pins++F6 fp s.heap) σ H s:=
 I.pins_of fun p hp=>(qaV.mp hp).elim (fun z=>I.pin p (BJ _ z)) fun z=>by
  obtain ⟨hb,e⟩:=O8 z
  obtain ⟨f0,f1,f2,_⟩:=hf p.1 hb
  obtain ⟨o,e',d⟩:=ho p.1 hb
  rw [e] at e';cases e'
  exact ⟨e,f0,f1,f2,d⟩
theorem Inv.unpinned {pins pl:List (Addr×Obj)} {σ:St} {H:Hp} {s:Shared} (I:Inv X (pins++pl) σ H s):Inv X pins σ H s:=I.pins_of fun p hp=>I.pin p (BJ _ (Gz _ hp))
inductive L9 (X:Cx) (pins:List (Addr×Obj)) (tn:Nat→Heap→Prop) (fp:List Addr) (W:Nat→Nat→St→Hp→Prop) (n:Nat) (s':Shared):Prop where
 |mk (i:Nat) (σ':St) (H':Hp) (ii:Inv X pins σ' H' s') (st:tn i s'.heap) (fr:∀b∈fp,H' b=none) (w:W i n σ' H'):L9 X pins tn fp W n s'
theorem UI {iter:Expr} {body:List Stmt} {wi:TI} {g:TG} {tb:TS} {pos:Pos} (hp:PassesOwn (model X.prog X.w) X.A X.env X.xe) (hc:X.calm=true) (hi:PI X tg iter wi) (hg:PG X tg g) (hb:D6 X body tb)
 (hs:∀x,foldedSetIterable iter X.env x=pure x:=by intro _;rfl):PS X (.For tg iter body [] pos) (UH wi g tb):=by
 intro pins s σ H D I h
 refine wpAny_For (Au (hi pins s σ H _ I h) fun v s1 h1=>Au h1 fun itv s2 h2=>?_) hs
 obtain ⟨it,fp,tn,J,H2,e,I2,T,Do,f2,W,⟨m0,w0⟩,turn⟩:=h2
 subst e
 have stat:∀{H':Hp},(∀b∈fp,H' b=none)→∀b∈fp,CW X pins H' b:=fun hn b hb=>⟨hn b hb,(f2 b hb).2⟩
 refine codeAny_forLoop_any (L9 X pins tn fp W) ?_ m0 ⟨0,σ,H2,I2,Do,fun b hb=>(f2 b hb).1,w0⟩
 rintro n s3 ⟨i,σ3,H3,I3,LV,fr3,w3⟩
 rcases turn i n σ3 H3 w3 with ⟨stop,qn⟩ |⟨go,N,hN,step⟩
 ·refine wpAny_passesOwn hp (Au (T.done X rfl rfl rfl hc i pins s3 σ3 H3 X.xe I3 (stat fr3) LV stop) fun r s4 z39_=>?_)
  obtain ⟨hr,I4⟩:=z39_
  subst hr
  exact wpAny_execs_nil ⟨σ3,H3,I4,qn⟩
 ·refine wpAny_passesOwn hp (Au (T.item X rfl rfl rfl hc i pins s3 σ3 H3 X.xe I3 (stat fr3) LV go) fun r s4 z40_=>?_)
  obtain ⟨u,hr,h4⟩:=z40_
  subst hr
  refine wpAny_passesOwn hp (Au h4 fun _ s5 z41_=>?_)
  obtain ⟨x,H5,I5,r5,y5,EU,fr5⟩:=z41_
  have I5':=I5.pinned (stat fr5) (T.obj _ _ EU)
  refine wpAny_passesOwn hp (Au (hg _ s5 σ3 H5 x u _ I5' r5 (step x H5 y5)) fun _ s6 z42_=>?_)
  obtain ⟨σ6,H6,I6,q6⟩:=z42_
  refine wpAny_passesOwn hp (Au (hb _ s6 σ6 H6 _ I6 q6) fun f s7 q7=>?_)
  have again:∀{σ7:St} {H7:Hp},Inv X (pins++F6 fp s5.heap) σ7 H7 s7→N σ7 H7→∃m,m<n∧L9 X pins tn fp W m s7:=fun {σ7 H7} I7 n7=>by
   obtain ⟨m',hm,w7⟩:=hN σ7 H7 n7
   refine ⟨m',hm,i+1,σ7,H7,I7.unpinned,T.keep _ _ _ EU fun b hb o e=>(I7.pin (b,o) (BJ _ (BJ _ (Jn hb e)))).1,fun b hb=>?_,w7⟩
   obtain ⟨o,e,d⟩:=T.obj _ _ EU b hb
   exact (I7.pin (b,o) (BJ _ (BJ _ (Jn hb e)))).2.1
  cases f with
  |next=>obtain ⟨σ7,H7,I7,n7⟩:=q7;exact again I7 n7
  |cont=>obtain ⟨σ7,H7,I7,n7⟩:=q7;exact again I7 n7
  |brk=>obtain ⟨σ7,H7,I7,q7⟩:=q7;exact ⟨σ7,H7,I7.unpinned,q7⟩
  |ret v=>obtain ⟨x7,σ7,H7,I7,r7,q7⟩:=q7;exact ⟨x7,σ7,H7,I7.unpinned,r7,q7⟩
end
abbrev R2:=V→V→Hp→VK→Prop
def OpR (X:Cx) (f:Value→Value→Sem Value) (r:R2):Prop:=
 ∀(pins:List (Addr×Obj)) (s:Shared) (σ:St) (H:Hp) (x y:V) (v u:Value) (Q:VK),Inv X pins σ H s→RelV x v→RelV y u→r x y H Q→
  wpAny (model X.prog X.w) X.A (f v u) (EP X pins σ Q) X.xe s
def Ma (X:Cx) (f:Value→Sem Value) (r:V→Hp→VK→Prop):Prop:=
 ∀(pins:List (Addr×Obj)) (s:Shared) (σ:St) (H:Hp) (x:V) (v:Value) (Q:VK),Inv X pins σ H s→RelV x v→r x H Q→
  wpAny (model X.prog X.w) X.A (f v) (EP X pins σ Q) X.xe s
def CY (X:Cx) (f:Value) (r:List V→Hp→VK→Prop):Prop:=
 ∀(pins:List (Addr×Obj)) (s:Shared) (σ:St) (H:Hp) (xs:List V) (us:List Value) (Q:VK),Inv X pins σ H s→Vals xs us→r xs H Q→
  wpAny (model X.prog X.w) X.A (call f us) (EP X pins σ Q) X.xe s
def UJ (X:Cx) (r:V→Hp→(Bool→Hp→Prop)→Prop):Prop:=
 ∀(pins:List (Addr×Obj)) (s:Shared) (σ:St) (H:Hp) (x:V) (v:Value) (Q:Bool→Hp→Prop),Inv X pins σ H s→RelV x v→r x H Q→
  wpAny (model X.prog X.w) X.A (truthy v) (TP X pins σ Q) X.xe s
def KJ (r:R2) (ta tb:TE):TE:=fun σ H Q=>ta σ H fun x H1=>tb σ H1 fun y H2=>r x y H2 Q
def O9 (r:V→Hp→VK→Prop) (ta:TE):TE:=fun σ H Q=>ta σ H fun x H1=>r x H1 Q
def rI (C:Int→Int→Prop) (g:Int→Int→V):R2:=fun x y H Q=>∃i j,x=.int i∧y=.int j∧C i j∧Q (g i j) H
def F7 (g:Int→Int→V):R2:=fun x y H Q=>∃i j,x=.int i∧y=.int j∧Q (g i j) H
def rU (g:Int→V):V→Hp→VK→Prop:=fun x H Q=>∃i,x=.int i∧Q (g i) H
section
variable {X:Cx} {a b c:Expr} {ta tb tc:TE} {pos:Pos}
theorem Mb (ha:PE X a ta) (hb:PE X b tb) {pins:List (Addr×Obj)} {s:Shared} {σ:St} {H:Hp} {R:V→V→Hp→Prop} (I:Inv X pins σ H s)
 (h:ta σ H fun x H1=>tb σ H1 fun y H2=>R x y H2) {Q:Value→Shared→Prop} {f:Value→Value→Sem Value}
 (hf:∀v u s2 x y H2,Inv X pins σ H2 s2→RelV x v→RelV y u→R x y H2→wpAny (model X.prog X.w) X.A (f v u) Q X.xe s2):
 wpAny (model X.prog X.w) X.A (eval a X.env) (fun v s₁=>wpAny (model X.prog X.w) X.A (eval b X.env) (fun u s₂=>wpAny (model X.prog X.w) X.A (f v u) Q X.xe s₂) X.xe s₁) X.xe s:=by
 refine Au (ha pins s σ H _ I h) fun v s1 z44_=>?_
 obtain ⟨x,H1,I1,r1,q1⟩:=z44_
 refine Au (hb pins s1 σ H1 _ I1 q1) fun u s2 z45_=>?_
 obtain ⟨y,H2,I2,r2,q2⟩:=z45_
 exact hf v u s2 x y H2 I2 r1 r2 q2
theorem UK {op:Operator} {r:R2} (ho:OpR X (binaryOp op) r) (ha:PE X a ta) (hb:PE X b tb):PE X (.BinOp a op b pos) (KJ r ta tb):=by
 intro pins s σ H Q I h
 exact wpAny_BinOp (Mb ha hb I h fun v u s2 x y H2 I2 rx ry q=>ho pins s2 σ H2 x y v u Q I2 rx ry q)
theorem Pa {op:UnaryOp} {r:V→Hp→VK→Prop} (ho:Ma X (unaryOp op) r) (ha:PE X a ta):PE X (.UnaryOp op a pos) (O9 r ta):=by
 intro pins s σ H Q I h
 exact UnaryOp_ (Au (ha pins s σ H _ I h) fun v s1 z46_=>by obtain ⟨x,H1,I1,r1,q1⟩:=z46_;exact (ho pins s1 σ H1 x v Q I1 r1 q1))
theorem KL {f:Value→Value→Sem Value} {C:Int→Int→Prop} {g:Int→Int→Int}
 (rule:∀(i j:Int) (t u:Tok) (s:Shared) (Q:Value→Shared→Prop) (E:Value→Shared→Prop),C i j→Q (.int (g i j) s.toks) {s with toks:=s.toks+1}→wpAny (model X.prog X.w) X.A (f (.int i t) (.int j u)) Q E s):
 OpR X f (rI C fun i j=>.int (g i j)):=by
 intro pins s σ H x y v u Q I rx ry h
 obtain ⟨i,j,rfl,rfl,hc,q⟩:=h
 obtain ⟨t,rfl⟩:=rx
 obtain ⟨t',rfl⟩:=ry
 exact rule i j t t' s _ _ hc ⟨.int (g i j),H,I.tok _,⟨_,rfl⟩,q⟩
theorem Pb {f:Value→Value→Sem Value} {g:Int→Int→Int}
 (rule:∀(i j:Int) (t u:Tok) (s:Shared) (Q:Value→Shared→Prop) (E:Value→Shared→Prop),Q (.int (g i j) s.toks) {s with toks:=s.toks+1}→wpAny (model X.prog X.w) X.A (f (.int i t) (.int j u)) Q E s):
 OpR X f (F7 fun i j=>.int (g i j)):=by
 intro pins s σ H x y v u Q I rx ry h
 obtain ⟨i,j,rfl,rfl,q⟩:=h
 obtain ⟨t,rfl⟩:=rx
 obtain ⟨t',rfl⟩:=ry
 exact rule i j t t' s _ _ ⟨.int (g i j),H,I.tok _,⟨_,rfl⟩,q⟩
theorem Mc {f:Value→Value→Sem Value} {g:Int→Int→Bool}
 (rule:∀(i j:Int) (t u:Tok) (s:Shared) (Q:Value→Shared→Prop) (E:Value→Shared→Prop),Q (.bool (g i j)) s→wpAny (model X.prog X.w) X.A (f (.int i t) (.int j u)) Q E s):
 OpR X f (F7 fun i j=>.bl (g i j)):=by
 intro pins s σ H x y v u Q I rx ry h
 obtain ⟨i,j,rfl,rfl,q⟩:=h
 obtain ⟨t,rfl⟩:=rx
 obtain ⟨t',rfl⟩:=ry
 exact rule i j t t' s _ _ ⟨.bl (g i j),H,I,rfl,q⟩
def Pc (i j:Int):Prop:=0<j∧j<1073741824
def Ik (i j:Int):Prop:=0≤j∧j≤1000000∧i.natAbs<2^64
def CMul (i j:Int):Prop:=(-(2^64)<i∧i<2^64)∨(-(2^64)<j∧j<2^64)
theorem CMul.ok {i j:Int} (h:CMul i j):IntMulOk i j:=by
 rcases h with ⟨h1,h2⟩ |⟨h1,h2⟩
 ·exact .of_left (intBits_le_64 h1 h2)
 ·exact .of_right (intBits_le_64 h1 h2)
theorem op_add:OpR X (binaryOp .Add) (F7 fun i j=>.int (i+j)):=Pb fun _ _ _ _ _ _ _ q=>add_int q
theorem UL:OpR X (binaryOp .Sub) (F7 fun i j=>.int (i - j)):=Pb fun _ _ _ _ _ _ _ q=>sub_int q
theorem UM:OpR X (binaryOp .Mod) (rI (fun _ j=>0<j) fun i j=>.int (i % j)):=KL fun i j _ _ _ _ _ hc q=>by
 have h1:(0:Int)<j:=hc
 exact mod_int' (by omega) (by rw [Int.fmod_eq_emod_of_nonneg i (by omega)];exact q)
theorem UN:OpR X (binaryOp .LShift) (rI Ik fun i j=>.int (i*2^j.toNat)):=KL fun _ _ _ _ _ _ _ hc q=>lshift_int_small hc.1 hc.2.1 hc.2.2 q
theorem UO {f:Value→Sem Value} {g:Int→Int}
 (rule:∀(i:Int) (t:Tok) (s:Shared) (Q:Value→Shared→Prop) (E:Value→Shared→Prop),Q (.int (g i) s.toks) {s with toks:=s.toks+1}→wpAny (model X.prog X.w) X.A (f (.int i t)) Q E s):
 Ma X f (rU fun i=>.int (g i)):=by
 intro pins s σ H x v Q I rx h
 obtain ⟨i,rfl,q⟩:=h
 obtain ⟨t,rfl⟩:=rx
 exact rule i t s _ _ ⟨.int (g i),H,I.tok _,⟨_,rfl⟩,q⟩
theorem Pd:Ma X (unaryOp .USub) (rU fun i=>.int (-i)):=UO fun _ _ _ _ _ q=>neg_int q
end
def Pe:V→V→Bool
 |.non,.non=>true |.non,.int _=>true |.int _,.non=>true |.non,.bl _=>true |.bl _,.non=>true |.non,.str _=>true |.str _,.non=>true
 |.int _,.int _=>true |.bl _,.bl _=>true |.str _,.str _=>true |.byt _,.byt _=>true
 |.int _,.str _=>true |.str _,.int _=>true |.bl _,.str _=>true |.str _,.bl _=>true
 |_,_=>false
def UP:R2:=fun x y H Q=>Pe x y=true∧Q (.bl (decide (x=y))) H
def UQ:R2:=fun x y H Q=>Pe x y=true∧Q (.bl (!decide (x=y))) H
theorem Pf {i j:Int}:decide (V.int i=V.int j)=(i==j):=by
 rw [qb1]
 simp
theorem Pg {i j:Bool}:decide (V.bl i=V.bl j)=(i==j):=by
 rw [qb1]
 simp
theorem KM {i j:Str}:decide (V.str i=V.str j)=(i==j):=by
 rw [qb1]
 simp
theorem Ph {i j:Array UInt8}:decide (V.byt i=V.byt j)=(i.toList==j.toList):=by
 rw [qb1]
 cases i
 cases j
 simp
section
variable {X:Cx} {a b c:Expr} {ta tb tc:TE} {pos:Pos}
theorem Br {pins:List (Addr×Obj)} {σ:St} {H:Hp} {s:Shared} {Q:VK} {k k':Bool} (I:Inv X pins σ H s) (q:Q (.bl k) H) (e:k=k'):EP X pins σ Q (.bool k') s:=by
 subst e
 exact ⟨.bl k,H,I,rfl,q⟩
theorem op_eq:OpR X (compareOp .Eq) UP:=by
 intro pins s σ H x y v u Q I rx ry h
 obtain ⟨hs,q⟩:=h
 cases x with
 |non=>
  cases rx
  cases y with
  |non=>cases ry;exact PySem.EqNone.eq_none_none (Br I q (by simp))
  |bl j=>cases ry;exact PySem.EqNone.eq_none_bool (Br I q (by simp))
  |int j=>obtain ⟨t',rfl⟩:=ry;exact PySem.EqNone.eq_none_int (Br I q (by simp))
  |str j=>obtain ⟨t',rfl⟩:=ry;exact PySem.EqNone.eq_none_str (Br I q (by simp))
  |_=>exact absurd (show false=true from hs) Bu
 |bl i=>
  cases rx
  cases y with
  |non=>cases ry;exact PySem.EqNone.eq_bool_none (Br I q (by simp))
  |bl j=>cases ry;exact eq_bool (Br I q Pg)
  |str j=>obtain ⟨t',rfl⟩:=ry;exact PySem.EqMixed.eq_bool_str (Br I q (by simp))
  |_=>exact absurd (show false=true from hs) Bu
 |int i=>
  obtain ⟨t,rfl⟩:=rx
  cases y with
  |non=>cases ry;exact PySem.EqNone.eq_int_none (Br I q (by simp))
  |int j=>obtain ⟨t',rfl⟩:=ry;exact eq_int (Br I q Pf)
  |str j=>obtain ⟨t',rfl⟩:=ry;exact PySem.EqMixed.eq_int_str (Br I q (by simp))
  |_=>exact absurd (show false=true from hs) Bu
 |str i=>
  obtain ⟨t,rfl⟩:=rx
  cases y with
  |non=>cases ry;exact PySem.EqNone.eq_str_none (Br I q (by simp))
  |bl j=>cases ry;exact PySem.EqMixed.eq_str_bool (Br I q (by simp))
  |int j=>obtain ⟨t',rfl⟩:=ry;exact PySem.EqMixed.eq_str_int (Br I q (by simp))
  |str j=>obtain ⟨t',rfl⟩:=ry;exact eq_str (Br I q KM)
  |_=>exact absurd (show false=true from hs) Bu
 |byt i=>
  obtain ⟨t,rfl⟩:=rx
  cases y with
  |byt j=>obtain ⟨t',rfl⟩:=ry;exact PySem.W.eq_bytes (Br I q Ph)
  |_=>exact absurd (show false=true from hs) Bu
 |_=>cases y<;>exact absurd (show false=true from hs) Bu
theorem op_ne:OpR X (compareOp .NotEq) UQ:=by
 intro pins s σ H x y v u Q I rx ry h
 obtain ⟨hs,q⟩:=h
 cases x with
 |non=>
  cases rx
  cases y with
  |non=>cases ry;exact PySem.EqNone.ne_none_none (Br I q (by simp))
  |bl j=>cases ry;exact PySem.EqNone.ne_none_bool (Br I q (by simp))
  |int j=>obtain ⟨t',rfl⟩:=ry;exact PySem.EqNone.ne_none_int (Br I q (by simp))
  |str j=>obtain ⟨t',rfl⟩:=ry;exact PySem.EqNone.ne_none_str (Br I q (by simp))
  |_=>exact absurd (show false=true from hs) Bu
 |bl i=>
  cases rx
  cases y with
  |non=>cases ry;exact PySem.EqNone.ne_bool_none (Br I q (by simp))
  |bl j=>cases ry;exact ne_bool (Br I q (congrArg not Pg))
  |str j=>obtain ⟨t',rfl⟩:=ry;exact PySem.EqMixed.ne_bool_str (Br I q (by simp))
  |_=>exact absurd (show false=true from hs) Bu
 |int i=>
  obtain ⟨t,rfl⟩:=rx
  cases y with
  |non=>cases ry;exact PySem.EqNone.ne_int_none (Br I q (by simp))
  |int j=>obtain ⟨t',rfl⟩:=ry;exact ne_int (Br I q (congrArg not Pf))
  |str j=>obtain ⟨t',rfl⟩:=ry;exact PySem.EqMixed.ne_int_str (Br I q (by simp))
  |_=>exact absurd (show false=true from hs) Bu
 |str i=>
  obtain ⟨t,rfl⟩:=rx
  cases y with
  |non=>cases ry;exact PySem.EqNone.ne_str_none (Br I q (by simp))
  |bl j=>cases ry;exact PySem.EqMixed.ne_str_bool (Br I q (by simp))
  |int j=>obtain ⟨t',rfl⟩:=ry;exact PySem.EqMixed.ne_str_int (Br I q (by simp))
  |str j=>obtain ⟨t',rfl⟩:=ry;exact ne_str (Br I q (congrArg not KM))
  |_=>exact absurd (show false=true from hs) Bu
 |byt i=>
  obtain ⟨t,rfl⟩:=rx
  cases y with
  |byt j=>obtain ⟨t',rfl⟩:=ry;exact PySem.W.ne_bytes (Br I q (congrArg not Ph))
  |_=>exact absurd (show false=true from hs) Bu
 |_=>cases y<;>exact absurd (show false=true from hs) Bu
theorem UR:OpR X (compareOp .Lt) (F7 fun i j=>.bl (decide (i<j))):=Mc fun _ _ _ _ _ _ _ q=>lt_int q
theorem US:OpR X (compareOp .LtE) (F7 fun i j=>.bl (decide (i≤j))):=Mc fun _ _ _ _ _ _ _ q=>le_int q
theorem UT:OpR X (compareOp .Gt) (F7 fun i j=>.bl (decide (j<i))):=Mc fun _ _ _ _ _ _ _ q=>gt_int q
theorem OpR.or {f:Value→Value→Sem Value} {r r':R2} (h:OpR X f r) (h':OpR X f r'):OpR X f (fun x y H Q=>r x y H Q∨r' x y H Q):=by
 intro pins s σ H x y v u Q I rx ry q
 rcases q with q |q
 ·exact h pins s σ H x y v u Q I rx ry q
 ·exact h' pins s σ H x y v u Q I rx ry q
theorem BC (b:Expr) {op:CmpOp} (h:op≠.In:=by decide) (h2:op≠.NotIn:=by decide):behindInMarks op b=false:=by
 have e1:(op==CmpOp.In)=false:=by cases op<;>first |rfl |exact absurd rfl h
 have e2:(op==CmpOp.NotIn)=false:=by cases op<;>first |rfl |exact absurd rfl h2
 cases b with
 |Set elts k p=>
  show (k==0&&(op==.In||op==.NotIn)&&elts.all (constantsAlone 8))=false
  rw [e1,e2,Bool.or_self,Bool.and_false,Bool.false_and]
 |_=>rfl
theorem UU {op:CmpOp} {r:R2} (ho:OpR X (compareOp op) r) (ha:PE X a ta) (hb:PE X b tb) (hm:behindInMarks op b=false):PE X (.Compare a [op] [b] pos) (KJ r ta tb):=by
 intro pins s σ H Q I h
 exact wpAny_Compare1 (Mb ha hb I h fun v u s2 x y H2 I2 rx ry q=>ho pins s2 σ H2 x y v u Q I2 rx ry q) hm
def Pi (t:TE):TT:=fun σ H Q=>t σ H fun x H'=>∃k,x=.bl k∧Q k H'
theorem UV {op:CmpOp} {r:R2} (ho:OpR X (compareOp op) r) (ha:PE X a ta) (hb:PE X b tb) (hm:behindInMarks op b=false):PT X (.Compare a [op] [b] pos) (Pi (KJ r ta tb)):=by
 intro pins s σ H Q I h
 refine wpAny_isTrue_Compare1 (Au (ha pins s σ H _ I h) fun v s1 ⟨x,H1,I1,r1,q1⟩=>Au (hb pins s1 σ H1 _ I1 q1) ?_) hm
 rintro u s2 ⟨y,H2,I2,r2,q2⟩
 refine Au (ho pins s2 σ H2 x y v u _ I2 r1 r2 q2) fun c s3 z49_=>?_
 obtain ⟨z,H3,I3,r3,k,e,q3⟩:=z49_
 subst e
 cases r3
 exact wpAny_truthy_bool ⟨H3,I3,q3⟩
def Md (r r':R2) (ta tb tc:TE):TE:=fun σ H Q=>ta σ H fun x H1=>tb σ H1 fun y H2=>r x y H2 fun z H3=>∃k,z=.bl k∧
 (if k=true then tc σ H3 fun w' H4=>r' y w' H4 Q else Q (.bl false) H3)
theorem UW {op op':CmpOp} {r r':R2} (ho:OpR X (compareOp op) r) (ho':OpR X (compareOp op') r') (ha:PE X a ta) (hb:PE X b tb) (hc:PE X c tc)
 (hm:lastMarks [op,op'] [b,c]=false:=by with_unfolding_all rfl):PE X (.Compare a [op,op'] [b,c] pos) (Md r r' ta tb tc):=by
 intro pins s σ H Q I h
 refine Compare_chain (Au (ha pins s σ H _ I h) fun v s1 ⟨x,H1,I1,r1,q1⟩=>chain_link (Au (hb pins s1 σ H1 _ I1 q1) ?_)) hm
 rintro u s2 ⟨y,H2,I2,r2,q2⟩
 refine Au (ho pins s2 σ H2 x y v u _ I2 r1 r2 q2) fun d s3 z52_=>?_
 obtain ⟨z,H3,I3,r3,k,e,q3⟩:=z52_
 subst e
 cases r3
 refine wpAny_truthy_bool ?_
 cases k with
 |false=>exact ite_ff ⟨.bl false,H3,I3,rfl,q3⟩
 |true=>exact ite_tt (chain_last (Au (hc pins s3 σ H3 _ I3 q3) fun w' s4 z53_=>by obtain ⟨z',H4,I4,r4,q4⟩:=z53_;exact (ho' pins s4 σ H4 y z' u w' Q I4 r2 r4 q4)))
theorem UX {op op':CmpOp} {r r':R2} (ho:OpR X (compareOp op) r) (ho':OpR X (compareOp op') r') (ha:PE X a ta) (hb:PE X b tb) (hc:PE X c tc)
 (hm:lastMarks [op,op'] [b,c]=false:=by with_unfolding_all rfl):PT X (.Compare a [op,op'] [b,c] pos) (Pi (Md r r' ta tb tc)):=by
 intro pins s σ H Q I h
 refine isTrue_chain (Au (ha pins s σ H _ I h) fun v s1 ⟨x,H1,I1,r1,q1⟩=>test_link (Au (hb pins s1 σ H1 _ I1 q1) ?_)) hm
 rintro u s2 ⟨y,H2,I2,r2,q2⟩
 refine Au (ho pins s2 σ H2 x y v u _ I2 r1 r2 q2) fun d s3 z56_=>?_
 obtain ⟨z,H3,I3,r3,k,e,q3⟩:=z56_
 subst e
 cases r3
 refine wpAny_truthy_bool ?_
 cases k with
 |false=>
  obtain ⟨k',e',q'⟩:=q3
  cases e'
  exact ite_ff ⟨H3,I3,q'⟩
 |true=>
  refine ite_tt (test_last (Au (hc pins s3 σ H3 _ I3 q3) ?_))
  rintro w' s4 ⟨z',H4,I4,r4,q4⟩
  refine Au (ho' pins s4 σ H4 y z' u w' _ I4 r2 r4 q4) fun d' s5 z58_=>?_
  obtain ⟨z2,H5,I5,r5,k2,e2,q5⟩:=z58_
  subst e2
  cases r5
  exact wpAny_truthy_bool ⟨H5,I5,q5⟩
def Me (K:PySem.W.Frag) (x:V) (H:Hp) (k:Bool):Prop:=
 match x with
 |.non=>k=false
 |.bl b=>k=b
 |.int i=>k=(i != 0)
 |.str y=>y.length≤sizeLine∧k=((y.length:Int) != 0)
 |.byt y=>y.size≤sizeLine∧k=((y.size:Int) != 0)
 |.ref p=>(∃xs,SqL K H p xs∧k=!xs.isEmpty)∨(∃xs,SqT K H p xs∧k=!xs.isEmpty)
 |_=>False
theorem Pj {xs:List V} {its:List Value} (r:Vals xs its):(!its.toArray.isEmpty)=!xs.isEmpty:=by
 cases r<;>simp
theorem Jo:(sizeLine:Nat)<2^63:=by rw [sizeLine_eq];decide
theorem UY:UJ X (fun x H Q=>∃k,Me X.K x H k∧Q k H):=by
 intro pins s σ H x v Q I rx h
 obtain ⟨k,e,q⟩:=h
 have hl:=Jo
 have hs:sizeLine=16777216:=sizeLine_eq
 cases x with
 |non=>
  cases rx
  have e':k=false:=e
  subst e'
  exact truthy_none ⟨H,I,q⟩
 |bl b=>
  cases rx
  have e':k=b:=e
  subst e'
  exact wpAny_truthy_bool ⟨H,I,q⟩
 |int i=>
  obtain ⟨t,rfl⟩:=rx
  have e':k=(i != 0):=e
  subst e'
  exact PySem.P.truthy_int ⟨H,I,q⟩
 |str y=>
  obtain ⟨t,rfl⟩:=rx
  obtain ⟨hy,e'⟩:y.length≤sizeLine∧k=((y.length:Int) != 0):=e
  subst e'
  exact PySem.P.truthy_str (by omega) ⟨H,I.tok _,q⟩
 |byt y=>
  obtain ⟨t,rfl⟩:=rx
  obtain ⟨hy,e'⟩:y.size≤sizeLine∧k=((y.size:Int) != 0):=e
  subst e'
  exact PySem.W.truthy_bytes (by omega) ⟨H,I.tok _,q⟩
 |ref p=>
  cases rx
  have e':(∃xs,SqL X.K H p xs∧k=!xs.isEmpty)∨(∃xs,SqT X.K H p xs∧k=!xs.isEmpty):=e
  rcases e' with ⟨xs,hx,e'⟩ |⟨xs,hx,e'⟩
  ·subst e'
   obtain ⟨its,r,pl,hz⟩:=I.list hx
   have hlen:=r.length
   exact wpAny_truthy_list pl.isList (by simp only [Ba];omega) ⟨H,I.tok _,by rw [Pj r];exact q⟩
  ·subst e'
   obtain ⟨its,r,pl,hz⟩:=I.tuple hx
   have hlen:=r.length
   exact truthy_tuple pl (by simp only [Ba];omega) ⟨H,I.tok _,by rw [Pj r];exact q⟩
 |_=>exact (show False from e).elim
theorem UZ (ha:PE X a ta) (he:∀Fe,isTrue a X.env Fe=(do let v ←Fe;standAt a.pos;holding [v] (truthy v))):
 PT X a (fun σ H Q=>ta σ H fun x H'=>∃k,Me X.K x H' k∧Q k H'):=by
 intro pins s σ H Q I h
 exact isTrue_plain (Au (ha pins s σ H _ I h) fun v s1 z59_=>by obtain ⟨x,H1,I1,r1,q1⟩:=z59_;exact (UY pins s1 σ H1 x v Q I1 r1 q1)) (he _)
theorem U0:OpR X (binaryOp .Add) (fun x y H Q=>∃i j,x=.str i∧y=.str j∧i.length+j.length≤sizeLine∧Q (.str (i++j)) H):=by
 intro pins s σ H x y v u Q I rx ry h
 obtain ⟨i,j,rfl,rfl,hz,q⟩:=h
 obtain ⟨t,rfl⟩:=rx
 obtain ⟨t',rfl⟩:=ry
 exact add_str (fun t' tk=>⟨.str (i++j),H,I.tok _,⟨_,rfl⟩,q⟩) hz
theorem FE {x:V} {us:List Value} (r:Vals [x] us):∃u,us=[u]∧RelV x u:=by
 cases r with
 |cons r1 r2=>cases r2;exact ⟨_,rfl,r1⟩
theorem KN {x y:V} {us:List Value} (r:Vals [x,y] us):∃u w',us=[u,w']∧RelV x u∧RelV y w':=by
 cases r with
 |cons r1 r2=>
  cases r2 with
  |cons r3 r4=>cases r4;exact ⟨_,_,rfl,r1,r3⟩
theorem U1 (hc:X.calm=true):CY X (.builtin "max") (fun xs H Q=>∃i j,xs=[.int i,.int j]∧Q (.int (if j>i then j else i)) H):=by
 intro pins s σ H xs us Q I r h
 obtain ⟨i,j,rfl,q⟩:=h
 obtain ⟨u,w',rfl,⟨t,rfl⟩,⟨t',rfl⟩⟩:=KN r
 refine max_two_ints (I.ok.hd hc) fun h' tk k=>⟨_,H,I.kept k,?_,q⟩
 by_cases hj:j>i
 ·rw [if_pos hj,if_pos hj];exact ⟨_,rfl⟩
 ·rw [if_neg hj,if_neg hj];exact ⟨_,rfl⟩
theorem U2 (hc:X.calm=true):CY X (.builtin "min") (fun xs H Q=>∃i j,xs=[.int i,.int j]∧Q (.int (if j<i then j else i)) H):=by
 intro pins s σ H xs us Q I r h
 obtain ⟨i,j,rfl,q⟩:=h
 obtain ⟨u,w',rfl,⟨t,rfl⟩,⟨t',rfl⟩⟩:=KN r
 refine min_two_ints (I.ok.hd hc) fun h' tk k=>⟨_,H,I.kept k,?_,q⟩
 by_cases hj:j<i
 ·rw [if_pos hj,if_pos hj];exact ⟨_,rfl⟩
 ·rw [if_neg hj,if_neg hj];exact ⟨_,rfl⟩
theorem U3:CY X (.type "int") (fun xs H Q=>(∃i,xs=[.int i]∧Q (.int i) H)∨∃k,xs=[.bl k]∧Q (.int (if k then 1 else 0)) H):=by
 intro pins s σ H xs us Q I r h
 rcases h with ⟨i,rfl,q⟩ |⟨k,rfl,q⟩
 ·obtain ⟨u,rfl,t,rfl⟩:=FE r
  exact call_int_int ⟨.int i,H,I,⟨_,rfl⟩,q⟩
 ·obtain ⟨u,rfl,r1⟩:=FE r
  cases r1
  exact call_int_bool ⟨.int (if k then 1 else 0),H,I.tok _,⟨_,rfl⟩,q⟩
end
section
variable {prog:Program} {w:World} {A:Around} {E:Value→Shared→Prop} {s:Shared} {K:PySem.W.Frag} {x dx C f:Addr} {mA:Str→Option Value} {name:Str} {v:Value}
end
section
variable {P:Program} {w:World} {H H':Hp} {h h':Heap} {a C dx:Addr} {fs fs':List (Str×V)}
end
section
variable {X:Cx} {pins:List (Addr×Obj)} {σ:St} {H:Hp} {s:Shared} {a C dx:Addr} {fs:List (Str×V)} {f:Str} {v:V} {A:Around} {E:Value→Shared→Prop}
end
section
variable {X:Cx} {o e value:Expr} {f:Str} {pos pos' tpos:Pos} {ta tv:TE}
end
section
variable {X:Cx} {pins:List (Addr×Obj)} {σ:St} {H:Hp} {s:Shared} {A:Around} {E:Value→Shared→Prop} {Q:Value→Shared→Prop} {c:Value} {b:Bool}
inductive El (K:PySem.W.Frag) (H:Hp):V→Value→Prop where
 |non:El K H .non (.type "NoneType")
 |bl (x:Bool):El K H (.bl x) (.type "bool")
 |int (i:Int):El K H (.int i) (.type "int")
 |str (x:Str):El K H (.str x) (.type "str")
 |flt (x:UInt64):El K H (.flt x) (.type "float")
 |lst {a:Addr} {xs:List V} (e:H a=some (.lst xs)):El K H (.ref a) (.type "list")
 |frz {a:Addr} {o:Obj} {xs:List V} (e:H a=some (.frz o (.lst xs))):El K H (.ref a) (.type "list")
 |tup {a:Addr} {xs:List V} (e:H a=some (.tup xs)):El K H (.ref a) (.type "tuple")
theorem U4 {x:V} {u t:Value} (I:Inv X pins σ H s) (rx:RelV x u) (ty:El X.K H x t) (e:PySem.W.kitOne X.K t c=some b) (h:∀tk,Q (.bool b) {s with toks:=tk}):
 wpAny (model X.prog X.w) A (call (.builtin "isinstance") [u,c]) Q E s:=by
 cases ty with
 |non=>cases (show u=Value.none from rx);exact PySem.W.kia_one PySem.W.kitx_none I.kIn True.intro e (fun z=>nomatch z) h
 |bl y=>cases (show u=Value.bool y from rx);exact PySem.W.kia_one PySem.W.kitx_bool I.kIn True.intro e (fun z=>nomatch z) h
 |int i=>obtain ⟨t,q⟩:=(show ∃t,u=Value.int i t from rx);cases q;exact PySem.W.kia_one PySem.W.kitx_int I.kIn True.intro e (fun z=>nomatch z) h
 |str y=>obtain ⟨t,q⟩:=(show ∃t,u=Value.str y t from rx);cases q;exact PySem.W.kia_one PySem.W.kitx_str I.kIn True.intro e (fun z=>nomatch z) h
 |flt y=>obtain ⟨t,q⟩:=(show ∃t,u=Value.float y t from rx);cases q;exact PySem.W.kia_one PySem.W.kitx_float I.kIn True.intro e (fun z=>nomatch z) h
 |@lst a xs ea=>
  cases (show u=Value.ref a from rx)
  obtain ⟨_,_,n,_,h1⟩:=(show ObjOk X.prog X.w H s.heap a (.lst xs) from I.hok a _ ea)
  exact PySem.W.kia_one PySem.W.kitx_list I.kIn ⟨_,h1,rfl⟩ e (fun z=>nomatch z) h
 |@frz a ob xs ea=>
  cases (show u=Value.ref a from rx)
  obtain ⟨_,_,_,n,_,h1⟩:=(show ObjOk X.prog X.w H s.heap a (.frz ob (.lst xs)) from I.hok a _ ea)
  exact PySem.W.kia_one PySem.W.kitx_list I.kIn ⟨_,h1,rfl⟩ e (fun z=>nomatch z) h
 |@tup a xs ea=>
  cases (show u=Value.ref a from rx)
  obtain ⟨_,_,_,p,_⟩:=(show ObjOk X.prog X.w H s.heap a (.tup xs) from I.hok a _ ea)
  obtain ⟨o,h1,h2,_⟩:=p
  exact PySem.W.kia_one PySem.W.kitx_tuple I.kIn ⟨o,h1,h2⟩ e (fun z=>nomatch z) h
end
structure Room (k:Nat) (A:Around):Prop where
 hd:A.handled=none
 dp:A.depth+3*k+5<recursionLimit
 un:A.units+16*k+200<cLine
 gd:A.guards=some []
theorem Room.mono {j k:Nat} {A:Around} (r:Room k A) (h:j≤k):Room j A:=⟨r.hd,by have:=r.dp;omega,by have:=r.un;omega,r.gd⟩
theorem Room.deeper {k:Nat} {A:Around} (r:Room (k+1) A) (env:Env):Room k (A.deeper env):=
 ⟨r.hd,by have:=r.dp;show A.depth+1+3*k+5<_;omega,by have:=r.un;show A.units+3+16*k+200<_;omega,r.gd⟩
theorem Room.depth {k:Nat} {A:Around} (r:Room k A):A.depth<recursionLimit:=by have:=r.dp;omega
theorem Room.units {k:Nat} {A:Around} (r:Room k A):A.units+64<cLine:=by have:=r.un;omega
def U5:TA:=fun _ H Q=>Q [] H
def U6 (ta:TE) (tr:TA):TA:=fun σ H Q=>ta σ H fun x H1=>tr σ H1 fun xs H2=>Q (x::xs) H2
section
variable {X:Cx} {e:Expr} {es:List Expr} {te:TE} {t:TA} {pos:Pos}
theorem U7:PA X [] U5:=fun _ _ _ _ H Q I h=>Calls.spliced_nil ⟨[],H,I,.nil,h⟩
theorem U8 (ha:PE X e te) (hr:PA X es t) (hs:starEach (e::es) X.env=(false,eval e X.env)::starEach es X.env:=by rfl):PA X (e::es) (U6 te t):=by
 intro pos pins s σ H Q I h
 rw [hs]
 show wpAny _ _ (spliced ((false,eval e X.env)::backTo pos (starEach es X.env))) _ _ s
 refine Calls.spliced_cons (Au (ha pins s σ H _ I h) fun u s1 z68_=>?_)
 obtain ⟨x,H1,I1,r1,q1⟩:=z68_
 exact Au (hr pos pins s1 σ H1 _ I1 q1) fun us s2 z69_=>by obtain ⟨xs,H2,I2,r2,q2⟩:=z69_;exact (⟨x::xs,H2,I2,.cons r1 r2,q2⟩)
def U9 (t:TA):TE:=fun σ H Q=>t σ H fun xs H1=>xs.length≤sizeLine∧∀p,H1 p=none→Q (.ref p) (Az H1 p (.tup xs))
def Va (t:TA):TE:=fun σ H Q=>t σ H fun xs H1=>xs.length≤sizeLine∧∀p,H1 p=none→Q (.ref p) (Az H1 p (.lst xs))
theorem Vb {x1} (h:PA X es t):PE X (.Tuple es x1 pos) (U9 t):=by
 intro pins s σ H Q I hq
 refine wpAny_Tuple_spliced (Au (h pos pins s σ H _ I hq) fun us s1 ⟨xs,H1,I1,r,z,q⟩=>⟨by rw [←r.length];exact z,?_⟩)
 have hf:H1 s1.heap.objs.size=none:=I1.hok.fresh (AV _)
 refine ⟨.ref s1.heap.objs.size,Az H1 s1.heap.objs.size (.tup xs),I1.laid (t':=s1.toks) (fun b u e=>AY _ e) (AV _) ?_,rfl,q _ hf⟩
 exact ⟨z,us,r,⟨_,BK _ rfl,rfl,_,rfl⟩,NoDict.new⟩
theorem Vc (h:PA X es t):PE X (.List es pos) (Va t):=by
 intro pins s σ H Q I hq
 refine wpAny_List_spliced (Au (h pos pins s σ H _ I hq) fun us s1 ⟨xs,H1,I1,r,z,q⟩=>⟨by rw [←r.length];exact z,?_⟩)
 have hf:H1 s1.heap.objs.size=none:=I1.hok.fresh (AV _)
 refine ⟨.ref s1.heap.objs.size,Az H1 s1.heap.objs.size (.lst xs),I1.laid (t':=s1.toks) (fun b u e=>AY _ e) (AV _) ?_,rfl,q _ hf⟩
 exact ⟨z,us,0,r,BK _ rfl⟩
end
abbrev Sp:=List V→Hp→VK→XK→Prop
abbrev Em:=List Env→Hp→Shared→XK→Value→Shared→Prop
structure Jp (P:Program) (w:World) (K:PySem.W.Frag) (mg:Str→Option Value) (base:Heap) (A:Around) (outer:List Env) (s:Shared) (H:Hp):Prop where
 frames:A.frames=some outer
 mod:Mod K mg base
 bs:∀b o,base.get? b=some o→s.heap.get? b=some o∧H b=none
 bsz:base.objs.size≤s.heap.objs.size
 funs:s.heap.FunFrames base outer
 frf:∀b∈frs outer,H b=none
 hok:HOk P w H s.heap
 bare:AllBare s.gens
inductive CE (outer:List Env) (P:Program) (w:World) (H:Hp) (s:Shared) (Q:VK) (u:Value) (s':Shared):Prop where
 |mk (v:V) (H':Hp) (os:s'.os=s.os) (bare:AllBare s'.gens) (un:Un (frs outer) [] H H' s.heap s'.heap) (hok:HOk P w H' s'.heap) (r:RelV v u) (q:Q v H'):CE outer P w H s Q u s'
def CR (CX:Em) (outer:List Env) (P:Program) (w:World) (H:Hp) (s:Shared) (Q:VK) (E:XK) (r:Result) (s':Shared):Prop:=
 match r with
 |.ok (.ret u)=>CE outer P w H s Q u s'
 |.ok _=>False
 |.error e=>CX outer H s E e s'
structure FnOk (P:Program) (w:World) (K:PySem.W.Frag) (mg:Str→Option Value) (base:Heap) (CX:Em) (k:Nat) (f:Addr) (fd:FuncData) (ps:List Str) (sp:Sp):Prop where
 len:∀vs H Q E,sp vs H Q E→vs.length=ps.length
 run:∀(A:Around) (outer:List Env) (s:Shared) (H:Hp) (args:Args) (us:List Value) (vs:List V) (Q:VK) (E:XK),Room k A→Jp P w K mg base A outer s H→BindsTo s fd args (ps.zip us)→Vals vs us→sp vs H Q E→
  codeAny (model P w) A (.call (.ref f) args) (CR CX outer P w H s Q E) s
theorem FnOk.mono {P:Program} {w:World} {K:PySem.W.Frag} {mg:Str→Option Value} {base:Heap} {CX:Em} {j k:Nat} {f:Addr} {fd:FuncData} {ps:List Str} {sp:Sp} (F:FnOk P w K mg base CX j f fd ps sp) (h:j≤k):
 FnOk P w K mg base CX k f fd ps sp:=⟨F.len,fun A outer s H args us vs Q E hr=>F.run A outer s H args us vs Q E (hr.mono h)⟩
theorem FnOk.imp {P:Program} {w:World} {K:PySem.W.Frag} {mg:Str→Option Value} {base:Heap} {CX:Em} {k:Nat} {f:Addr} {fd:FuncData} {ps:List Str} {sp sp':Sp} (F:FnOk P w K mg base CX k f fd ps sp)
 (h:∀vs H Q E,sp' vs H Q E→sp vs H Q E):FnOk P w K mg base CX k f fd ps sp':=
 ⟨fun vs H Q E q=>F.len vs H Q E (h _ _ _ _ q),fun A outer s H args us vs Q E hr he hb hv hs=>F.run A outer s H args us vs Q E hr he hb hv (h _ _ _ _ hs)⟩
section
variable {X:Cx} {pins:List (Addr×Obj)} {σ:St} {H:Hp} {s s':Shared}
theorem Inv.env0 (I:Inv X pins σ H s):Jp X.prog X.w X.K X.mg X.base X.A X.stack s H:=
 ⟨I.ok.frames,I.ok.mod,I.bs,B8 I.ok.bsz I.sz,I.stack,I.stkFree,I.hok,I.bare⟩
theorem Inv.after {Q:VK} {u:Value} (I:Inv X pins σ H s) (h:CE X.stack X.prog X.w H s Q u s'):EP X pins σ Q u s':=by
 obtain ⟨v,H',os,bare,un,hok,r,q⟩:=h
 obtain ⟨hh,g,d,t,os'⟩:=s'
 obtain rfl:os'=s.os:=os
 exact ⟨v,H',I.call (h':=hh) (g':=g) (d':=d) (t':=t) (ch:=[]) un hok bare (fun b z=>absurd z (by simp)),r,q⟩
end
def Vd (sp:Sp) (dvs:List V) (E:XK) (t:TA):TE:=fun σ H Q=>t σ H fun vs H1=>sp (vs++dvs) H1 Q E
def Binds (K:PySem.W.Frag) (fd:FuncData) (ps:List Str) (ds:List Value):Prop:=
 ∀(s:Shared) (us:List Value),K.In s.heap→(us++ds).length=ps.length→BindsTo s fd ⟨us,[]⟩ (ps.zip (us++ds))
theorem Binds.all {K:PySem.W.Frag} {fd:FuncData} {ps:List Str} (h:∀us:List Value,us.length=ps.length→bindArgs fd ⟨us,[]⟩=pure (ps.zip us)):Binds K fd ps []:=fun s us _ hl=>by
 rw [Jf] at hl ⊢
 exact .of_eq (h us hl)
def Il (CX:Em) (X:Cx) (E:XK):Prop:=∀(pins:List (Addr×Obj)) (σ:St) (H:Hp) (s:Shared) (e:Value) (s':Shared),Inv X pins σ H s→CX X.stack H s E e s'→X.xe e s'
section
variable {X:Cx} {CX:Em} {k:Nat} {f C:Addr} {fd:FuncData} {ps:List Str} {sp:Sp} {dvs:List V} {ds:List Value} {E:XK} {x m:Str} {p pos apos:Pos} {e o:Expr} {es:List Expr} {ta:TE} {t:TA}
theorem Ve {pins:List (Addr×Obj)} {σ:St} {H:Hp} {s:Shared} {Q:VK} {us:List Value} {vs:List V} (F:FnOk X.prog X.w X.K X.mg X.base CX k f fd ps sp) (hr:Room k X.A) (hb:Binds X.K fd ps ds) (hd:Vals dvs ds) (hx:Il CX X E)
 (I:Inv X pins σ H s) (r:Vals vs us) (h:sp (vs++dvs) H Q E):wpAny (model X.prog X.w) X.A (call (.ref f) us) (EP X pins σ Q) X.xe s:=by
 have r2:Vals (vs++dvs) (us++ds):=r.append hd
 have hl:(us++ds).length=ps.length:=by rw [←r2.length];exact F.len _ _ _ _ h
 refine wpAny_call (codeAny_mono (F.run X.A X.stack s H ⟨us,[]⟩ (us++ds) (vs++dvs) Q E hr I.env0 (hb s us I.kIn hl) r2 h) fun r s' hq=>?_)
 cases r with
 |error e=>exact hx pins σ H s e s' I hq
 |ok fl=>
  cases fl with
  |ret u=>exact I.after hq
  |next=>exact False.elim hq
  |brk=>exact False.elim hq
  |cont=>exact False.elim hq
theorem Vf (F:FnOk X.prog X.w X.K X.mg X.base CX k f fd ps sp) (hr:Room k X.A) (hg:Gl X x) (hm:X.mg x=some (.ref f)) (hk:PySem.W.keepIn X.K (.ref f)=true) (hb:Binds X.K fd ps ds) (hd:Vals dvs ds) (hx:Il CX X E)
 (ha:PA X (e::es) t) (hdb:(x==("__debug__":Str))=false:=by decide) (he:starEach (e::es) X.env=(false,eval e X.env)::starEach es X.env:=by rfl) (hpl:(backTo pos (starEach es X.env)).any (·.1)=false:=by rfl):
 PE X (.Call (.Name x p) (e::es) [] pos) (Vd sp dvs E t):=by
 intro pins s σ H Q I h
 refine wpAny_Call_Name_kw (O2 I hg hm ?_ hdb)
 refine PySem.W.callWith_K (h₀:=X.base) I.ok.mod.kin hk (Au (ha pos pins s σ H _ I h) ?_) he hpl
 rintro us s1 ⟨vs,H1,I1,r,q⟩
 refine ⟨I1.kIn,?_⟩
 exact Ve F hr hb hd hx I1 r q
end
section
variable {X:Cx} {CX:Em} {k:Nat} {f C:Addr} {fd:FuncData} {ps ks:List Str} {sp:Sp} {E:XK} {x m:Str} {p pos apos kpos:Pos} {e o:Expr} {es:List Expr} {kws:List Keyword} {te ta:TE} {t tk:TA} {nm:Option Str}
variable {g:List Value→List Value→List Value} {gV:List V→List V→List V}
end
structure AJ (N P:List Str) (sc:Scope):Prop where
 kind:sc.kind=.function
 co:sc.isCoroutine=false
 gen:sc.isGenerator=false
 nd:N.Nodup
 pre:N.take P.length=P
 par:∀x∈P,sc.names.lookup x=some .local∨sc.names.lookup x=some .cell
 nofree:∀y∈sc.names,y.2≠.free
theorem Pk {kindOf:Str→Option NameKind} {x:Str}:∀{binds:List (Str×Value)} {m:Str→Option Value},(∀v,(x,v)∉binds)→bindL kindOf binds m x=m x
 |[],_,_=>rfl
 |(n,v)::r,m,h=>by
  unfold bindL
  rw [Pk fun w hw=>h w (A1 _ hw)]
  split
  ·have:x≠n:=by rintro rfl;exact h v AW
   simp [this]
  ·rfl
theorem Pl {kindOf:Str→Option NameKind} {x:Str}:∀{binds:List (Str×Value)} {m:Str→Option Value},(∀v,(x,v)∉binds)→bindC kindOf binds m x=m x
 |[],_,_=>rfl
 |(n,v)::r,m,h=>by
  unfold bindC
  rw [Pl fun w hw=>h w (A1 _ hw)]
  split
  ·rfl
  ·have:x≠n:=by rintro rfl;exact h v AW
   simp [this]
theorem Pm {kindOf:Str→Option NameKind} {x:Str} {v:Value}:∀{P:List Str} {vs:List Value} {i:Nat} {m:Str→Option Value},P.Nodup→P[i]?=some x→vs[i]?=some v→kindOf x=some .local→
 bindL kindOf (P.zip vs) m x=some v
 |[],_,_,_,_,h,_,_=>by simp at h
 |_::_,[],_,_,_,_,h,_=>by simp at h
 |p::P,w::vs,0,m,nd,h1,h2,hk=>by
  simp at h1 h2;subst h1;subst h2
  show bindL kindOf ((p,w)::P.zip vs) m p=_
  unfold bindL
  rw [Pk fun v hv=>(qbE.mp nd).1 (List.of_mem_zip hv).1,if_pos hk]
  simp
 |p::P,w::vs,i+1,m,nd,h1,h2,hk=>by
  show bindL kindOf ((p,w)::P.zip vs) m x=_
  unfold bindL
  exact Pm (i:=i) (qbE.mp nd).2 (by simpa using h1) (by simpa using h2) hk
theorem Pn {kindOf:Str→Option NameKind} {x:Str} {v:Value}:∀{P:List Str} {vs:List Value} {i:Nat} {m:Str→Option Value},P.Nodup→P[i]?=some x→vs[i]?=some v→kindOf x≠some .local→
 bindC kindOf (P.zip vs) m x=some v
 |[],_,_,_,_,h,_,_=>by simp at h
 |_::_,[],_,_,_,_,h,_=>by simp at h
 |p::P,w::vs,0,m,nd,h1,h2,hk=>by
  simp at h1 h2;subst h1;subst h2
  show bindC kindOf ((p,w)::P.zip vs) m p=_
  unfold bindC
  rw [Pl fun v hv=>(qbE.mp nd).1 (List.of_mem_zip hv).1,if_neg hk]
  simp
 |p::P,w::vs,i+1,m,nd,h1,h2,hk=>by
  show bindC kindOf ((p,w)::P.zip vs) m x=_
  unfold bindC
  exact Pn (i:=i) (qbE.mp nd).2 (by simpa using h1) (by simpa using h2) hk
def start (N:List Str) (vs:List V):St:=vs.map some++List.replicate (N.length - vs.length) none
def AB (CX:Em) (P:Program) (w:World) (K:PySem.W.Frag) (mg:Str→Option Value) (base:Heap) (N:List Str) (qual:Str) (scope:Scope) (f:Addr) (cd:Value) (A:Around) (outer:List Env) (s:Shared) (H:Hp) (E:XK):Cx where
 prog:=P
 w:=w
 K:=K
 mg:=mg
 base:=base
 A:=A.deeper (envOfC qual scope s.heap.objs.size f cd)
 N:=N
 s₀:=s
 H₀:=H
 env:=envOfC qual scope s.heap.objs.size f cd
 outer:=outer
 stack:=envOfC qual scope s.heap.objs.size f cd::outer
 ex:=[]
 calm:=true
 fn:=fun _=>true
 pn:=[]
 xe:=fun e s'=>wpAny (model P w) (A.deeper (envOfC qual scope s.heap.objs.size f cd)) (leaving (envOfC qual scope s.heap.objs.size f cd) e) (fun _ s''=>CX outer H s E e s'') (fun e' s''=>CX outer H s E e' s'') s'
theorem Po {sc:Scope} {n:Nat} {x:Str} (h:sc.names.lookup x=some .cell):∃c,(cellsFrom n sc.names []).lookup x=some c:=by
 have q:=PySem.W.cellsFrom_some sc.names n [] (.inl h)
 exact Option.isSome_iff_exists.mp q
theorem Vg {CX:Em} {P:Program} {w:World} {K:PySem.W.Frag} {mg:Str→Option Value} {base:Heap} {N ps:List Str} {qual:Str} {scope:Scope} {f:Addr} {cd:Value} {A:Around} {outer:List Env} {s s1:Shared} {H:Hp} {E:XK} {us:List Value} {vs:List V}
 (S:AJ N ps scope) (hd:A.handled=none) (e0:Jp P w K mg base A outer s H) (hl:vs.length=ps.length) (r:Vals vs us)
 (x:InCallC s s.heap.objs.size (bindL (envOfC qual scope s.heap.objs.size f cd).kindOf (ps.zip us) fun _=>none) (cellsFrom (s.heap.objs.size+1) scope.names []) (bindC (envOfC qual scope s.heap.objs.size f cd).kindOf (ps.zip us) fun _=>none) s1):
 Inv (AB CX P w K mg base N qual scope f cd A outer s H E) [] (start N vs) H s1:=by
 have hpl:ps.length≤N.length:=by have:=congrArg List.length S.pre;rw [List.length_take] at this;omega
 obtain ⟨h1,tk,rfl,hk⟩:=x.done
 have noA:∀b:Addr,b∉(AB CX P w K mg base N qual scope f cd A outer s H E).ex:=fun b z=>absurd (show b∈([]:List Addr) from z) (by simp)
 refine ⟨⟨e0.mod,S.kind,rfl,rfl,AV _,fun y z c h1 h2=>?_,fun y hy=>?_,fun y c _ h=>?_,fun _=>hd,Around.frames_deeper e0.frames,.inr ⟨rfl,rfl⟩,fun b z=>absurd z (noA b),e0.bs,e0.bsz,fun b _ _=>noA b,fun b z=>absurd z (noA b),e0.funs,e0.frf⟩,
  rfl,e0.bare,Un.kept hk,⟨_,x.toInCall.ns,fun i y v h1 h2 h3=>?_⟩,fun y c h=>⟨_,x.cell y c h⟩,e0.hok.fresh (AV _),fun y c h=>?_,fun p hp=>absurd (show p∈([]:List (Addr×Obj)) from hp) (by simp),e0.hok.kept hk,?_⟩
 ·exact name_of_addr x.apart (PySem.mem_of_lookup h1) (PySem.mem_of_lookup h2)
 ·have hy:scope.names.lookup y=some .cell∨scope.names.lookup y=some .free:=hy
  rcases hy with hy |hy
  ·exact Po hy
  ·exact absurd rfl (S.nofree _ (PySem.mem_of_lookup hy))
 ·exact Nat.le_of_lt (x.above y c (PySem.mem_of_lookup h))
 ·have hi:i<vs.length:=by
   unfold start at h2
   by_cases hi:i<vs.length
   ·exact hi
   ·rw [Ko (by simpa using hi)] at h2
    rw [List.getElem?_replicate] at h2
    split at h2<;>cases h2
  have ha:vs[i]?=some v:=by
   unfold start at h2
   rw [Gy (by simpa using hi),Dy] at h2
   cases e:vs[i]? with
   |none=>rw [e] at h2;cases h2
   |some a=>rw [e] at h2;cases h2;rfl
  obtain ⟨u,hu,rv⟩:=r.get ha
  have hp:ps[i]?=some y:=by
   rw [←S.pre,List.getElem?_take_of_lt (by omega)];exact h1
  have ndP:ps.Nodup:=by rw [←S.pre];exact S.nd.sublist (List.take_sublist _ _)
  refine ⟨u,rv,?_⟩
  rcases S.par y (HZ hp) with k |k
  ·exact .inl ⟨k,Pm ndP hp hu k⟩
  ·obtain ⟨c,e⟩:=Po (n:=s.heap.objs.size+1) k
   refine .inr ⟨.inl k,c,e,?_⟩
   have q:=x.cell y c e
   rw [Pn ndP hp hu (by show scope.names.lookup y≠_;rw [k];decide)] at q
   exact q
 ·exact e0.hok.fresh (Nat.le_of_lt (x.above y c (PySem.mem_of_lookup h)))
 ·unfold start
  show _=N.length
  rw [F0,D0,List.length_replicate]
  omega
theorem Vh {CX:Em} {P:Program} {w:World} {K:PySem.W.Frag} {mg:Str→Option Value} {base:Heap} {k:Nat} {f:Addr} {name qual:Str} {params:Arguments} {body:List Stmt} {scope:Scope} {dV kV doc pm cdv ct oc:Value} {an od:Option Addr}
 {osl:Array (Option Value)} {N ps:List Str} {sp:Sp} (lk:K.lookup f=some ⟨oc,od,.func (PySem.W.fnOf name qual params body scope dV kV doc pm an cdv ct),osl⟩) (hcd:PySem.W.codeIn K cdv qual=true) (S:AJ N ps scope)
 (len:∀vs H Q E,sp vs H Q E→vs.length=ps.length)
 (hbody:∀(A:Around) (outer:List Env) (s:Shared) (H:Hp) (vs:List V) (Q:VK) (E:XK),Room k (A.deeper (envOfC qual scope s.heap.objs.size f cdv))→sp vs H Q E→
  ∃t,D6 (AB CX P w K mg base N qual scope f cdv A outer s H E) body t∧t {nx:=fun _ H'=>Q .non H',rt:=Q} (start N vs) H):
 FnOk P w K mg base CX (k+1) f (PySem.W.fnOf name qual params body scope dV kV doc pm an cdv ct) ps sp:=by
 refine ⟨len,fun A outer s H args us vs Q E hr e0 hb r hsp=>?_⟩
 have hl:=len _ _ _ _ hsp
 have KX:K.In s.heap:=e0.mod.kin.keeps fun b o e=>(e0.bs b o e).1
 have lim:s.heap.NoLimit:=e0.mod.nolimit.keeps fun b o e=>(e0.bs b o e).1
 have hkind:∀y∈ps.zip us,scope.names.lookup y.1=some .local∨(scope.names.lookup y.1=some .cell∧((cellsFrom (s.heap.objs.size+1) scope.names []).lookup y.1).isSome=true):=fun z81_ hy=>by
  obtain ⟨n,v⟩:=z81_
  rcases S.par n (List.of_mem_zip hy).1 with q |q
  ·exact .inl q
  ·exact .inr ⟨q,PySem.W.cellsFrom_some _ _ _ (.inl q)⟩
 refine codeAny_call_function hr.depth (KX _ _ lk) rfl S.co S.gen rfl (PySem.W.codeRec_of KX hcd) (hb _ _ _ _ ?_)
 refine wpAny_newFunctionEnv_cells S.kind hkind fun env he s1 x=>?_
 subst he
 refine ⟨lim.keeps x.toInCall.keep,codeAny_func ?_⟩
 obtain ⟨t,ht,hq⟩:=hbody A outer s H vs Q E (hr.deeper _) hsp
 have I:Inv (AB CX P w K mg base N qual scope f cdv A outer s H E) [] (start N vs) H s1:=Vg S hr.hd e0 hl r x
 refine wpAny_mono (ht [] s1 (start N vs) H _ I hq) (fun fl s' hs=>?_) fun e s' hs=>hs
 have Bm:∀{σ':St} {H':Hp} {v:V} {u:Value},Inv (AB CX P w K mg base N qual scope f cdv A outer s H E) [] σ' H' s'→RelV v u→Q v H'→CE outer P w H s Q u s':=
  fun {σ' H' v u} J rv q=>⟨v,H',J.os,J.bare,J.base,J.hok,rv,q⟩
 cases fl with
 |ret u=>
  obtain ⟨v,σ',H',J,rv,q⟩:=hs
  exact Bm J rv q
 |next=>
  obtain ⟨σ',H',J,q⟩:=hs
  exact Bm (v:=V.non) (u:=Value.none) J rfl q
 |brk=>
  obtain ⟨_,_,_,q⟩:=hs
  exact False.elim q
 |cont=>
  obtain ⟨_,_,_,q⟩:=hs
  exact False.elim q
section
variable {X:Cx} {x:Str} {p pos:Pos} {e:Expr} {es:List Expr} {t:TA} {id T:String} {r:List V→Hp→VK→Prop}
def Pp (r:List V→Hp→VK→Prop) (t:TA):TE:=fun σ H Q=>t σ H fun vs H1=>r vs H1 Q
theorem Vi (hc:CY X (.builtin id) r) (hg:Gl X x) (hm:X.mg x=none) (hv:bootBuiltins x=some (.builtin id)) (ha:PA X (e::es) t) (hn:x≠"__name__":=by decide) (hdb:(x==("__debug__":Str))=false:=by decide)
 (he:starEach (e::es) X.env=(false,eval e X.env)::starEach es X.env:=by rfl) (hpl:(backTo pos (starEach es X.env)).any (·.1)=false:=by rfl):PE X (.Call (.Name x p) (e::es) [] pos) (Pp r t):=by
 intro pins s σ H Q I h
 refine wpAny_Call_Name_kw (GC I hg hm hv ?_ hn hdb)
 exact PyProof.Rows.callWith_builtin1 (Au (ha pos pins s σ H _ I h) fun us s1 z82_=>by obtain ⟨vs,H1,I1,r1,q1⟩:=z82_;exact (hc pins s1 σ H1 vs us Q I1 r1 q1)) he hpl
theorem Vj (hc:CY X (.type T) r) (hg:Gl X x) (hm:X.mg x=none) (hv:bootBuiltins x=some (.type T)) (ha:PA X (e::es) t) (hn:x≠"__name__":=by decide) (hdb:(x==("__debug__":Str))=false:=by decide)
 (he:starEach (e::es) X.env=(false,eval e X.env)::starEach es X.env:=by rfl) (hpl:(backTo pos (starEach es X.env)).any (·.1)=false:=by rfl):PE X (.Call (.Name x p) (e::es) [] pos) (Pp r t):=by
 intro pins s σ H Q I h
 refine wpAny_Call_Name_kw (GC I hg hm hv ?_ hn hdb)
 exact PyProof.Rows.callWith_type1 (Au (ha pos pins s σ H _ I h) fun us s1 z83_=>by obtain ⟨vs,H1,I1,r1,q1⟩:=z83_;exact (hc pins s1 σ H1 vs us Q I1 r1 q1)) he hpl
end
end L2
namespace HT
open PySem PyProof.Rows
section
open PySem.SeqAt
open PySem.AutoSeq1 (wpAny_loadPart')
open PySem.MeetsSeq PySem.MeetsSeq2 PySem.MeetsSeq3
end
section
variable {prog:Program} {w:World} {A:Around} {E:Value→Shared→Prop} {s:Shared}
theorem cat_tup {t b:Addr} {vs ws:List Value} {Q:Value→Shared→Prop} (ht:IsTup s.heap t vs.toArray) (hb:IsTup s.heap b ws.toArray) (hv:vs≠[])
 (h1:ws=[]→Q (.ref t) s) (h2:ws≠[]→Q (.ref s.heap.objs.size) {s with heap:=s.heap.push {cls:=.type "tuple",data:=.seq (vs++ws).toArray}})
 (hsz:vs.length+ws.length≤sizeLine):wpAny (model prog w) A (binaryOp .Add (.ref t) (.ref b)) Q E s:=by
 obtain ⟨⟨cls,dd,data,sl⟩,ho,hc,n,hd⟩:=id ht
 obtain ⟨⟨cls2,dd2,data2,sl2⟩,ho2,hc2,n2,hd2⟩:=id hb
 simp only at hc hd hc2 hd2
 subst hc hd hc2 hd2
 have e:vs.toArray++ws.toArray=(vs++ws).toArray:=by simp
 by_cases hw:ws=[]
 ·exact concat_meets ⟨_,ho,rfl⟩ ⟨_,ho2,rfl⟩ noFill_tuple_add seq_tuple_add PySem.F.slot_tuple_add PySem.F.entry_tuple_add (PySem.F.args_tuple_add_2 _ _)
   (tuple_addW1 t b vs.toArray ws.toArray n n2 dd dd2 sl sl2 (by simpa using hv) (by simp [hw])) ⟨ho,ho2,h1 hw⟩
 ·refine concat_meets ⟨_,ho,rfl⟩ ⟨_,ho2,rfl⟩ noFill_tuple_add seq_tuple_add PySem.F.slot_tuple_add PySem.F.entry_tuple_add (PySem.F.args_tuple_add_2 _ _)
   (tuple_addW2 t b vs.toArray ws.toArray n n2 dd dd2 sl sl2 (by simpa using hv) (by simpa using hw) (by rw [Ba,Ba];exact hsz)) ⟨ho,ho2,?_⟩
  rw [e]
  exact h2 hw
def sIx (n d:Nat):Option Int→Nat
 |none=>d
 |some v=>if v<0 then (v+(n:Int)).toNat else min v.toNat n
theorem Vk (n d:Nat) (hd:d≤n) (o:Option Int):sIx n d o≤n:=by
 cases o with
 |none=>exact hd
 |some v=>
  show (if v<0 then (v+(n:Int)).toNat else min v.toNat n)≤n
  by_cases hv:v<0
  ·rw [if_pos hv];omega
  ·rw [if_neg hv];exact Nat.min_le_right _ _
theorem Pq (v:Int) (n d:Nat):(if v<0 then max (v+(n:Int)) 0 else min v (n:Int))=((sIx n d (some v):Nat):Int):=by
 show (if v<0 then max (v+(n:Int)) 0 else min v (n:Int))=(((if v<0 then (v+(n:Int)).toNat else min v.toNat n):Nat):Int)
 by_cases hv:v<0
 ·simp only [if_pos hv];omega
 ·simp only [if_neg hv];omega
theorem Vl (lo hi:Option Int) (n:Nat):Builtin.Slice.sliceAdjust lo hi 1 (n:Int)=(((sIx n 0 lo:Nat):Int),((sIx n n hi:Nat):Int)):=by
 have h1:¬((1:Int)<0):=by omega
 unfold Builtin.Slice.sliceAdjust
 simp only [h1,if_false]
 refine Prod.ext ?_ ?_
 ·cases lo with
  |none=>rfl
  |some v=>exact Pq v n 0
 ·cases hi with
  |none=>rfl
  |some v=>exact Pq v n n
theorem Vm (i j:Nat):Builtin.Slice.slicePlaces (i:Int) (j:Int) 1=j - i:=by
 unfold Builtin.Slice.slicePlaces
 have h1:(1:Int)>0:=by omega
 simp only [h1,if_true,Int.ediv_one]
 split<;>omega
theorem Pr {v:Value} {o:Option Int} {Q:Option Int→Shared→Prop} (p:IsPart v o) (h:Q o s):wpAny (model prog w) A (Builtin.Slice.slicePartIndex v) Q E s:=by
 cases p with
 |none=>exact slicePart_none h
 |int i t=>exact slicePart_int h
theorem sliceApplied_gen {sl:Addr} {vl vu:Value} {lo hi:Option Int} {n:Nat} {Q:Int×Int×Nat→Shared→Prop} (hs:s.heap.IsSliceOf sl vl vu .none) (pl:IsPart vl lo) (pu:IsPart vu hi)
 (h:Q (((sIx n 0 lo:Nat):Int),1,sIx n n hi - sIx n 0 lo) s):wpAny (model prog w) A (Builtin.Slice.sliceApplied (.ref sl) (pure (n:Int))) Q E s:=by
 obtain ⟨os,hos,hcs,hds⟩:=id hs
 unfold Builtin.Slice.sliceApplied Builtin.Slice.sliceFields
 refine wpAny_bind (wpAny_bind (wpAny_field hos hds (x:=vl) rfl (wpAny_bind (wpAny_field hos hds (x:=vu) rfl (wpAny_bind (wpAny_field hos hds (x:=.none) rfl (wpAny_pure ?_)))))))
 refine wpAny_bind (slicePart_none ?_)
 show wpAny _ _ (if ((1:Int)==0)=true then _ else _) _ _ s
 rw [if_neg (by decide)]
 refine wpAny_bind (Pr pl (wpAny_bind (Pr pu (wpAny_bind (wpAny_pure ?_)))))
 show wpAny _ _ (match Builtin.Slice.sliceAdjust lo hi 1 (n:Int) with |(lo,hi)=>pure (lo,(1:Int),Builtin.Slice.slicePlaces lo hi 1)) _ _ s
 rw [Vl lo hi n]
 show wpAny _ _ (pure (((sIx n 0 lo:Nat):Int),(1:Int),Builtin.Slice.slicePlaces ((sIx n 0 lo:Nat):Int) ((sIx n n hi:Nat):Int) 1)) _ _ s
 rw [Vm]
 exact wpAny_pure h
theorem Vn (xs:Array Value) (i k:Nat):((List.range k).filterMap fun (m:Nat)=>xs[((i:Int)+(m:Int)*1).toNat]?).toArray=((xs.toList.drop i).take k).toArray:=by
 have e:(fun (m:Nat)=>xs[((i:Int)+(m:Int)*1).toNat]?)=fun m=>xs[i+m]?:=by
  funext m
  have:((i:Int)+(m:Int)*1).toNat=i+m:=by omega
  rw [this]
 rw [e]
 have:=pick_run xs i k
 rw [List.filterMap_map] at this
 have e2:((fun x=>xs[x]?)∘fun x=>i+x)=fun m=>xs[i+m]?:=rfl
 rw [e2] at this
 rw [this]
theorem getItem_tuple_cut {t sl:Addr} {items:Array Value} {vl vu:Value} {lo hi:Option Int} {Q:Value→Shared→Prop} (ht:IsTup s.heap t items) (hs:s.heap.IsSliceOf sl vl vu .none) (pl:IsPart vl lo) (pu:IsPart vu hi)
 (hw:¬(sIx items.size 0 lo=0∧sIx items.size items.size hi=items.size))
 (h:Q (.ref s.heap.objs.size) {s with heap:=s.heap.push {cls:=.type "tuple",data:=.seq ((items.toList.drop (sIx items.size 0 lo)).take (sIx items.size items.size hi - sIx items.size 0 lo)).toArray}})
 (hsz:items.size≤sizeLine):wpAny (model prog w) A (getItem (.ref t) (.ref sl)) Q E s:=by
 have htake:sizeOk (.seq ((items.toList.drop (sIx items.size 0 lo)).take (sIx items.size items.size hi - sIx items.size 0 lo)).toArray):=by
  show ((items.toList.drop (sIx items.size 0 lo)).take (sIx items.size items.size hi - sIx items.size 0 lo)).toArray.size≤sizeLine
  rw [Ba,List.length_take,List.length_drop,Array.length_toList]
  omega
 have hj:sIx items.size items.size hi≤items.size:=Vk _ _ (AV _) hi
 obtain ⟨os,hos,hcs,hds⟩:=id hs
 have hTs:s.TypeIs (.ref sl) "slice":=⟨os,hos,hcs⟩
 unfold getItem
 try with_reducible refine wpAny_holding ?_
 first |refine wpAny_bind (wpAny_pure ?_) |skip
 refine wpAny_bind (wpAny_sequenceKey ht.typeIs (by decide) ?_)
 refine wpAny_bind (wpAny_callSpecial?_slot (name:=Str.ofString "__getitem__") ht.typeIs PyProof.Rows.slot_tuple_getitem
  (wpAny_call_entry PyProof.Rows.slot_tuple_getitem ht.typeIs entry_tuple_getitem ?_ (args_tuple_getitem _ _)))
 show wpAny _ _ (Builtin.Tuple.tupleItemsOf (.ref t) >>=_) _ _ s
 refine wpAny_bind (tupleItemsOf_ ht ?_)
 refine wpAny_bind (wpAny_typeOf hTs ?_)
 rw [if_pos (by decide)]
 refine wpAny_bind (sliceApplied_gen hs pl pu ?_)
 have hno:¬((((sIx items.size 0 lo:Nat):Int)==0&&(1:Int)==1&&(sIx items.size items.size hi - sIx items.size 0 lo)==items.size)=true):=by
  intro q
  rw [Ek,Ek] at q
  have q1:((sIx items.size 0 lo:Nat):Int)=0:=eq_of_beq q.1.1
  have q2:sIx items.size items.size hi - sIx items.size 0 lo=items.size:=eq_of_beq q.2
  exact hw ⟨by omega,by omega⟩
 show wpAny _ _ (if (((sIx items.size 0 lo:Nat):Int)==0&&(1:Int)==1&&(sIx items.size items.size hi - sIx items.size 0 lo)==items.size)=true then _ else _) _ _ s
 rw [if_neg hno,Vn]
 first
  |exact wpAny_bind (m:=Builtin.Tuple.tupleExact _) (wpAny_newObj_type (wpAny_pure ⟨_,rfl,wpAny_pure h⟩) htake)
  |exact wpAny_bind (m:=Builtin.Tuple.tupleExact _) (wpAny_newObj_type (wpAny_bind (wpAny_pure (wpAny_pure ⟨_,rfl,wpAny_pure h⟩))) htake)
  |exact wpAny_bind (wpAny_bind (m:=Builtin.Tuple.tupleExact _) (wpAny_newObj_type (wpAny_pure (wpAny_pure ⟨_,rfl,wpAny_pure h⟩)) htake))
  |exact wpAny_bind (wpAny_bind (m:=Builtin.Tuple.tupleExact _) (wpAny_newObj_type (wpAny_pure ⟨_,rfl,wpAny_pure h⟩) htake))
end
end HT
namespace L2
open PySem PySem.Spec PyProof.Rows
abbrev TO:=St→Hp→(Option Int→Hp→Prop)→Prop
def PO (X:Cx) (e:Option Expr) (t:TO):Prop:=
 ∀(pins:List (Addr×Obj)) (s:Shared) (σ:St) (H:Hp) (Q:Option Int→Hp→Prop),Inv X pins σ H s→t σ H Q→
  wpAny (model X.prog X.w) X.A (evalPart e X.env) (fun u s'=>∃o H',Inv X pins σ H' s'∧IsPart u o∧Q o H') X.xe s
def Vo:TO:=fun _ H Q=>Q none H
def Vp (t:TE):TO:=fun σ H Q=>t σ H fun x H1=>∃i,x=.int i∧Q (some i) H1
section
variable {X:Cx} {e:Expr} {te:TE} {lo hi:Option Expr} {tl th:TO} {pos p2:Pos}
theorem Vq:PO X none Vo:=by
 intro pins s σ H Q I h
 rw [evalPart_none]
 exact wpAny_pure ⟨none,H,I,.none,h⟩
theorem Vr (h:PE X e te):PO X (some e) (Vp te):=by
 intro pins s σ H Q I hw
 rw [evalPart_some]
 refine Au (h pins s σ H _ I hw) fun u s1 z84_=>?_
 obtain ⟨x,H1,I1,r1,q1⟩:=z84_
 obtain ⟨i,rfl,q⟩:=q1
 obtain ⟨t,rfl⟩:=r1
 exact ⟨some i,H1,I1,.int i t,q⟩
def SlR (X:Cx) (r:V→Option Int→Option Int→Hp→VK→Prop):Prop:=
 ∀(pins:List (Addr×Obj)) (s:Shared) (σ:St) (H:Hp) (x:V) (v vl vu:Value) (lo hi:Option Int) (sl:Addr) (Q:VK),Inv X pins σ H s→RelV x v→s.heap.IsSliceOf sl vl vu .none→IsPart vl lo→IsPart vu hi→r x lo hi H Q→
  ∃T id,typeLookup (.type T) "__getitem__"=pure (some (.builtin id))∧s.TypeIs v T∧wpAny (model X.prog X.w) X.A (getItem v (.ref sl)) (EP X pins σ Q) X.xe s
theorem SlR.or {r r':V→Option Int→Option Int→Hp→VK→Prop} (h:SlR X r) (h':SlR X r'):SlR X (fun x lo hi H Q=>r x lo hi H Q∨r' x lo hi H Q):=by
 intro pins s σ H x v vl vu lo hi sl Q I rx hs pl pu q
 rcases q with q |q
 ·exact h pins s σ H x v vl vu lo hi sl Q I rx hs pl pu q
 ·exact h' pins s σ H x v vl vu lo hi sl Q I rx hs pl pu q
def Vs (r:V→Option Int→Option Int→Hp→VK→Prop) (te:TE) (tl th:TO):TE:=fun σ H Q=>te σ H fun x H1=>tl σ H1 fun l H2=>th σ H2 fun u H3=>r x l u H3 Q
theorem Vt {r:V→Option Int→Option Int→Hp→VK→Prop} (hr:SlR X r) (he:PE X e te) (hl:PO X lo tl) (hu:PO X hi th):PE X (.Subscript e (.Slice lo hi none p2) pos) (Vs r te tl th):=by
 intro pins s σ H Q I h
 refine Subscript_ (Au (he pins s σ H _ I h) fun v s1 z85_=>?_)
 obtain ⟨x,H1,I1,r1,q1⟩:=z85_
 refine wpAny_Slice (Au (hl pins s1 σ H1 _ I1 q1) ?_)
 rintro vl s2 ⟨l,H2,I2,pl,q2⟩
 refine Au (hu pins s2 σ H2 _ I2 q2) fun vu s3 z87_=>?_
 obtain ⟨u,H3,I3,pu,q3⟩:=z87_
 rw [evalPart_none]
 refine wpAny_pure ?_
 have I4:Inv X pins σ H3 {s3 with heap:=s3.heap.push {cls:=.type "slice",data:=.fields #[vl,vu,.none]}}:=I3.kept (t':=s3.toks) fun b ob q=>AY _ q
 obtain ⟨T,id,hT,ht,hg⟩:=hr pins {s3 with heap:=s3.heap.push {cls:=.type "slice",data:=.fields #[vl,vu,.none]}} σ H3 x v vl vu l u s3.heap.objs.size Q I4 r1 (Heap.IsSliceOf.new ..) pl pu q3
 show wpAny (model X.prog X.w) X.A (subscriptTail e (.Slice lo hi none p2) v (.ref s3.heap.objs.size)) (EP X pins σ Q) X.xe {s3 with heap:=s3.heap.push {cls:=.type "slice",data:=.fields #[vl,vu,.none]}}
 exact tail_any (ops:=[.ref s3.heap.objs.size,v]) ht hT hg (by with_unfolding_all rfl)
def Im (xs:List V) (lo hi:Option Int):List V:=(xs.drop (HT.sIx xs.length 0 lo)).take (HT.sIx xs.length xs.length hi - HT.sIx xs.length 0 lo)
theorem Vu (xs:List V) (lo hi:Option Int):(Im xs lo hi).length≤xs.length:=by
 unfold Im
 rw [List.length_take,List.length_drop]
 omega
def Vv (K:PySem.W.Frag):V→Option Int→Option Int→Hp→VK→Prop:=fun x lo hi H Q=>∃a xs,x=.ref a∧SqT K H a xs∧
 ¬(HT.sIx xs.length 0 lo=0∧HT.sIx xs.length xs.length hi=xs.length)∧∀p,H p=none→Q (.ref p) (Az H p (.tup (Im xs lo hi)))
theorem Vw:SlR X (Vv X.K):=by
 intro pins s σ H x v vl vu lo hi sl Q I rx hs pl pu h
 obtain ⟨a,xs,rfl,hx,hw,q⟩:=h
 cases rx
 obtain ⟨its,r,ht,hz⟩:=I.tuple hx
 have hlen:its.toArray.size=xs.length:=by rw [Ba];exact r.length.symm
 refine ⟨"tuple",_,PyProof.Rows.slot_tuple_getitem.lookup,ht.typeIs,?_⟩
 refine HT.getItem_tuple_cut ht hs pl pu (by rw [hlen];exact hw) ?_ (by rw [hlen];exact hz)
 rw [hlen]
 refine ⟨.ref s.heap.objs.size,_,I.laid (t':=s.toks) (o:=.tup (Im xs lo hi)) (fun b ob q=>AY _ q) (AV _) ?_,rfl,q _ (I.hok.fresh (AV _))⟩
 exact ⟨B8 (Vu xs lo hi) hz,_,(r.drop (HT.sIx xs.length 0 lo)).take (HT.sIx xs.length xs.length hi - HT.sIx xs.length 0 lo),IsTup.new _ _,NoDict.new⟩
def Vx (K:PySem.W.Frag):R2:=fun x y H Q=>∃a b xs ys,x=.ref a∧y=.ref b∧SqT K H a xs∧SqT K H b ys∧xs≠[]∧xs.length+ys.length≤sizeLine∧
 (ys=[]→Q (.ref a) H)∧(ys≠[]→∀p,H p=none→Q (.ref p) (Az H p (.tup (xs++ys))))
theorem Vals.nil_iff {xs:List V} {us:List Value} (r:Vals xs us):us=[]↔xs=[]:=by
 cases r with
 |nil=>simp
 |cons _ _=>simp
theorem op_catT:OpR X (binaryOp .Add) (Vx X.K):=by
 intro pins s σ H x y v u Q I rx ry h
 obtain ⟨a,b,xs,ys,rfl,rfl,ha,hb,hx,hz,q1,q2⟩:=h
 cases rx
 cases ry
 obtain ⟨its,r1,p1,_⟩:=I.tuple ha
 obtain ⟨its2,r2,p2,_⟩:=I.tuple hb
 refine HT.cat_tup p1 p2 (fun z=>hx (r1.nil_iff.mp z)) (fun z=>⟨.ref a,H,I,rfl,q1 (r2.nil_iff.mp z)⟩) (fun z=>?_) (by rw [←r1.length,←r2.length];exact hz)
 refine ⟨.ref s.heap.objs.size,_,I.laid (t':=s.toks) (o:=.tup (xs++ys)) (fun b ob q=>AY _ q) (AV _) ?_,rfl,q2 (fun w=>z (r2.nil_iff.mpr w)) _ (I.hok.fresh (AV _))⟩
 exact ⟨by rw [F0];exact hz,_,r1.append r2,IsTup.new _ _,NoDict.new⟩
end
def D8 (n:Nat) (i:Int):Option Nat:=if 0≤i then (if i<n then some i.toNat else none) else if -(n:Int)≤i then some (i+n).toNat else none
def Dq {α:Type} (xs:List α) (i:Int):Option α:=(D8 xs.length i).bind fun j=>xs[j]?
theorem Pt {n:Nat} {i:Int} {j:Nat} (h:D8 n i=some j):seqIndex? i n=some j∧j<n∧-(n:Int)≤i∧i<n:=by
 unfold D8 at h
 by_cases h0:0≤i
 ·rw [if_pos h0] at h
  by_cases h1:i<n
  ·rw [if_pos h1] at h
   have e:i.toNat=j:=Option.some.inj h
   exact ⟨by rw [seqIndex_of h0 h1,e],by omega,by omega,h1⟩
  ·rw [if_neg h1] at h;cases h
 ·rw [if_neg h0] at h
  by_cases h1:-(n:Int)≤i
  ·rw [if_pos h1] at h
   have e:(i+n).toNat=j:=Option.some.inj h
   exact ⟨by rw [seqIndex_neg (by omega) h1,e],by omega,h1,by omega⟩
  ·rw [if_neg h1] at h;cases h
theorem Pv {α:Type} {xs:List α} {i:Int} {v:α} (h:Dq xs i=some v):∃j,seqIndex? i xs.length=some j∧xs[j]?=some v∧j<xs.length∧-(xs.length:Int)≤i∧i<xs.length:=by
 unfold Dq at h
 cases e:D8 xs.length i with
 |none=>rw [e] at h;cases h
 |some j=>
  rw [e] at h
  obtain ⟨h1,h2,h3,h4⟩:=Pt e
  exact ⟨j,h1,h,h2,h3,h4⟩
def Pw (b:Expr):Prop:=∀o i,subscripted b false o i=operate [o,i] (getItem o i)
def IxR (X:Cx) (r:R2):Prop:=
 ∀(value slice:Expr) (pins:List (Addr×Obj)) (s:Shared) (σ:St) (H:Hp) (x y:V) (v u:Value) (Q:VK),Inv X pins σ H s→RelV x v→RelV y u→r x y H Q→
  subscripted slice false v u=operate [v,u] (getItem v u)→wpAny (model X.prog X.w) X.A (subscriptTail value slice v u) (EP X pins σ Q) X.xe s
def Vy (X:Cx) (id:String) (r:V→List V→Hp→VK→Prop):Prop:=
 ∀(pins:List (Addr×Obj)) (s:Shared) (σ:St) (H:Hp) (x:V) (xs:List V) (v:Value) (us:List Value) (Q:VK),Inv X pins σ H s→RelV x v→Vals xs us→r x xs H Q→
  wpAny (model X.prog X.w) X.A (call (.builtin id) (v::us)) (EP X pins σ Q) X.xe s
section
variable {X:Cx} {a b:Expr} {ta tb:TE} {pos:Pos}
theorem IxR.or {r r':R2} (h:IxR X r) (h':IxR X r'):IxR X (fun x y H Q=>r x y H Q∨r' x y H Q):=by
 intro value slice pins s σ H x y v u Q I rx ry q hs
 rcases q with q |q
 ·exact h value slice pins s σ H x y v u Q I rx ry q hs
 ·exact h' value slice pins s σ H x y v u Q I rx ry q hs
theorem Vz {r:R2} (hr:IxR X r) (ha:PE X a ta) (hb:PE X b tb) (hs:Pw b):PE X (.Subscript a b pos) (KJ r ta tb):=by
 intro pins s σ H Q I h
 exact Subscript_ (Mb ha hb I h fun v u s2 x y H2 I2 rx ry q=>hr a b pins s2 σ H2 x y v u Q I2 rx ry q (hs _ _))
def VA (K:PySem.W.Frag):R2:=fun x y H Q=>∃p xs i v,x=.ref p∧y=.int i∧SqL K H p xs∧Dq xs i=some v∧Q v H
def VB (K:PySem.W.Frag):R2:=fun x y H Q=>∃p xs i v,x=.ref p∧y=.int i∧SqT K H p xs∧Dq xs i=some v∧Q v H
theorem ix_list:IxR X (VA X.K):=by
 intro value slice pins s σ H x y v u Q I rx ry h hs
 obtain ⟨p,xs,i,z,rfl,rfl,hq,he,q⟩:=h
 cases rx
 obtain ⟨t,rfl⟩:=ry
 obtain ⟨its,r,pl,hz⟩:=I.list hq
 obtain ⟨j,h1,h2,h3,h4,h5⟩:=Pv he
 obtain ⟨w,ew,rw'⟩:=r.get h2
 have hl:=r.length
 have hn:=Jo
 have Bm:EP X pins σ Q w s:=⟨z,H,I,rw',q⟩
 by_cases h0:0≤i
 ·have hj:i.toNat=j:=by
   rw [seqIndex_of h0 h5] at h1
   exact Option.some.inj h1
  exact item_listR pl.isList h0 (by omega) (by rw [hj];simpa using ew) Bm hs
 ·have hj:(i+(its.toArray.size:Int)).toNat=j:=by
   rw [seqIndex_neg (by omega) h4] at h1
   rw [Ba,←hl]
   exact Option.some.inj h1
  exact subscriptTail_builtinR (x:=w) pl.isList.typeIs slot_list_getitem.lookup
   (wpAny_getItem_list_neg (Q:=fun r s'=>r=w∧EP X pins σ Q r s') pl.isList (by omega) (by rw [Ba]<;>omega) (by omega) (by rw [hj];simpa using ew) ⟨rfl,Bm⟩) hs
theorem ix_tup:IxR X (VB X.K):=by
 intro value slice pins s σ H x y v u Q I rx ry h hs
 obtain ⟨p,xs,i,z,rfl,rfl,hq,he,q⟩:=h
 cases rx
 obtain ⟨t,rfl⟩:=ry
 obtain ⟨its,r,pl,hz⟩:=I.tuple hq
 obtain ⟨j,h1,h2,h3,h4,h5⟩:=Pv he
 obtain ⟨w,ew,rw'⟩:=r.get h2
 have hl:=r.length
 have hn:=Jo
 have Bm:EP X pins σ Q w s:=⟨z,H,I,rw',q⟩
 exact subscriptTail_builtinR (x:=w) pl.typeIs slot_tuple_getitem.lookup
  (getItem_tuple (j:=j) (Q:=fun r s'=>r=w∧EP X pins σ Q r s') pl (by omega) (by omega) (by rw [Ba,←hl];exact h1) (by simpa using ew) ⟨rfl,Bm⟩) hs
theorem VC (its:List Value) (n j:Nat) (u:Value):Obj.mapSeq (·.setIfInBounds j u) {cls:=.type "list",data:=.seq its.toArray n}={cls:=.type "list",data:=.seq (its.set j u).toArray n}:=by
 simp [Obj.mapSeq]
theorem Inv.lst {pins:List (Addr×Obj)} {σ:St} {H:Hp} {s:Shared} {p:Addr} {xs:List V} (I:Inv X pins σ H s) (h:H p=some (.lst xs)):
 ∃(its:List Value) (n:Nat),Vals xs its∧s.heap.get? p=some {cls:=.type "list",data:=.seq its.toArray n}∧xs.length≤sizeLine:=by
 obtain ⟨z,its,n,r,e⟩:=I.hok p _ h
 exact ⟨its,n,r,e,z⟩
theorem Inv.lstUpd {pins:List (Addr×Obj)} {σ:St} {H:Hp} {s:Shared} {p:Addr} {xs ys:List V} {its its':List Value} {n n':Nat} {f:Obj→Obj} (I:Inv X pins σ H s) (h:H p=some (.lst xs))
 (ho:s.heap.get? p=some {cls:=.type "list",data:=.seq its.toArray n}) (hf:f {cls:=.type "list",data:=.seq its.toArray n}={cls:=.type "list",data:=.seq its'.toArray n'}) (r:Vals ys its') (hz:ys.length≤sizeLine) (t:Nat):
 Inv X pins σ (Az H p (.lst ys)) {s with heap:=s.heap.update p f,toks:=t}:=by
 have e:(s.heap.update p f).get? p=some {cls:=.type "list",data:=.seq its'.toArray n'}:=by
  rw [L3 f ho (by rw [hf]<;>rfl),hf]
 refine I.write (x:=p) (e:=p) (by rw [h];trivial) (.inl rfl) (fun b u hb q=>(L1 _ _ (Ne.symm hb)).trans q) ⟨_,e⟩ ?_
 exact ⟨hz,its',n',r,e⟩
def VD:V→V→V→Hp→(Hp→Prop)→Prop:=fun o i v H Q=>∃p xs k j,o=.ref p∧i=.int k∧H p=some (.lst xs)∧D8 xs.length k=some j∧Q (Az H p (.lst (xs.set j v)))
theorem Px:L5 X VD:=by
 intro pins s σ H o i v ov iv u Q I ro ri rv h
 obtain ⟨p,xs,k,j,rfl,rfl,hp,hj,q⟩:=h
 cases ro
 obtain ⟨t,rfl⟩:=ri
 obtain ⟨its,n,r,ho,hz⟩:=I.lst hp
 obtain ⟨h1,h2,h3,h4⟩:=Pt hj
 have hl:=r.length
 have hn:=Jo
 have I':Inv X pins σ (Az H p (.lst (xs.set j v))) {s with heap:=s.heap.update p (Obj.mapSeq (·.setIfInBounds j u))}:=
  I.lstUpd hp ho (VC its n j u) (r.set rv j) (by rw [List.length_set];exact hz) s.toks
 by_cases h0:0≤k
 ·have hk:k.toNat=j:=by
   rw [seqIndex_of h0 h4] at h1
   exact Option.some.inj h1
  exact PySem.W.ki_setAt ho h0 (by omega) (by rw [Ba,←hl];exact h4) (by rw [hk];exact ⟨_,I',q⟩)
 ·have hk:(k+(its.toArray.size:Int)).toNat=j:=by
   rw [seqIndex_neg (by omega) h3] at h1
   rw [Ba,←hl]
   exact Option.some.inj h1
  exact PySem.W.ki_setBack ho (by omega) (by rw [Ba,←hl];exact h3) (by omega) (by rw [hk];exact ⟨_,I',q⟩)
def EX:V→Bool
 |.non=>true
 |.bl _=>true
 |.int _=>true
 |.str _=>true
 |_=>false
def EY:V→V→Bool
 |.non,.non=>true
 |.bl a,.bl b=>a==b
 |.bl a,.int b=>(if a then 1 else 0)==b
 |.int a,.bl b=>a==(if b then 1 else 0)
 |.int a,.int b=>a==b
 |.str a,.str b=>a==b
 |_,_=>false
theorem VE {A:Around} {s:Shared} {y x:V} {u v:Value} (ry:RelV y u) (rx:RelV x v) (fy:EX y=true) (fx:EX x=true):SeqAt.EqAt A s u v (EY y x):=by
 cases y with
 |non=>
  cases ry
  cases x with
  |non=>cases rx;exact SeqAt.EqAt.same _
  |bl b=>cases rx;exact SeqAt.EqAt.none_bool b
  |int b=>obtain ⟨t,rfl⟩:=rx;exact SeqAt.EqAt.none_int b t
  |str b=>obtain ⟨t,rfl⟩:=rx;exact SeqAt.EqAt.none_str b t
  |_=>exact absurd (show false=true from fx) Bu
 |bl a=>
  cases ry
  cases x with
  |non=>cases rx;exact SeqAt.EqAt.bool_none a
  |bl b=>cases rx;exact SeqAt.EqAt.bool_bool a b
  |int b=>obtain ⟨t,rfl⟩:=rx;exact SeqAt.EqAt.bool_int a b t
  |str b=>obtain ⟨t,rfl⟩:=rx;exact SeqAt.EqAt.bool_str a b t
  |_=>exact absurd (show false=true from fx) Bu
 |int a=>
  obtain ⟨t',rfl⟩:=ry
  cases x with
  |non=>cases rx;exact SeqAt.EqAt.int_none a t'
  |bl b=>cases rx;exact SeqAt.EqAt.int_bool a t' b
  |int b=>obtain ⟨t,rfl⟩:=rx;exact SeqAt.EqAt.int_int a t' b t
  |str b=>obtain ⟨t,rfl⟩:=rx;exact SeqAt.EqAt.int_str a t' b t
  |_=>exact absurd (show false=true from fx) Bu
 |str a=>
  obtain ⟨t',rfl⟩:=ry
  cases x with
  |non=>cases rx;exact SeqAt.EqAt.str_none a t'
  |bl b=>cases rx;exact SeqAt.EqAt.str_bool a t' b
  |int b=>obtain ⟨t,rfl⟩:=rx;exact SeqAt.EqAt.str_int a t' b t
  |str b=>obtain ⟨t,rfl⟩:=rx;exact SeqAt.EqAt.str_str a t' b t
  |_=>exact absurd (show false=true from fx) Bu
 |_=>exact absurd (show false=true from fy) Bu
def FG (x:V) (u:Value):Bool:=match u with
 |.none=>EY .non x
 |.bool b=>EY (.bl b) x
 |.int i _=>EY (.int i) x
 |.str z _=>EY (.str z) x
 |_=>false
theorem Pz {x y:V} {u:Value} (r:RelV y u) (f:EX y=true):FG x u=EY y x:=by
 cases y with
 |non=>cases r;rfl
 |bl b=>cases r;rfl
 |int i=>obtain ⟨t,rfl⟩:=r;rfl
 |str z=>obtain ⟨t,rfl⟩:=r;rfl
 |_=>exact absurd (show false=true from f) Bu
theorem Mf {x:V}:∀{xs:List V} {us:List Value},Vals xs us→xs.all EX=true→us.any (FG x)=xs.any fun y=>EY y x
 |_,_,.nil,_=>rfl
 |y::xs,u::us,.cons r t,f=>by
  rw [List.all_cons,Ek] at f
  rw [List.any_cons,List.any_cons,Pz r f.1,Mf t f.2]
theorem Mg {A:Around} {s:Shared} {x:V} {v:Value} (rx:RelV x v) (fx:EX x=true):∀{xs:List V} {us:List Value},Vals xs us→xs.all EX=true→∀u∈us,SeqAt.EqAt A s u v (FG x u)
 |_,_,.nil,_=>fun u hu=>by cases hu
 |y::xs,u::us,.cons r t,f=>fun u' hu=>by
  rw [List.all_cons,Ek] at f
  rcases qa7.mp hu with rfl |hu
  ·rw [Pz r f.1];exact VE r rx f.1 fx
  ·exact Mg rx fx t f.2 u' hu
def Io (x:V) (xs:List V):Bool:=xs.any fun y=>EY y x
def PB (K:PySem.W.Frag) (neg:Bool):R2:=fun x y H Q=>∃p xs,y=.ref p∧(SqL K H p xs∨SqT K H p xs)∧EX x=true∧xs.all EX=true∧Q (.bl (if neg then !Io x xs else Io x xs)) H
theorem VF:OpR X (compareOp .In) (PB X.K false):=by
 intro pins s σ H x y v u Q I rx ry h
 obtain ⟨p,xs,rfl,hq,fx,fs,q⟩:=h
 cases ry
 rcases hq with hq |hq
 ·obtain ⟨its,r,pl,hz⟩:=I.list hq
  refine SeqAt.in_listAt (FG x) pl.isList (fun w hw=>Mg rx fx r fs w (by simpa using hw)) ⟨.bl _,H,I,rfl,?_⟩
  rw [show its.toArray.any (FG x)=its.any (FG x) by simp,Mf r fs]
  exact q
 ·obtain ⟨its,r,pl,hz⟩:=I.tuple hq
  refine SeqAt.in_tupleAt (FG x) pl (fun w hw=>Mg rx fx r fs w (by simpa using hw)) ⟨.bl _,H,I,rfl,?_⟩
  rw [show its.toArray.any (FG x)=its.any (FG x) by simp,Mf r fs]
  exact q
theorem VG:CY X (.builtin "len") (fun xs H Q=>∃p ys,xs=[.ref p]∧(SqL X.K H p ys∨SqT X.K H p ys)∧Q (.int ys.length) H):=by
 intro pins s σ H xs us Q I r h
 obtain ⟨p,ys,rfl,hq,q⟩:=h
 obtain ⟨u,rfl,rx⟩:=FE r
 cases rx
 have hn:=Jo
 rcases hq with hq |hq
 ·obtain ⟨its,r',pl,hz⟩:=I.list hq
  have hlen:=r'.length
  exact Calls.call_len_list pl.isList (by simp only [Ba]<;>omega) ⟨.int ys.length,H,I.tok _,⟨s.toks+1,by rw [Ba,hlen]⟩,q⟩
 ·obtain ⟨its,r',pl,hz⟩:=I.tuple hq
  have hlen:=r'.length
  exact len_tuple pl (by simp only [Ba]<;>omega) ⟨.int ys.length,H,I.tok _,⟨s.toks+1,by rw [Ba,hlen]⟩,q⟩
theorem VH:CY X (.type "list") (fun xs H Q=>∃p ys,xs=[.ref p]∧(SqL X.K H p ys∨SqT X.K H p ys)∧∀l,H l=none→Q (.ref l) (Az H l (.lst ys))):=by
 intro pins s σ H xs us Q I r h
 obtain ⟨p,ys,rfl,hq,q⟩:=h
 obtain ⟨u,rfl,rx⟩:=FE r
 cases rx
 have Bm:∀(its:List Value),Vals ys its→ys.length≤sizeLine→∀(h':Heap) (c':Nat),(∀b o',s.heap.get? b=some o'→h'.get? b=some o')→
  h'.get? s.heap.objs.size=some {cls:=.type "list",dict:=none,data:=.seq its.toArray c',slots:=#[]}→EP X pins σ Q (.ref s.heap.objs.size) {s with heap:=h'}:=fun its r' hz h' c' kp e=>
  ⟨.ref s.heap.objs.size,_,I.laid (t':=s.toks) kp (AV _) (show ObjOk X.prog X.w _ h' _ (.lst ys) from ⟨hz,its,c',r',e⟩),rfl,q _ (I.hok.fresh (AV _))⟩
 rcases hq with hq |hq
 ·obtain ⟨its,r',pl,hz⟩:=I.list hq
  have hlen:=r'.length
  obtain ⟨o,ho,hc,n,hd⟩:=pl.isList
  exact call_list_seq p (.inl rfl) ho hc hd (fun h' c' kp e=>Bm its r' hz h' c' kp e) (by simp only [Ba]<;>omega)
 ·obtain ⟨its,r',pl,hz⟩:=I.tuple hq
  have hlen:=r'.length
  obtain ⟨o,ho,hc,n,hd⟩:=pl
  exact call_list_seq p (.inr rfl) ho hc hd (fun h' c' kp e=>Bm its r' hz h' c' kp e) (by simp only [Ba]<;>omega)
theorem VI:CY X (.type "tuple") (fun xs H Q=>∃p ys,xs=[.ref p]∧((SqL X.K H p ys∧∀l,H l=none→Q (.ref l) (Az H l (.tup ys)))∨(SqT X.K H p ys∧Q (.ref p) H))):=by
 intro pins s σ H xs us Q I r h
 obtain ⟨p,ys,rfl,h⟩:=h
 obtain ⟨u,rfl,rx⟩:=FE r
 cases rx
 rcases h with ⟨hq,q⟩ |⟨hq,q⟩
 ·obtain ⟨its,r',pl,hz⟩:=I.list hq
  have hlen:=r'.length
  refine call_tuple_list pl.isList (fun h' kp=>?_) (by simp only [Ba]<;>omega)
  have I1:Inv X pins σ H {s with heap:=h'}:=I.kept (t':=s.toks) kp
  have I2:Inv X pins σ (Az H h'.objs.size (.tup ys)) {s with heap:=h'.push {cls:=.type "tuple",data:=.seq its.toArray}}:=
   I1.laid (t':=s.toks) (fun b o e=>AY _ e) (AV _) (show ObjOk X.prog X.w _ _ _ (.tup ys) from ⟨hz,its,r',IsTup.new _ _,NoDict.new⟩)
  exact ⟨.ref h'.objs.size,_,I2,rfl,q _ (I1.hok.fresh (AV _))⟩
 ·obtain ⟨its,r',pl,hz⟩:=I.tuple hq
  exact call_tuple_same pl ⟨.ref p,H,I,rfl,q⟩
def PC (K:PySem.W.Frag) (T:String) (x:V) (H:Hp):Prop:=match x with
 |.str _=>T="str"
 |.int _=>T="int"
 |.ref p=>(T="list"∧∃xs,SqL K H p xs)∨(T="tuple"∧∃o,K.lookup p=some o∧o.cls=.type "tuple"∧o.dict=none)
 |_=>False
theorem VJ {pins:List (Addr×Obj)} {σ:St} {H:Hp} {s:Shared} {T:String} {x:V} {v:Value} (I:Inv X pins σ H s) (r:RelV x v) (ty:PC X.K T x H):
 s.TypeIs v T∧∀a,v=.ref a→∃ob,s.heap.get? a=some ob∧ob.dict=none:=by
 cases x with
 |str z=>
  obtain ⟨t,rfl⟩:=r
  cases (show T="str" from ty)
  exact ⟨typeIs_str s z t,fun _ e=>nomatch e⟩
 |int i=>
  obtain ⟨t,rfl⟩:=r
  cases (show T="int" from ty)
  exact ⟨typeIs_int s i t,fun _ e=>nomatch e⟩
 |ref p=>
  cases r
  rcases ty with ⟨rfl,xs,hq⟩ |⟨rfl,o,hk,hc,hd⟩
  ·obtain ⟨its,_,pl,_⟩:=I.list hq
   refine ⟨pl.isList.typeIs,fun a e=>?_⟩
   cases e
   obtain ⟨o,n,e,c,hd,_⟩:=pl
   exact ⟨o,e,hd⟩
  ·refine ⟨⟨o,I.kIn p o hk,hc⟩,fun a e=>?_⟩
   cases e
   exact ⟨o,I.kIn _ o hk,hd⟩
 |_=>exact False.elim ty
def VL (K:PySem.W.Frag) (T:String) (r:V→List V→Hp→VK→Prop) (to:TE) (t:TA):TE:=fun σ H Q=>to σ H fun x H1=>PC K T x H1∧t σ H1 fun xs H2=>r x xs H2 Q
variable {o e:Expr} {es:List Expr} {to:TE} {t:TA} {name:Str} {apos cpos:Pos} {T id:String} {r:V→List V→Hp→VK→Prop}
theorem VM (pa:PlainAttrs T) (slot:Slot T name id) (hty:typeOf (.builtin id)=pure (.type "method_descriptor")) (hm:Vy X id r) (ho:PE X o to) (ha:PA X (e::es) t)
 (hbase:attributeBase o name X.env (eval o X.env)=eval o X.env:=by rfl)
 (hfew:((backTo cpos (starEach (e::es) X.env)).all (fun x=>!x.1)&&(backToKw cpos (keywordEach [] X.env)).all (fun x=>x.1.isSome)
  &&decide ((e::es).length+([]:List Keyword).length+(if ([]:List Keyword).isEmpty then 0 else 1)<30))=true:=by rfl)
 (hline:(apos.endLine==cpos.line)=true:=by rfl) (hs:starEach (e::es) X.env=(false,eval e X.env)::starEach es X.env:=by rfl) (hplain:(backTo cpos (starEach es X.env)).any (·.1)=false:=by rfl):
 PE X (.Call (.Attribute o name apos) (e::es) [] cpos) (VL X.K T r to t):=by
 intro pins s σ H Q I h
 refine wpAny_Call_method_late hbase hfew hline rfl (Au (ho pins s σ H _ I h) fun v s1 z89_=>?_)
 obtain ⟨x,H1,I1,r1,ty,q1⟩:=z89_
 obtain ⟨h1,h2⟩:=VJ I1 r1 ty
 refine ⟨T,id,pa,slot,hty,h1,h2,?_⟩
 have hA:=ha cpos pins s1 σ H1 _ I1 q1
 rw [hs] at hA ⊢
 refine Calls.callWith_builtin (by show (false||(backTo cpos (starEach es X.env)).any (·.1))=false;rw [hplain]<;>rfl) (Calls.evalArgs_plain ?_)
 exact Au hA fun us s2 z90_=>by obtain ⟨vs,H2,I2,r2,q2⟩:=z90_;exact (hm pins s2 σ H2 x vs v us Q I2 r1 r2 q2)
end
def VN (X:Cx) (id:String) (r:V→List V→Hp→VK→Prop):Prop:=
 ∀(pins:List (Addr×Obj)) (s:Shared) (σ:St) (H:Hp) (x:V) (xs:List V) (v:Value) (us:List Value) (Q:VK),Inv X pins σ H s→RelV x v→Vals xs us→r x xs H Q→
  wpAny (model X.prog X.w) X.A (call (.builtin id) (v::us)) (EP X pins σ Q) X.xe s
theorem Vals.one {x:V} {us:List Value} (h:Vals [x] us):∃u,us=[u]∧RelV x u:=by
 cases h with
 |cons r t=>cases t;exact ⟨_,rfl,r⟩
theorem Vals.reverse {xs:List V} {us:List Value} (h:Vals xs us):Vals xs.reverse us.reverse:=by
 induction h with
 |nil=>exact .nil
 |cons r t ih=>rw [Ku,Ku];exact Vals.append ih (.cons r .nil)
theorem Vals.rep {xs:List V} {us:List Value} (h:Vals xs us):∀k:Nat,Vals (List.replicate k xs).flatten (List.replicate k us).flatten
 |0=>.nil
 |k+1=>by
  rw [FZ,FZ,GA,GA]
  exact Vals.append h (Vals.rep h k)
theorem KO (its:List Value):∀(k:Nat) (acc:List Value),
 List.foldl (fun x1 x2=>x1++x2) acc.toArray (List.replicate k its.toArray)=(acc++(List.replicate k its).flatten).toArray
 |0,acc=>by simp
 |k+1,acc=>by
  have e:acc.toArray++its.toArray=(acc++its).toArray:=by simp
  have e2:(acc++its)++(List.replicate k its).flatten=acc++(List.replicate (k+1) its).flatten:=by
   rw [FZ,GA,List.append_assoc]
  rw [←e2,←KO its k (acc++its),←e,FZ,Kw]
section
variable {X:Cx} {pins:List (Addr×Obj)} {σ:St} {H:Hp} {s:Shared} {l b:Addr} {xs ys zs:List V}
theorem Inv.lset {its its':List Value} {n:Nat} {f:Array Value→Array Value} {t':Nat} (I:Inv X pins σ H s) (hH:H l=some (.lst xs))
 (e:s.heap.get? l=some {cls:=.type "list",data:=.seq its.toArray n}) (hf:f its.toArray=its'.toArray) (hv:Vals ys its') (hz:ys.length≤sizeLine):
 Inv X pins σ (Az H l (.lst ys)) {s with heap:=s.heap.update l (Obj.mapSeq f),toks:=t'}:=by
 have q:=PySem.IsL.update e f
 rw [hf] at q
 refine I.write (x:=l) (e:=l) (by rw [hH];exact trivial) (.inl rfl) (fun b' u hb hu=>(L1 s.heap (Obj.mapSeq f) (Ne.symm hb)).trans hu) ⟨_,q⟩ ?_
 exact ⟨hz,its',_,hv,q⟩
theorem Inv.lnew {its:List Value} {t':Nat} (I:Inv X pins σ H s) (hv:Vals ys its) (hz:ys.length≤sizeLine):
 Inv X pins σ (Az H s.heap.objs.size (.lst ys)) {s with heap:=s.heap.push {cls:=.type "list",data:=.seq its.toArray},toks:=t'}:=
 I.laid (fun _ _ q=>AY _ q) (AV _) ⟨hz,its,0,hv,BK _ rfl⟩
theorem Inv.fresh (I:Inv X pins σ H s):H s.heap.objs.size=none:=I.hok.fresh (AV _)
theorem Inv.lstM (I:Inv X pins σ H s) (hH:H l=some (.lst xs)):xs.length≤sizeLine∧∃(its:List Value) (n:Nat),Vals xs its∧xs.length=its.length∧s.heap.get? l=some {cls:=.type "list",data:=.seq its.toArray n}:=by
 obtain ⟨z,its,n,r,e⟩:=I.hok l _ hH
 exact ⟨z,its,n,r,r.length,e⟩
theorem VO {n:Nat} (h:n≤sizeLine):Builtin.List.listTooLong n=false:=by
 unfold Builtin.List.listTooLong
 exact decide_eq_false (by omega)
end
section
variable {X:Cx}
def VP:V→List V→Hp→VK→Prop:=fun x vs H Q=>∃l xs y,x=.ref l∧vs=[y]∧H l=some (.lst xs)∧xs.length<sizeLine∧Q .non (Az H l (.lst (xs++[y])))
theorem VQ:VN X "list.append" VP:=by
 intro pins s σ H x vs v us Q I rx rv h
 obtain ⟨l,xs,y,rfl,rfl,hH,hz,q⟩:=h
 cases rx
 obtain ⟨u,rfl,ru⟩:=rv.one
 obtain ⟨z,its,n,r,hl,e⟩:=I.lstM hH
 refine call_meets F.slot_list_append ⟨_,e,rfl⟩ F.entry_list_append (F.args_list_append_2 _ _) (PySem.list_append l its.toArray n u (by rw [Ba];omega)) ⟨e,?_⟩
 refine ⟨.non,_,I.lset (its':=its++[u]) hH e (by simp) (r.append (.cons ru .nil)) ?_,rfl,q⟩
 rw [F0,List.length_singleton]
 omega
def VR:R2:=fun x y H Q=>∃l b xs zs,x=.ref l∧y=.ref b∧H l=some (.lst xs)∧H b=some (.lst zs)∧xs.length+zs.length≤sizeLine∧∀p,H p=none→Q (.ref p) (Az H p (.lst (xs++zs)))
theorem op_cat:OpR X (binaryOp .Add) VR:=by
 intro pins s σ H x y v u Q I rx ry h
 obtain ⟨l,b,xs,zs,rfl,rfl,hH,hB,hz,q⟩:=h
 cases rx
 cases ry
 obtain ⟨z,its,n,r,hl,e⟩:=I.lstM hH
 obtain ⟨z2,its2,n2,r2,hl2,e2⟩:=I.lstM hB
 refine PySem.P.add_list e e2 ?_ (by rw [Ba,Ba];omega)
 have ea:its.toArray++its2.toArray=(its++its2).toArray:=by simp
 rw [ea]
 exact ⟨.ref _,_,I.lnew (t':=s.toks) (r.append r2) (by rw [F0];omega),rfl,q _ I.fresh⟩
def VS:R2:=fun x y H Q=>∃l k xs,x=.ref l∧y=.int k∧H l=some (.lst xs)∧-(2^63)≤k∧k<2^63∧xs.length*k.toNat≤sizeLine∧
 ∀p,H p=none→Q (.ref p) (Az H p (.lst (List.replicate k.toNat xs).flatten))
theorem KP {α:Type} (xs:List α) (k:Nat):(List.replicate k xs).flatten.length=k*xs.length:=by
 induction k with
 |zero=>simp
 |succ k ih=>rw [FZ,GA,F0,ih,Nat.succ_mul,Nat.add_comm]
theorem VT:OpR X (binaryOp .Mult) VS:=by
 intro pins s σ H x y v u Q I rx ry h
 obtain ⟨l,k,xs,rfl,rfl,hH,h1,h2,hz,q⟩:=h
 cases rx
 obtain ⟨t,rfl⟩:=ry
 obtain ⟨z,its,n,r,hl,e⟩:=I.lstM hH
 have hlen:its.toArray.size*k.toNat≤sizeLine:=by rw [Ba,←hl];exact hz
 have hcap:¬its.toArray.size*k.toNat>(2^63 - 1) / 8:=by
  have:(sizeLine:Nat)≤(2^63 - 1) / 8:=by decide
  omega
 have hfit:¬(!Builtin.List.listFitsIndex k)=true:=by
  rw [fitsIndex_both h1 h2]
  exact Bu
 have hlong:¬Builtin.List.listTooLong (its.toArray.size*k.toNat)=true:=by
  rw [VO hlen]
  exact Bu
 have hnew:List.foldl (fun x1 x2=>x1++x2) #[] (List.replicate (if its.toArray.isEmpty=true then 0 else k.toNat) its.toArray)=(List.replicate k.toNat its).flatten.toArray:=by
  have f0:∀m:Nat,List.foldl (fun x1 x2=>x1++x2) #[] (List.replicate m its.toArray)=(List.replicate m its).flatten.toArray:=fun m=>by
   have:=KO its m []
   rw [Kx] at this
   exact this
  rw [f0]
  cases its with
  |nil=>simp
  |cons a r'=>rw [if_neg (by simp)]
 refine wpAny_binaryOp_repeat_ref (T:="list") (U:="int") (by decide) ⟨_,e,rfl⟩ (fun s'=>typeIs_int s' k t) noFill_list_mul F.fills_int_mul F.slot_int_rmul repeat_list F.slot_int_index.lookup
  (call_meets F.slot_int_rmul (typeIs_int s k t) F.entry_int_rmul (F.args_int_rmul_2 _ _) (int___rmul___int_list k t l its.toArray n)
   ⟨e,rfl,⟨_,e,rfl⟩,call_meets F.slot_list_mul ⟨_,e,rfl⟩ F.entry_list_mul (F.args_list_mul_2 _ _) (AutoListH.list___mul___list_int_3 l its.toArray n k t hfit hcap hlong) ⟨e,?_⟩⟩)
 rw [hnew]
 exact ⟨.ref _,_,I.lnew (t':=s.toks) (r.rep k.toNat) (by rw [KP,Nat.mul_comm];exact hz),rfl,q _ I.fresh⟩
end
section
variable {prog:Program} {w:World} {A:Around} {E:Value→Shared→Prop} {s:Shared}
end
section
variable {X:Cx}
end
end L2
namespace Att
open PySem PySem.W PySem.Calls PyProof.Rows
theorem VU {P:Params} {h:Heap}:∀(ns:List Int) (vs:List Value),WellAll P h vs (ns.map WData.int)→IntsAre vs ns:=by
 intro ns
 induction ns with
 |nil=>
  intro vs w
  rw [Jh] at w
  cases w
  exact .nil
 |cons n ns ih=>
  intro vs w
  rw [BV] at w
  cases w with
  |cons a b=>
   cases a
   exact .cons _ _ (ih _ b)
theorem VV {l:OpenLaw} {n:Nat} (hn:l.most=some n) {P:Params} {h:Heap} {args:List WData} {vals:List Value}
 (hpre:l.row.toRowW.claim.pre args=true) (hwl:WellAll P h vals args):
 ∃a vs ns,vals=[Value.ref a]∧args=[WData.list (ns.map WData.int)]∧h.get? a=some {cls:=.type "list",data:=.seq vs.toArray}∧IntsAre vs ns∧ns.length≤n:=by
 have hsh:WShape.hasAll [] args [.list .int]=true:=(pre_splitW hpre).1
 have hc:l.pre.holds [] {args:=args}=true:=(pre_splitW hpre).2
 obtain ⟨d,r,rfl,h1,h2⟩:=hasAllW_cons hsh
 obtain rfl:=hasAllW_nil h2
 obtain ⟨xs,rfl,h3⟩:=hasW_list h1
 obtain ⟨ns,rfl⟩:=items_int h3
 have hlen:ns.length≤n:=by
  unfold OpenLaw.pre at hc
  have h4:(WTm.not (.lt (.lit (.int (n:Int))) (.len (.arg 0)))).holds [] {args:=[.list (ns.map .int)]}=true:=by
   have h4:=(holds_andW hc).1
   rw [hn] at h4
   exact h4
  have h5:=condW_of h4 (w_not (w_lt w_lit (w_len_list (w_arg rfl))))
  rw [D0] at h5
  refine Ic fun q=>?_
  have q':(n:Int)<((ns.length:Nat):Int):=by omega
  first
   |(rw [decide_eq_true q'] at h5;exact absurd h5 (by decide))
   |(simp at h5;omega)
 cases hwl with
 |cons w1 w2=>
  cases w2
  cases w1 with
  |list ho hall=>exact ⟨_,_,ns,rfl,rfl,ho,VU ns _ hall,hlen⟩
theorem VW (l:OpenLaw) (args:List WData):l.row.toRowW.claim.post args (.bool true) args=true:=
 postW_of (r:=l.row.toRowW) (X:=(true==true))
  (show WShape.has [] (.bool true) .bool=true by first |rfl |decide |simp [WShape.has,WShape.arms,WShape.armsAll])
  (show (WTm.eq .res (.lit (.bool true))).value [] {args:=args,res:=some (.bool true),after:=args}=some (.bool (true==true)) from w_eq_bool (w_res rfl) w_lit) rfl
section
variable {prog:Program} {w:World} {A:Around} {E:Value→Shared→Prop} {s:Shared} {K:Frag}
end
end Att
namespace L2
open PySem PySem.Spec PyProof.Rows
theorem vals_ints:∀{vs:List Value} {ns:List Int},IntsAre vs ns→Vals (ns.map V.int) vs
 |_,_,.nil=>.nil
 |_,_,.cons n t h=>.cons ⟨t,rfl⟩ (vals_ints h)
def defArgs (s:Stmt):Arguments:=match s with
 |.FunctionDef _ a _ _ _ _ _ _ _ _=>a
 |_=>{posonlyargs:=[],args:=[],vararg:=none,kwonlyargs:=[],kw_defaults:=[],kwarg:=none,defaults:=[]}
def defBody (s:Stmt):List Stmt:=match s with
 |.FunctionDef _ _ b _ _ _ _ _ _ _=>b
 |_=>[]
def defScope (s:Stmt):Scope:=match s with
 |.FunctionDef _ _ _ _ _ _ sc _ _ _=>sc
 |_=>{kind:=.function,names:=[],isGenerator:=false,isCoroutine:=false}
abbrev PD:Em:=fun _ _ _ _ _ _=>False
abbrev E0:XK:=fun _ _ _=>False
inductive PF (K:PySem.W.Frag) (x qual:Str) (st:Stmt) (f:Addr) (fd:FuncData):Prop where
 |mk (oc:Value) (od:Option Addr) (kV doc pm:Value) (an:Option Addr) (cdv ct:Value) (osl:Array (Option Value)) (f1:fd=PySem.W.fnOf x qual (defArgs st) (defBody st) (defScope st) .none kV doc pm an cdv ct) (f2:K.lookup f=some ⟨oc,od,.func fd,osl⟩) (f3:PySem.W.codeIn K cdv qual=true):PF K x qual st f fd
structure Fun (K:PySem.W.Frag) (x qual:Str) (st:Stmt) (f:Addr) (fd:FuncData):Prop where
 ex:PF K x qual st f fd
 kp:PySem.W.keepIn K (.ref f)=true
section
variable {P:Program} {w:World} {K:PySem.W.Frag} {mg:Str→Option Value} {base:Heap}
theorem Fun.binds {x qual:Str} {st:Stmt} {f:Addr} {fd:FuncData} {ps:List Str} (F:Fun K x qual st f fd)
 (h:∀(kV doc pm:Value) (an:Option Addr) (cdv ct:Value) (us:List Value),us.length=ps.length→bindArgs (PySem.W.fnOf x qual (defArgs st) (defBody st) (defScope st) .none kV doc pm an cdv ct) ⟨us,[]⟩=pure (ps.zip us)):Binds K fd ps []:=by
 obtain ⟨oc,od,kV,doc,pm,an,cdv,ct,osl,rfl,lk,hcd⟩:=F.ex
 exact .all (h kV doc pm an cdv ct)
theorem Ip {x qual:Str} {st:Stmt} {f:Addr} {oc:Value} {od an:Option Addr} {osl:Array (Option Value)} {kV doc pm cdv ct:Value} (l:K.lookup f=some ⟨oc,od,.func (PySem.W.fnOf x qual (defArgs st) (defBody st) (defScope st) .none kV doc pm an cdv ct),osl⟩)
 (c:PySem.W.codeIn K cdv qual=true) (k:PySem.W.keepIn K (.ref f)=true):Fun K x qual st f (PySem.W.fnOf x qual (defArgs st) (defBody st) (defScope st) .none kV doc pm an cdv ct):=⟨⟨oc,od,kV,doc,pm,an,cdv,ct,osl,rfl,l,c⟩,k⟩
end
section
variable {X:Cx}
theorem pv (i:Nat) {x:Str} {pos:Pos} (hN:X.N[i]?=some x:=by rfl) (hv:KB X.env.scope x:=by first |exact Or.inl rfl |exact Or.inr (Or.inl rfl) |exact Or.inr (Or.inr rfl)) (hd:(x==("__debug__":Str))=false:=by decide)
 (hcd:(x==("__classdict__":Str))=false:=by decide):PE X (.Name x pos) (L4 i):=TJ hN hv hd hcd
end
end L2
namespace LS
open PySem PySem.Spec PyProof.Rows L2
inductive D where
 |non |bl (b:Bool) |int (i:Int) |str (x:Str) |tup (ds:List D) |loc (l:Nat) |scr (ns:List Int) |adr (a:Addr) |ty (n:String) |exc (n:Str) (fs:List (Str×Int)) |edic |glo (n:Str) |clo (a:Addr) (vs:List V) (ds:List D)
inductive Cell where
 |lst (ds:List D) |tab
abbrev HD:=List Cell
abbrev Ai:=List (Option D)
inductive Out (α:Type) where
 |ok (a:α) (h:HD) |err (C:Value) (fs:List (Str×D)) (h:HD) |stuck
def Out.bind {α β:Type} (o:Out α) (k:α→HD→Out β):Out β:=match o with
 |.ok a h=>k a h
 |.err C fs h=>.err C fs h
 |.stuck=>.stuck
@[simp] theorem Out.bind_ok {α β:Type} (a:α) (h:HD) (k:α→HD→Out β):(Out.ok a h).bind k=k a h:=rfl
@[simp] theorem Out.bind_err {α β:Type} (C:Value) (fs:List (Str×D)) (h:HD) (k:α→HD→Out β):(Out.err C fs h:Out α).bind k=.err C fs h:=rfl
@[simp] theorem Out.bind_stuck {α β:Type} (k:α→HD→Out β):(Out.stuck:Out α).bind k=.stuck:=rfl
def Mh:HO→Bool
 |.tup _=>true
 |.frz _ _=>true
 |.ext _=>true
 |.xd _=>true
 |_=>false
def Kp (H H':Hp):Prop:=∀b o,H b=some o→Mh o=true→H' b=some o
theorem Kp.refl (H:Hp):Kp H H:=fun _ _ e _=>e
theorem Kp.trans {H H1 H2:Hp} (a:Kp H H1) (b:Kp H1 H2):Kp H H2:=fun c o e i=>b c o (a c o e i) i
theorem Kp.new {H:Hp} {p:Addr} {o:HO} (h:H p=none):Kp H (Az H p o):=fun b u e _=>by rw [AM (BO e h)];exact e
theorem Kp.set {H:Hp} {p:Addr} {o u:HO} (h:H p=some o) (i:Mh o=false):Kp H (Az H p u):=fun b w e iw=>by
 rw [AM]
 ·exact e
 ·intro z
  rw [z,h] at e;cases e;rw [i] at iw;cases iw
def FzL (K:PySem.W.Frag) (H:Hp) (a:Addr) (xs:List V):Prop:=(∃o,H a=some (.frz o (.lst xs)))∨SqL K (fun _=>none) a xs
theorem Kp.fzL {K:PySem.W.Frag} {H H':Hp} {a:Addr} {xs:List V} (k:Kp H H') (h:FzL K H a xs):FzL K H' a xs:=by
 rcases h with ⟨o,h⟩ |h
 ·exact .inl ⟨o,k _ _ h rfl⟩
 ·exact .inr h
theorem FzL.sq {K:PySem.W.Frag} {H:Hp} {a:Addr} {xs:List V} (h:FzL K H a xs):SqL K H a xs:=by
 rcases h with ⟨o,h⟩ |(h |⟨o,h⟩) |h
 ·exact .inl (.inr ⟨o,h⟩)
 ·cases h
 ·cases h
 ·exact .inr h
def VX (C:Addr) (da:Option Addr) (a:Addr) (h:Heap):Prop:=∃o vs,h.get? a=some o∧o.cls=.ref C∧(∀d,da=some d→o.dict=some d)∧o.data=.fields vs
def VY (a:Addr) (h:Heap):Prop:=a≠sysModules∧∃o ep,h.get? a=some o∧o.ExactDict∧o.data=.dict #[] ep
mutual
def DV (K:PySem.W.Frag) (m:List Addr) (H:Hp):D→V→Prop
 |.non,v=>v=.non
 |.bl b,v=>v=.bl b
 |.int i,v=>v=.int i
 |.str x,v=>v=.str x
 |.tup ds,v=>∃a vs,v=.ref a∧H a=some (.tup vs)∧DVs K m H ds vs
 |.loc l,v=>∃a,v=.ref a∧m[l]?=some a
 |.scr ns,v=>∃a,v=.ref a∧FzL K H a (ns.map V.int)
 |.adr a,v=>v=.ref a
 |.ty n,v=>v=.ty n
 |.exc n fs,v=>∃a C da,v=.ref a∧PySem.W.nsIn K mainGlobals n=some (some (.ref C))∧H a=some (.ext (VX C da a))∧∀f i,fs.lookup f=some i→∃d fv,da=some d∧H d=some (.xd fv)∧fv.lookup f=some (.int i)
 |.edic,v=>∃a,v=.ref a∧H a=some (.ext (VY a))
 |.glo n,v=>∃a,v=.ref a∧PySem.W.nsIn K mainGlobals n=some (some (.ref a))
 |.clo a vs ds,v=>v=.ref a∧DVs K m H ds vs
def DVs (K:PySem.W.Frag) (m:List Addr) (H:Hp):List D→List V→Prop
 |[],vs=>vs=[]
 |d::ds,vs=>∃v r,vs=v::r∧DV K m H d v∧DVs K m H ds r
end
section
variable {K:PySem.W.Frag} {m m':List Addr} {H H':Hp}
theorem Iq {l:Nat} {a:Addr} (p:m <+:m') (h:m[l]?=some a):m'[l]?=some a:=by
 obtain ⟨t,rfl⟩:=p
 have hl:l<m.length:=(qa5.mp h).1
 rw [Gy hl];exact h
mutual
theorem DV.keep (p:m <+:m') (k:Kp H H'):∀{d:D} {v:V},DV K m H d v→DV K m' H' d v
 |.non,_,h=>by simpa [DV] using h
 |.bl _,_,h=>by simpa [DV] using h
 |.int _,_,h=>by simpa [DV] using h
 |.str _,_,h=>by simpa [DV] using h
 |.tup ds,_,h=>by
  simp only [DV] at h ⊢
  obtain ⟨a,vs,e,q,r⟩:=h
  exact ⟨a,vs,e,k _ _ q rfl,DVs.keep p k r⟩
 |.loc l,_,h=>by
  simp only [DV] at h ⊢
  obtain ⟨a,e,q⟩:=h
  exact ⟨a,e,Iq p q⟩
 |.scr ns,_,h=>by
  simp only [DV] at h ⊢
  obtain ⟨a,e,q⟩:=h
  exact ⟨a,e,k.fzL q⟩
 |.adr _,_,h=>by simpa [DV] using h
 |.ty _,_,h=>by simpa [DV] using h
 |.exc _ _,_,h=>by
  simp only [DV] at h ⊢
  obtain ⟨a,C,da,e,q,r,t⟩:=h
  exact ⟨a,C,da,e,q,k _ _ r rfl,fun f i z=>let ⟨d,fv,z1,z2,z3⟩:=t f i z;⟨d,fv,z1,k _ _ z2 rfl,z3⟩⟩
 |.edic,_,h=>by
  simp only [DV] at h ⊢
  obtain ⟨a,e,r⟩:=h
  exact ⟨a,e,k _ _ r rfl⟩
 |.glo _,_,h=>by simpa [DV] using h
 |.clo _ _ ds,_,h=>by
  simp only [DV] at h ⊢
  exact ⟨h.1,DVs.keep p k h.2⟩
theorem DVs.keep (p:m <+:m') (k:Kp H H'):∀{ds:List D} {vs:List V},DVs K m H ds vs→DVs K m' H' ds vs
 |[],_,h=>by simpa [DVs] using h
 |d::ds,_,h=>by
  simp only [DVs] at h ⊢
  obtain ⟨v,r,e,q,t⟩:=h
  exact ⟨v,r,e,DV.keep p k q,DVs.keep p k t⟩
end
theorem DVs.nil:DVs K m H [] []:=by simp [DVs]
theorem DVs.cons {d:D} {v:V} {ds:List D} {vs:List V} (h:DV K m H d v) (t:DVs K m H ds vs):DVs K m H (d::ds) (v::vs):=by
 simp only [DVs];exact ⟨v,vs,rfl,h,t⟩
theorem DVs.len:∀{ds:List D} {vs:List V},DVs K m H ds vs→ds.length=vs.length
 |[],_,h=>by simp only [DVs] at h;subst h;rfl
 |d::ds,_,h=>by
  simp only [DVs] at h
  obtain ⟨v,r,e,_,t⟩:=h
  subst e
  simp [DVs.len t]
theorem DVs.get:∀{ds:List D} {vs:List V} {i:Nat} {d:D},DVs K m H ds vs→ds[i]?=some d→∃v,vs[i]?=some v∧DV K m H d v
 |[],_,_,_,_,e=>by simp at e
 |d::ds,_,i,x,h,e=>by
  simp only [DVs] at h
  obtain ⟨v,r,rfl,q,t⟩:=h
  cases i with
  |zero=>simp at e;subst e;exact ⟨v,rfl,q⟩
  |succ i=>
   obtain ⟨w,h1,h2⟩:=DVs.get (i:=i) t (by simpa using e)
   exact ⟨w,by simpa using h1,h2⟩
theorem DVs.app:∀{ds es:List D} {vs ws:List V},DVs K m H ds vs→DVs K m H es ws→DVs K m H (ds++es) (vs++ws)
 |[],_,_,_,h,t=>by simp only [DVs] at h;subst h;exact t
 |d::ds,_,_,_,h,t=>by
  simp only [DVs] at h
  obtain ⟨v,r,rfl,q,u⟩:=h
  exact .cons q (DVs.app u t)
theorem DVs.set:∀{ds:List D} {vs:List V} {d:D} {v:V} (i:Nat),DVs K m H ds vs→DV K m H d v→DVs K m H (ds.set i d) (vs.set i v)
 |[],_,_,_,_,h,_=>by simp only [DVs] at h;subst h;exact .nil
 |d::ds,_,_,_,i,h,q'=>by
  simp only [DVs] at h
  obtain ⟨v,r,rfl,q,u⟩:=h
  cases i with
  |zero=>exact .cons q' u
  |succ i=>exact .cons q (DVs.set i u q')
theorem DVs.take:∀{ds:List D} {vs:List V} (n:Nat),DVs K m H ds vs→DVs K m H (ds.take n) (vs.take n)
 |_,_,0,_=>by simpa using (DVs.nil:DVs K m H [] [])
 |[],_,n+1,h=>by simp only [DVs] at h;subst h;exact .nil
 |d::ds,_,n+1,h=>by
  simp only [DVs] at h
  obtain ⟨v,r,rfl,q,u⟩:=h
  exact .cons q (DVs.take n u)
theorem DVs.drop:∀{ds:List D} {vs:List V} (n:Nat),DVs K m H ds vs→DVs K m H (ds.drop n) (vs.drop n)
 |_,_,0,h=>by simpa using h
 |[],_,n+1,h=>by simp only [DVs] at h;subst h;exact .nil
 |d::ds,_,n+1,h=>by
  simp only [DVs] at h
  obtain ⟨v,r,rfl,q,u⟩:=h
  simpa using DVs.drop n u
theorem DVs.rep {ds:List D} {vs:List V} (h:DVs K m H ds vs):∀n,DVs K m H (List.replicate n ds).flatten (List.replicate n vs).flatten
 |0=>by simpa using (DVs.nil:DVs K m H [] [])
 |n+1=>by
  rw [FZ,GA,FZ,GA]
  exact h.app (DVs.rep h n)
def VZ (q:Str) (c:Addr) (h:Heap):Prop:=h.CodeRec (.ref c) q
def tabP (K:PySem.W.Frag):Option (Addr×Addr):=match PySem.W.nsIn K mainGlobals "law" with
 |some (some (.ref f))=>(match K.lookup f with
  |some ⟨_,_,.func fd,_⟩=>(match fd.code with
   |.ref c=>(match K.lookup c with
    |some ⟨_,_,.fields vs,_⟩=>(match (vs[11]?:Option Value) with
     |some (.ref P)=>some (c,P)
     |_=>none)
    |_=>none)
   |_=>none)
  |_=>none)
 |_=>none
def TabIs (K:PySem.W.Frag) (H:Hp) (a:Addr):Prop:=(∃c,tabP K=some (c,a))∧∃ps,H a=some (.tbl ps)∧TriplesOk ps.toList∧∀pos cv,codeAmong pos ps.toList=some cv→∃c,cv=.ref c∧H c=some (.ext (VZ "law.<locals>.<lambda>" c))
theorem TabIs.keep {K:PySem.W.Frag} {H H':Hp} {a:Addr} (t:TabIs K H a) (k:Kp H H') (e:H' a=H a):TabIs K H' a:=by
 obtain ⟨z,ps,h1,h2,h3⟩:=t
 exact ⟨z,ps,e.trans h1,h2,fun pos cv q=>let ⟨c,q1,q2⟩:=h3 pos cv q;⟨c,q1,k _ _ q2 rfl⟩⟩
def KQ (K:PySem.W.Frag) (m:List Addr) (H:Hp):Cell→Addr→Prop
 |.lst ds,a=>∃vs,H a=some (.lst vs)∧DVs K m H ds vs
 |.tab,a=>TabIs K H a
structure HR (K:PySem.W.Frag) (m:List Addr) (h:HD) (H:Hp):Prop where
 len:m.length=h.length
 nd:m.Nodup
 cells:∀(l:Nat) (c:Cell) (a:Addr),h[l]?=some c→m[l]?=some a→KQ K m H c a
theorem HR.at {h:HD} {l:Nat} {c:Cell} (r:HR K m h H) (e:h[l]?=some c):∃a,m[l]?=some a∧KQ K m H c a:=by
 have hl:l<h.length:=(qa5.mp e).1
 have:l<m.length:=by rw [r.len];exact hl
 exact ⟨m[l],Bi this,r.cells l c _ e (Bi this)⟩
theorem HR.mem {h:HD} {a:Addr} (r:HR K m h H) (ha:a∈m):H a≠none:=by
 obtain ⟨l,hl,rfl⟩:=Jd ha
 have hl':l<h.length:=by rw [←r.len];exact hl
 have:=r.cells l h[l] m[l] (Bi hl') (Bi hl)
 cases hc:h[l] with
 |lst ds=>
  rw [hc] at this
  obtain ⟨vs,e,_⟩:=this
  rw [e];simp
 |tab=>
  rw [hc] at this
  obtain ⟨_,ps,e,_⟩:=this
  rw [e];simp
theorem HR.same {h:HD} (r:HR K m h H) (k:Kp H H') (s:∀a∈m,H' a=H a):HR K m h H':=by
 refine ⟨r.len,r.nd,fun l c a e q=>?_⟩
 have hm:a∈m:=HZ q
 have:=r.cells l c a e q
 cases c with
 |lst ds=>
  obtain ⟨vs,e1,e2⟩:=this
  exact ⟨vs,by rw [s a hm];exact e1,e2.keep (AL _) k⟩
 |tab=>exact TabIs.keep this k (s a hm)
theorem HR.new {h:HD} {p:Addr} {o:HO} (r:HR K m h H) (hp:H p=none):HR K m h (Az H p o):=
 r.same (.new hp) fun a ha=>AM fun z=>r.mem ha (z ▸ hp)
theorem HR.newCell {h:HD} {p:Addr} {o:HO} {c:Cell} (r:HR K m h H) (hp:H p=none) (hc:KQ K (m++[p]) (Az H p o) c p):HR K (m++[p]) (h++[c]) (Az H p o):=by
 have hpm:p∉m:=fun z=>r.mem z hp
 refine ⟨by simp [r.len],?_,fun l c' a e q=>?_⟩
 ·rw [List.nodup_append]
  refine ⟨r.nd,by simp,fun a ha b hb=>?_⟩
  rw [qaE] at hb
  subst hb
  intro z;subst z;exact hpm ha
 ·by_cases hl:l<m.length
  ·rw [Gy hl] at q
   rw [Gy (by rw [←r.len];exact hl)] at e
   have:=r.cells l c' a e q
   have hne:a≠p:=fun z=>hpm (z ▸ HZ q)
   cases c' with
   |lst ds=>
    obtain ⟨vs,e1,e2⟩:=this
    exact ⟨vs,by rw [AM hne];exact e1,e2.keep (List.prefix_append _ _) (.new hp)⟩
   |tab=>exact TabIs.keep this (.new hp) (AM hne)
  ·have h1:m.length≤l:=Ic hl
   rw [Ko h1] at q
   rw [Ko (by rw [←r.len];exact h1)] at e
   have e0:l - m.length=0:=by
    cases hz:l - m.length with
    |zero=>rfl
    |succ n=>rw [hz] at q;simp at q
   rw [←r.len] at e
   rw [e0] at q e
   simp at q e
   subst q e
   exact hc
theorem HR.setCell {h:HD} {p:Addr} {l:Nat} {o u:HO} {c:Cell} (r:HR K m h H) (hl:m[l]?=some p) (ho:H p=some o) (i:Mh o=false) (hc:KQ K m (Az H p u) c p):HR K m (h.set l c) (Az H p u):=by
 refine ⟨by simp [r.len],r.nd,fun j c' a e q=>?_⟩
 by_cases hj:j=l
 ·subst hj
  rw [hl] at q;cases q
  have hlt:j<h.length:=by rw [←r.len];exact (qa5.mp hl).1
  rw [DX hlt] at e
  cases e
  exact hc
 ·rw [CU (Ne.symm hj)] at e
  have:=r.cells j c' a e q
  have hne:a≠p:=by
   intro z
   subst z
   obtain ⟨h1,e1⟩:=qa5.mp q
   obtain ⟨h2,e2⟩:=qa5.mp hl
   exact hj ((List.getElem_inj r.nd).mp (e1.trans e2.symm))
  cases c' with
  |lst ds=>
   obtain ⟨vs,e1,e2⟩:=this
   exact ⟨vs,by rw [AM hne];exact e1,e2.keep (AL _) (.set ho i)⟩
  |tab=>exact TabIs.keep this (.set ho i) (AM hne)
def ER (K:PySem.W.Frag) (m:List Addr) (H:Hp) (ρ:Ai) (σ:L2.St):Prop:=ρ.length=σ.length∧∀(i:Nat) (d:D),ρ[i]?=some (some d)→∃v,σ[i]?=some (some v)∧DV K m H d v
theorem ER.keep {ρ:Ai} {σ:L2.St} (p:m <+:m') (k:Kp H H') (e:ER K m H ρ σ):ER K m' H' ρ σ:=⟨e.1,fun i d h=>let ⟨v,a,b⟩:=e.2 i d h;⟨v,a,b.keep p k⟩⟩
theorem ER.set {ρ:Ai} {σ:L2.St} {i:Nat} {d:D} {v:V} (e:ER K m H ρ σ) (r:DV K m H d v):ER K m H (ρ.set i (some d)) (σ.set i (some v)):=by
 refine ⟨by simp [e.1],fun j d' h=>?_⟩
 by_cases hj:i=j
 ·subst hj
  by_cases hl:i < ρ.length
  ·rw [DX hl] at h
   cases h
   exact ⟨v,by rw [DX (by rw [←e.1];exact hl)],r⟩
  ·rw [List.getElem?_eq_none (by simp;omega)] at h;cases h
 ·rw [CU hj] at h
  obtain ⟨w,a,b⟩:=e.2 j d' h
  exact ⟨w,by rw [CU hj];exact a,b⟩
theorem ER.start {N:List Str} {ds:List D} {vs:List V} (h:DVs K m H ds vs):ER K m H (ds.map some++List.replicate (N.length - ds.length) none) (L2.start N vs):=by
 refine ⟨by simp [L2.start,h.len],fun i d e=>?_⟩
 by_cases hl:i<ds.length
 ·rw [Gy (by simpa using hl),Dy] at e
  obtain ⟨d',e1⟩:∃d',ds[i]?=some d':=⟨ds[i],Bi hl⟩
  rw [e1] at e
  simp at e
  subst e
  obtain ⟨v,q,r⟩:=h.get e1
  refine ⟨v,?_,r⟩
  unfold L2.start
  rw [Gy (by simpa [←h.len] using hl),Dy,q]
  rfl
 ·rw [Ko (by simpa using Ic hl)] at e
  rw [List.getElem?_replicate] at e
  split at e<;>cases e
def XD (K:PySem.W.Frag) (m:List Addr) (H:Hp) (fs:List (Str×D)) (da:Option Addr):Prop:=
 ∀f d,fs.lookup f=some d→∃a fv v,da=some a∧H a=some (.xd fv)∧fv.lookup f=some v∧DV K m H d v
def Post {α β:Type} (K:PySem.W.Frag) (R:List Addr→Hp→α→β→Prop) (m:List Addr) (H:Hp) (E:XK) (Q:β→Hp→Prop):Out α→Prop
 |.ok a h'=>∀v m' H',m <+:m'→Kp H H'→HR K m' h' H'→R m' H' a v→Q v H'
 |.err C fs h'=>∀da m' H',m <+:m'→Kp H H'→HR K m' h' H'→XD K m' H' fs da→E C da H'
 |.stuck=>False
theorem Post.ahead {α β:Type} {R:List Addr→Hp→α→β→Prop} {E:XK} {Q:β→Hp→Prop} {o:Out α} (p:m <+:m') (k:Kp H H') (h:Post K R m H E Q o):Post K R m' H' E Q o:=by
 cases o with
 |ok a h'=>exact fun v m2 H2 p2 k2=>h v m2 H2 (p.trans p2) (k.trans k2)
 |err C fs h'=>exact fun da m2 H2 p2 k2=>h da m2 H2 (p.trans p2) (k.trans k2)
 |stuck=>exact h
theorem Post.bind {α β γ δ:Type} {R:List Addr→Hp→α→β→Prop} {R':List Addr→Hp→γ→δ→Prop} {E:XK} {Q:δ→Hp→Prop} {Q':β→Hp→Prop} {o:Out α} {k:α→HD→Out γ}
 (h:Post K R' m H E Q (o.bind k)) (f:∀a h1 v m1 H1,o=.ok a h1→m <+:m1→Kp H H1→HR K m1 h1 H1→R m1 H1 a v→Post K R' m1 H1 E Q (k a h1)→Q' v H1):Post K R m H E Q' o:=by
 cases o with
 |ok a h1=>exact fun v m1 H1 p kk hr r=>f a h1 v m1 H1 rfl p kk hr r (h.ahead p kk)
 |err C fs h1=>exact h
 |stuck=>exact h
theorem Post.mono {α β:Type} {R:List Addr→Hp→α→β→Prop} {E:XK} {Q Q':β→Hp→Prop} {o:Out α} (h:Post K R m H E Q o) (f:∀v H',Q v H'→Q' v H'):Post K R m H E Q' o:=by
 cases o with
 |ok a h1=>exact fun v m1 H1 p k hr r=>f _ _ (h v m1 H1 p k hr r)
 |err C fs h1=>exact h
 |stuck=>exact h
end
abbrev ME:=Ai→HD→Out D
abbrev MT:=Ai→HD→Out Bool
abbrev MA:=Ai→HD→Out (List D)
inductive Fl where
 |nx |bk |ct |rt (d:D)
abbrev MS:=Ai→HD→Out (Fl×Ai)
def rD (K:PySem.W.Frag):List Addr→Hp→D→V→Prop:=fun m H d v=>DV K m H d v
def rB:List Addr→Hp→Bool→Bool→Prop:=fun _ _ a b=>a=b
def FH (K:PySem.W.Frag):List Addr→Hp→List D→List V→Prop:=fun m H d v=>DVs K m H d v
inductive tM {α β:Type} (K:PySem.W.Frag) (R:List Addr→Hp→α→β→Prop) (E:XK) (f:Ai→HD→Out α) (σ:L2.St) (H:Hp) (Q:β→Hp→Prop):Prop where
 |mk (m:List Addr) (ρ:Ai) (h:HD) (hr:HR K m h H) (er:ER K m H ρ σ) (p:Post K R m H E Q (f ρ h)):tM K R E f σ H Q
abbrev tD (K:PySem.W.Frag) (E:XK) (f:ME):TE:=tM K (rD K) E f
abbrev EZ (K:PySem.W.Frag) (E:XK) (f:MT):TT:=tM K rB E f
abbrev V0 (K:PySem.W.Frag) (E:XK) (f:MA):TA:=tM K (FH K) E f
def PH (K:PySem.W.Frag) (m:List Addr) (H:Hp) (D:D5):Fl×Ai→Prop
 |(.nx,ρ)=>∀σ,ER K m H ρ σ→D.nx σ H
 |(.bk,ρ)=>∀σ,ER K m H ρ σ→D.bk σ H
 |(.ct,ρ)=>∀σ,ER K m H ρ σ→D.ct σ H
 |(.rt d,_)=>∀v,DV K m H d v→D.rt v H
def PostS (K:PySem.W.Frag) (m:List Addr) (H:Hp) (E:XK) (D:D5):Out (Fl×Ai)→Prop
 |.ok a h'=>∀m' H',m <+:m'→Kp H H'→HR K m' h' H'→PH K m' H' D a
 |.err C fs h'=>∀da m' H',m <+:m'→Kp H H'→HR K m' h' H'→XD K m' H' fs da→E C da H'
 |.stuck=>False
inductive Mi (K:PySem.W.Frag) (E:XK) (g:MS) (D:D5) (σ:L2.St) (H:Hp):Prop where
 |mk (m:List Addr) (ρ:Ai) (h:HD) (hr:HR K m h H) (er:ER K m H ρ σ) (p:PostS K m H E D (g ρ h)):Mi K E g D σ H
theorem PostS.ahead {K:PySem.W.Frag} {m m':List Addr} {H H':Hp} {E:XK} {D:D5} {o:Out (Fl×Ai)} (p:m <+:m') (k:Kp H H') (h:PostS K m H E D o):PostS K m' H' E D o:=by
 cases o with
 |ok a h'=>exact fun m2 H2 p2 k2=>h m2 H2 (p.trans p2) (k.trans k2)
 |err C fs h'=>exact fun da m2 H2 p2 k2=>h da m2 H2 (p.trans p2) (k.trans k2)
 |stuck=>exact h
abbrev Ev (X:Cx) (E:XK) (e:Expr) (f:ME):Prop:=PE X e (tD X.K E f)
abbrev D9 (X:Cx) (E:XK) (e:Expr) (f:MT):Prop:=PT X e (EZ X.K E f)
abbrev DA (X:Cx) (E:XK) (es:List Expr) (f:MA):Prop:=PA X es (V0 X.K E f)
abbrev Ex (X:Cx) (E:XK) (st:Stmt) (g:MS):Prop:=PS X st (Mi X.K E g)
abbrev AE (X:Cx) (E:XK) (sts:List Stmt) (g:MS):Prop:=D6 X sts (Mi X.K E g)
section
variable {X:Cx}
theorem B9 {e:Expr} {t t':TE} (h:PE X e t) (i:∀σ H Q,t' σ H Q→t σ H Q):PE X e t':=fun pins s σ H Q I q=>h pins s σ H Q I (i σ H Q q)
theorem KR {e:Expr} {t t':TT} (h:PT X e t) (i:∀σ H Q,t' σ H Q→t σ H Q):PT X e t':=fun pins s σ H Q I q=>h pins s σ H Q I (i σ H Q q)
theorem PJ {e:List Expr} {t t':TA} (h:PA X e t) (i:∀σ H Q,t' σ H Q→t σ H Q):PA X e t':=fun pos pins s σ H Q I q=>h pos pins s σ H Q I (i σ H Q q)
theorem En {e:Stmt} {t t':TS} (h:PS X e t) (i:∀D σ H,t' D σ H→t D σ H):PS X e t':=fun pins s σ H D I q=>h pins s σ H D I (i D σ H q)
theorem PK {e:List Stmt} {t t':TS} (h:D6 X e t) (i:∀D σ H,t' D σ H→t D σ H):D6 X e t':=fun pins s σ H D I q=>h pins s σ H D I (i D σ H q)
end
end LS
namespace LS
open PySem PySem.Spec PyProof.Rows L2
section
variable {X:Cx} {E:XK} {a b c:Expr} {pos:Pos} {f g k:ME}
def Aa (i:Nat):ME:=fun ρ h=>match ρ[i]? with
 |some (some d)=>.ok d h
 |_=>.stuck
theorem Ac {i:Nat} (h:PE X a (L4 i)):Ev X E a (Aa i):=B9 h fun σ H Q z1_=>by
 obtain ⟨m,ρ,hd,hr,er,p⟩:=z1_
 unfold Aa at p
 split at p
 ·rename_i d e
  obtain ⟨v,e1,r⟩:=er.2 i d e
  exact ⟨v,e1,p v m H (AL _) (.refl _) hr r⟩
 ·exact p.elim
def mC (d:D):ME:=fun _ h=>.ok d h
theorem Jq {d:D} {v:V} (h:PE X a (tC v)) (r:∀m H,DV X.K m H d v):Ev X E a (mC d):=B9 h fun σ H Q z2_=>by obtain ⟨m,ρ,hd,hr,er,p⟩:=z2_;exact (p v m H (AL _) (.refl _) hr (r m H))
theorem Al {i:Int} {j:Nat}:Ev X E (.Constant (.int i) j pos) (mC (.int i)):=Jq O1 fun _ _=>by simp [DV]
theorem DB {i:Bool} {j:Nat}:Ev X E (.Constant (.bool i) j pos) (mC (.bl i)):=Jq TK fun _ _=>by simp [DV]
theorem PL {j:Nat}:Ev X E (.Constant .none j pos) (mC .non):=Jq TL fun _ _=>by simp [DV]
theorem Mj {x:Str} {i:Int} {t:Tok} {pos:Pos} (hg:Gl X x) (hm:X.mg x=some (.int i t)) (hd:(x==("__debug__":Str))=false:=by decide):Ev X E (.Name x pos) (mC (.int i)):=
 Jq (TM (v:=.int i) hg hm ⟨t,rfl⟩ hd) fun _ _=>by simp [DV]
def Ah (op:D→D→HD→Out D) (f g:ME):ME:=fun ρ h=>(f ρ h).bind fun x h1=>(g ρ h1).bind fun y h2=>op x y h2
theorem KS {op:D→D→HD→Out D} {Q:VK} {R:V→V→Hp→Prop} {σ:L2.St} {H:Hp} (h:tD X.K E (Ah op f g) σ H Q)
 (i:∀m H2 h2 x y v u,HR X.K m h2 H2→DV X.K m H2 x v→DV X.K m H2 y u→Post X.K (rD X.K) m H2 E Q (op x y h2)→R v u H2):tD X.K E f σ H fun v H1=>tD X.K E g σ H1 fun u H2=>R v u H2:=by
 obtain ⟨m,ρ,hd,hr,er,p⟩:=h
 refine ⟨m,ρ,hd,hr,er,Post.bind p fun x h1 v m1 H1 _ p1 k1 hr1 r1 q1=>?_⟩
 refine ⟨m1,ρ,h1,hr1,er.keep p1 k1,Post.bind q1 fun y h2 u m2 H2 _ p2 k2 hr2 r2 q2=>?_⟩
 exact i m2 H2 h2 x y v u hr2 (DV.keep p2 k2 r1) r2 q2
def BL (X:Cx) (f:Value→Value→Sem Value) (op:D→D→HD→Out D):Prop:=
 ∃r:R2,OpR X f r∧∀m H h E x y v u Q,HR X.K m h H→DV X.K m H x v→DV X.K m H y u→Post X.K (rD X.K) m H E Q (op x y h)→r v u H Q
theorem AC {o:Operator} {op:D→D→HD→Out D} (ho:BL X (binaryOp o) op) (ha:Ev X E a f) (hb:Ev X E b g):Ev X E (.BinOp a o b pos) (Ah op f g):=by
 obtain ⟨r,ho,i⟩:=ho
 exact B9 (UK ho ha hb) fun σ H Q h=>KS h fun m H2 h2 x y v u hr rx ry q=>i m H2 h2 E x y v u Q hr rx ry q
theorem FI {o:CmpOp} {op:D→D→HD→Out D} (ho:BL X (compareOp o) op) (ha:Ev X E a f) (hb:Ev X E b g) (hm:behindInMarks o b=false):Ev X E (.Compare a [o] [b] pos) (Ah op f g):=by
 obtain ⟨r,ho,i⟩:=ho
 exact B9 (UU ho ha hb hm) fun σ H Q h=>KS h fun m H2 h2 x y v u hr rx ry q=>i m H2 h2 E x y v u Q hr rx ry q
def Jr:D→HD→Out Bool
 |.bl b,h=>.ok b h
 |_,_=>.stuck
def A7 (f:ME):MT:=fun ρ h=>(f ρ h).bind Jr
theorem PM {m:List Addr} {H:Hp} {x:D} {v:V} {h:HD} {Q:Bool→Hp→Prop} (hr:HR X.K m h H) (r:DV X.K m H x v) (q:Post X.K rB m H E Q (Jr x h)):∃k,v=.bl k∧Q k H:=by
 cases x with
 |bl b=>
  simp only [DV] at r
  exact ⟨b,r,q b m H (AL _) (.refl _) hr rfl⟩
 |_=>exact q.elim
theorem BW {o:CmpOp} {op:D→D→HD→Out D} (ho:BL X (compareOp o) op) (ha:Ev X E a f) (hb:Ev X E b g) (hm:behindInMarks o b=false):D9 X E (.Compare a [o] [b] pos) (A7 (Ah op f g)):=by
 obtain ⟨r,ho,i⟩:=ho
 refine KR (UV ho ha hb hm) fun σ H Q h=>?_
 obtain ⟨m,ρ,hd,hr,er,p⟩:=h
 have h':tD X.K E (Ah op f g) σ H fun x H'=>∃k,x=.bl k∧Q k H':=
  ⟨m,ρ,hd,hr,er,Post.bind p fun x h1 v m1 H1 _ p1 k1 hr1 r1 q1=>PM hr1 r1 q1⟩
 exact KS h' fun m H2 h2 x y v u hr rx ry q=>i m H2 h2 E x y v u _ hr rx ry q
def E1:D→HD→Out Bool
 |.non,h=>.ok false h
 |.bl b,h=>.ok b h
 |.int i,h=>.ok (i != 0) h
 |.tup ds,h=>.ok (!ds.isEmpty) h
 |.loc l,h=>match h[l]? with
  |some (.lst ds)=>.ok (!ds.isEmpty) h
  |_=>.stuck
 |_,_=>.stuck
def B2 (f:ME):MT:=fun ρ h=>(f ρ h).bind E1
theorem PN {α β:Type} {xs:List α} {ys:List β} (h:xs.length=ys.length):xs.isEmpty=ys.isEmpty:=by
 cases xs<;>cases ys<;>simp_all
theorem V1 {m:List Addr} {H:Hp} {x:D} {v:V} {h:HD} {Q:Bool→Hp→Prop} (hr:HR X.K m h H) (r:DV X.K m H x v) (q:Post X.K rB m H E Q (E1 x h)):∃k,Me X.K v H k∧Q k H:=by
 have go:∀k,E1 x h=.ok k h→Q k H:=fun k e=>by rw [e] at q;exact q k m H (AL _) (.refl _) hr rfl
 cases x with
 |non=>simp only [DV] at r;subst r;exact ⟨false,rfl,go _ rfl⟩
 |bl b=>simp only [DV] at r;subst r;exact ⟨b,rfl,go _ rfl⟩
 |int i=>simp only [DV] at r;subst r;exact ⟨_,rfl,go _ rfl⟩
 |str x=>exact q.elim
 |tup ds=>
  simp only [DV] at r
  obtain ⟨p,vs,rfl,hp,dv⟩:=r
  exact ⟨_,.inr ⟨vs,SqT.of hp,rfl⟩,by rw [←PN dv.len];exact go _ rfl⟩
 |loc l=>
  simp only [DV] at r
  obtain ⟨p,rfl,hp⟩:=r
  simp only [E1] at q
  split at q
  ·rename_i ds e
   obtain ⟨vs,e1,dv⟩:=hr.cells l _ p e hp
   exact ⟨_,.inl ⟨vs,SqL.of e1,rfl⟩,by rw [←PN dv.len];exact q _ m H (AL _) (.refl _) hr rfl⟩
  ·exact q.elim
 |scr ns=>exact q.elim
 |adr a=>exact q.elim
 |ty a=>exact q.elim
 |exc n fs=>exact q.elim
 |edic=>exact q.elim
 |glo n=>exact q.elim
 |clo a vs ds=>exact q.elim
theorem CM (ha:Ev X E a f) (he:∀Fe,isTrue a X.env Fe=(do let v ←Fe;standAt a.pos;holding [v] (truthy v)):=by intro _;rfl):D9 X E a (B2 f):=
 KR (UZ ha he) fun σ H Q z3_=>by obtain ⟨m,ρ,hd,hr,er,p⟩:=z3_;exact (⟨m,ρ,hd,hr,er,Post.bind p fun x h1 v m1 H1 _ p1 k1 hr1 r1 q1=>V1 hr1 r1 q1⟩)
variable {tf tg:MT} {rest:List Expr}
def KU (f g:MT):MT:=fun ρ h=>(f ρ h).bind fun b h1=>if b=true then g ρ h1 else .ok false h1
def B3 (f g:MT):MT:=fun ρ h=>(f ρ h).bind fun b h1=>if b=true then .ok true h1 else g ρ h1
def Ca (f:MT):MT:=fun ρ h=>(f ρ h).bind fun b h1=>.ok (!b) h1
abbrev KV (X:Cx) (E:XK) (e:Expr) (f:MT):Prop:=PW X e (EZ X.K E f)
theorem V2 {e:Expr} {t t':TT} (h:PW X e t) (i:∀σ H Q,t' σ H Q→t σ H Q):PW X e t':=fun wh pins s σ H Q I q=>h wh pins s σ H Q I (i σ H Q q)
theorem FJ (ha:D9 X E a tf):KV X E (.BoolOp .Or [a] pos) tf:=TU ha
theorem Eo (ha:D9 X E a tf) (hb:KV X E (.BoolOp .Or (b::rest) pos) tg):KV X E (.BoolOp .Or (a::b::rest) pos) (B3 tf tg):=
 V2 (TV ha hb) fun σ H Q z5_=>by obtain ⟨m,ρ,hd,hr,er,p⟩:=z5_;exact (⟨m,ρ,hd,hr,er,Post.bind p fun x h1 v m1 H1 _ p1 k1 hr1 r1 q1=>by
  cases r1
  cases x with
  |false=>exact ⟨m1,ρ,h1,hr1,er.keep p1 k1,q1⟩
  |true=>exact q1 true m1 H1 (AL _) (.refl _) hr1 rfl⟩)
theorem FK (h:KV X E a tf):D9 X E a tf:=PW.pt h
theorem CZ (ha:D9 X E a tf):D9 X E (.UnaryOp .Not a pos) (Ca tf):=
 KR (TX ha) fun σ H Q z6_=>by obtain ⟨m,ρ,hd,hr,er,p⟩:=z6_;exact (⟨m,ρ,hd,hr,er,Post.bind p fun x h1 v m1 H1 _ p1 k1 hr1 r1 q1=>by
  cases r1
  exact q1 _ m1 H1 (AL _) (.refl _) hr1 rfl⟩)
def E2 (f g:ME):ME:=fun ρ h=>(f ρ h).bind fun x h1=>match x with
 |.bl true=>g ρ h1
 |.bl false=>.ok (.bl false) h1
 |_=>.stuck
def Js (f g:ME):ME:=fun ρ h=>(f ρ h).bind fun x h1=>match x with
 |.bl true=>.ok (.bl true) h1
 |.bl false=>g ρ h1
 |_=>.stuck
def Jt (f:ME):ME:=fun ρ h=>(f ρ h).bind fun x h1=>match x with
 |.bl b=>.ok (.bl (!b)) h1
 |_=>.stuck
theorem FL {o:BoolOp} (h:Ev X E a f):Ev X E (.BoolOp o [a] pos) f:=T3 h
theorem GF (ha:Ev X E a f) (hb:Ev X E (.BoolOp .And (b::rest) pos) g):Ev X E (.BoolOp .And (a::b::rest) pos) (E2 f g):=
 B9 (T4 ha hb) fun σ H Q ⟨m,ρ,hd,hr,er,p⟩=>⟨m,ρ,hd,hr,er,Post.bind p fun x h1 v m1 H1 _ p1 k1 hr1 r1 q1=>by
  cases x with
  |bl b=>
   refine ⟨b,by simpa [rD,DV] using r1,?_⟩
   cases b with
   |true=>exact ⟨m1,ρ,h1,hr1,er.keep p1 k1,q1⟩
   |false=>exact q1 _ m1 H1 (AL _) (.refl _) hr1 (by simp [rD,DV])
  |_=>exact q1.elim⟩
theorem PP (ha:Ev X E a f) (hb:Ev X E (.BoolOp .Or (b::rest) pos) g):Ev X E (.BoolOp .Or (a::b::rest) pos) (Js f g):=
 B9 (T5 ha hb) fun σ H Q ⟨m,ρ,hd,hr,er,p⟩=>⟨m,ρ,hd,hr,er,Post.bind p fun x h1 v m1 H1 _ p1 k1 hr1 r1 q1=>by
  cases x with
  |bl b=>
   refine ⟨b,by simpa [rD,DV] using r1,?_⟩
   cases b with
   |false=>exact ⟨m1,ρ,h1,hr1,er.keep p1 k1,q1⟩
   |true=>exact q1 _ m1 H1 (AL _) (.refl _) hr1 (by simp [rD,DV])
  |_=>exact q1.elim⟩
theorem PQ (ha:Ev X E a f):Ev X E (.UnaryOp .Not a pos) (Jt f):=
 B9 (T6 ha) fun σ H Q z9_=>by obtain ⟨m,ρ,hd,hr,er,p⟩:=z9_;exact (⟨m,ρ,hd,hr,er,Post.bind p fun x h1 v m1 H1 _ p1 k1 hr1 r1 q1=>by
  cases x with
  |bl b=>exact ⟨b,by simpa [rD,DV] using r1,q1 _ m1 H1 (AL _) (.refl _) hr1 (by simp [rD,DV])⟩
  |_=>exact q1.elim⟩)
def Ju (t:MT) (f g:ME):ME:=fun ρ h=>(t ρ h).bind fun b h1=>if b=true then f ρ h1 else g ρ h1
theorem PR (hc:D9 X E c tf) (ha:Ev X E a f) (hb:Ev X E b g):Ev X E (.IfExp c a b pos) (Ju tf f g):=
 B9 (T8 hc ha hb) fun σ H Q z10_=>by obtain ⟨m,ρ,hd,hr,er,p⟩:=z10_;exact (⟨m,ρ,hd,hr,er,Post.bind p fun x h1 v m1 H1 _ p1 k1 hr1 r1 q1=>by
  cases r1
  cases x with
  |true=>exact ⟨m1,ρ,h1,hr1,er.keep p1 k1,q1⟩
  |false=>exact ⟨m1,ρ,h1,hr1,er.keep p1 k1,q1⟩⟩)
def F8 (op op':D→D→HD→Out D) (f g k:ME):ME:=fun ρ h=>(f ρ h).bind fun x h1=>(g ρ h1).bind fun y h2=>(op x y h2).bind fun z h3=>match z with
 |.bl true=>(k ρ h3).bind fun w h4=>op' y w h4
 |.bl false=>.ok (.bl false) h3
 |_=>.stuck
theorem PU {r r':R2} {op op':D→D→HD→Out D} {o o':Value→Value→Sem Value} (i:∀m H h E x y v u Q,HR X.K m h H→DV X.K m H x v→DV X.K m H y u→Post X.K (rD X.K) m H E Q (op x y h)→r v u H Q)
 (i':∀m H h E x y v u Q,HR X.K m h H→DV X.K m H x v→DV X.K m H y u→Post X.K (rD X.K) m H E Q (op' x y h)→r' v u H Q) {σ:L2.St} {H:Hp} {Q:VK} (h:tD X.K E (F8 op op' f g k) σ H Q):
 Md r r' (tD X.K E f) (tD X.K E g) (tD X.K E k) σ H Q:=by
 obtain ⟨m,ρ,hd,hr,er,p⟩:=h
 refine ⟨m,ρ,hd,hr,er,Post.bind p fun x h1 v m1 H1 _ p1 k1 hr1 r1 q1=>?_⟩
 refine ⟨m1,ρ,h1,hr1,er.keep p1 k1,Post.bind q1 fun y h2 u m2 H2 _ p2 k2 hr2 r2 q2=>?_⟩
 refine i m2 H2 h2 E x y v u _ hr2 (DV.keep p2 k2 r1) r2 (Post.bind q2 fun z h3 w m3 H3 _ p3 k3 hr3 r3 q3=>?_)
 cases z with
 |bl b=>
  refine ⟨b,by simpa [rD,DV] using r3,?_⟩
  cases b with
  |false=>exact q3 _ m3 H3 (AL _) (.refl _) hr3 (by simp [rD,DV])
  |true=>
   refine ⟨m3,ρ,h3,hr3,((er.keep p1 k1).keep p2 k2).keep p3 k3,Post.bind q3 fun z h4 w' m4 H4 _ p4 k4 hr4 r4 q4=>?_⟩
   exact i' m4 H4 h4 E y z u w' Q hr4 (DV.keep p4 k4 (DV.keep p3 k3 r2)) r4 q4
 |_=>exact q3.elim
theorem PV {o o':CmpOp} {op op':D→D→HD→Out D} (ho:BL X (compareOp o) op) (ho':BL X (compareOp o') op') (ha:Ev X E a f) (hb:Ev X E b g) (hc:Ev X E c k)
 (hm:lastMarks [o,o'] [b,c]=false:=by with_unfolding_all rfl):Ev X E (.Compare a [o,o'] [b,c] pos) (F8 op op' f g k):=by
 obtain ⟨r,ho,i⟩:=ho
 obtain ⟨r',ho',i'⟩:=ho'
 exact B9 (UW ho ho' ha hb hc hm) fun σ H Q h=>PU (o:=compareOp o) (o':=compareOp o') i i' h
theorem V3 {o o':CmpOp} {op op':D→D→HD→Out D} (ho:BL X (compareOp o) op) (ho':BL X (compareOp o') op') (ha:Ev X E a f) (hb:Ev X E b g) (hc:Ev X E c k)
 (hm:lastMarks [o,o'] [b,c]=false:=by with_unfolding_all rfl):D9 X E (.Compare a [o,o'] [b,c] pos) (A7 (F8 op op' f g k)):=by
 obtain ⟨r,ho,i⟩:=ho
 obtain ⟨r',ho',i'⟩:=ho'
 refine KR (UX ho ho' ha hb hc hm) fun σ H Q h=>?_
 obtain ⟨m,ρ,hd,hr,er,p⟩:=h
 exact PU (o:=compareOp o) (o':=compareOp o') i i' ⟨m,ρ,hd,hr,er,Post.bind p fun x h1 v m1 H1 _ p1 k1 hr1 r1 q1=>PM hr1 r1 q1⟩
variable {es:List Expr} {fa:MA}
def Ae:MA:=fun _ h=>.ok [] h
def Ab (f:ME) (r:MA):MA:=fun ρ h=>(f ρ h).bind fun x h1=>(r ρ h1).bind fun xs h2=>.ok (x::xs) h2
theorem Af:DA X E [] Ae:=PJ U7 fun σ H Q z11_=>by obtain ⟨m,ρ,hd,hr,er,p⟩:=z11_;exact (p [] m H (AL _) (.refl _) hr .nil)
theorem Ad (ha:Ev X E a f) (hr:DA X E es fa) (hs:starEach (a::es) X.env=(false,eval a X.env)::starEach es X.env:=by rfl):DA X E (a::es) (Ab f fa):=
 PJ (U8 ha hr hs) fun σ H Q z12_=>by obtain ⟨m,ρ,hd,hr,er,p⟩:=z12_;exact (⟨m,ρ,hd,hr,er,Post.bind p fun x h1 v m1 H1 _ p1 k1 hr1 r1 q1=>
  ⟨m1,ρ,h1,hr1,er.keep p1 k1,Post.bind q1 fun xs h2 vs m2 H2 _ p2 k2 hr2 r2 q2=>q2 _ m2 H2 (AL _) (.refl _) hr2 (DVs.cons (DV.keep p2 k2 r1) r2)⟩⟩)
def BM (fa:MA):ME:=fun ρ h=>(fa ρ h).bind fun xs h1=>if xs.length≤sizeLine then .ok (.tup xs) h1 else .stuck
def CF (xs:List D) (h:HD):Out D:=if xs.length≤sizeLine then .ok (.loc h.length) (h++[.lst xs]) else .stuck
def CN (fa:MA):ME:=fun ρ h=>(fa ρ h).bind CF
theorem Ir {m:List Addr} {H:Hp} {h:HD} {xs:List D} {vs:List V} {Q:VK} (hr:HR X.K m h H) (r:DVs X.K m H xs vs) (q:Post X.K (rD X.K) m H E Q (.ok (.tup xs) h)):∀p,H p=none→Q (.ref p) (Az H p (.tup vs)):=fun p hp=>
 q (.ref p) m _ (AL _) (.new hp) (hr.new hp) (by simp only [rD,DV];exact ⟨p,vs,rfl,Dp,r.keep (AL _) (.new hp)⟩)
theorem GG {m:List Addr} {H:Hp} {h:HD} {xs:List D} {vs:List V} {Q:VK} (hr:HR X.K m h H) (r:DVs X.K m H xs vs) (q:Post X.K (rD X.K) m H E Q (CF xs h)):vs.length≤sizeLine∧∀p,H p=none→Q (.ref p) (Az H p (.lst vs)):=by
 unfold CF at q
 by_cases hz:xs.length≤sizeLine
 ·rw [if_pos hz] at q
  refine ⟨by rw [←r.len];exact hz,fun p hp=>?_⟩
  refine q (.ref p) (m++[p]) _ (List.prefix_append _ _) (.new hp) (hr.newCell hp ⟨vs,Dp,r.keep (List.prefix_append _ _) (.new hp)⟩) ?_
  simp only [rD,DV]
  exact ⟨p,rfl,by rw [←hr.len];simp⟩
 ·rw [if_neg hz] at q;exact q.elim
theorem Dc {x1:Nat} (h:DA X E es fa):Ev X E (.Tuple es x1 pos) (BM fa):=
 B9 (Vb h) fun σ H Q z13_=>by obtain ⟨m,ρ,hd,hr,er,p⟩:=z13_;exact (⟨m,ρ,hd,hr,er,Post.bind p fun xs h1 vs m1 H1 _ p1 k1 hr1 r1 q1=>by
  by_cases hz:xs.length≤sizeLine
  ·rw [if_pos hz] at q1
   exact ⟨by rw [←DVs.len r1];exact hz,Ir hr1 r1 q1⟩
  ·rw [if_neg hz] at q1;exact q1.elim⟩)
theorem DD (h:DA X E es fa):Ev X E (.List es pos) (CN fa):=
 B9 (Vc h) fun σ H Q z14_=>by obtain ⟨m,ρ,hd,hr,er,p⟩:=z14_;exact (⟨m,ρ,hd,hr,er,Post.bind p fun xs h1 vs m1 H1 _ p1 k1 hr1 r1 q1=>GG hr1 r1 q1⟩)
inductive Mk (K:PySem.W.Frag) (F:List D→HD→Out D) (vs:List V) (H:Hp) (Q:VK) (E:XK):Prop where
 |mk (m:List Addr) (ds:List D) (h:HD) (hr:HR K m h H) (r:DVs K m H ds vs) (p:Post K (rD K) m H E0 Q (F ds h)):Mk K F vs H Q E
def Ar (n:Nat) (F:List D→HD→Out D):Prop:=∀ds h,ds.length≠n→F ds h=.stuck
theorem Ar.len {K:PySem.W.Frag} {n:Nat} {F:List D→HD→Out D} (ar:Ar n F) {vs:List V} {H:Hp} {Q:VK} {E':XK} (h:Mk K F vs H Q E'):vs.length=n:=by
 obtain ⟨m,ds,hd,hr,r,p⟩:=h
 rw [←r.len]
 by_cases e:ds.length=n
 ·exact e
 ·rw [ar ds hd e] at p;exact p.elim
def ar0 (F:HD→Out D):List D→HD→Out D:=fun ds h=>match ds with
 |[]=>F h
 |_=>.stuck
def Am (F:D→HD→Out D):List D→HD→Out D:=fun ds h=>match ds with
 |[a]=>F a h
 |_=>.stuck
def BY (F:D→D→HD→Out D):List D→HD→Out D:=fun ds h=>match ds with
 |[a,b]=>F a b h
 |_=>.stuck
def V4 (F:D→D→D→HD→Out D):List D→HD→Out D:=fun ds h=>match ds with
 |[a,b,c]=>F a b c h
 |_=>.stuck
def Ag (F:List D→HD→Out D) (fa:MA):ME:=fun ρ h=>(fa ρ h).bind F
def De (X:Cx) (f:Value) (F:List D→HD→Out D):Prop:=
 ∃r:List V→Hp→VK→Prop,CY X f r∧∀m H h E ds vs Q,HR X.K m h H→DVs X.K m H ds vs→Post X.K (rD X.K) m H E Q (F ds h)→r vs H Q
theorem AZ {id:String} {F:List D→HD→Out D} {x:Str} {p pos:Pos} {e:Expr} (hc:De X (.builtin id) F) (hg:Gl X x) (hm:X.mg x=none) (hv:bootBuiltins x=some (.builtin id)) (ha:DA X E (e::es) fa) (hn:x≠"__name__":=by decide) (hdb:(x==("__debug__":Str))=false:=by decide)
 (hs:starEach (e::es) X.env=(false,eval e X.env)::starEach es X.env:=by rfl) (hpl:(backTo pos (starEach es X.env)).any (·.1)=false:=by rfl):Ev X E (.Call (.Name x p) (e::es) [] pos) (Ag F fa):=by
 obtain ⟨r,hc,i⟩:=hc
 exact B9 (Vi hc hg hm hv ha hn hdb hs hpl) fun σ H Q z17_=>by obtain ⟨m,ρ,hd,hr,er,p⟩:=z17_;exact (⟨m,ρ,hd,hr,er,Post.bind p fun xs h1 vs m1 H1 e1 p1 k1 hr1 r1 q1=>i m1 H1 h1 E xs vs Q hr1 r1 q1⟩)
theorem Dr {id:String} {F:List D→HD→Out D} {x:Str} {p pos:Pos} {e:Expr} (hc:De X (.type id) F) (hg:Gl X x) (hm:X.mg x=none) (hv:bootBuiltins x=some (.type id)) (ha:DA X E (e::es) fa) (hn:x≠"__name__":=by decide) (hdb:(x==("__debug__":Str))=false:=by decide)
 (hs:starEach (e::es) X.env=(false,eval e X.env)::starEach es X.env:=by rfl) (hpl:(backTo pos (starEach es X.env)).any (·.1)=false:=by rfl):Ev X E (.Call (.Name x p) (e::es) [] pos) (Ag F fa):=by
 obtain ⟨r,hc,i⟩:=hc
 exact B9 (Vj hc hg hm hv ha hn hdb hs hpl) fun σ H Q z18_=>by obtain ⟨m,ρ,hd,hr,er,p⟩:=z18_;exact (⟨m,ρ,hd,hr,er,Post.bind p fun xs h1 vs m1 H1 e1 p1 k1 hr1 r1 q1=>i m1 H1 h1 E xs vs Q hr1 r1 q1⟩)
end
section
variable {X:Cx} {E:XK}
theorem BD {K:PySem.W.Frag} {m:List Addr} {H:Hp} {h:HD} {d:D} {v:V} {Q:VK} (hr:HR K m h H) (q:Post K (rD K) m H E Q (.ok d h)) (r:DV K m H d v):Q v H:=q v m H (AL _) (.refl _) hr r
theorem op_catT0:OpR X (binaryOp .Add) (fun x y H Q=>∃a b ys,x=.ref a∧y=.ref b∧SqT X.K H a []∧SqT X.K H b ys∧Q (.ref b) H):=by
 intro pins s σ H x y v u Q I rx ry h
 obtain ⟨a,b,ys,rfl,rfl,ha,hb,q⟩:=h
 cases rx
 cases ry
 obtain ⟨its,r1,p1,_⟩:=I.tuple ha
 obtain ⟨its2,r2,p2,_⟩:=I.tuple hb
 cases r1
 obtain ⟨⟨cls,dd,data,sl⟩,ho,hc,n,hd⟩:=id p1
 obtain ⟨⟨cls2,dd2,data2,sl2⟩,ho2,hc2,n2,hd2⟩:=id p2
 simp only at hc hd hc2 hd2
 subst hc hd hc2 hd2
 exact concat_meets ⟨_,ho,rfl⟩ ⟨_,ho2,rfl⟩ noFill_tuple_add seq_tuple_add PySem.F.slot_tuple_add PySem.F.entry_tuple_add (PySem.F.args_tuple_add_2 _ _)
  (tuple_addW0 a b _ its2.toArray n n2 dd dd2 sl sl2 (by simp)) ⟨ho,ho2,⟨.ref b,H,I,rfl,q⟩⟩
def Bf:D→D→HD→Out D
 |.int i,.int j,h=>.ok (.int (i+j)) h
 |.str x,.str y,h=>if x.length+y.length≤sizeLine then .ok (.str (x++y)) h else .stuck
 |.tup xs,.tup ys,h=>if xs.length+ys.length≤sizeLine then .ok (.tup (xs++ys)) h else .stuck
 |.loc l,.loc k,h=>match h[l]?,h[k]? with
  |some (.lst xs),some (.lst ys)=>CF (xs++ys) h
  |_,_=>.stuck
 |_,_,_=>.stuck
theorem BP:BL X (binaryOp .Add) Bf:=by
 refine ⟨_,op_add.or (op_catT0.or (op_catT.or (op_cat.or U0))),fun m H h E x y v u Q hr rx ry q=>?_⟩
 unfold Bf at q
 split at q
 ·simp only [DV] at rx ry
  subst rx ry
  exact .inl ⟨_,_,rfl,rfl,BD hr q (by simp [DV])⟩
 ·simp only [DV] at rx ry
  subst rx ry
  split at q
  ·rename_i hz
   exact .inr (.inr (.inr (.inr ⟨_,_,rfl,rfl,hz,BD hr q (by simp [DV])⟩)))
  ·exact q.elim
 ·rename_i xs ys
  simp only [DV] at rx ry
  obtain ⟨a,vs,rfl,ha,dx⟩:=rx
  obtain ⟨b,ws,rfl,hb,dy⟩:=ry
  split at q
  ·rename_i hz
   cases xs with
   |nil=>
    simp only [DVs] at dx
    subst dx
    exact .inr (.inl ⟨a,b,ws,rfl,rfl,SqT.of ha,SqT.of hb,BD hr q (by simp only [DV];exact ⟨b,ws,rfl,hb,dy⟩)⟩)
   |cons x xs=>
    refine .inr (.inr (.inl ⟨a,b,vs,ws,rfl,rfl,SqT.of ha,SqT.of hb,?_,by rw [←dx.len,←dy.len];exact hz,fun e=>?_,fun e=>?_⟩))
    ·intro e;have:=dx.len;rw [e] at this;simp at this
    ·subst e
     have:ys=[]:=by have:=dy.len;simpa using this
     subst this
     exact BD hr q (by simp only [DV];exact ⟨a,vs,rfl,ha,by simpa using dx⟩)
    ·exact Ir hr (dx.app dy) q
  ·exact q.elim
 ·simp only [DV] at rx ry
  obtain ⟨a,rfl,ha⟩:=rx
  obtain ⟨b,rfl,hb⟩:=ry
  split at q
  ·rename_i xs ys e1 e2
   obtain ⟨vs,h1,d1⟩:=hr.cells _ _ a e1 ha
   obtain ⟨ws,h2,d2⟩:=hr.cells _ _ b e2 hb
   obtain ⟨z,q'⟩:=GG hr (d1.app d2) q
   exact .inr (.inr (.inr (.inl ⟨a,b,vs,ws,rfl,rfl,h1,h2,by simpa using z,q'⟩)))
  ·exact q.elim
 ·exact q.elim
def intD (f:Int→Int→D) (c:Int→Int→Prop) [∀i j,Decidable (c i j)]:D→D→HD→Out D
 |.int i,.int j,h=>if c i j then .ok (f i j) h else .stuck
 |_,_,_=>.stuck
theorem Ml {o:Value→Value→Sem Value} {f:Int→Int→V} {g:Int→Int→D} {c c':Int→Int→Prop} [∀i j,Decidable (c' i j)] (h:OpR X o (rI c f)) (hc:∀i j,c' i j→c i j) (hg:∀m H i j,DV X.K m H (g i j) (f i j)):BL X o (intD g c'):=by
 refine ⟨_,h,fun m H h E x y v u Q hr rx ry q=>?_⟩
 unfold intD at q
 split at q
 ·simp only [DV] at rx ry
  subst rx ry
  split at q
  ·rename_i hc'
   exact ⟨_,_,rfl,rfl,hc _ _ hc',BD hr q (hg _ _ _ _)⟩
  ·exact q.elim
 ·exact q.elim
def F9 (f:Int→Int→D):D→D→HD→Out D
 |.int i,.int j,h=>.ok (f i j) h
 |_,_,_=>.stuck
theorem KW {o:Value→Value→Sem Value} {f:Int→Int→V} {g:Int→Int→D} (h:OpR X o (F7 f)) (hg:∀m H i j,DV X.K m H (g i j) (f i j)):BL X o (F9 g):=by
 refine ⟨_,h,fun m H h E x y v u Q hr rx ry q=>?_⟩
 unfold F9 at q
 split at q
 ·simp only [DV] at rx ry
  subst rx ry
  exact ⟨_,_,rfl,rfl,BD hr q (hg _ _ _ _)⟩
 ·exact q.elim
abbrev E3:=F9 fun i j=>.int (i - j)
theorem FM:BL X (binaryOp .Sub) E3:=KW UL fun _ _ _ _=>by simp [DV]
abbrev Ga:=F9 fun i j=>.bl (decide (i<j))
abbrev Jv:=F9 fun i j=>.bl (decide (i≤j))
abbrev Ea:=F9 fun i j=>.bl (decide (j<i))
theorem Iu:BL X (compareOp .Lt) Ga:=KW UR fun _ _ _ _=>by simp [DV]
theorem KY:BL X (compareOp .LtE) Jv:=KW US fun _ _ _ _=>by simp [DV]
theorem Iv:BL X (compareOp .Gt) Ea:=KW UT fun _ _ _ _=>by simp [DV]
instance (i j:Int):Decidable (CMul i j):=by unfold CMul;infer_instance
instance (i j:Int):Decidable (Pc i j):=by unfold Pc;infer_instance
instance (i j:Int):Decidable (Ik i j):=by unfold Ik;infer_instance
abbrev E4:=intD (fun i j=>.int (i % j)) fun _ j=>0<j
theorem Iw:BL X (binaryOp .Mod) E4:=Ml UM (fun _ _ h=>h) fun _ _ _ _=>by simp [DV]
abbrev ZcJ:=intD (fun i j=>.int (i^j.toNat)) Ik
abbrev Jw:=intD (fun i j=>.int (i*2^j.toNat)) Ik
theorem PX:BL X (binaryOp .LShift) Jw:=Ml UN (fun _ _ h=>h) fun _ _ _ _=>by simp [DV]
def ZcK:D→D→HD→Out D
 |.int i,.int j,h=>if CMul i j then .ok (.int (i*j)) h else .stuck
 |.loc l,.int k,h=>match h[l]? with
  |some (.lst xs)=>if -(2^63)≤k∧k<2^63 then CF (List.replicate k.toNat xs).flatten h else .stuck
  |_=>.stuck
 |_,_,_=>.stuck
def PY:D→Bool
 |.non=>true
 |_=>false
def V5:D→D→HD→Out D
 |.bl b,.bl c,h=>.ok (.bl (b==c)) h
 |x,.non,h=>.ok (.bl (PY x)) h
 |_,_,_=>.stuck
def V6:D→D→HD→Out D
 |.bl b,.bl c,h=>.ok (.bl (!(b==c))) h
 |x,.non,h=>.ok (.bl (!PY x)) h
 |_,_,_=>.stuck
end
def Bd {α:Type}:List (Option α)→Option (List α)
 |[]=>some []
 |none::_=>none
 |some a::r=>(Bd r).map (a::·)
def A0 (h:HD):Nat→D→Option PyData
 |_,.non=>some .none
 |_,.bl b=>some (.bool b)
 |_,.int i=>some (.int i)
 |_,.str x=>some (.str x)
 |n+1,.tup ds=>(Bd (ds.map (A0 h n))).map .tuple
 |n+1,.loc l=>match h[l]? with
  |some (.lst ds)=>(Bd (ds.map (A0 h n))).map .list
  |_=>none
 |_,_=>none
section
variable {X:Cx} {E:XK} {pins:List (Addr×Obj)} {σ:L2.St} {H:Hp} {s:Shared} {m:List Addr} {h:HD}
theorem Mm {n:Nat} (ih:∀(d:D) (v:V) (u:Value) (p:PyData),DV X.K m H d v→RelV v u→A0 h n d=some p→∃as,Reads s.heap u p as):
 ∀(ds:List D) (vs:List V) (us:List Value) (ps:List PyData),DVs X.K m H ds vs→Vals vs us→Bd (ds.map (A0 h n))=some ps→∃as,ReadsAll s.heap us ps as
 |[],vs,us,ps,r,q,e=>by
  simp only [DVs] at r
  subst r
  cases q
  simp [Bd] at e
  subst e
  exact ⟨[],.nil⟩
 |d::ds,vs,us,ps,r,q,e=>by
  simp only [DVs] at r
  obtain ⟨v,w,rfl,rv,rw'⟩:=r
  cases q with
  |cons q1 q2=>
   rw [BV] at e
   cases ed:A0 h n d with
   |none=>rw [ed] at e;simp [Bd] at e
   |some p=>
    rw [ed] at e
    simp only [Bd,qaS] at e
    obtain ⟨ps',e1,rfl⟩:=e
    obtain ⟨as,h1⟩:=ih d v _ p rv q1 ed
    obtain ⟨bs,h2⟩:=Mm ih ds w _ ps' rw' q2 e1
    exact ⟨as++bs,.cons h1 h2⟩
theorem PZ (hok:HOk X.prog X.w H s.heap) (hr:HR X.K m h H):∀(n:Nat) (d:D) (v:V) (u:Value) (p:PyData),DV X.K m H d v→RelV v u→A0 h n d=some p→∃as,Reads s.heap u p as:=by
 intro n
 induction n with
 |zero=>
  intro d v u p r q e
  cases d<;>simp only [A0,DV,Option.some.injEq] at e r<;>try (cases e;done)
  ·subst e r;cases q;exact ⟨[],.none⟩
  ·subst e r;cases q;exact ⟨[],.bool _⟩
  ·subst e r;obtain ⟨t,rfl⟩:=q;exact ⟨[],.int _ _⟩
  ·subst e r;obtain ⟨t,rfl⟩:=q;exact ⟨[],.str _ _⟩
 |succ n ih=>
  intro d v u p r q e
  cases d with
  |non=>simp only [A0,DV,Option.some.injEq] at e r;subst e r;cases q;exact ⟨[],.none⟩
  |bl b=>simp only [A0,DV,Option.some.injEq] at e r;subst e r;cases q;exact ⟨[],.bool _⟩
  |int i=>simp only [A0,DV,Option.some.injEq] at e r;subst e r;obtain ⟨t,rfl⟩:=q;exact ⟨[],.int _ _⟩
  |str x=>simp only [A0,DV,Option.some.injEq] at e r;subst e r;obtain ⟨t,rfl⟩:=q;exact ⟨[],.str _ _⟩
  |tup ds=>
   simp only [A0,DV,qaS] at e r
   obtain ⟨a,vs,rfl,ha,dv⟩:=r
   obtain ⟨ps,e1,rfl⟩:=e
   cases q
   obtain ⟨_,its,rv,⟨o,ho,hc,k,hd⟩,_⟩:=hok a _ ha
   obtain ⟨as,h1⟩:=Mm ih ds vs its ps dv rv e1
   exact ⟨as,.tuple ho hc hd (by simpa using h1)⟩
  |loc l=>
   simp only [DV] at r
   obtain ⟨a,rfl,ha⟩:=r
   cases q
   simp only [A0] at e
   split at e
   ·rename_i ds el
    simp only [qaS] at e
    obtain ⟨ps,e1,rfl⟩:=e
    obtain ⟨vs,hv,dv⟩:=hr.cells l _ a el ha
    obtain ⟨_,its,k,rv,ho⟩:=hok a _ hv
    obtain ⟨as,h1⟩:=Mm ih ds vs its ps dv rv e1
    exact ⟨_,.list ho rfl rfl (by simpa using h1)⟩
   ·cases e
  |scr ns=>simp [A0] at e
  |adr a=>simp [A0] at e
  |ty a=>simp [A0] at e
  |exc n fs=>simp [A0] at e
  |edic=>simp [A0] at e
  |glo n=>simp [A0] at e
  |clo a vs ds=>simp [A0] at e
def Gb (f:PyData→PyData→Bool):D→D→HD→Out D:=fun x y h=>match A0 h 8 x,A0 h 8 y with
 |some p,some q=>if SeqAt.shaped p=true∧SeqAt.shaped q=true then .ok (.bl (f p q)) h else .stuck
 |_,_=>.stuck
abbrev Jx:=Gb PyData.eqv
abbrev Ds:=Gb fun p q=>!PyData.eqv p q
theorem P0 {o:CmpOp} {f:PyData→PyData→Bool}
 (rule:∀{s:Shared} {a b:Value} {p q:PyData} {as bs:List Addr} {Q:Value→Shared→Prop},Reads s.heap a p as→Reads s.heap b q bs→SeqAt.shaped p=true→SeqAt.shaped q=true→Q (.bool (f p q)) s→wpAny (model X.prog X.w) X.A (compareOp o a b) Q X.xe s):
 BL X (compareOp o) (Gb f):=by
 refine ⟨fun v u H Q=>∃m h x y,HR X.K m h H∧DV X.K m H x v∧DV X.K m H y u∧Post X.K (rD X.K) m H E0 Q (Gb f x y h),?_,fun m H h E x y v u Q hr rx ry q=>⟨m,h,x,y,hr,rx,ry,?_⟩⟩
 ·intro pins s σ H x y v u Q I rx ry hq
  obtain ⟨m,h,dx,dy,hr,r1,r2,q⟩:=hq
  unfold Gb at q
  split at q
  ·rename_i p p' e1 e2
   split at q
   ·rename_i hs
    obtain ⟨as,h1⟩:=PZ I.hok hr 8 dx x v p r1 rx e1
    obtain ⟨bs,h2⟩:=PZ I.hok hr 8 dy y u p' r2 ry e2
    exact rule h1 h2 hs.1 hs.2 ⟨.bl _,H,I,rfl,BD hr q (by simp [DV])⟩
   ·exact q.elim
  ·exact q.elim
 ·unfold Gb at q ⊢
  split
  ·split
   ·rename_i e1 e2 hs
    rw [e1,e2] at q
    simp only [hs] at q
    exact q
   ·rename_i e1 e2 hs
    rw [e1,e2] at q
    simp only [hs] at q
    exact q.elim
  ·rename_i hn
   split at q
   ·rename_i e1 e2
    exact (hn _ _ e1 e2).elim
   ·exact q.elim
theorem V7 (hu:X.A.units+64<cLine):BL X (compareOp .Eq) Jx:=P0 fun ra rb ha hb h=>eq_dataH ra rb ha hb hu h
theorem V8 (hu:X.A.units+64<cLine):BL X (compareOp .NotEq) Ds:=P0 fun ra rb ha hb h=>ne_dataH ra rb ha hb hu h
def DE:D→Option V
 |.non=>some .non
 |.bl b=>some (.bl b)
 |.int i=>some (.int i)
 |.str x=>some (.str x)
 |_=>none
theorem P3 {d:D} {v w:V} (r:DV X.K m H d v) (e:DE d=some w):v=w∧EX v=true:=by
 cases d<;>simp only [DE,Option.some.injEq,DV] at e r<;>first |(subst e r;exact ⟨rfl,rfl⟩) |cases e
theorem P4:∀{ds:List D} {vs ws:List V},DVs X.K m H ds vs→Bd (ds.map DE)=some ws→vs=ws∧vs.all EX=true
 |[],vs,ws,r,e=>by
  simp only [DVs] at r
  simp [Bd] at e
  subst r e
  exact ⟨rfl,rfl⟩
 |d::ds,vs,ws,r,e=>by
  simp only [DVs] at r
  obtain ⟨v,w,rfl,rv,rw'⟩:=r
  rw [BV] at e
  cases ed:DE d with
  |none=>rw [ed] at e;simp [Bd] at e
  |some p=>
   rw [ed] at e
   simp only [Bd,qaS] at e
   obtain ⟨ps',e1,rfl⟩:=e
   obtain ⟨h1,h2⟩:=P3 rv ed
   obtain ⟨h3,h4⟩:=P4 rw' e1
   subst h1 h3
   exact ⟨rfl,by simp [h2,h4]⟩
def BE:D→HD→Option (List D)
 |.tup ds,_=>some ds
 |.loc l,h=>match h[l]? with
  |some (.lst ds)=>some ds
  |_=>none
 |.scr ns,_=>some (ns.map .int)
 |_,_=>none
theorem P5 {ns:List Int}:DVs X.K m H (ns.map .int) (ns.map V.int):=by
 induction ns with
 |nil=>exact .nil
 |cons n ns ih=>exact .cons (by simp [DV]) ih
theorem Jy {d:D} {v:V} {ds:List D} (hr:HR X.K m h H) (r:DV X.K m H d v) (e:BE d h=some ds):∃p vs,v=.ref p∧(SqL X.K H p vs∨SqT X.K H p vs)∧DVs X.K m H ds vs:=by
 cases d with
 |tup xs=>
  simp only [DV,BE,Option.some.injEq] at r e
  subst e
  obtain ⟨a,vs,rfl,ha,dv⟩:=r
  exact ⟨a,vs,rfl,.inr (SqT.of ha),dv⟩
 |loc l=>
  simp only [DV] at r
  obtain ⟨a,rfl,ha⟩:=r
  simp only [BE] at e
  split at e
  ·rename_i xs el
   cases e
   obtain ⟨vs,hv,dv⟩:=hr.cells l _ a el ha
   exact ⟨a,vs,rfl,.inl (SqL.of hv),dv⟩
  ·cases e
 |scr ns=>
  simp only [DV,BE,Option.some.injEq] at r e
  subst e
  obtain ⟨a,rfl,ha⟩:=r
  exact ⟨a,_,rfl,.inl ha.sq,P5⟩
 |_=>simp [BE] at e
def DF (neg:Bool):D→D→HD→Out D:=fun x y h=>match BE y h with
 |none=>.stuck
 |some ds=>match DE x,Bd (ds.map DE) with
  |some v,some vs=>.ok (.bl (if neg then !Io v vs else Io v vs)) h
  |_,_=>.stuck
theorem V9 {neg:Bool}:∀m H h E x y v u Q,HR X.K m h H→DV X.K m H x v→DV X.K m H y u→Post X.K (rD X.K) m H E Q (DF neg x y h)→PB X.K neg v u H Q:=fun m H h E x y v u Q hr rx ry q=>by
 unfold DF at q
 split at q
 ·exact q.elim
 ·rename_i ds e
  split at q
  ·rename_i w ws e1 e2
   obtain ⟨p,vs,rfl,hs,dv⟩:=Jy hr ry e
   obtain ⟨h1,h2⟩:=P3 rx e1
   obtain ⟨h3,h4⟩:=P4 dv e2
   subst h1 h3
   exact ⟨p,vs,rfl,hs,h2,h4,BD hr q (by simp [DV])⟩
  ·exact q.elim
theorem Iz:BL X (compareOp .In) (DF false):=⟨_,VF,V9⟩
def Ax:D→D→HD→Out D:=fun x y h=>match BE x h,y with
 |some ds,.int i=>match Dq ds i with
  |some d=>.ok d h
  |none=>.stuck
 |_,_=>.stuck
theorem Wa {ds:List D} {vs:List V} {i:Int} {d:D} (r:DVs X.K m H ds vs) (e:Dq ds i=some d):∃v,Dq vs i=some v∧DV X.K m H d v:=by
 unfold Dq at e ⊢
 rw [r.len] at e
 cases k:D8 vs.length i with
 |none=>rw [k] at e;cases e
 |some j=>
  rw [k] at e
  exact r.get e
theorem Bj {a b:Expr} {pos:Pos} {f g:ME} (ha:Ev X E a f) (hb:Ev X E b g) (hs:Pw b):Ev X E (.Subscript a b pos) (Ah Ax f g):=
 B9 (Vz (ix_list.or ix_tup) ha hb hs) fun σ H Q hq=>KS hq fun m H2 h2 x y v u hr rx ry q=>by
  unfold Ax at q
  split at q
  ·rename_i ds i e
   split at q
   ·rename_i d ed
    simp only [DV] at ry
    subst ry
    obtain ⟨p,vs,rfl,hsq,dv⟩:=Jy hr rx e
    obtain ⟨w,e1,r1⟩:=Wa dv ed
    rcases hsq with hsq |hsq
    ·exact .inl ⟨p,vs,i,w,rfl,rfl,hsq,e1,BD hr q r1⟩
    ·exact .inr ⟨p,vs,i,w,rfl,rfl,hsq,e1,BD hr q r1⟩
   ·exact q.elim
  ·exact q.elim
def A9:D→HD→Out D:=fun x h=>match BE x h with
 |some ds=>.ok (.int ds.length) h
 |none=>.stuck
theorem Gc {F:D→HD→Out D} {ds:List D} {vs:List V} {Q:VK} {C:Prop} (r:DVs X.K m H ds vs) (q:Post X.K (rD X.K) m H E Q (Am F ds h)) (k:∀d v,vs=[v]→DV X.K m H d v→Post X.K (rD X.K) m H E Q (F d h)→C):C:=by
 unfold Am at q
 split at q
 ·simp only [DVs] at r
  obtain ⟨v,w,rfl,rv,rfl⟩:=r
  exact k _ v rfl rv q
 ·exact q.elim
theorem KZ {F:D→D→HD→Out D} {ds:List D} {vs:List V} {Q:VK} {C:Prop} (r:DVs X.K m H ds vs) (q:Post X.K (rD X.K) m H E Q (BY F ds h)) (k:∀d d' v v',vs=[v,v']→DV X.K m H d v→DV X.K m H d' v'→Post X.K (rD X.K) m H E Q (F d d' h)→C):C:=by
 unfold BY at q
 split at q
 ·simp only [DVs] at r
  obtain ⟨v,w,rfl,rv,v',w',rfl,rv',rfl⟩:=r
  exact k _ _ v v' rfl rv rv' q
 ·exact q.elim
theorem BF:De X (.builtin "len") (Am A9):=by
 refine ⟨_,VG,fun m H h E ds vs Q hr r q=>Gc r q fun d v ev rv q=>?_⟩
 unfold A9 at q
 split at q
 ·rename_i xs e
  obtain ⟨p,ws,rfl,hs,dv⟩:=Jy hr rv e
  exact ⟨p,ws,ev,hs,by rw [←dv.len];exact BD hr q (by simp [DV])⟩
 ·exact q.elim
def CDv (i j:Int):Prop:=0<j∧j<18446744073709551616
instance (i j:Int):Decidable (CDv i j):=by unfold CDv;infer_instance
theorem CDv.no {i j:Int} (h:CDv i j):Builtin.divisionGoesByPylong i j=false:=by
 refine PyProof.noPylong_of_log2 ?_
 have h0:j.natAbs≠0:=by have:=h.1;omega
 have h1:j.natAbs<2^64:=by have:=h.2;have:=h.1;omega
 exact Nat.lt_trans ((Nat.log2_lt h0).mpr h1) (by decide)
theorem Wb:CY X (.builtin "divmod") (fun xs H Q=>∃i j,xs=[.int i,.int j]∧CDv i j∧∀p,H p=none→Q (.ref p) (Az H p (.tup [.int (i / j),.int (i % j)]))):=by
 intro pins s σ H xs us Q I r h
 obtain ⟨i,j,rfl,hc,q⟩:=h
 obtain ⟨u,w',rfl,⟨t,rfl⟩,⟨t',rfl⟩⟩:=KN r
 have h1:=hc.1
 refine divmod_int (by omega) ?_ (.inl hc.no)
 rw [Int.fdiv_eq_ediv_of_nonneg i (by omega),Int.fmod_eq_emod_of_nonneg i (by omega)]
 have hn:H s.heap.objs.size=none:=I.hok.fresh (AV _)
 refine ⟨.ref s.heap.objs.size,_,?_,rfl,q _ hn⟩
 refine I.laid (fun b o e=>AY _ e) (AV _) ⟨by simp only [Ie,Jg];rw [sizeLine_eq];decide,[.int (i / j) s.toks,.int (i % j) (s.toks+1)],.cons ⟨_,rfl⟩ (.cons ⟨_,rfl⟩ .nil),?_,NoDict.new⟩
 exact ⟨_,BK s.heap rfl,rfl,0,rfl⟩
def Jz:D→D→HD→Out D
 |.int i,.int j,h=>if CDv i j then .ok (.tup [.int (i / j),.int (i % j)]) h else .stuck
 |_,_,_=>.stuck
theorem Wc:De X (.builtin "divmod") (BY Jz):=by
 refine ⟨_,Wb,fun m H h E ds vs Q hr r q=>KZ r q fun d d' v v' ev rv rv' q=>?_⟩
 unfold Jz at q
 split at q
 ·split at q
  ·rename_i i j hc
   simp only [DV] at rv rv'
   subst rv rv'
   exact ⟨i,j,ev,hc,Ir hr (.cons (by simp [DV]) (.cons (by simp [DV]) .nil)) q⟩
  ·exact q.elim
 ·exact q.elim
theorem Wd:OpR X (binaryOp .FloorDiv) (rI CDv fun i j=>.int (i / j)):=KL fun i j _ _ _ _ _ hc q=>by
 have h1:=hc.1
 exact floordiv_int (by omega) (by rw [Int.fdiv_eq_ediv_of_nonneg i (by omega)];exact q) (.inl hc.no)
abbrev GH:=intD (fun i j=>.int (i / j)) CDv
theorem K0:BL X (binaryOp .FloorDiv) GH:=Ml Wd (fun _ _ h=>h) fun _ _ _ _=>by simp [DV]
def JA:D→D→HD→Out D
 |.int i,.int j,h=>.ok (.int (if j>i then j else i)) h
 |_,_,_=>.stuck
def GI:D→D→HD→Out D
 |.int i,.int j,h=>.ok (.int (if j<i then j else i)) h
 |_,_,_=>.stuck
theorem Wf (hc:X.calm=true):De X (.builtin "max") (BY JA):=by
 refine ⟨_,U1 hc,fun m H h E ds vs Q hr r q=>KZ r q fun d d' v v' ev rv rv' q=>?_⟩
 unfold JA at q
 split at q
 ·simp only [DV] at rv rv'
  subst rv rv'
  exact ⟨_,_,ev,BD hr q (by simp [DV])⟩
 ·exact q.elim
theorem Mn (hc:X.calm=true):De X (.builtin "min") (BY GI):=by
 refine ⟨_,U2 hc,fun m H h E ds vs Q hr r q=>KZ r q fun d d' v v' ev rv rv' q=>?_⟩
 unfold GI at q
 split at q
 ·simp only [DV] at rv rv'
  subst rv rv'
  exact ⟨_,_,ev,BD hr q (by simp [DV])⟩
 ·exact q.elim
def JB:D→HD→Out D
 |.int i,h=>.ok (.int i) h
 |.bl b,h=>.ok (.int (if b then 1 else 0)) h
 |_,_=>.stuck
theorem Wg:De X (.type "int") (Am JB):=by
 refine ⟨_,U3,fun m H h E ds vs Q hr r q=>Gc r q fun d v ev rv q=>?_⟩
 unfold JB at q
 split at q
 ·simp only [DV] at rv;subst rv
  exact .inl ⟨_,ev,BD hr q (by simp [DV])⟩
 ·simp only [DV] at rv;subst rv
  exact .inr ⟨_,ev,BD hr q (by simp [DV])⟩
 ·exact q.elim
def BN:D→HD→Out D:=fun x h=>match x with
 |.tup ds=>.ok (.tup ds) h
 |.loc l=>match h[l]? with
  |some (.lst ds)=>.ok (.tup ds) h
  |_=>.stuck
 |_=>.stuck
theorem Eb:De X (.type "tuple") (Am BN):=by
 refine ⟨_,VI,fun m H h E ds vs Q hr r q=>Gc r q fun d v ev rv q=>?_⟩
 unfold BN at q
 split at q
 ·simp only [DV] at rv
  obtain ⟨a,ws,rfl,ha,dv⟩:=rv
  exact ⟨a,ws,ev,.inr ⟨SqT.of ha,BD hr q (by simp only [DV];exact ⟨a,ws,rfl,ha,dv⟩)⟩⟩
 ·split at q
  ·rename_i ds' el
   simp only [DV] at rv
   obtain ⟨a,rfl,ha⟩:=rv
   obtain ⟨ws,hv,dv⟩:=hr.cells _ _ a el ha
   exact ⟨a,ws,ev,.inl ⟨SqL.of hv,Ir hr dv q⟩⟩
  ·exact q.elim
 ·exact q.elim
end
theorem PostS.bind {α β:Type} {K:PySem.W.Frag} {m:List Addr} {H:Hp} {R:List Addr→Hp→α→β→Prop} {E:XK} {Q':β→Hp→Prop} {Dn:D5} {o:Out α} {k:α→HD→Out (Fl×Ai)}
 (h:PostS K m H E Dn (o.bind k)) (f:∀a h1 v m1 H1,o=.ok a h1→m <+:m1→Kp H H1→HR K m1 h1 H1→R m1 H1 a v→PostS K m1 H1 E Dn (k a h1)→Q' v H1):Post K R m H E Q' o:=by
 cases o with
 |ok a h1=>exact fun v m1 H1 p kk hr r=>f a h1 v m1 H1 rfl p kk hr r (h.ahead p kk)
 |err C fs h1=>exact h
 |stuck=>exact h
theorem PostS.here {K:PySem.W.Frag} {m:List Addr} {H:Hp} {E:XK} {Dn:D5} {a:Fl×Ai} {h:HD} (hr:HR K m h H) (p:PostS K m H E Dn (.ok a h)):PH K m H Dn a:=p m H (AL _) (.refl _) hr
section
variable {X:Cx} {E:XK} {st:Stmt} {sts b1 b2:List Stmt} {g g1 g2:MS} {e:Expr} {f:ME} {pos:Pos} {t:MT}
def Bs:MS:=fun ρ h=>.ok (.nx,ρ) h
def Aj (g1 g2:MS):MS:=fun ρ h=>(g1 ρ h).bind fun x h1=>match x with
 |(.nx,ρ1)=>g2 ρ1 h1
 |y=>.ok y h1
theorem B4:AE X E [] Bs:=PK Uc fun Dn σ H z1_=>by obtain ⟨m,ρ,h,hr,er,p⟩:=z1_;exact ((p.here hr) σ er)
theorem An (h:Ex X E st g):AE X E [st] g:=Ue h
theorem Ap (h1:Ex X E st g1) (h2:AE X E sts g2):AE X E (st::sts) (Aj g1 g2):=
 PK (Ud h1 h2) fun Dn σ H z2_=>by
  obtain ⟨m,ρ,h,hr,er,p⟩:=z2_
  refine ⟨m,ρ,h,hr,er,?_⟩
  unfold Aj at p
  cases o:g1 ρ h with
  |stuck=>rw [o] at p;exact p
  |err C fs h1=>rw [o] at p;exact p
  |ok x h1=>
   rw [o] at p
   obtain ⟨fl,ρ1⟩:=x
   intro m1 H1 p1 k1 hr1
   cases fl with
   |nx=>exact fun σ1 er1=>⟨m1,ρ1,h1,hr1,er1,PostS.ahead p1 k1 p⟩
   |bk=>exact p m1 H1 p1 k1 hr1
   |ct=>exact p m1 H1 p1 k1 hr1
   |rt d=>exact p m1 H1 p1 k1 hr1
def Cb (f:ME):MS:=fun ρ h=>(f ρ h).bind fun _ h1=>.ok (.nx,ρ) h1
theorem Df (he:Ev X E e f) (hs:swapsWith e none pos.line X.env=pure false:=by rfl):Ex X E (.Expr e pos) (Cb f):=
 En (Uh he hs) fun Dn σ H z3_=>by obtain ⟨m,ρ,h,hr,er,p⟩:=z3_;exact (⟨m,ρ,h,hr,er,PostS.bind p fun x h1 v m1 H1 _ p1 k1 hr1 r1 q1=>(q1.here hr1) σ (er.keep p1 k1)⟩)
def Av (f:ME):MS:=fun ρ h=>(f ρ h).bind fun d h1=>.ok (.rt d,ρ) h1
theorem AD (he:Ev X E e f):Ex X E (.Return (some e) pos) (Av f):=
 En (Uj he) fun Dn σ H z4_=>by obtain ⟨m,ρ,h,hr,er,p⟩:=z4_;exact (⟨m,ρ,h,hr,er,PostS.bind p fun x h1 v m1 H1 _ p1 k1 hr1 r1 q1=>(q1.here hr1) v r1⟩)
def Bp (t:MT) (g1 g2:MS):MS:=fun ρ h=>(t ρ h).bind fun b h1=>if b=true then g1 ρ h1 else g2 ρ h1
theorem B5 {c:Expr} (hc:D9 X E c t) (ha:AE X E b1 g1) (hb:AE X E b2 g2):Ex X E (.If c b1 b2 pos) (Bp t g1 g2):=
 En (Ul hc ha hb) fun Dn σ H z5_=>by obtain ⟨m,ρ,h,hr,er,p⟩:=z5_;exact (⟨m,ρ,h,hr,er,PostS.bind p fun x h1 v m1 H1 _ p1 k1 hr1 r1 q1=>by
  cases r1
  cases x with
  |true=>exact ⟨m1,ρ,h1,hr1,er.keep p1 k1,q1⟩
  |false=>exact ⟨m1,ρ,h1,hr1,er.keep p1 k1,q1⟩⟩)
def JC:MS:=fun _ _=>.stuck
theorem K1:Ex X E st JC:=En Uo fun Dn σ H z6_=>by obtain ⟨m,ρ,h,hr,er,p⟩:=z6_;exact (p)
def AH (i:Nat) (f:ME):MS:=fun ρ h=>(f ρ h).bind fun d h1=>.ok (.nx,ρ.set i (some d)) h1
theorem A8 {i:Nat} {x:Str} {pos':Pos} (hN:X.N.Nodup) (hi:X.N[i]?=some x) (hx:Ij X.env.scope x) (he:Ev X E e f) (hs:swapsWith e (some (.Name x pos')) pos.line X.env=pure false:=by rfl) (hf:X.fn x=true∨X.env.scope.names.lookup x=some .local:=by first |exact .inl rfl |exact .inr rfl |assumption):
 Ex X E (.Assign [.Name x pos'] e pos) (AH i f):=
 En (Ur hN hi hx he hs hf) fun Dn σ H z9_=>by obtain ⟨m,ρ,h,hr,er,p⟩:=z9_;exact (⟨m,ρ,h,hr,er,PostS.bind p fun x h1 v m1 H1 _ p1 k1 hr1 r1 q1=>(q1.here hr1) _ ((er.keep p1 k1).set r1)⟩)
def Ep (i j:Nat) (fa:MA):MS:=fun ρ h=>(fa ρ h).bind fun ds h1=>match ds with
 |[x,y]=>.ok (.nx,(ρ.set i (some x)).set j (some y)) h1
 |_=>.stuck
theorem JD {i j:Nat} {x y:Str} {a b:Expr} {fa:MA} {px py pt:Pos} {kt k2:Nat} {pt2:Pos} (hc:X.calm=true) (hN:X.N.Nodup) (hi:X.N[i]?=some x) (hj:X.N[j]?=some y) (hij:i≠j)
 (hx:X.env.scope.names.lookup x=some .local) (hy:X.env.scope.names.lookup y=some .local) (ha:DA X E [a,b] fa)
 (hw:swappedStores [.Tuple [.Name x px,.Name y py] kt pt] (.Tuple [a,b] k2 pt2) X.env=pure (some [x,y]))
 (hs:swapsWithSole [.Tuple [.Name x px,.Name y py] kt pt] (.Tuple [a,b] k2 pt2) pos.line X.env=pure false:=by rfl):
 Ex X E (.Assign [.Tuple [.Name x px,.Name y py] kt pt] (.Tuple [a,b] k2 pt2) pos) (Ep i j fa):=
 En (Ut hc hN hi hj hij hx hy ha hw hs) fun Dn σ H z10_=>by obtain ⟨m,ρ,h,hr,er,p⟩:=z10_;exact (⟨m,ρ,h,hr,er,PostS.bind p fun x h1 v m1 H1 _ p1 k1 hr1 r1 q1=>by
  split at q1
  ·simp only [FH,DVs] at r1
   obtain ⟨v,w,rfl,rv,v',w',rfl,rv',rfl⟩:=r1
   exact ⟨v,v',rfl,(q1.here hr1) _ (((er.keep p1 k1).set rv).set rv')⟩
  ·exact q1.elim⟩)
abbrev MG:=D→Ai→Option Ai
def JE (X:Cx) (tg:Expr) (sg:MG):Prop:=
 ∃gg:TG,PG X tg gg∧∀m H d v ρ σ ρ' Q,DV X.K m H d v→ER X.K m H ρ σ→sg d ρ=some ρ'→(∀σ',ER X.K m H ρ' σ'→Q σ' H)→gg v σ H Q
def Bb (i:Nat):MG:=fun d ρ=>some (ρ.set i (some d))
def BQ (i j:Nat):MG:=fun d ρ=>match d with
 |.tup [x,y]=>some ((ρ.set i (some x)).set j (some y))
 |_=>none
theorem E5 {i:Nat} {x:Str} (h:PG X (.Name x pos) (CD i)):JE X (.Name x pos) (Bb i):=⟨_,h,fun m H d v ρ σ ρ' Q r er e q=>by
 simp only [Bb,Option.some.injEq] at e
 subst e
 exact q _ (er.set r)⟩
theorem IA {i j:Nat} {x y:Str} {px py:Pos} {kt:Nat} (h:PG X (.Tuple [.Name x px,.Name y py] kt pos) (GE X.K 2 (D7 (CD i) (D7 (CD j) GD)))):JE X (.Tuple [.Name x px,.Name y py] kt pos) (BQ i j):=⟨_,h,fun m H d v ρ σ ρ' Q r er e q=>by
 unfold BQ at e
 split at e
 ·rename_i a b
  cases e
  simp only [DV,DVs] at r
  obtain ⟨p,vs,rfl,hp,v1,w1,rfl,r1,v2,w2,rfl,r2,rfl⟩:=r
  exact ⟨p,_,rfl,SqT.of hp,rfl,v1,_,rfl,v2,_,rfl,rfl,q _ ((er.set r1).set r2)⟩
 ·cases e⟩
def Gd (sg:MG) (f:ME):MS:=fun ρ h=>(f ρ h).bind fun d h1=>match sg d ρ with
 |some ρ1=>.ok (.nx,ρ1) h1
 |none=>.stuck
theorem K2 {tg:Expr} {sg:MG} (he:Ev X E e f) (hg:JE X tg sg) (hs:swapsWithSole [tg] e pos.line X.env=pure false:=by rfl) (hw:swappedStores [tg] e X.env=pure none:=by rfl)
 (h1:(assignEach [tg] X.env).map (·.2)=[assign tg X.env]:=by rfl):Ex X E (.Assign [tg] e pos) (Gd sg f):=by
 obtain ⟨gg,hg,i⟩:=hg
 exact En (O5 he hg hs hw h1) fun Dn σ H z11_=>by obtain ⟨m,ρ,h,hr,er,p⟩:=z11_;exact (⟨m,ρ,h,hr,er,PostS.bind p fun x h1 v m1 H1 _ p1 k1 hr1 r1 q1=>by
  split at q1
  ·rename_i ρ1 es
   exact i m1 H1 x v ρ σ ρ1 _ r1 (er.keep p1 k1) es fun σ' er'=>(q1.here hr1) σ' er'
  ·exact q1.elim⟩)
abbrev Bk:=List (Nat×List D)
def Bn (src:Bk) (items:List D) (h:HD):Prop:=∀p∈src,h[p.1]?=some (.lst p.2)
theorem DG {items:List D} {h:HD}:Bn [] items h:=fun p z=>nomatch z
theorem DH {items ds:List D} {h:HD} {l:Nat} (e:h[l]?=some (.lst ds)):Bn [(l,ds)] items h:=fun p z=>by
 rw [qaE] at z
 subst z
 exact e
def GJ (K:PySem.W.Frag):List Addr→Hp→(List D×Bk)→It→Prop:=fun m1 H1 x J=>
 ∀i m2 h2 H2,m1 <+:m2→Kp H1 H2→HR K m2 h2 H2→Bn x.2 x.1 h2→
  (i<x.1.length→J.go i H2∧∀y H3,J.yld i H2 y H3→Kp H2 H3∧HR K m2 h2 H3∧∃d,x.1[i]?=some d∧DV K m2 H3 d y)∧(i=x.1.length→J.stop i H2)
abbrev MI:=Ai→HD→Out (List D×Bk)
abbrev E6 (X:Cx) (E:XK) (tg iter:Expr) (it:MI):Prop:=PI X tg iter (tM X.K (GJ X.K) E it)
theorem JF {tg iter:Expr} {w w':TI} (h:PI X tg iter w) (i:∀σ H R,w' σ H R→w σ H R):PI X tg iter w':=fun pins s σ H R I q=>h pins s σ H R I (i σ H R q)
theorem Wh {tg l:Expr} {tl:TE} (hl:PE X l tl):PI X tg l (fun σ H R=>tl σ H fun x H1=>∃a,x=.ref a∧(((∃xs,SqL X.K H1 a xs)∧R (Jk X.K a) H1)∨((∃xs,SqT X.K H1 a xs)∧R (Jl X.K a) H1))):=by
 intro pins s σ H R I h
 refine Au (hl pins s σ H _ I h) fun v s1 z12_=>?_
 obtain ⟨x,H1,I1,r1,q1⟩:=z12_
 obtain ⟨a,e,q⟩:=q1
 subst e
 cases r1
 rcases q with ⟨⟨xs,hq⟩,q⟩ |⟨⟨xs,hq⟩,q⟩
 ·obtain ⟨its,rv,p,hz⟩:=I1.list hq
  refine wpAny_pyIter_list p.isList ?_
  refine ⟨s1.heap.objs.size,[s1.heap.objs.size],_,_,H1,rfl,I1.kept (t':=s1.toks) fun b o e=>AY _ e,UA a _,⟨_,BK _ rfl,rfl,rfl⟩,fun b hb=>?_,q⟩
  have e:b=s1.heap.objs.size:=by simpa using hb
  subst e
  exact I1.fpOk (AV _) (I1.hok.fresh (AV _))
 ·obtain ⟨its,rv,p,hz⟩:=I1.tuple hq
  refine wpAny_pyIter_tuple (show s1.heap.IsTuple a its.toArray from p) ?_
  refine ⟨s1.heap.objs.size,[s1.heap.objs.size],_,_,H1,rfl,I1.kept (t':=s1.toks) fun b o e=>AY _ e,UB a _,⟨_,BK _ rfl,rfl,rfl⟩,fun b hb=>?_,q⟩
  have e:b=s1.heap.objs.size:=by simpa using hb
  subst e
  exact I1.fpOk (AV _) (I1.hok.fresh (AV _))
def P6:D→List D→Bk
 |.loc l,ds=>[(l,ds)]
 |_,_=>[]
def Ge (d:D) (h:HD):Out (List D×Bk):=match BE d h with
 |some ds=>.ok (ds,P6 d ds) h
 |none=>.stuck
def By (f:ME):MI:=fun ρ h=>(f ρ h).bind Ge
theorem Kp.lget {H H':Hp} {a:Addr} {K:PySem.W.Frag} {xs:List V} (k:Kp H H') (h:FzL K H a xs):SqL K H' a xs:=(k.fzL h).sq
theorem P7 {K:PySem.W.Frag} {a:Addr} {m:List Addr} {H:Hp} {h:HD} {i:Nat} {items:List D} {vs:List V} (hr:HR K m h H) (hs:SqL K H a vs) (dv:DVs K m H items vs) (uniq:∀ys,SqL K H a ys→ys=vs∨True):
 (i<items.length→(Jk K a).go i H∧∀y H3,(Jk K a).yld i H y H3→Kp H H3∧HR K m h H3∧∃d,items[i]?=some d∧DV K m H3 d y)∧(i=items.length→(Jk K a).stop i H):=by
 refine ⟨fun hi=>?_,fun hi=>⟨vs,hs,by rw [←dv.len];exact Nat.le_of_eq hi.symm⟩⟩
 have hd:items[i]?=some items[i]:=Bi hi
 obtain ⟨v,e1,r1⟩:=dv.get hd
 refine ⟨⟨vs,v,hs,e1⟩,fun y H3 z13_=>?_⟩
 obtain ⟨e3,hy⟩:=z13_
 subst e3
 have:=hy vs hs
 rw [e1] at this
 cases this
 exact ⟨.refl _,hr,_,hd,r1⟩
theorem Wi {K:PySem.W.Frag} {a:Addr} {m:List Addr} {H:Hp} {h:HD} {i:Nat} {items:List D} {vs:List V} (hr:HR K m h H) (hs:SqT K H a vs) (dv:DVs K m H items vs):
 (i<items.length→(Jl K a).go i H∧∀y H3,(Jl K a).yld i H y H3→Kp H H3∧HR K m h H3∧∃d,items[i]?=some d∧DV K m H3 d y)∧(i=items.length→(Jl K a).stop i H):=by
 refine ⟨fun hi=>?_,fun hi=>⟨vs,hs,by rw [←dv.len];exact Nat.le_of_eq hi.symm⟩⟩
 have hd:items[i]?=some items[i]:=Bi hi
 obtain ⟨v,e1,r1⟩:=dv.get hd
 refine ⟨⟨vs,v,hs,e1⟩,fun y H3 z14_=>?_⟩
 obtain ⟨e3,hy⟩:=z14_
 subst e3
 have:=hy vs hs
 rw [e1] at this
 cases this
 exact ⟨.refl _,hr,_,hd,r1⟩
theorem Cc {tg a:Expr} (ha:Ev X E a f):E6 X E tg a (By f):=
 JF (Wh ha) fun σ H R ⟨m,ρ,h,hr,er,p⟩=>⟨m,ρ,h,hr,er,Post.bind p fun x h1 v m1 H1 _ p1 k1 hr1 r1 q1=>by
  unfold Ge at q1
  split at q1
  ·rename_i ds eds
   cases x with
   |tup xs=>
    simp only [BE,Option.some.injEq] at eds
    subst eds
    simp only [rD,DV] at r1
    obtain ⟨a,vs,rfl,ha,dv⟩:=r1
    refine ⟨a,rfl,.inr ⟨⟨vs,SqT.of ha⟩,q1 _ m1 H1 (AL _) (.refl _) hr1 fun i m2 h2 H2 p2 k2 hr2 _=>?_⟩⟩
    exact Wi hr2 (SqT.of (k2 _ _ ha rfl)) (dv.keep p2 k2)
   |loc l=>
    simp only [rD,DV] at r1
    obtain ⟨a,rfl,ha⟩:=r1
    simp only [BE] at eds
    split at eds
    ·rename_i xs el
     cases eds
     obtain ⟨vs,hv,dv⟩:=hr1.cells l _ a el ha
     refine ⟨a,rfl,.inl ⟨⟨vs,SqL.of hv⟩,q1 _ m1 H1 (AL _) (.refl _) hr1 fun i m2 h2 H2 p2 k2 hr2 hs=>?_⟩⟩
     obtain ⟨ws,hw,dw⟩:=hr2.cells l _ a (hs _ AW) (Iq p2 ha)
     exact P7 hr2 (SqL.of hw) dw fun _ _=>.inr trivial
    ·cases eds
   |scr ns=>
    simp only [BE,Option.some.injEq] at eds
    subst eds
    simp only [rD,DV] at r1
    obtain ⟨a,rfl,ha⟩:=r1
    refine ⟨a,rfl,.inl ⟨⟨_,ha.sq⟩,q1 _ m1 H1 (AL _) (.refl _) hr1 fun i m2 h2 H2 p2 k2 hr2 _=>?_⟩⟩
    exact P7 hr2 (k2.lget ha) P5 fun _ _=>.inr trivial
   |_=>simp [BE] at eds
  ·exact q1.elim⟩
def Gf (lo:Int) (n:Nat):List D:=(List.range n).map fun k=>.int (lo+(k:Nat))
theorem P8 {K:PySem.W.Frag} {m1:List Addr} {H1:Hp} (lo:Int) (n:Nat):GJ K m1 H1 (Gf lo n,[]) (Jm lo n):=fun i m2 h2 H2 p2 k2 hr2 _=>by
 refine ⟨fun hi=>?_,fun hi=>?_⟩
 ·have hi':i<n:=by simpa [Gf] using hi
  refine ⟨hi',fun y H3 z16_=>?_⟩
  obtain ⟨e3,ey⟩:=z16_
  subst e3 ey
  refine ⟨.refl _,hr2,.int (lo+i),?_,by simp [DV]⟩
  simp [Gf,Ks,hi']
 ·show n≤i
  have hi':i=n:=by simpa [Gf] using hi
  omega
@[irreducible] noncomputable def IB:List D→HD→Out (List D×Bk):=fun ds h=>match ds with
  |[.int j]=>@ite _ (-(2^62)≤j∧j<2^62) (Classical.propDecidable _) (.ok (Gf 0 j.toNat,[]) h) .stuck
  |_=>.stuck
@[irreducible] noncomputable def IC:List D→HD→Out (List D×Bk):=fun ds h=>match ds with
  |[.int i,.int j]=>@ite _ ((-(2^62)≤i∧i<2^62)∧-(2^62)≤j∧j<2^62) (Classical.propDecidable _) (.ok (Gf i (j - i).toNat,[]) h) .stuck
  |_=>.stuck
noncomputable def Dg (fa:MA):MI:=fun ρ h=>(fa ρ h).bind IB
noncomputable def FN (fa:MA):MI:=fun ρ h=>(fa ρ h).bind IC
theorem FO {tg a:Expr} {fa:MA} {p pos:Pos} (hg:Gl X "range") (hm:X.mg "range"=none) (ha:DA X E [a] fa) (hs:starEach [a] X.env=[(false,eval a X.env)]:=by rfl):E6 X E tg (.Call (.Name "range" p) [a] [] pos) (Dg fa):=
 JF (UF hg hm ha hs) fun σ H R z17_=>by obtain ⟨m,ρ,h,hr,er,p⟩:=z17_;exact (⟨m,ρ,h,hr,er,Post.bind p fun x h1 v m1 H1 _ p1 k1 hr1 r1 q1=>by
  unfold IB at q1
  split at q1
  ·split at q1
   ·rename_i hj
    simp only [FH,DVs,DV] at r1
    obtain ⟨v,w,rfl,rfl,rfl⟩:=r1
    exact ⟨_,rfl,hj.1,hj.2,q1 _ m1 H1 (AL _) (.refl _) hr1 (P8 0 _)⟩
   ·exact q1.elim
  ·exact q1.elim⟩)
theorem Mo {tg a b:Expr} {fa:MA} {p pos:Pos} (hg:Gl X "range") (hm:X.mg "range"=none) (ha:DA X E [a,b] fa) (hs:starEach [a,b] X.env=[(false,eval a X.env),(false,eval b X.env)]:=by rfl) (hs2:starEach [b] X.env=[(false,eval b X.env)]:=by rfl):E6 X E tg (.Call (.Name "range" p) [a,b] [] pos) (FN fa):=
 JF (UG hg hm ha hs hs2) fun σ H R z18_=>by obtain ⟨m,ρ,h,hr,er,p⟩:=z18_;exact (⟨m,ρ,h,hr,er,Post.bind p fun x h1 v m1 H1 _ p1 k1 hr1 r1 q1=>by
  unfold IC at q1
  split at q1
  ·split at q1
   ·rename_i hj
    simp only [FH,DVs,DV] at r1
    obtain ⟨v,w,rfl,rfl,v',w',rfl,rfl,rfl⟩:=r1
    exact ⟨_,_,rfl,⟨hj.1.1,hj.1.2,hj.2.1,hj.2.2⟩,q1 _ m1 H1 (AL _) (.refl _) hr1 (P8 _ _)⟩
   ·exact q1.elim
  ·exact q1.elim⟩)
open Classical in
noncomputable def E7 (src:Bk) (items:List D) (sg:MG) (body:MS):List D→MS
 |[]=>fun ρ h=>if Bn src items h then .ok (.nx,ρ) h else .stuck
 |d::ds=>fun ρ h=>if Bn src items h then match sg d ρ with
   |none=>.stuck
   |some ρ1=>(body ρ1 h).bind fun x h2=>match x with
    |(.nx,ρ2)=>E7 src items sg body ds ρ2 h2
    |(.ct,ρ2)=>E7 src items sg body ds ρ2 h2
    |(.bk,ρ2)=>.ok (.nx,ρ2) h2
    |(.rt d,ρ2)=>.ok (.rt d,ρ2) h2
  else .stuck
noncomputable def Cq (it:MI) (sg:MG) (body:MS):MS:=fun ρ h=>(it ρ h).bind fun x h1=>E7 x.2 x.1 sg body x.1 ρ h1
inductive P9 (K:PySem.W.Frag) (E:XK) (Dn:D5) (src:Bk) (items:List D) (sg:MG) (g:MS) (m1:List Addr) (H1:Hp) (i n:Nat) (σ2:L2.St) (H2:Hp):Prop where
 |mk (e:n=items.length - i) (l:i≤items.length) (m2:List Addr) (ρ2:Ai) (h2:HD) (p:m1 <+:m2) (k:Kp H1 H2) (hr:HR K m2 h2 H2) (er:ER K m2 H2 ρ2 σ2) (q:PostS K m2 H2 E Dn (E7 src items sg g (items.drop i) ρ2 h2)):P9 K E Dn src items sg g m1 H1 i n σ2 H2
inductive Qa (K:PySem.W.Frag) (E:XK) (Dn:D5) (src:Bk) (items:List D) (sg:MG) (g:MS) (m1:List Addr) (H1:Hp) (i:Nat) (σ2:L2.St) (H2:Hp):Prop where
 |mk (m2:List Addr) (ρ2:Ai) (h2:HD) (p:m1 <+:m2) (k:Kp H1 H2) (hr:HR K m2 h2 H2) (er:ER K m2 H2 ρ2 σ2) (q:PostS K m2 H2 E Dn (E7 src items sg g (items.drop i) ρ2 h2)):Qa K E Dn src items sg g m1 H1 i σ2 H2
theorem DI {tg iter:Expr} {body:List Stmt} {it:MI} {sg:MG} {g:MS} (hp:PassesOwn (model X.prog X.w) X.A X.env X.xe) (hc:X.calm=true) (hi:E6 X E tg iter it) (hg:JE X tg sg) (hb:AE X E body g)
 (hs:∀x,foldedSetIterable iter X.env x=pure x:=by intro _;rfl):Ex X E (.For tg iter body [] pos) (Cq it sg g):=by
 obtain ⟨gg,hg,ig⟩:=hg
 refine En (UI hp hc hi hg hb hs) ?_
 rintro Dn σ H ⟨m,ρ,h,hr,er,p⟩
 refine ⟨m,ρ,h,hr,er,PostS.bind p fun x h1 J m1 H1 _ p1 k1 hr1 r1 q1=>?_⟩
 obtain ⟨items,src⟩:=x
 refine ⟨P9 X.K E Dn src items sg g m1 H1,⟨items.length,rfl,FD _,m1,ρ,h1,AL _,.refl _,hr1,er.keep p1 k1,by simpa using q1⟩,?_⟩
 rintro i n σ2 H2 ⟨rfl,hi,m2,ρ2,h2,p2,k2,hr2,er2,q2⟩
 by_cases hlt:i<items.length
 ·rw [Kq hlt] at q2
  unfold E7 at q2
  split at q2
  ·rename_i hs
   obtain ⟨hgo,hy⟩:=(r1 i m2 h2 H2 p2 k2 hr2 hs).1 hlt
   refine .inr ⟨hgo,Qa X.K E Dn src items sg g m1 H1 (i+1),fun σ5 H5 z20_=>by obtain ⟨m5,ρ5,h5,a1,a2,a3,a4,a5⟩:=z20_;exact (⟨items.length - (i+1),by omega,rfl,hlt,m5,ρ5,h5,a1,a2,a3,a4,a5⟩),fun y H3 hyl=>?_⟩
   obtain ⟨k3,hr3,d,ed,rd⟩:=hy y H3 hyl
   have ed':d=items[i]:=by rw [Bi hlt] at ed;exact (Option.some.inj ed).symm
   subst ed'
   split at q2
   ·exact q2.elim
   ·rename_i ρ3 es
    refine ig m2 H3 _ y ρ2 σ2 ρ3 _ rd (er2.keep (AL _) k3) es fun σ4 er4=>?_
    refine ⟨m2,ρ3,h2,hr3,er4,?_⟩
    have q3:=PostS.ahead (AL _) k3 q2
    cases o:g ρ3 h2 with
    |stuck=>rw [o] at q3;exact q3
    |err C fs h5=>rw [o] at q3;exact q3
    |ok z h5=>
     rw [o] at q3
     obtain ⟨fl,ρ5⟩:=z
     intro m5 H5 p5 k5 hr5
     have pk:m1 <+:m5:=p2.trans p5
     have kk:Kp H1 H5:=(k2.trans k3).trans k5
     cases fl with
     |nx=>exact fun σ5 er5=>⟨m5,ρ5,h5,pk,kk,hr5,er5,PostS.ahead p5 k5 q3⟩
     |ct=>exact fun σ5 er5=>⟨m5,ρ5,h5,pk,kk,hr5,er5,PostS.ahead p5 k5 q3⟩
     |bk=>exact fun σ5 er5=>q3 m5 H5 p5 k5 hr5 σ5 er5
     |rt d=>exact fun v rv=>q3 m5 H5 p5 k5 hr5 v rv
  ·exact q2.elim
 ·have he:i=items.length:=Nat.le_antisymm hi (Ic hlt)
  subst he
  rw [List.drop_length] at q2
  unfold E7 at q2
  split at q2
  ·rename_i hs
   exact .inl ⟨(r1 _ m2 h2 H2 p2 k2 hr2 hs).2 rfl,(q2.here hr2) σ2 er2⟩
  ·exact q2.elim
end
section
variable {M:Model} {A:Around} {E:Value→Shared→Prop} {s:Shared}
theorem Mp {env:Env}:∀(names:List (Str×NameKind)) (acc:List (Str×Addr)),(∀y∈names,y.2=.free→∃c,env.cells.lookup y.1=some c)→
 ∃cl:List (Str×Addr),(forIn names acc (fun (x:Str×NameKind) (cs:List (Str×Addr))=>match x with
  |(name,kind)=>if (kind==NameKind.free)=true then do let y ←cellOf env name;pure (ForInStep.yield ((name,y)::cs)) else pure (ForInStep.yield cs)):Sem (List (Str×Addr)))=pure cl∧
  (∀x c,(x,c)∈cl→(x,c)∈acc∨(env.cells.lookup x=some c∧(x,NameKind.free)∈names))∧(∀y∈names,y.2=.free→∃c,(y.1,c)∈cl)∧(∀p∈acc,p∈cl)
 |[],acc,_=>⟨acc,rfl,fun x c h=>.inl h,fun y hy=>absurd hy (by simp),fun p h=>h⟩
 |(name,kind)::r,acc,h=>by
  rw [List.forIn_cons]
  by_cases hk:kind=.free
  ·subst hk
   obtain ⟨c,hc⟩:=h (name,.free) AW rfl
   obtain ⟨cl,e,h1,h2,h3⟩:=Mp (env:=env) r ((name,c)::acc) (fun y hy=>h y (A1 _ hy))
   refine ⟨cl,?_,fun x c' hm=>?_,fun y hy hf=>?_,fun p hp=>h3 p (A1 _ hp)⟩
   ·rw [←e]
    have:cellOf env name=pure c:=by unfold cellOf;rw [hc]
    simp only [this,beq_self_eq_true,if_true,pure_bind]
   ·rcases h1 x c' hm with q |⟨q1,q2⟩
    ·rcases qa7.mp q with q |q
     ·cases q;exact .inr ⟨hc,AW⟩
     ·exact .inl q
    ·exact .inr ⟨q1,A1 _ q2⟩
   ·rcases qa7.mp hy with q |q
    ·subst q;exact ⟨c,h3 _ AW⟩
    ·exact h2 y q hf
  ·obtain ⟨cl,e,h1,h2,h3⟩:=Mp (env:=env) r acc (fun y hy=>h y (A1 _ hy))
   refine ⟨cl,?_,fun x c' hm=>?_,fun y hy hf=>?_,h3⟩
   ·rw [←e]
    have hk':(kind==NameKind.free)=false:=by simpa using hk
    simp only [hk',DY,if_false,pure_bind]
   ·rcases h1 x c' hm with q |⟨q1,q2⟩
    ·exact .inl q
    ·exact .inr ⟨q1,A1 _ q2⟩
   ·rcases qa7.mp hy with q |q
    ·subst q;exact absurd hf hk
    ·exact h2 y q hf
theorem Qb {scope:Scope} {env:Env} (h:∀y∈scope.names,y.2=.free→∃c,env.cells.lookup y.1=some c):
 ∃cl:List (Str×Addr),closureFor scope env=pure cl∧(∀x c,(x,c)∈cl→env.cells.lookup x=some c∧(x,NameKind.free)∈scope.names)∧(∀y∈scope.names,y.2=.free→∃c,(y.1,c)∈cl):=by
 obtain ⟨cl,e,h1,h2,h3⟩:=Mp (env:=env) scope.names [] h
 refine ⟨cl,?_,fun x c hm=>?_,h2⟩
 ·unfold closureFor
  simp only [bind_pure]
  exact e
 ·rcases h1 x c hm with q |q
  ·exact nomatch q
  ·exact q
theorem Qc {scope:Scope} {globals:Addr} {cl:List (Str×Addr)} {qual:Str} {around:Env} {Q:Env→Shared→Prop}
 (h:Q (newEnv scope s.heap.objs.size globals (cellsFrom (s.heap.objs.size+1) scope.names cl) qual none .none (some around) builtinsNs) {s with heap:=pushCells (s.heap.push {cls:=.type "dict",data:=.dict #[]}) scope.names}):
 wpAny M A (newFunctionEnv scope globals cl [] qual none .none (some around)) Q E s:=by
 simp only [newFunctionEnv,Option.isSome_some,if_true]
 refine wpAny_bind (wpAny_alloc ?_)
 refine wpAny_bind (wpAny_layCells _ (fun name kind cells=>by cases hkc:kind==NameKind.cell<;>simp [hkc]) _ _ _ _ ?_)
 simp only [List.forIn_nil,pure_bind]
 refine wpAny_pure ?_
 rw [show ({s with heap:=s.heap.push {cls:=.type "dict",data:=.dict #[]}}:Shared).heap.objs.size=s.heap.objs.size+1 from CL ..]
 exact h
end
section
variable {prog:Program} {w:World} {A:Around} {R:Result→Shared→Prop} {s:Shared}
theorem Wj {elt target iter:Expr} {ifs:List Expr} {scope:Scope} {pos:Pos} {it acc:Value} {env:Env} (I:Nat→Shared→Prop)
 (turn:∀n s,I n s→wpAny (model prog w) A (pyNext it) (fun r s₁=>match r with
  |none=>R (.ok .next) s₁
  |some v=>wpAny (model prog w) A (letOwnedTupleGo target it v) (fun _ s₁'=>wpAny (model prog w) A (assign target env v) (fun _ s₂=>
   wpAny (model prog w) A (forIn ifs true fun c r=>if r=true then do let ok ←isTrue c env (eval c env);pure (ForInStep.yield ok) else pure (ForInStep.yield r)) (fun ok s₃=>
    if ok=true then wpAny (model prog w) A (eval elt env) (fun x s₄=>
     wpAny (model prog w) A (call (.builtin "list.append") [acc,x]) (fun _ s₅=>∃m,m<n∧I m s₅) (notedBy (model prog w) A env fun e s'=>R (.error e) s') s₄) (notedBy (model prog w) A env fun e s'=>R (.error e) s') s₃
    else ∃m,m<n∧I m s₃) (notedBy (model prog w) A env fun e s'=>R (.error e) s') s₂) (notedBy (model prog w) A env fun e s'=>R (.error e) s') s₁') (notedBy (model prog w) A env fun e s'=>R (.error e) s') s₁) (notedBy (model prog w) A env fun e s'=>R (.error e) s') s)
 (n:Nat) (h:I n s):
 codeAny (model prog w) A (.compLoop (.ListComp elt [⟨target,iter,ifs,0⟩] scope pos) 0 it acc env) R s:=by
 refine codeAny_loop rfl I (fun n s hI=>?_) n h
 show wpAny _ A ((compTurn (.ListComp elt [⟨target,iter,ifs,0⟩] scope pos) 0 it acc env).onRaise (fun x=>do noteFrame x env;theTreesLotGoes x)) _ _ s
 refine wpAny_noted ?_
 rw [compTurn_list]
 refine wpAny_bind (wpAny_standAt (wpAny_bind (wpAny_mono (turn n s hI) (fun r s₁ h₁=>?_) fun _ _ h'=>h')))
 cases r with
 |none=>exact wpAny_pure h₁
 |some v=>
  refine wpAny_bind (wpAny_mono h₁ (fun _ s₁' h₁'=>?_) fun _ _ h'=>h')
  refine wpAny_bind (wpAny_mono h₁' (fun _ s₂ h₂=>wpAny_bind (wpAny_mono h₂ (fun ok s₃ h₃=>?_) fun _ _ h'=>h')) fun _ _ h'=>h')
  cases ok with
  |false=>exact wpAny_pure ⟨rfl,h₃⟩
  |true=>
   exact wpAny_bind (wpAny_bind (wpAny_mono h₃ (fun x s₄ h₄=>wpAny_bind (wpAny_mono h₄ (fun _ s₅ h₅=>wpAny_pure (wpAny_pure ⟨rfl,h₅⟩)) fun _ _ h'=>h')) fun _ _ h'=>h'))
end
def FP (X:Cx) (ifs:List Expr) (t:TT):Prop:=∀(pins:List (Addr×Obj)) (s:Shared) (σ:L2.St) (H:Hp) (Q:Bool→Hp→Prop),Inv X pins σ H s→t σ H Q→
 wpAny (model X.prog X.w) X.A (forIn ifs true fun c r=>if r=true then do let ok ←isTrue c X.env (eval c X.env);pure (ForInStep.yield ok) else pure (ForInStep.yield r)) (TP X pins σ Q) X.xe s
theorem Wk {X:Cx}:FP X [] (fun _ H Q=>Q true H):=fun _ _ _ H _ I h=>wpAny_tests_nil ⟨H,I,h⟩
theorem Wl {X:Cx} {c:Expr} {t:TT} (h:PT X c t):FP X [c] t:=fun pins s σ H Q I q=>wpAny_tests_one (h pins s σ H Q I q)
def Qd (env:Env) (scope:Scope) (C:Addr) (cells:List (Str×Addr)):Env:=
 {scope:=relabel scope env,locals:=C,globals:=env.globals,cells:=cells,qual:=env.qual,func:=none,code:=env.code,frame:=env.frame,builtins:=env.builtins}
def Bg (X:Cx) (Nc:List Str) (scope:Scope) (C D:Addr) (cells:List (Str×Addr)) (fp:List Addr) (s₀:Shared) (H₀:Hp) (pins:List (Addr×Obj)):Cx:=
 {X with N:=Nc,s₀:=s₀,H₀:=H₀,env:=Qd X.env scope C cells,outer:=X.stack,stack:=X.stack,ex:=D::fp,fn:=fun x=>scope.names.lookup x==some .cell,pn:=X.pn++pins,xe:=fun _ _=>False}
def Bv (cs:List (Option Nat)) (σ:L2.St):L2.St:=cs.map fun o=>o.bind fun j=>(σ[j]?).join
def Sub (σ σ':L2.St):Prop:=σ.length=σ'.length∧∀(i:Nat) v,σ[i]?=some (some v)→σ'[i]?=some (some v)
def K3 (cs:List (Option Nat)) (wi:TI) (g:TG) (tc:TT) (te:TE):TE:=fun σ H Q=>wi σ H fun J H1=>∃W:Nat→Nat→List V→Hp→Prop,(∃n,W 0 n [] H1)∧∀i n acc H,W i n acc H→
 (J.stop i H∧acc.length≤sizeLine∧∀p,H p=none→Q (.ref p) (Az H p (.lst acc)))∨
 (J.go i H∧acc.length<sizeLine∧∀x H',J.yld i H x H'→g x (Bv cs σ) H' fun σ2 H2=>Sub (Bv cs σ) σ2∧tc σ2 H2 fun b H3=>if b=true then te σ2 H3 fun y H4=>∃n',n' < n∧W (i+1) n' (acc++[y]) H4 else ∃n',n' < n∧W (i+1) n' acc H3)
theorem Mq:∀(names:List (Str×NameKind)) (h:Heap) (acc:List (Str×Addr)) (x:Str) (c:Addr),(x,c)∈cellsFrom h.objs.size names acc→(x,c)∈acc∨(h.objs.size≤c∧(x,NameKind.cell)∈names∧(pushCells h names).IsCell c none)
 |[],_,_,_,_,m=>.inl m
 |(name,kind)::r,h,acc,x,c,m=>by
  unfold cellsFrom at m
  unfold pushCells
  split at m
  ·rename_i hk
   rw [if_pos hk]
   have hk':kind=.cell:=by simpa using hk
   have e:h.objs.size+1=(h.push {cls:=.type "cell",data:=.cell none}).objs.size:=(CL ..).symm
   rw [e] at m
   rcases Mq r _ _ x c m with q |⟨q1,q2,q3⟩
   ·rcases qa7.mp q with q |q
    ·cases q
     refine .inr ⟨AV _,by rw [hk'];exact AW,?_⟩
     exact (show (h.push {cls:=.type "cell",data:=.cell none}).IsCell h.objs.size none from ⟨_,BK _ rfl,rfl⟩).keeps fun b o e=>pushCells_keeps _ _ b o e
    ·exact .inl q
   ·exact .inr ⟨by rw [←e] at q1;exact Nat.le_of_succ_le q1,A1 _ q2,q3⟩
  ·rename_i hk
   rw [if_neg hk]
   rcases Mq r h acc x c m with q |⟨q1,q2,q3⟩
   ·exact .inl q
   ·exact .inr ⟨q1,A1 _ q2,q3⟩
theorem Mr:∀(names:List (Str×NameKind)) (h:Heap) (acc:List (Str×Addr)),(∀x c,(x,c)∈acc→c<h.objs.size)→(∀x y c,(x,c)∈acc→(y,c)∈acc→x=y)→
 ∀x y c,(x,c)∈cellsFrom h.objs.size names acc→(y,c)∈cellsFrom h.objs.size names acc→x=y
 |[],_,_,_,i=>i
 |(name,kind)::r,h,acc,lt,i=>by
  unfold cellsFrom
  split
  ·have e:h.objs.size+1=(h.push {cls:=.type "cell",data:=.cell none}).objs.size:=(CL ..).symm
   rw [e]
   refine Mr r _ _ (fun x c m=>?_) (fun x y c m m'=>?_)
   ·rw [←e]
    rcases qa7.mp m with q |q
    ·cases q;exact Kv _
    ·exact Ib (lt x c q)
   ·rcases qa7.mp m with q |q<;>rcases qa7.mp m' with q' |q'
    ·cases q;cases q';rfl
    ·cases q;exact absurd (lt y _ q') (D4 _)
    ·cases q';exact absurd (lt x _ q) (D4 _)
    ·exact i x y c q q'
  ·exact Mr r h acc lt i
theorem lookup_mem {α:Type} {l:List (Str×α)} {x:Str} {k:α} (nd:(l.map (·.1)).Nodup) (h:(x,k)∈l):l.lookup x=some k:=by
 induction l with
 |nil=>cases h
 |cons p r ih=>
  obtain ⟨y,j⟩:=p
  rw [BV,qbE] at nd
  rw [Ig]
  rcases qa7.mp h with e |e
  ·cases e;simp
  ·have:x≠y:=by
    rintro rfl
    exact nd.1 (qb0.mpr ⟨(x,k),e,rfl⟩)
   have hb:(x==y)=false:=by simpa using this
   rw [hb]
   exact ih nd.2 e
theorem Wm {env:Env} {x n:Str} {j:NameKind} {r:List (Str×NameKind)} {k:NameKind} (h:List.lookup x ((if (j==NameKind.free&&env.scope.kind==.function&&env.kindOf n==some .cell)=true then (n,NameKind.cell) else (n,j))::r)=some k):
 (x=n∧(k=j∨(j=.free∧k=.cell)))∨(x≠n∧List.lookup x r=some k):=by
 by_cases hx:x=n
 ·subst hx
  refine .inl ⟨rfl,?_⟩
  split at h
  ·rename_i hc
   rw [Ig] at h
   simp only [beq_self_eq_true] at h
   cases h
   simp only [Ek] at hc
   exact .inr ⟨by simpa using hc.1.1,rfl⟩
  ·rw [Ig] at h
   simp only [beq_self_eq_true] at h
   cases h
   exact .inl rfl
 ·have hb:(x==n)=false:=by simpa using hx
  refine .inr ⟨hx,?_⟩
  split at h<;>(rw [Ig] at h;simp only [hb] at h;exact h)
theorem Qe {scope:Scope} {env:Env} {x:Str} {k:NameKind}:(relabel scope env).names.lookup x=some k→∃k0,scope.names.lookup x=some k0∧(k=k0∨(k0=.free∧k=.cell)):=by
 show (scope.names.map _).lookup x=some k→_
 induction scope.names with
 |nil=>intro h;cases h
 |cons p r ih=>
  obtain ⟨n,j⟩:=p
  intro h
  rw [BV] at h
  rw [Ig]
  rcases Wm h with ⟨hx,hk⟩ |⟨hx,hr⟩
  ·subst hx
   simp only [beq_self_eq_true]
   exact ⟨j,rfl,hk⟩
  ·have hb:(x==n)=false:=by simpa using hx
   rw [hb]
   exact ih hr
structure FQ (X:Cx) (scope:Scope) (Nc:List Str) (cs:List (Option Nat)):Prop where
 kind:scope.kind=.function
 loc:∀y∈scope.names,y.2=.local→scope.names.lookup y.1=some .local
 free:∀y∈scope.names,y.2=.free→X.env.kindOf y.1=some .cell∨X.env.kindOf y.1=some .free
 nd:(scope.names.map (·.1)).Nodup
 len:cs.length=Nc.length
 out:∀(i:Nat) (x:Str) (j:Nat),Nc[i]?=some x→cs[i]?=some (some j)→X.N[j]?=some x∧scope.names.lookup x=some .free
theorem Wn {a b:Addr} (h:a<b):@LT.lt Nat instLTNat a b:=h
theorem Bz {a b:Addr} (h:@LT.lt Nat instLTNat a b):a≠b:=BX h
theorem ID {a b:Addr} (h:@LT.lt Nat instLTNat a b):b≠a:=Ne.symm (BX h)
section
variable {X:Cx} {pins:List (Addr×Obj)} {σ:L2.St} {H:Hp} {s:Shared}
theorem Qf {scope:Scope} {Nc:List Str} {cs:List (Option Nat)} {fp:List Addr} {cl:List (Str×Addr)} (S:FQ X scope Nc cs) (I:Inv X pins σ H s) (f:∀b∈fp,CW X pins H b) (ob:∀b∈fp,∃o,s.heap.get? b=some o)
 (hcl:∀x c,(x,c)∈cl→X.env.cells.lookup x=some c∧(x,NameKind.free)∈scope.names) (hcl2:∀y∈scope.names,y.2=.free→∃c,(y.1,c)∈cl) {s3:Shared} (e3:s3={s with heap:=s.heap.push {cls:=.type "list",data:=.seq ([]:List Value).toArray}}):
 Inv (Bg X Nc scope s3.heap.objs.size s.heap.objs.size (cellsFrom (s3.heap.objs.size+1) scope.names cl) fp s3 H pins) [] (Bv cs σ) H
  {s3 with heap:=pushCells (s3.heap.push {cls:=.type "dict",data:=.dict #[]}) scope.names}:=by
 have k3:∀b o,s.heap.get? b=some o→s3.heap.get? b=some o:=fun b o e=>by subst e3;exact AY _ e
 have JJ:s3.heap.objs.size=s.heap.objs.size+1:=by subst e3;exact CL ..
 have szd:(s3.heap.push {cls:=.type "dict",data:=.dict #[]}).objs.size=s3.heap.objs.size+1:=CL ..
 have k34:∀b o,s3.heap.get? b=some o→(pushCells (s3.heap.push {cls:=.type "dict",data:=.dict #[]}) scope.names).get? b=some o:=fun b o e=>pushCells_keeps _ _ b o (AY _ e)
 have k4:∀b o,s.heap.get? b=some o→(pushCells (s3.heap.push {cls:=.type "dict",data:=.dict #[]}) scope.names).get? b=some o:=fun b o e=>k34 b o (k3 b o e)
 have cllt:∀x c,(x,c)∈cl→c<s.heap.objs.size:=fun x c m=>by
  obtain ⟨v,q⟩:=I.cell x c (hcl x c m).1
  exact q.lt
 have cm:∀x c,(cellsFrom (s3.heap.objs.size+1) scope.names cl).lookup x=some c→(x,c)∈cl∨(s3.heap.objs.size+1≤c∧(x,NameKind.cell)∈scope.names∧(pushCells (s3.heap.push {cls:=.type "dict",data:=.dict #[]}) scope.names).IsCell c none):=fun x c e=>by
  have m:=mem_of_lookup e
  rw [←szd] at m
  have:=Mq scope.names _ cl x c m
  rw [szd] at this
  exact this
 have frs_lt:∀b∈frs X.stack,b<s.heap.objs.size:=fun b hb=>by
  obtain ⟨_,o,ho,_⟩:=I.stack.mem hb
  exact AX ho
 have nfs:∀b,b≠X.env.locals→b∉X.fs→b∉frs X.stack:=fun b h1 h2 hb=>by
  rcases qa7.mp (I.stkSub b hb) with q |q
  ·exact h1 q
  ·exact h2 q
 have ok:(Bg X Nc scope s3.heap.objs.size s.heap.objs.size (cellsFrom (s3.heap.objs.size+1) scope.names cl) fp s3 H pins).Ok:=by
  refine ⟨I.ok.mod,S.kind,I.ok.glob,I.ok.blt,AV _,fun x y c e1 e2=>?_,fun x hx=>?_,fun x c hf e=>?_,I.ok.hd,I.ok.frames,.inl rfl,fun b hb=>?_,fun b o e=>?_,?_,fun b o e hb=>?_,fun b hb=>?_,?_,I.stkFree⟩
  ·have m1:=mem_of_lookup e1
   have m2:=mem_of_lookup e2
   have m1':(x,c)∈cellsFrom (s3.heap.push {cls:=.type "dict",data:=.dict #[]}).objs.size scope.names cl:=by rw [szd];exact m1
   have m2':(y,c)∈cellsFrom (s3.heap.push {cls:=.type "dict",data:=.dict #[]}).objs.size scope.names cl:=by rw [szd];exact m2
   exact Mr scope.names (s3.heap.push {cls:=.type "dict",data:=.dict #[]}) cl (fun x c m=>by rw [szd,JJ];exact Bq (cllt x c m) (by omega))
    (fun x y c a b=>I.ok.inj x y c (hcl x c a).1 (hcl y c b).1) x y c m1' m2'
  ·have:∃k,(relabel scope X.env).names.lookup x=some k∧(k=.cell∨k=.free):=by
    rcases hx with q |q
    ·exact ⟨_,q,.inl rfl⟩
    ·exact ⟨_,q,.inr rfl⟩
   obtain ⟨k,e1,hk⟩:=this
   obtain ⟨k0,e0,hk0⟩:=Qe e1
   refine Option.isSome_iff_exists.mp (PySem.W.cellsFrom_some _ _ _ ?_)
   have:k0=.cell∨k0=.free:=by
    rcases hk0 with q |⟨q,_⟩
    ·rw [←q];exact hk
    ·exact .inr q
   rcases this with q |q
   ·subst q;exact .inl e0
   ·subst q
    obtain ⟨c,hc⟩:=hcl2 _ (mem_of_lookup e0) rfl
    refine .inr ?_
    cases hl:cl.lookup x with
    |some c'=>rfl
    |none=>
     exfalso
     have:∀p∈cl,p.1≠x:=fun p hp e=>by
      have h2:=List.lookup_eq_none_iff.mp hl p hp
      rw [e] at h2
      simp at h2
     exact this _ hc rfl
  ·have hk:scope.names.lookup x=some .cell:=by
    have:(scope.names.lookup x==some NameKind.cell)=true:=hf
    simpa using this
   rcases cm x c e with q |⟨q1,_,_⟩
   ·have:=lookup_mem S.nd (hcl x c q).2
    rw [hk] at this
    cases this
   ·exact Nat.le_of_succ_le q1
  ·rcases qa7.mp hb with q |q
   ·subst q
    refine ⟨Bz (show _<s3.heap.objs.size by omega),fun x c e=>?_⟩
    rcases cm x c e with q |⟨q1,_,_⟩
    ·exact BX (cllt x c q)
    ·exact ID (Bq (by omega) q1)
   ·obtain ⟨o,ho⟩:=ob b q
    have hlt:=Wn (AX ho)
    refine ⟨Bz (show _<s3.heap.objs.size by omega),fun x c e=>?_⟩
    rcases cm x c e with q2 |⟨q1,_,_⟩
    ·exact (f b q).2.2.2.2.1 x c (hcl x c q2).1
    ·exact ID (Bq (by omega) q1)
  ·obtain ⟨h1,h2⟩:=I.bs b o e
   exact ⟨k3 b o h1,h2⟩
  ·show X.base.objs.size≤s3.heap.objs.size
   have:=B8 I.ok.bsz I.sz
   omega
  ·obtain ⟨h1,h2⟩:=I.bs b o e
   rcases qa7.mp hb with q |q
   ·exact absurd q (Bz (AX h1))
   ·rcases (f b q).2.2.2.1 with z |z
    ·exact I.ok.noex b o e z
    ·exact absurd (Bq (AX (I.ok.bs b o e).1) z) (D4 _)
  ·rcases qa7.mp hb with q |q
   ·subst q
    intro z
    exact absurd (frs_lt _ z) (D4 _)
   ·exact nfs b (f b q).2.1 (f b q).2.2.1
  ·exact I.stack.of_keeps fun b o e _=>⟨o,k3 b o e,rfl⟩
 refine ⟨ok,rfl,?_,?_,?_,fun x c e=>?_,?_,fun x c e=>?_,fun p hp=>?_,I.hok.kept k4,?_⟩
 ·show AllBare s3.gens
  subst e3;exact I.bare
 ·exact Un.kept k34
 ·refine ⟨fun _=>none,(Heap.Ns.new s3.heap (.type "dict")).keeps (pushCells_keeps _ _),fun i x v e1 e2 e3'=>?_⟩
  unfold Bv at e2
  rw [Dy] at e2
  cases ec:cs[i]? with
  |none=>rw [ec] at e2;cases e2
  |some o=>
   rw [ec] at e2
   cases o with
   |none=>cases e2
   |some j=>
    simp only [Ii,Option.bind_some,Option.some.injEq] at e2
    have e2':σ[j]?=some (some v):=by
     cases ej:σ[j]? with
     |none=>rw [ej] at e2;cases e2
     |some w=>rw [ej] at e2;simp at e2;rw [e2]
    obtain ⟨hN,hfr⟩:=S.out i x j e1 ec
    have hfm:=mem_of_lookup hfr
    have hkind:=S.free _ hfm rfl
    obtain ⟨m,hn,hl⟩:=I.loc
    obtain ⟨u,r,look⟩:=hl j x v hN e2' (by
     rcases hkind with q |q
     ·exact .inr (.inl q)
     ·exact .inr (.inr q))
    refine ⟨u,r,.inr ?_⟩
    rcases look with ⟨q,_⟩ |⟨_,c,ec',hc⟩
    ·rcases hkind with z |z<;>(rw [q] at z;cases z)
    ·obtain ⟨c',hc'⟩:=hcl2 _ hfm rfl
     have hv:(Bg X Nc scope s3.heap.objs.size s.heap.objs.size (cellsFrom (s3.heap.objs.size+1) scope.names cl) fp s3 H pins).env.kindOf x=some .cell∨(Bg X Nc scope s3.heap.objs.size s.heap.objs.size (cellsFrom (s3.heap.objs.size+1) scope.names cl) fp s3 H pins).env.kindOf x=some .free:=by
      rcases e3' with z |z |z
      ·obtain ⟨k0,a1,a2⟩:=Qe z
       rw [hfr] at a1
       cases a1
       rcases a2 with a2 |⟨_,a2⟩<;>cases a2
      ·exact .inl z
      ·exact .inr z
     refine ⟨hv,c,?_,hc.keeps k4⟩
     obtain ⟨c2,h2⟩:=ok.has x hv
     rw [h2]
     rcases cm x c2 h2 with q |⟨_,q,_⟩
     ·rw [←ec',(hcl x c2 q).1]
     ·have:=lookup_mem S.nd q
      rw [hfr] at this
      cases this
 ·rcases cm x c e with q |⟨_,_,q⟩
  ·obtain ⟨v,z⟩:=I.cell x c (hcl x c q).1
   exact ⟨v,z.keeps k4⟩
  ·exact ⟨none,q⟩
 ·exact I.hok.fresh (show s.heap.objs.size≤s3.heap.objs.size by omega)
 ·rcases cm x c e with q |⟨q,_,_⟩
  ·exact I.freeC x c (hcl x c q).1
  ·exact I.hok.fresh (by omega)
 ·have hp':p∈X.pn++pins:=by
   rcases qaV.mp hp with q |q
   ·exact q
   ·exact absurd q (by simp)
  obtain ⟨a1,a2,a3,a4,a5⟩:=I.pin p hp'
  refine ⟨k4 _ _ a1,a2,?_,nfs p.1 a3 a4,a5⟩
  show p.1≠s3.heap.objs.size
  exact Bz (Bq (AX a1) (by omega))
 ·show (Bv cs σ).length=Nc.length
  simp [Bv,S.len]
end
section
variable {X:Cx} {elt tg iter:Expr} {ifs:List Expr} {scope:Scope} {pos:Pos} {Nc:List Str} {cs:List (Option Nat)} {wi:TI} {g:TG} {tc:TT} {te:TE}
theorem Qg {pins:List (Addr×Obj)} {σ:L2.St} {H H':Hp} {s s3 s':Shared} {fp:List Addr} {C:Addr} {cells:List (Str×Addr)} {po:List (Addr×Obj)} {σc:L2.St} {acc:List V} {its:List Value} {n:Nat}
 (I:Inv X pins σ H s) (f:∀b∈fp,CW X pins H b) (e3:s3={s with heap:=s.heap.push {cls:=.type "list",data:=.seq ([]:List Value).toArray}}) (hC:C=s3.heap.objs.size)
 (I':Inv (Bg X Nc scope C s.heap.objs.size cells fp s3 H pins) po σc H' s') (hD:H' s.heap.objs.size=none) (hl:acc.length≤sizeLine) (rv:Vals acc its) (ho:s'.heap.get? s.heap.objs.size=some {cls:=.type "list",data:=.seq its.toArray n})
 {h':Heap} (sb:Heap.SameBut C s'.heap h'):Inv X pins σ (Az H' s.heap.objs.size (.lst acc)) {s' with heap:=h'}:=by
 have k3:∀b o,s.heap.get? b=some o→s3.heap.get? b=some o:=fun b o e=>by subst e3;exact AY _ e
 have JJ:s3.heap.objs.size=s.heap.objs.size+1:=by subst e3;exact CL ..
 have Ds:∀b o,s.heap.get? b=some o→b≠s.heap.objs.size:=fun b o e=>Bz (AX e)
 have neC:∀b o,s.heap.get? b=some o→b≠C:=fun b o e=>by rw [hC];exact Bz (Bq (AX e) (by omega))
 have DC:s.heap.objs.size≠C:=by rw [hC];exact Bz (by omega)
 have U:Un (frs X.stack) (s.heap.objs.size::fp) H H' s3.heap s'.heap:=I'.base
 have exn:∀b o,s.heap.get? b=some o→b∉fp→b∉s.heap.objs.size::fp:=fun b o e hx hb=>by
  rcases qa7.mp hb with z |z
  ·exact Ds b o e z
  ·exact hx z
 have neT:∀b u,H' b=some u→b≠s.heap.objs.size:=fun b u e=>BO e hD
 have hCn:H' C=none:=I'.free
 refine I.call' (s':={s' with heap:=h'}) (ch:=fp) ?_ ?_ ?_ I'.bare ?_
 ·show s'.os=s.os
  have:=I'.os
  rw [this]
  show s3.os=s.os
  subst e3;rfl
 ·refine ⟨fun b o e nn hb hx=>?_,fun b o e nn hb hx=>?_,fun b o e nn hx=>?_,fun b o e hx=>?_,fun b xs e=>?_,fun b o u e=>?_,fun b ps e=>?_⟩
  ·exact (sb.2 b (neC b o e)).trans (U.keep b o (k3 b o e) nn hb (exn b o e hx))
  ·obtain ⟨sl,z⟩:=U.slot b o (k3 b o e) nn hb (exn b o e hx)
   exact ⟨sl,(sb.2 b (neC b o e)).trans z⟩
  ·rw [AM (Ds b o e)]
   exact U.free b o (k3 b o e) nn (exn b o e hx)
  ·obtain ⟨o',z⟩:=U.there b o (k3 b o e) (exn b o e hx)
   exact ⟨o',(sb.2 b (neC b o e)).trans z⟩
  ·have z:=U.tups b xs e
   rw [AM (neT b _ z)]
   exact z
  ·have z:=U.frzs b o u e
   rw [AM (neT b _ z)]
   exact z
  ·obtain ⟨more,z⟩:=U.tbls b ps e
   exact ⟨more,by rw [AM (neT b _ z)];exact z⟩
 ·intro b u e
  by_cases hb:b=s.heap.objs.size
  ·subst hb
   rw [Dp] at e
   cases e
   exact ⟨hl,its,n,rv,(sb.2 _ DC).trans ho⟩
  ·rw [AM hb] at e
   refine (I'.hok b u e).stay (fun c v hc z=>(sb.2 c ?_).trans z) (fun c z=>by rw [AM (neT c _ z)];exact z) fun c xs z=>by rw [AM (neT c _ z)];exact z
   rcases hc with rfl |hc
   ·exact BO e hCn
   ·exact BO hc hCn
 ·intro b hb
  obtain ⟨_,f1,_,f3,f4,f5⟩:=f b hb
  exact ⟨f3,f1,f4,f5⟩
inductive Qh (W:Nat→Nat→List V→Hp→Prop) (Xc:Cx) (σc:L2.St) (tn:Nat→Heap→Prop) (fp:List Addr) (Da:Addr) (n:Nat) (s':Shared):Prop where
 |mk (i:Nat) (acc:List V) (H':Hp) (its:List Value) (k:Nat) (w:W i n acc H') (ii:Inv Xc [] σc H' s') (st:tn i s'.heap) (fr:∀b∈fp,H' b=none) (hD:H' Da=none) (rv:Vals acc its) (ho:s'.heap.get? Da=some {cls:=.type "list",data:=.seq its.toArray k}):Qh W Xc σc tn fp Da n s'
theorem Qi {use:Option (Value→Sem Unit)} {QQ:Value→Shared→Prop} {ppos:Pos} {pins:List (Addr×Obj)} {s:Shared} {σ:L2.St} {H:Hp} {Q:VK} (hcalm:X.calm=true) (S:FQ X scope Nc cs) (hi:PI X tg iter wi)
 (hb:∀(C D:Addr) (cells:List (Str×Addr)) (fp:List Addr) (s₀:Shared) (H₀:Hp) (pins:List (Addr×Obj)),PG (Bg X Nc scope C D cells fp s₀ H₀ pins) tg g∧FP (Bg X Nc scope C D cells fp s₀ H₀ pins) ifs tc∧PE (Bg X Nc scope C D cells fp s₀ H₀ pins) elt te)
 (hsf:∀x,foldedSetIterable iter X.env x=pure x) (I:Inv X pins σ H s) (h:K3 cs wi g tc te σ H Q)
 (Bm:∀(s6:Shared) (C D:Addr) (H7:Hp) (m6:Str→Option Value),s6.heap.Ns C m6→H7 C=none→X.s₀.heap.objs.size≤C→C≠X.env.locals→(∀x c,X.env.cells.lookup x=some c→c≠C)→(∀p∈X.pn++pins,p.1≠C)→
  (∀h',Heap.SameBut C s6.heap h'→Inv X pins σ H7 {s6 with heap:=h'})→Q (.ref D) H7→compPost (model X.prog X.w) X.A X.xe use QQ (.ref D) C (.ok .next) s6):
 wpAny (model X.prog X.w) X.A (comprehension (.ListComp elt [⟨tg,iter,ifs,0⟩] scope pos) scope X.env ppos (newList []) false (eval iter X.env) use) QQ X.xe s:=by
 obtain ⟨cl,hclos,hcl,hcl2⟩:=Qb (scope:=scope) (env:=X.env) fun y hy hf=>I.ok.has y.1 (S.free y hy hf)
 refine wpAny_comprehension_free (use:=use) rfl hsf hclos S.kind S.loc (Au (hi pins s σ H _ I h) fun xv s1 h1=>Au h1 fun itv s2 h2=>?_)
 obtain ⟨it,fp,tn,J,H2,e,I2,T,Do,f2,W,⟨n0,w0⟩,turn⟩:=h2
 subst e
 refine wpAny_newObj_type ?_
 generalize e3:({s2 with heap:=s2.heap.push {cls:=.type "list",data:=.seq ([]:List Value).toArray}}:Shared)=s3
 refine Qc ?_
 have ob2:∀b∈fp,∃o,s2.heap.get? b=some o:=fun b hb=>let ⟨o,e,_⟩:=T.obj _ _ Do b hb;⟨o,e⟩
 have I4:=Qf (fp:=fp) (cl:=cl) S I2 f2 ob2 hcl hcl2 e3.symm
 generalize e4:({s3 with heap:=pushCells (s3.heap.push {cls:=.type "dict",data:=.dict #[]}) scope.names}:Shared)=s4 at I4
 generalize ecl:cellsFrom (s3.heap.objs.size+1) scope.names cl=cells at I4
 obtain ⟨pg,pt,pe⟩:=hb s3.heap.objs.size s2.heap.objs.size cells fp s3 H2 pins
 generalize eX:Bg X Nc scope s3.heap.objs.size s2.heap.objs.size cells fp s3 H2 pins=Xc at I4 pg pt pe
 have xP:Xc.prog=X.prog:=by subst eX;rfl
 have xw:Xc.w=X.w:=by subst eX;rfl
 have xK:Xc.K=X.K:=by subst eX;rfl
 have xA:Xc.A=X.A:=by subst eX;rfl
 have xE:Xc.env=Qd X.env scope s3.heap.objs.size cells:=by subst eX;rfl
 have xL:Xc.env.locals=s3.heap.objs.size:=by subst eX;rfl
 have xe:Xc.xe=fun _ _=>False:=by subst eX;rfl
 have xc:Xc.calm=true:=by subst eX;exact hcalm
 have xex:Xc.ex=s2.heap.objs.size::fp:=by subst eX;rfl
 have okc:=I4.ok
 have k3:∀b o,s2.heap.get? b=some o→s3.heap.get? b=some o:=fun b o e=>by subst e3;exact AY _ e
 have JJ:s3.heap.objs.size=s2.heap.objs.size+1:=by subst e3;exact CL ..
 have k34:∀b o,s3.heap.get? b=some o→s4.heap.get? b=some o:=fun b o e=>by subst e4;exact pushCells_keeps _ _ b o (AY _ e)
 have hDC:s2.heap.objs.size≠Xc.env.locals:=by rw [xL];exact Bz (by omega)
 have hDcell:∀x c,Xc.env.cells.lookup x=some c→c≠s2.heap.objs.size:=fun x c e=>(okc.exf _ (by rw [xex];exact AW)).2 x c e
 have hDpin:∀p∈Xc.pn,p.1≠s2.heap.objs.size:=fun p hp=>by
  have hp':p∈X.pn++pins:=by subst eX;exact hp
  exact Bz (AX (I2.pin p hp').1)
 have hDfp:s2.heap.objs.size∉fp:=fun hm=>by
  obtain ⟨o,e⟩:=ob2 _ hm
  exact absurd (AX e) (D4 _)
 have hDex:s2.heap.objs.size∈Xc.ex:=by rw [xex];exact AW
 have hDfs:s2.heap.objs.size∉Xc.fs:=okc.exfs _ hDex
 have fpC:∀{po:List (Addr×Obj)} {H':Hp},(∀b∈fp,H' b=none)→(∀p∈po,p.1=s2.heap.objs.size)→∀b∈fp,CW Xc po H' b:=fun {po H'} hn hp b hb=>by
  have hbx:b∈Xc.ex:=by rw [xex];exact A1 _ hb
  refine ⟨hn b hb,(okc.exf b hbx).1,okc.exfs b hbx,.inl hbx,(okc.exf b hbx).2,fun p hpp=>?_⟩
  rcases qaV.mp hpp with z |z
  ·have hp':p∈X.pn++pins:=by subst eX;exact z
   exact (f2 b hb).2.2.2.2.2 p hp'
  ·rw [hp p z]
   intro e
   exact hDfp (e ▸ hb)
 have loop:∀sx,sx=s4→codeAny (model X.prog X.w) X.A (.compLoop (.ListComp elt [⟨tg,iter,ifs,0⟩] scope pos) 0 (.ref it) (.ref s2.heap.objs.size) Xc.env)
  (compPost (model X.prog X.w) X.A X.xe use QQ (.ref s2.heap.objs.size) s3.heap.objs.size) sx:=by
  rintro sx rfl
  refine Wj (Qh W Xc (Bv cs σ) tn fp s2.heap.objs.size) ?_ n0
   ⟨0,[],H2,[],0,w0,I4,?_,fun b hb=>(f2 b hb).1,I2.hok.fresh (AV _),.nil,?_⟩
  ·rintro n s5 ⟨i,acc,H5,its,k,w5,I5,EU,fr5,hD5,rv5,ho5⟩
   have pin1:Inv Xc [(s2.heap.objs.size,{cls:=.type "list",data:=.seq its.toArray k})] (Bv cs σ) H5 s5:=I5.pins_of fun p hp=>by
    rw [qaE] at hp
    subst hp
    exact ⟨ho5,hD5,hDC,hDfs,fun v z=>by cases z⟩
   have pone:∀p∈[((s2.heap.objs.size:Addr),({cls:=.type "list",data:=.seq its.toArray k}:Obj))],p.1=s2.heap.objs.size:=fun p hp=>by
    rw [qaE] at hp;subst hp;rfl
   rcases turn i n acc H5 w5 with ⟨stop,hlen,qn⟩ |⟨go,hlen,step⟩
   ·have z1:=T.done Xc xP xw xK xc i _ s5 (Bv cs σ) H5 (fun _ _=>False) pin1 (fpC fr5 pone) EU stop
    rw [xA] at z1
    refine wpAny_mono z1 (fun r s6 z1_=>?_) fun _ _ z=>False.elim z
    obtain ⟨hr,I6⟩:=z1_
    subst hr
    obtain ⟨m6,hn6,_⟩:=I6.loc
    obtain ⟨ho6,hD6,_⟩:=I6.pin _ (BJ _ AW)
    rw [xL] at hn6
    have lt2:∀b,b<s2.heap.objs.size→b≠s3.heap.objs.size:=fun b hb=>Bz (Bq hb (by omega))
    refine Bm s6 s3.heap.objs.size s2.heap.objs.size (Az H5 s2.heap.objs.size (.lst acc)) m6 hn6 ?_ (B8 I2.sz (by omega)) ?_ ?_ ?_ ?_ (qn _ hD6)
    ·rw [AM (ID (by omega))]
     have:=I6.free
     rw [xL] at this
     exact this
    ·obtain ⟨m2,hn2,_⟩:=I2.loc
     exact Ne.symm (lt2 _ hn2.lt)
    ·intro x c hx
     obtain ⟨v,hv⟩:=I2.cell x c hx
     obtain ⟨o,ho,_⟩:=hv
     exact lt2 _ (AX ho)
    ·intro p hp
     exact lt2 _ (AX (I2.pin p hp).1)
    ·intro h' sb
     subst eX
     exact Qg I2 f2 e3.symm rfl I6 hD6 hlen rv5 ho6 sb
   ·have z1:=T.item Xc xP xw xK xc i _ s5 (Bv cs σ) H5 (fun _ _=>False) pin1 (fpC fr5 pone) EU go
    rw [xA] at z1
    refine wpAny_mono z1 (fun r s6 z2_=>?_) fun _ _ z=>False.elim z
    obtain ⟨u,hr,h6⟩:=z2_
    subst hr
    refine wpAny_mono h6 (fun _ s7 z3_=>?_) fun _ _ z=>False.elim z
    obtain ⟨x,H7,I7,r7,y7,FY,fr7⟩:=z3_
    have I7':=I7.pinned (fp:=fp) (fpC fr7 pone) (T.obj _ _ FY)
    have z2:=pg _ s7 (Bv cs σ) H7 x u _ I7' r7 (step x H7 y7)
    rw [xP,xw,xA,xe] at z2
    refine wpAny_mono z2 (fun _ s8 z4_=>?_) fun _ _ z=>False.elim z
    obtain ⟨σ8,H8,I8,sub8,q8⟩:=z4_
    have z3:=pt _ s8 σ8 H8 _ I8 q8
    rw [xP,xw,xA,xe] at z3
    refine wpAny_mono z3 (fun ok s9 z5_=>?_) fun _ _ z=>False.elim z
    obtain ⟨H9,I9,q9⟩:=z5_
    have back:∀{sy:Shared} {Hy:Hp},Inv Xc ([(s2.heap.objs.size,{cls:=.type "list",data:=.seq its.toArray k})]++F6 fp s7.heap) σ8 Hy sy→
     Inv Xc [] (Bv cs σ) Hy sy∧tn (i+1) sy.heap∧(∀b∈fp,Hy b=none)∧Hy s2.heap.objs.size=none∧sy.heap.get? s2.heap.objs.size=some {cls:=.type "list",data:=.seq its.toArray k}:=fun {sy Hy} Iy=>by
     obtain ⟨ho,hD,_⟩:=Iy.pin _ (BJ _ (Gz _ AW))
     refine ⟨(Iy.pins_of fun p hp=>absurd hp (by simp)).weak (sub8.1) (fun j v z=>sub8.2 j v z),T.keep _ _ _ FY fun b hb o e=>(Iy.pin (b,o) (BJ _ (BJ _ (Jn hb e)))).1,fun b hb=>?_,hD,ho⟩
     obtain ⟨o,e,_⟩:=T.obj _ _ FY b hb
     exact (Iy.pin (b,o) (BJ _ (BJ _ (Jn hb e)))).2.1
    cases ok with
    |false=>
     simp only [DY,if_false] at q9 ⊢
     obtain ⟨n',hn',w'⟩:=q9
     obtain ⟨a1,a2,a3,a4,a5⟩:=back I9
     exact ⟨n',hn',i+1,acc,H9,its,k,w',a1,a2,a3,a4,rv5,a5⟩
    |true=>
     simp only [if_true] at q9 ⊢
     have z4:=pe _ s9 σ8 H9 _ I9 q9
     rw [xP,xw,xA,xe] at z4
     refine wpAny_mono z4 (fun y s10 z6_=>?_) fun _ _ z=>False.elim z
     obtain ⟨yv,H10,I10,r10,n',hn',w'⟩:=z6_
     obtain ⟨a1,a2,a3,a4,a5⟩:=back I10
     have hlen':=rv5.length
     refine wpAny_list_append_plain ⟨k,a5⟩ (fun h' ⟨k',hl'⟩ sb=>?_) (by rw [Ba];omega)
     have tu:Inv Xc [] (Bv cs σ) H10 {s10 with heap:=h'}:=a1.turned (t':=s10.toks) (it:=s2.heap.objs.size) (fun b o hb e=>(sb.2 b hb).trans e) a4 hDC (.inl hDex) hDcell (fun p hp=>by
      rcases qaV.mp hp with z |z
      ·exact hDpin p z
      ·exact absurd z (by simp))
     refine ⟨n',hn',i+1,acc++[yv],H10,its++[y],k',w',tu,T.keep _ _ _ a2 (fun b hb o e=>(sb.2 b (fun z=>hDfp (z ▸ hb))).trans e),a3,a4,rv5.append (.cons r10 .nil),?_⟩
     rw [hl']
     simp
  ·exact T.keep _ _ _ Do fun b hb o e=>k34 b o (k3 b o e)
  ·refine k34 _ _ ?_
   subst e3
   exact BK _ rfl
 have Bm:=loop s4 rfl
 have hst4:tn 0 s4.heap:=T.keep _ _ _ Do fun b hb o e=>k34 b o (k3 b o e)
 rw [xE] at Bm
 have:=codeAny_compStart_list Bm (T.self X.A 0 s4 _ _ hst4 Bm)
 exact this
theorem Wo (hcalm:X.calm=true) (S:FQ X scope Nc cs) (hi:PI X tg iter wi)
 (hb:∀(C D:Addr) (cells:List (Str×Addr)) (fp:List Addr) (s₀:Shared) (H₀:Hp) (pins:List (Addr×Obj)),PG (Bg X Nc scope C D cells fp s₀ H₀ pins) tg g∧FP (Bg X Nc scope C D cells fp s₀ H₀ pins) ifs tc∧PE (Bg X Nc scope C D cells fp s₀ H₀ pins) elt te)
 (hsf:∀x,foldedSetIterable iter X.env x=pure x:=by intro _;rfl):PE X (.ListComp elt [⟨tg,iter,ifs,0⟩] scope pos) (K3 cs wi g tc te):=by
 intro pins s σ H Q I h
 rw [eval_ListComp]
 exact Qi (use:=none) hcalm S hi hb hsf I h fun s6 C D H7 m6 hn _ _ _ _ _ inv q=>⟨m6,hn,fun h' sb=>⟨.ref D,H7,inv h' sb,rfl,q⟩⟩
end
def noErr {α:Type}:Out α→Out α
 |.ok a h=>.ok a h
 |_=>.stuck
@[simp] theorem ZcL {α:Type} (a:α) (h:HD):noErr (.ok a h)=.ok a h:=rfl
theorem IE {α β γ δ:Type} {K:PySem.W.Frag} {R:List Addr→Hp→α→β→Prop} {R':List Addr→Hp→γ→δ→Prop} {m:List Addr} {H:Hp} {E:XK} {Q:δ→Hp→Prop} {Q':β→Hp→Prop} {o:Out α} {k:α→HD→Out γ}
 (h:Post K R' m H E Q ((noErr o).bind k)) (f:∀a h1 v m1 H1,o=.ok a h1→m <+:m1→Kp H H1→HR K m1 h1 H1→R m1 H1 a v→Post K R' m1 H1 E Q (k a h1)→Q' v H1):Post K R m H E0 Q' o:=by
 cases o with
 |ok a h1=>exact fun v m1 H1 p kk hr r=>f a h1 v m1 H1 rfl p kk hr r (Post.ahead p kk h)
 |err C fs h1=>exact False.elim h
 |stuck=>exact False.elim h
def B6 (cs:List (Option Nat)) (ρ:Ai):Ai:=cs.map fun o=>o.bind fun j=>(ρ[j]?).join
theorem join_some {α:Type} {l:List (Option α)} {j:Nat} {a:α}:(l[j]?).join=some a↔l[j]?=some (some a):=by
 cases h:l[j]? with
 |none=>simp
 |some o=>simp
theorem ER.comp {K:PySem.W.Frag} {m:List Addr} {H:Hp} {ρ:Ai} {σ:L2.St} (cs:List (Option Nat)) (er:ER K m H ρ σ):ER K m H (B6 cs ρ) (Bv cs σ):=by
 refine ⟨by simp [B6,Bv],fun i d e=>?_⟩
 unfold B6 at e
 rw [Dy] at e
 cases ec:cs[i]? with
 |none=>rw [ec] at e;cases e
 |some o=>
  rw [ec] at e
  cases o with
  |none=>cases e
  |some j=>
   simp only [Ii,Option.bind_some,Option.some.injEq] at e
   obtain ⟨v,e1,r⟩:=er.2 j d (join_some.mp e)
   refine ⟨v,?_,r⟩
   unfold Bv
   rw [Dy,ec]
   simp only [Ii,Option.bind_some,Option.some.injEq]
   exact join_some.mpr e1
theorem Sub.set {cs:List (Option Nat)} {σ:L2.St} {σ':L2.St} {i:Nat} {v:V} (h:cs[i]?=some none) (s:Sub (Bv cs σ) σ'):Sub (Bv cs σ) (σ'.set i (some v)):=by
 refine ⟨by rw [s.1];simp,fun j w e=>?_⟩
 have hj:i≠j:=by
  rintro rfl
  unfold Bv at e
  rw [Dy,h] at e
  cases e
 rw [CU hj]
 exact s.2 j w e
theorem Sub.refl (σ:L2.St):Sub σ σ:=⟨rfl,fun _ _ h=>h⟩
def IF (K:PySem.W.Frag) (cs:List (Option Nat)) (gg:TG) (sg:MG):Prop:=
 ∀m H d v ρ σ0 ρ' Q,DV K m H d v→ER K m H ρ (Bv cs σ0)→sg d ρ=some ρ'→(∀σ',Sub (Bv cs σ0) σ'→ER K m H ρ' σ'→Q σ' H)→gg v (Bv cs σ0) H Q
theorem Dt {K:PySem.W.Frag} {cs:List (Option Nat)} {i:Nat} (h:cs[i]?=some none):IF K cs (CD i) (Bb i):=fun m H d v ρ σ0 ρ' Q r er e q=>by
 simp only [Bb,Option.some.injEq] at e
 subst e
 exact q _ ((Sub.refl _).set h) (er.set r)
theorem E8 {K:PySem.W.Frag} {cs:List (Option Nat)} {i j:Nat} (h:cs[i]?=some none) (h':cs[j]?=some none):IF K cs (GE K 2 (D7 (CD i) (D7 (CD j) GD))) (BQ i j):=fun m H d v ρ σ0 ρ' Q r er e q=>by
 unfold BQ at e
 split at e
 ·rename_i a b
  cases e
  simp only [DV,DVs] at r
  obtain ⟨p,vs,rfl,hp,v1,w1,rfl,r1,v2,w2,rfl,r2,rfl⟩:=r
  exact ⟨p,_,rfl,SqT.of hp,rfl,v1,_,rfl,v2,_,rfl,rfl,q _ (((Sub.refl _).set h).set h') ((er.set r1).set r2)⟩
 ·cases e
abbrev IG (X:Cx) (E:XK) (ifs:List Expr) (t:MT):Prop:=FP X ifs (EZ X.K E t)
def Bc:MT:=fun _ h=>.ok true h
theorem BR {X:Cx} {E:XK}:IG X E [] Bc:=fun pins s σ H Q I z1_=>by obtain ⟨m,ρ,h,hr,er,p⟩:=z1_;exact (Wk pins s σ H Q I (p true m H (AL _) (.refl _) hr rfl))
theorem JG {X:Cx} {E:XK} {c:Expr} {t:MT} (h:D9 X E c t):IG X E [c] t:=Wl h
open Classical in
noncomputable def DJ (src:Bk) (items:List D) (sg:MG) (t:MT) (f:ME) (ρc:Ai):List D→HD→Out (List D)
 |[],h=>if Bn src items h then .ok [] h else .stuck
 |d::ds,h=>if Bn src items h then match sg d ρc with
   |none=>.stuck
   |some ρ1=>(noErr (t ρ1 h)).bind fun b h1=>if b=true then (noErr (f ρ1 h1)).bind fun y h2=>(DJ src items sg t f ρc ds h2).bind fun ys h3=>.ok (y::ys) h3 else DJ src items sg t f ρc ds h1
  else .stuck
noncomputable def A3 (cs:List (Option Nat)) (it:MI) (sg:MG) (t:MT) (f:ME):ME:=fun ρ h=>(it ρ h).bind fun x h1=>if x.1.length≤sizeLine then (DJ x.2 x.1 sg t f (B6 cs ρ) x.1 h1).bind CF else .stuck
theorem Out.bind_assoc {α β γ:Type} (o:Out α) (k:α→HD→Out β) (l:β→HD→Out γ):(o.bind k).bind l=o.bind fun a h=>(k a h).bind l:=by cases o<;>rfl
section
variable {X:Cx} {E:XK} {elt tg iter:Expr} {ifs:List Expr} {scope:Scope} {pos:Pos} {Nc:List Str} {cs:List (Option Nat)} {it:MI} {gg:TG} {sg:MG} {t:MT} {f:ME}
inductive Qj (K:PySem.W.Frag) (E:XK) (Q:VK) (src:Bk) (items:List D) (sg:MG) (t:MT) (f:ME) (ρc:Ai) (m1:List Addr) (H1:Hp) (i n:Nat) (acc:List V) (H2:Hp):Prop where
 |mk (e:n=items.length - i) (l:i≤items.length) (a:acc.length≤i) (m2:List Addr) (h2:HD) (dacc:List D) (p:m1 <+:m2) (k:Kp H1 H2) (hr:HR K m2 h2 H2) (da:DVs K m2 H2 dacc acc) (q:Post K (rD K) m2 H2 E Q ((DJ src items sg t f ρc (items.drop i) h2).bind fun ys h3=>CF (dacc++ys) h3)):Qj K E Q src items sg t f ρc m1 H1 i n acc H2
theorem Qk (hg:IF X.K cs gg sg):∀σ H Q,tD X.K E (A3 cs it sg t f) σ H Q→K3 cs (tM X.K (GJ X.K) E it) gg (EZ X.K E0 t) (tD X.K E0 f) σ H Q:=by
 refine ?_
 rintro σ H Q ⟨m,ρ,h,hr,er,p⟩
 refine ⟨m,ρ,h,hr,er,Post.bind p fun x h1 J m1 H1 _ p1 k1 hr1 r1 q1=>?_⟩
 obtain ⟨items,src⟩:=x
 dsimp only at q1
 split at q1
 ·rename_i hz
  have er1:ER X.K m1 H1 (B6 cs ρ) (Bv cs σ):=(er.keep p1 k1).comp cs
  refine ⟨Qj X.K E Q src items sg t f (B6 cs ρ) m1 H1,
   ⟨items.length,rfl,FD _,AV _,m1,h1,[],AL _,.refl _,hr1,.nil,by simpa using q1⟩,?_⟩
  rintro i n acc H2 ⟨rfl,hi',ha,m2,h2,dacc,p2,k2,hr2,da,q2⟩
  by_cases hlt:i<items.length
  ·rw [Kq hlt] at q2
   unfold DJ at q2
   split at q2
   ·rename_i hs
    obtain ⟨hgo,hy⟩:=(r1 i m2 h2 H2 p2 k2 hr2 hs).1 hlt
    refine .inr ⟨hgo,by omega,fun y H3 hyl=>?_⟩
    obtain ⟨k3,hr3,d,ed,rd⟩:=hy y H3 hyl
    have ed':d=items[i]:=by rw [Bi hlt] at ed;exact (Option.some.inj ed).symm
    subst ed'
    split at q2
    ·exact q2.elim
    ·rename_i ρ3 es
     have er3:ER X.K m2 H3 (B6 cs ρ) (Bv cs σ):=er1.keep p2 (k2.trans k3)
     refine hg m2 H3 _ y (B6 cs ρ) σ ρ3 _ rd er3 es fun σ4 sub4 er4=>⟨sub4,m2,ρ3,h2,hr3,er4,?_⟩
     rw [Out.bind_assoc] at q2
     refine IE (Post.ahead (AL _) k3 q2) fun b h5 v m5 H5 _ p5 k5 hr5 r5 q5=>?_
     cases r5
     cases b with
     |false=>
      simp only [DY,if_false] at q5 ⊢
      exact ⟨items.length - (i+1),by omega,rfl,hlt,by omega,m5,h5,dacc,p2.trans p5,(k2.trans k3).trans k5,hr5,DVs.keep p5 (k3.trans k5) da,q5⟩
     |true=>
      simp only [if_true] at q5 ⊢
      rw [Out.bind_assoc] at q5
      refine ⟨m5,ρ3,h5,hr5,er4.keep p5 k5,IE q5 fun z h6 w m6 H6 _ p6 k6 hr6 r6 q6=>?_⟩
      refine ⟨items.length - (i+1),by omega,rfl,hlt,by simp;omega,m6,h6,dacc++[z],(p2.trans p5).trans p6,((k2.trans k3).trans k5).trans k6,hr6,(DVs.keep (p5.trans p6) ((k3.trans k5).trans k6) da).app (.cons r6 .nil),?_⟩
      rw [Out.bind_assoc] at q6
      simp only [Out.bind_ok] at q6
      simpa using q6
   ·exact q2.elim
  ·have he:i=items.length:=Nat.le_antisymm hi' (Ic hlt)
   subst he
   rw [List.drop_length] at q2
   unfold DJ at q2
   split at q2
   ·rename_i hs
    simp only [Out.bind_ok,Jf] at q2
    obtain ⟨z1,z2⟩:=GG hr2 da q2
    exact .inl ⟨(r1 _ m2 h2 H2 p2 k2 hr2 hs).2 rfl,z1,z2⟩
   ·exact q2.elim
 ·exact q1.elim
theorem BS (hcalm:X.calm=true) (S:FQ X scope Nc cs) (hi:E6 X E tg iter it) (hg:IF X.K cs gg sg)
 (hb:∀(C D:Addr) (cells:List (Str×Addr)) (fp:List Addr) (s₀:Shared) (H₀:Hp) (pins:List (Addr×Obj)),PG (Bg X Nc scope C D cells fp s₀ H₀ pins) tg gg∧IG (Bg X Nc scope C D cells fp s₀ H₀ pins) E0 ifs t∧Ev (Bg X Nc scope C D cells fp s₀ H₀ pins) E0 elt f)
 (hsf:∀x,foldedSetIterable iter X.env x=pure x:=by intro _;rfl):Ev X E (.ListComp elt [⟨tg,iter,ifs,0⟩] scope pos) (A3 cs it sg t f):=by
 exact B9 (Wo (g:=gg) (tc:=EZ X.K E0 t) (te:=tD X.K E0 f) hcalm S hi hb hsf) (Qk hg)
theorem Wq {i:Nat} {x:Str} {pos' pos2:Pos} (hcalm:X.calm=true) (hN:X.N.Nodup) (hix:X.N[i]?=some x) (hx:Ij X.env.scope x) (S:FQ X scope Nc cs) (hi:E6 X E tg iter it) (hg:IF X.K cs gg sg)
 (hb:∀(C D:Addr) (cells:List (Str×Addr)) (fp:List Addr) (s₀:Shared) (H₀:Hp) (pins:List (Addr×Obj)),PG (Bg X Nc scope C D cells fp s₀ H₀ pins) tg gg∧IG (Bg X Nc scope C D cells fp s₀ H₀ pins) E0 ifs t∧Ev (Bg X Nc scope C D cells fp s₀ H₀ pins) E0 elt f)
 (hsf:∀x,foldedSetIterable iter X.env x=pure x:=by intro _;rfl) (hsw:swapsWith (.ListComp elt [⟨tg,iter,ifs,0⟩] scope pos) (some (.Name x pos')) pos2.line X.env=pure true:=by rfl)
 (hf:X.fn x=true∨X.env.scope.names.lookup x=some .local:=by first |exact .inl rfl |exact .inr rfl |assumption):Ex X E (.Assign [.Name x pos'] (.ListComp elt [⟨tg,iter,ifs,0⟩] scope pos) pos2) (AH i (A3 cs it sg t f)):=by
 rintro pins s σ H D I ⟨m,ρ,h,hr,er,p⟩
 have hq:K3 cs (tM X.K (GJ X.K) E it) gg (EZ X.K E0 t) (tD X.K E0 f) σ H (fun v H1=>D.nx (σ.set i (some v)) H1):=Qk hg σ H _ ⟨m,ρ,h,hr,er,PostS.bind p fun y h1 v m1 H1 _ p1 k1 hr1 r1 q1=>(q1.here hr1) _ ((er.keep p1 k1).set r1)⟩
 rw [exec_Assign_Name_used _ _ _ _ hsw]
 refine wpAny_bind (wpAny_standAt (wpAny_bind ?_))
 show wpAny _ X.A (do let _ ←comprehension (.ListComp elt [⟨tg,iter,ifs,0⟩] scope pos) scope X.env _ (newList []) false (eval iter X.env) (some (assign (.Name x pos') X.env))) _ _ s
 refine wpAny_bind (wpAny_mono (Qi (QQ:=fun _ s'=>SP X pins D .next s') hcalm S hi hb hsf I hq fun s6 C Dd H7 m6 hn hC h0 hL hc hp inv q=>?_) (fun _ s' z=>wpAny_pure (wpAny_pure z)) fun _ _ z=>z)
 have I6:Inv X pins σ H7 s6:=inv s6.heap ⟨rfl,fun _ _=>rfl⟩
 refine wpAny_assign_Name (O0 I6 hN hix hx (v:=.ref Dd) rfl (fun s7 I7 z3_=>?_) hf)
 obtain ⟨a,sb7,ha⟩:=z3_
 have nCa:C≠a:=by
  rcases ha with z |z
  ·rw [z];exact hL
  ·exact Ne.symm (hc x a z)
 obtain ⟨o,es,ep,e1,e2⟩:=hn
 refine ⟨m6,⟨o,es,ep,(sb7.2 C nCa).trans e1,e2⟩,fun h' sb=>?_⟩
 exact ⟨_,H7,I7.turned (t':=s7.toks) (it:=C) (fun b o hb e=>(sb.2 b hb).trans e) hC hL (.inr h0) hc hp,q⟩
end
section
variable {X:Cx} {E:XK}
def Ec:D→HD→Option String
 |.non,_=>some "NoneType"
 |.bl _,_=>some "bool"
 |.int _,_=>some "int"
 |.str _,_=>some "str"
 |.tup _,_=>some "tuple"
 |.loc l,h=>match h[l]? with
  |some (.lst _)=>some "list"
  |_=>none
 |_,_=>none
theorem Wr {m:List Addr} {H:Hp} {h:HD} {d:D} {v:V} {t:String} (hr:HR X.K m h H) (r:DV X.K m H d v) (e:Ec d h=some t):El X.K H v (.type t):=by
 cases d with
 |non=>simp only [Ec,Option.some.injEq,DV] at e r;subst e r;exact .non
 |bl b=>simp only [Ec,Option.some.injEq,DV] at e r;subst e r;exact .bl _
 |int i=>simp only [Ec,Option.some.injEq,DV] at e r;subst e r;exact .int _
 |str x=>simp only [Ec,Option.some.injEq,DV] at e r;subst e r;exact .str _
 |tup ds=>simp only [Ec,Option.some.injEq,DV] at e r;subst e;obtain ⟨a,vs,rfl,ha,_⟩:=r;exact .tup ha
 |loc l=>
  simp only [DV] at r
  obtain ⟨a,rfl,ha⟩:=r
  simp only [Ec] at e
  split at e
  ·rename_i ds el
   cases e
   obtain ⟨vs,hv,_⟩:=hr.cells l _ a el ha
   exact .lst hv
  ·cases e
 |_=>simp [Ec] at e
def subL:List (String×String×Bool):=[("NoneType","int",false),("bool","int",true),("int","int",true),("str","int",false),("tuple","int",false),("list","int",false),("NoneType","bool",false),("bool","bool",true),("int","bool",false),("str","bool",false),("tuple","bool",false),("list","bool",false),("NoneType","tuple",false),("bool","tuple",false),("int","tuple",false),("str","tuple",false),("tuple","tuple",true),("list","tuple",false),("NoneType","str",false),("bool","str",false),("int","str",false),("str","str",true),("tuple","str",false),("list","str",false),("NoneType","list",false),("bool","list",false),("int","list",false),("str","list",false),("tuple","list",false),("list","list",true),("dict","int",false),("dict","bool",false),("dict","tuple",false),("dict","str",false),("dict","list",false)]
def JH (t c:String):Option Bool:=(subL.find? fun p=>p.1==t&&p.2.1==c).map fun p=>p.2.2
theorem Ws {K:PySem.W.Frag}:∀p∈subL,PySem.W.kitOne K (.type p.1) (.type p.2.1)=some p.2.2:=by
 unfold subL
 simp only [List.forall_mem_cons]
 exact ⟨rfl,rfl,rfl,rfl,rfl,rfl,rfl,rfl,rfl,rfl,rfl,rfl,rfl,rfl,rfl,rfl,rfl,rfl,rfl,rfl,rfl,rfl,rfl,rfl,rfl,rfl,rfl,rfl,rfl,rfl,rfl,rfl,rfl,rfl,rfl,fun _ h=>nomatch h⟩
theorem Wt {K:PySem.W.Frag} {t c:String} {b:Bool} (h:JH t c=some b):PySem.W.kitOne K (.type t) (.type c)=some b:=by
 unfold JH at h
 rw [qaS] at h
 obtain ⟨p,hp,rfl⟩:=h
 have e:=List.find?_some hp
 rw [Ek,beq_iff_eq,beq_iff_eq] at e
 rw [←e.1,←e.2]
 exact Ws p (List.mem_of_find?_eq_some hp)
theorem Wu:CY X (.builtin "isinstance") (fun xs H Q=>∃x T t b,xs=[x,.ty T]∧El X.K H x (.type t)∧JH t T=some b∧Q (.bl b) H):=by
 intro pins s σ H xs us Q I r h
 obtain ⟨x,T,t,b,rfl,ty,e,q⟩:=h
 obtain ⟨u,w',rfl,rx,rT⟩:=KN r
 cases (show w'=Value.type T from rT)
 exact U4 I rx ty (Wt e) fun tk=>⟨.bl b,H,I.tok _,rfl,q⟩
def BA:D→D→HD→Out D:=fun x y h=>match y,Ec x h with
 |.ty T,some t=>match JH t T with
  |some b=>.ok (.bl b) h
  |none=>.stuck
 |_,_=>.stuck
theorem Wv:De X (.builtin "isinstance") (BY BA):=by
 refine ⟨_,Wu,fun m H h E ds vs Q hr r q=>KZ r q fun d d' v v' ev rv rv' q=>?_⟩
 unfold BA at q
 split at q
 ·rename_i T t et
  split at q
  ·rename_i b eb
   simp only [DV] at rv'
   subst rv'
   exact ⟨v,T,t,b,ev,Wr hr rv et,eb,BD hr q (by simp [DV])⟩
  ·exact q.elim
 ·exact q.elim
theorem GK {x:Str} {T:String} {pos:Pos} (hg:Gl X x) (hm:X.mg x=none) (hv:bootBuiltins x=some (.type T)) (hn:x≠"__name__":=by decide) (hd:(x==("__debug__":Str))=false:=by decide):Ev X E (.Name x pos) (mC (.ty T)):=
 Jq (TN (v:=.ty T) hg hm hv rfl hn hd) fun _ _=>by simp [DV]
theorem Ms (ns:List Int):∀j,j≤ns.length→preSum (fun i=>ns.getD i 0) j=(ns.take j).sum
 |0,_=>by simp [preSum]
 |j+1,h=>by
  rw [preSum,Ms ns j (by omega),List.take_succ_eq_append_getElem (by omega),D3]
  simp [DW,Bi (show j<ns.length by omega)]
theorem K4 {h h2 h':Heap} {it:Addr} (k:∀b o,h.get? b=some o→h2.get? b=some o) (hit:h.objs.size≤it) (hk:∀b o,b∉[it]→h2.get? b=some o→h'.get? b=some o):∀b o,h.get? b=some o→h'.get? b=some o:=fun b o e=>
 hk b o (by rw [qaE];exact Bz (Bq (AX e) hit)) (k b o e)
theorem Ql {ns:List Int} {its:List Value} (r:Vals (ns.map V.int) its) {i:Nat} {v:Value} (e:its.toArray[i]?=some v):∃t,v=.int (ns.getD i 0) t:=by
 have e':its[i]?=some v:=by simpa using e
 have hi:i<its.length:=(qa5.mp e').1
 have hl:ns.length=its.length:=by have:=r.length;simpa using this
 have hn:(ns.map V.int)[i]?=some (V.int (ns.getD i 0)):=by
  rw [Dy,Bi (by omega)]
  simp [DW,Bi (show i<ns.length by omega)]
 obtain ⟨u,h1,t,h2⟩:=r.get hn
 rw [e'] at h1
 cases h1
 exact ⟨t,h2⟩
theorem Ww (hc:X.calm=true):CY X (.builtin "sum") (fun xs H Q=>∃(p:Addr) (ns:List Int),xs=[.ref p]∧(SqL X.K H p (ns.map V.int)∨SqT X.K H p (ns.map V.int))∧Q (.int ns.sum) H):=by
 intro pins s σ H xs us Q I r h
 obtain ⟨p,ns,rfl,hs,q⟩:=h
 obtain ⟨u,rfl,rx⟩:=FE r
 cases rx
 have hh:X.A.in1.handled=none:=I.ok.hd hc
 rcases hs with hs |hs
 ·obtain ⟨its,rv,pl,hz⟩:=I.list hs
  have hl:=rv.length
  rw [D0] at hl
  have hlt:p<s.heap.objs.size:=by obtain ⟨_,e,_⟩:=pl.isList;exact AX e
  refine call_sum_walkG (wpAny_pyIter_list pl.isList ?_)
  refine ⟨s.heap.objs.size,[s.heap.objs.size,p],[s.heap.objs.size],its.toArray.size,_,_,fun i=>ns.getD i 0,rfl,Walks.list (A:=X.A.in1) hh _ p (Bz hlt) its.toArray,⟨⟨_,BK _ rfl,rfl,rfl⟩,pl.isList.push _⟩,fun b hb=>?_,fun i v e=>Ql rv e,fun h' tk t' hk=>?_⟩
  ·show b<(s.heap.push _).objs.size
   rw [CL]
   rcases qa7.mp hb with z |z
   ·rw [z];exact Kv _
   ·rw [qaE.mp z];exact Ib hlt
  ·have e:preSum (fun i=>ns.getD i 0) its.toArray.size=ns.sum:=by
    rw [Ba,←hl,Ms ns _ (AV _),List.take_length]
   rw [e]
   exact ⟨.int ns.sum,H,I.kept (K4 (fun b o e=>AY _ e) (AV _) hk),⟨t',rfl⟩,q⟩
 ·obtain ⟨its,rv,pl,hz⟩:=I.tuple hs
  have hl:=rv.length
  rw [D0] at hl
  have hT:s.heap.IsTuple p its.toArray:=pl
  have hlt:p<s.heap.objs.size:=pl.lt
  refine call_sum_walkG (wpAny_pyIter_tuple hT ?_)
  refine ⟨s.heap.objs.size,[s.heap.objs.size,p],[s.heap.objs.size],its.toArray.size,_,_,fun i=>ns.getD i 0,rfl,Walks.tuple (A:=X.A.in1) hh _ p (Bz hlt) its.toArray,⟨⟨_,BK _ rfl,rfl,rfl⟩,hT.push _⟩,fun b hb=>?_,fun i v e=>Ql rv e,fun h' tk t' hk=>?_⟩
  ·show b<(s.heap.push _).objs.size
   rw [CL]
   rcases qa7.mp hb with z |z
   ·rw [z];exact Kv _
   ·rw [qaE.mp z];exact Ib hlt
  ·have e:preSum (fun i=>ns.getD i 0) its.toArray.size=ns.sum:=by
    rw [Ba,←hl,Ms ns _ (AV _),List.take_length]
   rw [e]
   exact ⟨.int ns.sum,H,I.kept (K4 (fun b o e=>AY _ e) (AV _) hk),⟨t',rfl⟩,q⟩
def FR:D→Option Int
 |.int i=>some i
 |_=>none
def CG:D→HD→Out D:=fun x h=>match BE x h with
 |some ds=>match Bd (ds.map FR) with
  |some ns=>.ok (.int ns.sum) h
  |none=>.stuck
 |none=>.stuck
theorem Mt {m:List Addr} {H:Hp}:∀{ds:List D} {vs:List V} {ns:List Int},DVs X.K m H ds vs→Bd (ds.map FR)=some ns→vs=ns.map V.int
 |[],vs,ns,r,e=>by
  simp only [DVs] at r
  simp [Bd] at e
  subst r e
  rfl
 |d::ds,vs,ns,r,e=>by
  simp only [DVs] at r
  obtain ⟨v,w,rfl,rv,rw'⟩:=r
  rw [BV] at e
  cases d with
  |int i=>
   simp only [FR,Bd,qaS] at e
   obtain ⟨ns',e1,rfl⟩:=e
   simp only [DV] at rv
   subst rv
   rw [Mt rw' e1]
   rfl
  |_=>simp [FR,Bd] at e
theorem JI (hc:X.calm=true):De X (.builtin "sum") (Am CG):=by
 refine ⟨_,Ww hc,fun m H h E ds vs Q hr r q=>Gc r q fun d v ev rv q=>?_⟩
 unfold CG at q
 split at q
 ·rename_i xs e
  split at q
  ·rename_i ns en
   obtain ⟨p,ws,rfl,hs,dv⟩:=Jy hr rv e
   have:=Mt dv en
   subst this
   exact ⟨p,ns,ev,hs,BD hr q (by simp [DV])⟩
  ·exact q.elim
 ·exact q.elim
theorem Wx (hc:X.calm=true):CY X (.builtin "all") (fun xs H Q=>∃(p:Addr) (bs:List Bool),xs=[.ref p]∧SqL X.K H p (bs.map V.bl)∧Q (.bl (bs.all id)) H):=by
 intro pins s σ H xs us Q I r h
 obtain ⟨p,bs,rfl,hs,q⟩:=h
 obtain ⟨u,rfl,rx⟩:=FE r
 cases rx
 have hh:X.A.in1.handled=none:=I.ok.hd hc
 obtain ⟨its,rv,pl,hz⟩:=I.list hs
 have hl:=rv.length
 rw [D0] at hl
 have hlt:p<s.heap.objs.size:=by obtain ⟨_,e,_⟩:=pl.isList;exact AX e
 have item:∀(i:Nat) (v:Value),its.toArray[i]?=some v→v=.bool (bs.getD i true):=fun i v e=>by
  have e':its[i]?=some v:=by simpa using e
  have hi:i<its.length:=(qa5.mp e').1
  have hn:(bs.map V.bl)[i]?=some (V.bl (bs.getD i true)):=by
   rw [Dy,Bi (by omega)]
   simp [DW,Bi (show i<bs.length by omega)]
  obtain ⟨u,h1,h2⟩:=rv.get hn
  rw [e'] at h1
  cases h1
  exact h2
 refine call_all_walk (wpAny_pyIter_list pl.isList ?_)
 refine ⟨s.heap.objs.size,[s.heap.objs.size,p],[s.heap.objs.size],its.toArray.size,_,_,fun i=>bs.getD i true,rfl,Walks.list (A:=X.A.in1) hh _ p (Bz hlt) its.toArray,⟨⟨_,BK _ rfl,rfl,rfl⟩,pl.isList.push _⟩,fun i v s' Q' E' e hQ=>?_,fun h' tk hk=>?_⟩
 ·rw [item i v e]
  exact wpAny_truthy_bool hQ
 ·have e:(List.range its.toArray.size).all (fun i=>bs.getD i true)=bs.all id:=by
   rw [Ba,←hl]
   apply qb1.mpr
   simp only [qb2,qb4,id]
   constructor
   ·intro h b hb
    obtain ⟨i,hi,rfl⟩:=Jd hb
    have:=h i hi
    simpa [DW,Bi hi] using this
   ·intro h i hi
    have:=h bs[i] (Je hi)
    simpa [DW,Bi hi] using this
  rw [e]
  exact ⟨.bl _,H,I.kept (K4 (fun b o e=>AY _ e) (AV _) hk),rfl,q⟩
def GL:D→Option Bool
 |.bl b=>some b
 |_=>none
def Es:D→HD→Out D:=fun x h=>match x with
 |.loc l=>match h[l]? with
  |some (.lst ds)=>match Bd (ds.map GL) with
   |some bs=>.ok (.bl (bs.all id)) h
   |none=>.stuck
  |_=>.stuck
 |_=>.stuck
theorem Mu {m:List Addr} {H:Hp}:∀{ds:List D} {vs:List V} {bs:List Bool},DVs X.K m H ds vs→Bd (ds.map GL)=some bs→vs=bs.map V.bl
 |[],vs,ns,r,e=>by
  simp only [DVs] at r
  simp [Bd] at e
  subst r e
  rfl
 |d::ds,vs,ns,r,e=>by
  simp only [DVs] at r
  obtain ⟨v,w,rfl,rv,rw'⟩:=r
  rw [BV] at e
  cases d with
  |bl i=>
   simp only [GL,Bd,qaS] at e
   obtain ⟨ns',e1,rfl⟩:=e
   simp only [DV] at rv
   subst rv
   rw [Mu rw' e1]
   rfl
  |_=>simp [GL,Bd] at e
theorem Mv (hc:X.calm=true):De X (.builtin "all") (Am Es):=by
 refine ⟨_,Wx hc,fun m H h E ds vs Q hr r q=>Gc r q fun d v ev rv q=>?_⟩
 unfold Es at q
 split at q
 ·rename_i l
  split at q
  ·rename_i xs el
   split at q
   ·rename_i bs eb
    simp only [DV] at rv
    obtain ⟨a,rfl,ha⟩:=rv
    obtain ⟨ws,hv,dv⟩:=hr.cells _ _ a el ha
    have:=Mu dv eb
    subst this
    exact ⟨a,bs,ev,SqL.of hv,BD hr q (by simp [DV])⟩
   ·exact q.elim
  ·exact q.elim
 ·exact q.elim
def IH:D→D→HD→Out D:=fun x y h=>match x with
 |.loc l=>match h[l]? with
  |some (.lst ds)=>if ds.length<sizeLine then .ok .non (h.set l (.lst (ds++[y]))) else .stuck
  |_=>.stuck
 |_=>.stuck
def II:D→HD→Out D:=fun x h=>match x with
 |.loc l=>match h[l]? with
  |some (.lst _)=>.ok x h
  |_=>.stuck
 |_=>.stuck
def Gg (f g:ME):ME:=fun ρ h=>((f ρ h).bind II).bind fun x h1=>(g ρ h1).bind fun y h2=>IH x y h2
theorem K5 {o e:Expr} {f g:ME} {apos cpos:Pos} (ho:Ev X E o f) (he:Ev X E e g)
 (hbase:attributeBase o "append" X.env (eval o X.env)=eval o X.env:=by rfl)
 (hfew:((backTo cpos (starEach [e] X.env)).all (fun x=>!x.1)&&(backToKw cpos (keywordEach [] X.env)).all (fun x=>x.1.isSome)
  &&decide ([e].length+([]:List Keyword).length+(if ([]:List Keyword).isEmpty then 0 else 1)<30))=true:=by rfl)
 (hline:(apos.endLine==cpos.line)=true:=by rfl) (hs:starEach [e] X.env=(false,eval e X.env)::starEach [] X.env:=by rfl) (hplain:(backTo cpos (starEach [] X.env)).any (·.1)=false:=by rfl):
 Ev X E (.Call (.Attribute o "append" apos) [e] [] cpos) (Gg f g):=
 B9 (VM PySem.F.plainAttrs_list PySem.F.slot_list_append PySem.F.type_list_append VQ ho (Ad he Af hs) hbase hfew hline hs hplain) fun σ H Q z1_=>by
  obtain ⟨m,ρ,h,hr,er,p⟩:=z1_
  refine ⟨m,ρ,h,hr,er,?_⟩
  unfold Gg at p
  rw [Out.bind_assoc] at p
  refine Post.bind p fun x h1 v m1 H1 eo p1 k1 hr1 r1 q1=>?_
  clear eo
  unfold II at q1
  split at q1
  ·rename_i l
   split at q1
   ·rename_i ds el
    simp only [Out.bind_ok] at q1
    have r1':=r1
    simp only [rD,DV] at r1'
    obtain ⟨a,rfl,ha⟩:=r1'
    obtain ⟨ws,hv,dv⟩:=hr1.cells l _ a el ha
    refine ⟨.inl ⟨rfl,ws,SqL.of hv⟩,m1,ρ,h1,hr1,er.keep p1 k1,?_⟩
    have q2:Post X.K (rD X.K) m1 H1 E Q ((Ab g Ae ρ h1).bind fun ys h2=>match ys with
     |[y]=>IH (.loc l) y h2
     |_=>.stuck):=by
     unfold Ab Ae
     rw [Out.bind_assoc]
     exact q1
    refine Post.bind q2 fun ys h2 vs m2 H2 eo p2 k2 hr2 r2 q3=>?_
    clear eo
    split at q3
    ·rename_i y
     simp only [FH,DVs] at r2
     obtain ⟨yv,w,rfl,ry,rfl⟩:=r2
     unfold IH at q3
     simp only at q3
     split at q3
     ·rename_i ds2 el2
      split at q3
      ·rename_i hz
       have ha2:=Iq p2 ha
       obtain ⟨ws2,hv2,dv2⟩:=hr2.cells l _ a el2 ha2
       refine ⟨a,ws2,yv,rfl,rfl,hv2,by rw [←dv2.len];exact hz,?_⟩
       refine q3 .non m2 _ (AL _) (.set hv2 rfl) (hr2.setCell ha2 hv2 rfl ⟨_,Dp,?_⟩) (by simp [rD,DV])
       exact (dv2.app (.cons ry .nil)).keep (AL _) (.set hv2 rfl)
      ·exact q3.elim
     ·exact q3.elim
    ·exact q3.elim
   ·exact q1.elim
  ·exact q1.elim
def GM:D→D→D→HD→Out (Fl×Ai)→Out (Fl×Ai):=fun o i v h k=>match o,i with
 |.loc l,.int n=>match h[l]? with
  |some (.lst ds)=>match D8 ds.length n with
   |some j=>match k with
    |.ok a _=>.ok a (h.set l (.lst (ds.set j v)))
    |_=>.stuck
   |none=>.stuck
  |_=>.stuck
 |_,_=>.stuck
def K6 (fo fi fv:ME):MS:=fun ρ h=>(fv ρ h).bind fun v h1=>(fo ρ h1).bind fun o h2=>(fi ρ h2).bind fun i h3=>GM o i v h3 (.ok (.nx,ρ) h3)
theorem Wy {o i e:Expr} {fo fi fv:ME} {pos pos':Pos} (ho:Ev X E o fo) (hi:Ev X E i fi) (he:Ev X E e fv)
 (ha:∀v,assign (.Subscript o i pos') X.env v=(do
  let ov ←holding [v] (eval o X.env)
  let iv ←holding [v,ov] (eval i X.env)
  standAt pos'
  holding [v,ov,iv] (setItem ov iv v)
  release [v,ov,iv] []):=by intro _;rfl)
 (hs:swapsWithSole [.Subscript o i pos'] e pos.line X.env=pure false:=by rfl) (hw:swappedStores [.Subscript o i pos'] e X.env=pure none:=by rfl)
 (h1:(assignEach [.Subscript o i pos'] X.env).map (·.2)=[assign (.Subscript o i pos') X.env]:=by rfl):Ex X E (.Assign [.Subscript o i pos'] e pos) (K6 fo fi fv):=
 En (O5 he (Uq ho hi Px ha) hs hw h1) fun Dn σ H ⟨m,ρ,h,hr,er,p⟩=>⟨m,ρ,h,hr,er,PostS.bind p fun v h1 vv m1 H1 eo1 p1 k1 hr1 r1 q1=>by
  refine ⟨m1,ρ,h1,hr1,er.keep p1 k1,PostS.bind q1 fun ov h2 vo m2 H2 eo2 p2 k2 hr2 r2 q2=>?_⟩
  refine ⟨m2,ρ,h2,hr2,(er.keep p1 k1).keep p2 k2,PostS.bind q2 fun iv h3 vi m3 H3 eo3 p3 k3 hr3 r3 q3=>?_⟩
  clear eo1 eo2 eo3
  unfold GM at q3
  split at q3
  ·rename_i l n
   split at q3
   ·rename_i ds el
    split at q3
    ·rename_i j ej
     have ro:=DV.keep p3 k3 r2
     simp only [DV] at ro
     obtain ⟨a,rfl,ha⟩:=ro
     have ri:=r3
     simp only [rD,DV] at ri
     subst ri
     obtain ⟨ws,hv,dv⟩:=hr3.cells l _ a el ha
     refine ⟨a,ws,n,j,rfl,rfl,hv,by rw [←dv.len];exact ej,?_⟩
     have rvv:=DV.keep p3 k3 (DV.keep p2 k2 r1)
     have hr4:HR X.K m3 (h3.set l (.lst (ds.set j v))) (Az H3 a (.lst (ws.set j vv))):=hr3.setCell ha hv rfl ⟨_,Dp,(dv.set j rvv).keep (AL _) (.set hv rfl)⟩
     exact q3 m3 _ (AL _) (.set hv rfl) hr4 σ ((((er.keep p1 k1).keep p2 k2).keep p3 k3).keep (AL _) (.set hv rfl))
    ·exact q3.elim
   ·exact q3.elim
  ·exact q3.elim⟩
end
def Ak (n:Nat) (g:MS):List D→HD→Out D:=fun ds h=>(g (ds.map some++List.replicate (n - ds.length) none) h).bind fun x h1=>match x with
 |(.nx,_)=>.ok .non h1
 |(.rt d,_)=>.ok d h1
 |_=>.stuck
open AutoSeq1 (wpAny_loadPart')
section
variable {prog:Program} {w:World} {A:Around} {E:Value→Shared→Prop} {s:Shared}
theorem Wz {it l:Addr} {i:Nat} {items:Array Value} {x:Value} {Q:Value→Shared→Prop} (hit:s.heap.IsTupleIter it l i)
 (hl:s.heap.IsTuple l items) (hx:items[i]?=some x)
 (hQ:∀h',h'.IsTupleIter it l (i+1)→Heap.SameBut it s.heap h'→Q x {s with heap:=h'}):
 wpAny (model prog w) A (Builtin.SmallTypes.nextOf (.ref it)) Q E s:=by
 obtain ⟨o,ho,hc,hd⟩:=id hit
 obtain ⟨ol,hol,_,nl,hdl⟩:=hl
 unfold Builtin.SmallTypes.nextOf
 refine wpAny_bind (wpAny_callSpecial?_slot (name:=Str.ofString "__next__") hit.typeIs F.slot_tuple_iterator_next
  (wpAny_call_entry F.slot_tuple_iterator_next hit.typeIs F.entry_tuple_iterator_next ?_ (F.args_tuple_iterator_next_1 _)))
 show wpAny _ _ (field (.ref it) 0 >>=_) _ _ s
 refine wpAny_bind (wpAny_field ho hd (x:=.ref l) rfl ?_)
 show wpAny _ _ (if (Value.ref l==Value.none)=true then _ else _) _ _ s
 rw [if_neg (show ¬((Value.ref l==Value.none)=true) from Bu)]
 show wpAny _ _ (field (.ref it) 1 >>=_) _ _ s
 refine wpAny_bind (wpAny_field ho hd (x:=.int i 0) rfl ?_)
 show wpAny _ _ (seqItems? (.ref l) >>=_) _ _ s
 refine wpAny_bind (wpAny_seqItems hol hdl ?_)
 simp only [Int.toNat_natCast,hx]
 refine wpAny_bind (wpAny_setField ho hd (by simp) (wpAny_pure ⟨x,rfl,wpAny_pure (hQ _ ?_ (Heap.SameBut.update ..))⟩))
 exact ⟨_,L3 _ ho (Obj.isFreed_of_fields (Obj.data_mapFields hd _)),(Obj.cls_mapFields ..).trans hc,by
  rw [Obj.data_mapFields hd];simp [rawInt]⟩
theorem WA {it l:Addr} {i:Nat} {items:Array Value} {Q:Value→Shared→Prop} (hh:A.handled=none)
 (hit:s.heap.IsTupleIter it l i) (hl:s.heap.IsTuple l items) (hx:items[i]?=none)
 (hE:∀h' e,Heap.ExtBut it s.heap h'→(∃o,h'.get? e=some o∧o.cls=.type "StopIteration")→E (.ref e) {s with heap:=h'}):
 wpAny (model prog w) A (Builtin.SmallTypes.nextOf (.ref it)) Q E s:=by
 obtain ⟨o,ho,hc,hd⟩:=id hit
 obtain ⟨ol,hol,_,nl,hdl⟩:=hl
 unfold Builtin.SmallTypes.nextOf
 refine wpAny_bind (wpAny_callSpecial?_slot (name:=Str.ofString "__next__") hit.typeIs F.slot_tuple_iterator_next
  (wpAny_call_entry F.slot_tuple_iterator_next hit.typeIs F.entry_tuple_iterator_next ?_ (F.args_tuple_iterator_next_1 _)))
 show wpAny _ _ (field (.ref it) 0 >>=_) _ _ s
 refine wpAny_bind (wpAny_field ho hd (x:=.ref l) rfl ?_)
 show wpAny _ _ (if (Value.ref l==Value.none)=true then _ else _) _ _ s
 rw [if_neg (show ¬((Value.ref l==Value.none)=true) from Bu)]
 show wpAny _ _ (field (.ref it) 1 >>=_) _ _ s
 refine wpAny_bind (wpAny_field ho hd (x:=.int i 0) rfl ?_)
 show wpAny _ _ (seqItems? (.ref l) >>=_) _ _ s
 refine wpAny_bind (wpAny_seqItems hol hdl ?_)
 simp only [Int.toNat_natCast,hx]
 refine wpAny_bind (wpAny_rule (wpAny_bind (wpAny_setField ho hd (by simp) ?_)))
 show wpAny _ _ (newExc (.type "StopIteration") [] >>=_) _ _ _
 refine wpAny_bind ?_
 simp only [newExc,newTuple]
 refine wpAny_bind (wpAny_newObj_type ?_ (by size_fits))
 refine wpAny_bind (m:=firstArgMember _ _) (wpAny_of_eq (a:=Value.none) (by first |rfl |(simp only [firstArgMember];rfl)) ?_)
 refine wpAny_newObj_type ?_ (by size_fits)
 simp only [raiseNew]
 refine wpAny_bind (wpAny_handled ?_)
 first |rw [show A.in1.handled=none from hh] |rw [hh]
 refine wpAny_bind (wpAny_pure (wpAny_throw ?_))
 exact hE _ _ (((Heap.SameBut.update ..).extBut.push _).push _) ⟨_,BK _ rfl,rfl⟩
end
theorem Mw {prog:Program} {w:World} {A:Around} (hh:A.handled=none) (it l:Addr) (hne:l≠it) (items:Array Value):
 Draws prog w A it [it,l] items.size (fun i v=>items[i]?=some v) (fun i h=>h.IsTupleIter it l i∧h.IsTuple l items) where
 live:=fun _ _ st=>let ⟨o,ho,_⟩:=st.1;⟨o,ho⟩
 frame:=fun _ _ _ st hk=>⟨st.1.at fun o e=>hk it (by simp) o e,st.2.at fun o e=>hk l (by simp) o e⟩
 item:=fun i s Q E hi st hQ=>by
  refine Wz st.1 st.2 (x:=items[i]) (by simp [hi]) fun h' hit' hs'=>?_
  exact hQ _ h' s.toks (by simp [hi]) ⟨hit',st.2.extBut hs'.extBut hne⟩ hs'
 done:=fun s Q E st hE=>WA hh st.1 st.2 (by simp) hE
theorem WB (l:Addr) (items:Array Value) (n:Nat) (dct:Option Addr) (sl:Array (Option Value)):
 Meets (Builtin.«enumerate.__new__» ⟨[.type "enumerate",.ref l],[]⟩) (fun _ R s=>s.heap.get? l=some {cls:=.type "tuple",dict:=dct,data:=.seq items n,slots:=sl}∧
  R (.ok (.ret (.ref (s.heap.push {cls:=.type "tuple_iterator",data:=.fields #[.ref l,.int 0 0]}).objs.size)))
    {s with heap:=(s.heap.push {cls:=.type "tuple_iterator",data:=.fields #[.ref l,.int 0 0]}).push {cls:=.type "enumerate",data:=.fields #[.none,.bool false,.ref s.heap.objs.size,rawInt 0,.none,.none]}}):=
 .of_wp fun prog w A R s h=>by
  obtain ⟨hp,g,d,tk,os⟩:=s;obtain ⟨hl,h⟩:=h
  have hsub:=sub_enumerate
  have hL:Heap.IsTuple (Shared.heap ⟨hp,g,d,tk,os⟩) l items:=⟨_,hl,rfl,n,rfl⟩
  wp_walk using wpAny_loadPart' hl
  refine wpAny_stack_any fun st=>wpAny_pure ?_
  split
  ·rename_i c _ _ _ _ _
   cases (c==Value.type "enumerate")
   ·wp_walk using wpAny_loadPart' hl,wpAny_pyIter_tuple hL
    exact ⟨_,rfl,h⟩
   ·wp_walk using wpAny_loadPart' hl,wpAny_pyIter_tuple hL
    exact ⟨_,rfl,h⟩
  ·wp_walk using wpAny_loadPart' hl,wpAny_pyIter_tuple hL
   exact ⟨_,rfl,h⟩
section
variable {prog:Program} {w:World} {A:Around} {E:Value→Shared→Prop} {s:Shared}
theorem WC {l:Addr} {items:Array Value} {Q:Value→Shared→Prop} (hL:s.heap.IsTuple l items)
 (h:∀h',IsEnum h' (s.heap.objs.size+1) s.heap.objs.size 0 .none→h'.IsTupleIter s.heap.objs.size l 0→h'.objs.size=s.heap.objs.size+2→
  (∀b o,s.heap.get? b=some o→h'.get? b=some o)→Q (.ref (s.heap.objs.size+1)) {s with heap:=h'}):
 wpAny (model prog w) A (call (.type "enumerate") [.ref l]) Q E s:=by
 obtain ⟨⟨c,dct,dt,sl⟩,hl,hc,n,hd⟩:=hL
 replace hc:c=.type "tuple":=hc
 replace hd:dt=.seq items n:=hd
 subst hc hd
 refine callType_new F.called_enumerate (by decide) (F.typeCall_enumerate_1 _) (F.newCall_enumerate_1 _) (fun obj=>F.args_object_init_2 obj _) F.entry_enumerate_new
  (WB l items n dct sl) ⟨hl,?_⟩
 have hz:(s.heap.push {cls:=.type "tuple_iterator",data:=.fields #[.ref l,.int 0 0]}).objs.size=s.heap.objs.size+1:=CL ..
 show _∧_
 rw [hz]
 have he:IsEnum ((s.heap.push {cls:=.type "tuple_iterator",data:=.fields #[.ref l,.int 0 0]}).push
  {cls:=.type "enumerate",data:=.fields #[.none,.bool false,.ref s.heap.objs.size,rawInt 0,.none,.none]}) (s.heap.objs.size+1) s.heap.objs.size 0 .none:=by
  have:=BK (s.heap.push {cls:=.type "tuple_iterator",data:=.fields #[.ref l,.int 0 0]})
   (o:={cls:=.type "enumerate",data:=.fields #[.none,.bool false,.ref s.heap.objs.size,rawInt 0,.none,.none]}) rfl
  rw [hz] at this;exact this
 refine ⟨⟨_,he,rfl⟩,h _ he ⟨_,AY _ (BK _ rfl),rfl,rfl⟩ (by rw [CL,hz]) fun b o x=>AY _ (AY _ x)⟩
end
def Qm (K:PySem.W.Frag) (t:Addr) (xs:List V):It:=⟨fun i H=>i<xs.length∧SqT K H t xs,fun i H x H'=>∃p v,H p=none∧x=.ref p∧xs[i]?=some v∧H'=Az H p (.tup [.int i,v]),fun i H=>i=xs.length∧SqT K H t xs⟩
theorem WD {P:Program} {w:World} {K:PySem.W.Frag} {elts:List Expr} {kt:Nat} {tpos:Pos} (e it t:Addr) (hei:e≠it) (hte:t≠e) (hti:t≠it) (xs:List V):
 F5 P w K (.Tuple elts kt tpos) (Qm K t xs) [e,it] e (fun i h=>(∃old,IsEnum h e it i old)∧h.IsTupleIter it t i) where
 mem:=by simp
 obj:=fun i h st b hb=>by
  obtain ⟨⟨old,h1⟩,o,h2,hc,hd⟩:=st
  rcases qa7.mp hb with z |z
  ·subst z;exact ⟨_,h1,fun v z=>by cases z⟩
  ·rw [qaE] at z
   subst z
   exact ⟨o,h2,fun v z=>by rw [hd] at z;cases z⟩
 keep:=fun i h h' st k=>by
  obtain ⟨⟨old,h1⟩,h2⟩:=st
  exact ⟨⟨old,k e (by simp) _ h1⟩,h2.at fun o z=>k it (by simp) o z⟩
 item:=by
  intro X hP hw hK hc i pins s σ H E I hf st hg
  subst hP hw hK
  obtain ⟨⟨old,he⟩,hit⟩:=st
  obtain ⟨hi,hq⟩:=hg
  obtain ⟨its,rv,p,hz⟩:=I.tuple hq
  have hT:s.heap.IsTuple t its.toArray:=p
  have hl:=rv.length
  obtain ⟨e0,e1,e2,e3,e4,e5⟩:=hf e (by simp)
  obtain ⟨i0,i1,i2,i3,i4,i5⟩:=hf it (by simp)
  have hx:xs[i]?=some xs[i]:=Bi hi
  refine wpAny_pyNext_enum_itemD (Mw (A:=X.A.in1) (I.ok.hd hc) it t hti its.toArray) he ⟨hit,hT⟩ (by rw [Ba];omega) hei (by simp [hei,Ne.symm hte]) fun x h1 tk hPx ho hs1 hTup hsz hk=>?_
  obtain ⟨u,hu,ru⟩:=rv.get hx
  have hux:u=x:=by
   have:its[i]?=some x:=by simpa using hPx
   rw [hu] at this
   exact Option.some.inj this
  subst hux
  refine ⟨.ref s.heap.objs.size,rfl,wpAny_letOwnedTupleGo_enum ho fun h2 he2 sb=>?_⟩
  have hfr:H s.heap.objs.size=none:=I.hok.fresh (AV _)
  have kk:∀b o,b∉[e,it]→s.heap.get? b=some o→h2.get? b=some o:=fun b o hb z=>by
   have n1:b≠e:=fun q=>hb (by simp [q])
   have n2:b≠it:=fun q=>hb (by simp [q])
   exact (sb.2 b n1).trans (hk b o n1 n2 z)
  have na:s.heap.objs.size≠e:=ID (AX he)
  have hnew:h2.get? s.heap.objs.size=some {cls:=.type "tuple",data:=.seq #[.int i tk,u]}:=(sb.2 _ na).trans hTup
  have ntr:∀b w,H b=some w→b∉[e,it]:=fun b w z hb=>by
   rcases qa7.mp hb with q |q
   ·rw [q,e0] at z;cases z
   ·rw [qaE.mp q,i0] at z;cases z
  have nal:∀b o,s.heap.get? b=some o→b≠s.heap.objs.size:=fun b o z=>Bz (AX z)
  have it2:h2.IsTupleIter it t (i+1):=by
   obtain ⟨o,q,r⟩:=hs1.1
   exact ⟨o,(sb.2 it (Ne.symm hei)).trans q,r⟩
  refine ⟨.ref s.heap.objs.size,Az H s.heap.objs.size (.tup [.int i,xs[i]]),?_,rfl,⟨s.heap.objs.size,xs[i],hfr,rfl,hx,rfl⟩,⟨⟨u,he2⟩,it2⟩,fun b hb=>?_⟩
  ·show Inv X pins σ _ {s with heap:=h2,gens:=s.gens,drawn:=s.drawn,toks:=tk+1}
   refine I.step (g':=s.gens) (d':=s.drawn) (t':=tk+1) (h':=h2) (ch:=[e,it]) (fun b hb=>?_) (fun b o _ _ hc z _=>kk b o hc z) (fun b o _ _ hc z _=>⟨o.slots,kk b o hc z⟩) (fun b o _ z n=>by rw [AM (nal b o z)];exact n)
    (fun b o hc z=>⟨o,kk b o hc z⟩) (fun b ys z=>by rw [AM (BO z hfr)];exact z) (fun b o u z=>by rw [AM (BO z hfr)];exact z) (fun b ps z=>⟨#[],by rw [AM (BO z hfr),z];simp⟩) (fun m hm=>?_) (fun b w z=>?_) I.bare
   ·rcases qa7.mp hb with q |q
    ·subst q;exact ⟨e3,e1,e4,e5⟩
    ·rw [qaE] at q;subst q;exact ⟨i3,i1,i4,i5⟩
   ·obtain ⟨o,es,ep,q,r⟩:=hm
    exact ⟨o,es,ep,kk _ o (by simp [Ne.symm e1,Ne.symm i1]) q,r⟩
   ·by_cases hb:b=s.heap.objs.size
    ·subst hb
     rw [Dp] at z
     cases z
     exact ⟨by simp only [Ie,Jg];rw [sizeLine_eq];decide,[.int i tk,u],.cons ⟨tk,rfl⟩ (.cons ru .nil),⟨_,hnew,rfl,0,rfl⟩,fun o e=>by rw [hnew] at e;cases e;rfl⟩
    ·rw [AM hb] at z
     refine (I.hok b w z).stay (fun c v hc q=>kk c v ?_ q) (fun c q=>by rw [AM (BO q hfr)];exact q) fun c ys q=>by rw [AM (BO q hfr)];exact q
     rcases hc with rfl |hc
     ·exact ntr c _ z
     ·exact ntr c _ hc
  ·have nb:b≠s.heap.objs.size:=by
    rcases qa7.mp hb with q |q
    ·rw [q];exact na.symm
    ·rw [qaE.mp q]
     obtain ⟨o,z,_⟩:=hit
     exact nal _ _ z
   rw [AM nb]
   exact (hf b hb).1
 done:=by
  intro X hP hw hK hc i pins s σ H E I hf st hg
  subst hP hw hK
  obtain ⟨⟨old,he⟩,hit⟩:=st
  obtain ⟨hi,hq⟩:=hg
  obtain ⟨its,rv,p,hz⟩:=I.tuple hq
  have hT:s.heap.IsTuple t its.toArray:=p
  have hl:=rv.length
  obtain ⟨i0,i1,i2,i3,i4,i5⟩:=hf it (by simp)
  have hin:i=its.toArray.size:=by rw [Ba];omega
  refine wpAny_pyNext_enum_endD (Mw (A:=X.A.in1) (I.ok.hd hc) it t hti its.toArray) he (hin ▸ ⟨hit,hT⟩) fun h' eb=>⟨rfl,I.turned (t':=s.toks) (fun b o hb z=>eb b o hb z) i0 i1 i3 i4 i5⟩
 self:=fun A i s Q E st h=>by
  obtain ⟨⟨old,he⟩,_⟩:=st
  exact wpAny_pyIter_enum he h
section
variable {X:Cx} {E:XK}
def Eu (ds:List D):List D:=ds.mapIdx fun i d=>.tup [.int (i:Nat),d]
def Qn:List D→HD→Out (List D×Bk):=fun ds h=>match ds with
 |[.tup xs]=>.ok (Eu xs,[]) h
 |_=>.stuck
def Qo (fa:MA):MI:=fun ρ h=>(fa ρ h).bind Qn
end
end LS
namespace LS
open PySem PySem.Spec PyProof.Rows L2
section
variable {prog:Program} {w:World} {A:Around} {E:Value→Shared→Prop} {s:Shared}
end
section
variable {X:Cx} {E:XK} {e:Expr} {f:ME}
def Mx:D→HD→Out D:=fun x h=>match x with
 |.tup [a,b]=>.ok (.tup [b,a]) h
 |_=>.stuck
def Qp (f:ME):ME:=fun ρ h=>(f ρ h).bind Mx
end
structure CSc (X:Cx) (scope:Scope) (Nc:List Str) (cs:List (Option Nat)):Prop where
 kind:scope.kind=.function
 loc:(scope.names.all fun y=>y.2 != .local||scope.names.lookup y.1==some .local)=true
 free:(scope.names.all fun y=>y.2 != .free||(X.env.kindOf y.1==some .cell||X.env.kindOf y.1==some .free))=true
 nd:(scope.names.map (·.1)).Nodup
 len:cs.length=Nc.length
 out:((Nc.zip cs).all fun p=>match p.2 with
  |none=>true
  |some j=>X.N[j]?==some p.1&&scope.names.lookup p.1==some .free)=true
theorem CSc.ok {X:Cx} {scope:Scope} {Nc:List Str} {cs:List (Option Nat)} (S:CSc X scope Nc cs):FQ X scope Nc cs:=by
 refine ⟨S.kind,fun y hy e=>?_,fun y hy e=>?_,S.nd,S.len,fun i x j h1 h2=>?_⟩
 ·have:=qb2.mp S.loc y hy
  rw [e] at this
  simpa using this
 ·have:=qb2.mp S.free y hy
  rw [e] at this
  simpa using this
 ·have hz:(Nc.zip cs)[i]?=some (x,some j):=by
   rw [List.getElem?_zip_eq_some]
   exact ⟨h1,h2⟩
  have:=qb2.mp S.out (x,some j) (HZ hz)
  simpa using this
structure Dn (K:PySem.W.Frag) (mg:Str→Option Value) (x:Str) (ps:List Str) (st:Stmt) (f:Addr) (fd:FuncData):Prop where
 fn:Fun K x x st f fd
 bd:Binds K fd ps []
 mg:mg x=some (.ref f)
section
variable {X:Cx} {E:XK}
theorem WE {a:Expr} {f:ME} {pos:Pos} (ha:Ev X E a f):Ev X E (.UnaryOp .USub a pos) (fun ρ h=>(f ρ h).bind fun x h1=>match x with
 |.int i=>.ok (.int (-i)) h1
 |_=>.stuck):=
 B9 (Pa Pd ha) fun σ H Q z1_=>by obtain ⟨m,ρ,h,hr,er,p⟩:=z1_;exact (⟨m,ρ,h,hr,er,Post.bind p fun x h1 v m1 H1 eo p1 k1 hr1 r1 q1=>by
  clear eo
  split at q1
  ·simp only [rD,DV] at r1
   subst r1
   exact ⟨_,rfl,BD hr1 q1 (by simp [DV])⟩
  ·exact q1.elim⟩)
def My (f:ME):ME:=fun ρ h=>(f ρ h).bind fun x h1=>match x with
    |.int i=>.ok (.int (-i)) h1
    |_=>.stuck
theorem CO {i j:Nat} {x y:Str} {px py tp:Pos} {kt:Nat} (hc:X.calm=true) (h1:PG X (.Name x px) (CD i)) (h2:PG X (.Name y py) (CD j)):PG X (.Tuple [.Name x px,.Name y py] kt tp) (GE X.K 2 (D7 (CD i) (D7 (CD j) GD))):=
 KI hc (EW h1 (EW h2 KH))
end
def CMl (i j:Int):Prop:=CMul i j∨(Builtin.Int.intBits i≤16777216∧Builtin.Int.intBits j≤16777216)
instance (i j:Int):Decidable (CMl i j):=by unfold CMl;infer_instance
theorem CMl.ok {i j:Int} (h:CMl i j):IntMulOk i j:=by
 rcases h with h |⟨h1,h2⟩
 ·exact h.ok
 ·unfold IntMulOk
  intro z
  simp only [Ek,decide_eq_true_eq] at z
  have:=z.2
  unfold Builtin.Int.intTooBig at this
  simp only [decide_eq_true_eq] at this
  have hb:(bitsLine:Int)=134217728:=by first |rfl |decide
  omega
variable {X:Cx}
theorem op_mul':OpR X (binaryOp .Mult) (rI CMl fun i j=>.int (i*j)):=KL fun _ _ _ _ _ _ _ hc q=>mul_int q hc.ok
def DK:D→D→HD→Out D
 |.int i,.int j,h=>if CMl i j then .ok (.int (i*j)) h else .stuck
 |.loc l,.int k,h=>match h[l]? with
  |some (.lst xs)=>if -(2^63)≤k∧k<2^63 then CF (List.replicate k.toNat xs).flatten h else .stuck
  |_=>.stuck
 |_,_,_=>.stuck
theorem WG:BL X (binaryOp .Mult) DK:=by
 refine ⟨_,op_mul'.or VT,fun m H h E x y v u Q hr rx ry q=>?_⟩
 unfold DK at q
 split at q
 ·simp only [DV] at rx ry
  subst rx ry
  split at q
  ·rename_i hc
   exact .inl ⟨_,_,rfl,rfl,hc,BD hr q (by simp [DV])⟩
  ·exact q.elim
 ·simp only [DV] at rx ry
  obtain ⟨a,rfl,ha⟩:=rx
  subst ry
  split at q
  ·rename_i k _ xs e
   split at q
   ·rename_i hk
    obtain ⟨vs,h1,d1⟩:=hr.cells _ _ a e ha
    obtain ⟨z,q'⟩:=GG hr (d1.rep k.toNat) q
    refine .inr ⟨a,k,vs,rfl,rfl,h1,hk.1,hk.2,?_,q'⟩
    rw [KP] at z
    rw [Nat.mul_comm];exact z
   ·exact q.elim
  ·exact q.elim
 ·exact q.elim
end LS
namespace Att
open PySem PySem.W PySem.Calls PyProof.Rows
theorem WH {ns:List Int} (h:WData.layable (.list (ns.map WData.int))=true):∀n∈ns,Builtin.Int.intBits n≤2^20:=by
 have hw:WData.weight (.list (ns.map WData.int))≤2^20:=(layableW_iff.mp h).2.2
 have key:∀(ns:List Int) (b:Nat),WData.weightAll (ns.map WData.int)≤b→∀n∈ns,Builtin.Int.intBits n≤b:=by
  intro ns
  induction ns with
  |nil=>intro b _ n hn;cases hn
  |cons m r ih=>
   intro b hb n hn
   have e:WData.weightAll ((m::r).map WData.int)=Builtin.Int.intBits m+1+WData.weightAll (r.map WData.int):=by
    simp only [BV,WData.weightAll,WData.weight]
    rfl
   rw [e] at hb
   rcases qa7.mp hn with z |z
   ·subst z;omega
   ·exact ih b (by omega) n z
 exact key ns _ (by simpa only [WData.weight] using hw)
theorem attach_bits {l:OpenLaw} {n:Nat} {q:Program} {loose:List Str} {XP:(Str→Option Value)→Heap→Prop} {YP:World→Heap→Prop} {d:DefRec}
 (hn:l.most=some n) (hdf:d.params.defaults=[])
 (call:∀(w:World) (s₀ s₁:Shared) (mg mb:Str→Option Value) (fa:Addr) (o:Obj) (pm cd doc:Value) (a:Addr) (vs:List Value) (ns:List Int),(∀n∈ns,Builtin.Int.intBits n≤2^20)→
  Ground q loose [] XP w s₀ mg mb s₁.heap→YP w s₁.heap→
  s₁.heap.get? fa=some o→o.data=.func (docDef d.name d.params d.body d.scope pm cd doc)→s₁.heap.CodeRec cd d.name→mg d.name=some (.ref fa)→
  s₁.heap.get? a=some {cls:=.type "list",data:=.seq vs.toArray}→IntsAre vs ns→ns.length≤n→s₁.gens=#[]→
  codeAny (model l.prog w) callerA (.call (.ref fa) ⟨[.ref a],[]⟩) (fun r s'=>r=.ok (.ret (.bool true))∧OldK s₁.heap s'.heap∧s'.os=s₁.os∧AllBare s'.gens) s₁):
 WalkO q loose XP YP l.row.toRowW d [] (fun f vs=>PySem.call f vs):=by
 intro w s₀ s₁ mg mb G Y fa o pm cd doc dV kV ho hd hcd hD hmg hg args vals as hpre hlay hrd hwl hlo
 obtain rfl:dV=.none:=Dflts.none hD hdf
 obtain rfl:kV=.none:=Dflts.noKw hD
 obtain ⟨a,vs,ns,rfl,rfl,hobj,hints,hlen⟩:=VV hn hpre hwl
 have hb:=WH (layableW_arg hlay _ AW)
 refine enter_call (codeAny_mono (call w s₀ s₁ mg mb fa o pm cd doc a vs ns hb G Y ho (fd_plain hd) hcd hmg hobj hints hlen hg) fun r s' hq=>?_)
 obtain ⟨rfl,h2,h3,h4⟩:=hq
 exact ⟨.inl ⟨.bool true,.bool true,[],rfl,fun _=>rfl,.bool true,VW l _,fun _=>⟨List.Pairwise.nil,fun _ hm=>(nomatch hm)⟩⟩,h2,h3,h4⟩
end Att
namespace LS
open PySem PySem.Spec PyProof.Rows L2
def Wp {α:Type} (o:Out α) (Q:α→HD→Prop):Prop:=match o with
 |.ok a h=>Q a h
 |_=>False
section
variable {α β:Type} {o:Out α} {Q Q':α→HD→Prop}
@[simp] theorem BU (a:α) (h:HD):Wp (.ok a h) Q=Q a h:=rfl
@[simp] theorem ZcM:Wp .stuck Q=False:=rfl
theorem A6 {o':Out α} (e:o=o') (h:Wp o' Q):Wp o Q:=e ▸ h
theorem AG {k:α→HD→Out β} {Q:β→HD→Prop}:Wp (o.bind k) Q=Wp o fun a h=>Wp (k a h) Q:=by cases o<;>rfl
theorem Wp.mono (h:Wp o Q) (f:∀a h,Q a h→Q' a h):Wp o Q':=by
 cases o with
 |ok a h'=>exact f _ _ h
 |_=>exact h.elim
theorem Wp.ex (h:Wp o Q):∃a h',o=.ok a h'∧Q a h':=by
 cases o with
 |ok a h'=>exact ⟨a,h',rfl,h⟩
 |_=>exact h.elim
end
def Sm (h h':HD):Prop:=∀(l:Nat) (c:Cell),h[l]?=some c→h'[l]?=some c
theorem Sm.refl (h:HD):Sm h h:=fun _ _ e=>e
theorem Sm.trans {h h1 h2:HD} (a:Sm h h1) (b:Sm h1 h2):Sm h h2:=fun l c e=>b l c (a l c e)
theorem Sm.app (h t:HD):Sm h (h++t):=fun l c e=>by
 rw [Gy (qa5.mp e).1];exact e
def Pu {α:Type} (o:Out α) (h:HD) (a:α):Prop:=Wp o fun x h'=>x=a∧Sm h h'
section
variable {α β:Type} {o:Out α} {h:HD} {a:α}
theorem Pu.wp {Q:α→HD→Prop} (p:Pu o h a) (k:∀h',Sm h h'→Q a h'):Wp o Q:=Wp.mono p fun x h' z1_=>by obtain ⟨e,s⟩:=z1_;subst e;exact k h' s
theorem Pu.ok:Pu (.ok a h) h a:=⟨rfl,.refl _⟩
theorem Pu.bind {k:α→HD→Out β} {b:β} (p:Pu o h a) (q:∀h',Sm h h'→Pu (k a h') h' b):Pu (o.bind k) h b:=by
 unfold Pu
 rw [AG]
 exact p.wp fun h' s=>Wp.mono (q h' s) fun x h2 z2_=>by obtain ⟨e,s2⟩:=z2_;exact (⟨e,s.trans s2⟩)
theorem Pu.noErr (p:Pu o h a):Pu (noErr o) h a:=by
 obtain ⟨x,h',e,q⟩:=Wp.ex p
 rw [e];exact q
end
def Qq (i j:Nat) (ρ:Ai) (ds:List D) (h:HD):Out (Fl×Ai):=match ds with
 |[x,y]=>.ok (.nx,(ρ.set i (some x)).set j (some y)) h
 |_=>.stuck
def Qr (o:Option Ai) (h:HD):Out (Fl×Ai):=match o with
 |some ρ1=>.ok (.nx,ρ1) h
 |none=>.stuck
def K7 (g:HD→Out D) (x:D) (h:HD):Out D:=match x with
 |.bl true=>g h
 |.bl false=>.ok (.bl false) h
 |_=>.stuck
def Mz (g:HD→Out D) (x:D) (h:HD):Out D:=match x with
 |.bl true=>.ok (.bl true) h
 |.bl false=>g h
 |_=>.stuck
def Qs (x:D) (h:HD):Out D:=match x with
 |.bl b=>.ok (.bl (!b)) h
 |_=>.stuck
def Qt (x:D) (h:HD):Out D:=match x with
 |.int i=>.ok (.int (-i)) h
 |_=>.stuck
@[simp] theorem ZcN {i j:Nat} {ρ:Ai} {x y:D} {h:HD} {Q:Fl×Ai→HD→Prop}:Wp (Qq i j ρ [x,y] h) Q=Q (.nx,(ρ.set i (some x)).set j (some y)) h:=rfl
@[simp] theorem ZcO {ρ:Ai} {h:HD} {Q:Fl×Ai→HD→Prop}:Wp (Qr (some ρ) h) Q=Q (.nx,ρ) h:=rfl
@[simp] theorem ZcP {g:HD→Out D} {h:HD}:K7 g (.bl true) h=g h:=rfl
@[simp] theorem ZcQ {g:HD→Out D} {h:HD}:K7 g (.bl false) h=.ok (.bl false) h:=rfl
@[simp] theorem ZcR {g:HD→Out D} {h:HD}:Mz g (.bl true) h=.ok (.bl true) h:=rfl
@[simp] theorem ZcS {g:HD→Out D} {h:HD}:Mz g (.bl false) h=g h:=rfl
@[simp] theorem ZcT {b:Bool} {h:HD}:Qs (.bl b) h=.ok (.bl (!b)) h:=rfl
@[simp] theorem ZcU {i:Int} {h:HD}:Qt (.int i) h=.ok (.int (-i)) h:=rfl
def MB (g:MS) (Q:Fl×Ai→HD→Prop):Fl×Ai→HD→Prop
 |(.nx,ρ),h=>Wp (g ρ h) Q
 |y,h=>Q y h
def MC (Q:D→HD→Prop):Fl×Ai→HD→Prop
 |(.nx,_),h=>Q .non h
 |(.rt d,_),h=>Q d h
 |_,_=>False
section
variable {ρ:Ai} {h:HD} {Q:Fl×Ai→HD→Prop} {QB:D→HD→Prop} {g g1 g2:MS} {f:ME} {t:MT}
@[simp] theorem Aq:MB g Q (.nx,ρ) h=Wp (g ρ h) Q:=rfl
@[simp] theorem ZcV {d:D}:MB g Q (.rt d,ρ) h=Q (.rt d,ρ) h:=rfl
@[simp] theorem ZcW:MC QB (.nx,ρ) h=QB .non h:=rfl
@[simp] theorem ZcX {d:D}:MC QB (.rt d,ρ) h=QB d h:=rfl
@[simp] theorem BG:Wp (Aj g1 g2 ρ h) Q=Wp (g1 ρ h) (MB g2 Q):=by
  unfold Aj
  rw [AG]
  congr 1
  funext x h'
  obtain ⟨fl,ρ1⟩:=x
  cases fl<;>rfl
theorem AN {n:Nat} {ds:List D}:Wp (Ak n g ds h) QB=Wp (g (ds.map some++List.replicate (n - ds.length) none) h) (MC QB):=by
 unfold Ak
 rw [AG]
 congr 1
 funext x h'
 obtain ⟨fl,ρ1⟩:=x
 cases fl<;>rfl
@[simp] theorem ZcY:Wp (Bs ρ h) Q=Q (.nx,ρ) h:=rfl
@[simp] theorem ZcZ:Wp (Cb f ρ h) Q=Wp (f ρ h) fun _ h1=>Q (.nx,ρ) h1:=by unfold Cb;rw [AG];rfl
@[simp] theorem MD:Wp (Av f ρ h) Q=Wp (f ρ h) fun d h1=>Q (.rt d,ρ) h1:=by unfold Av;rw [AG];rfl
@[simp] theorem Qu {i:Nat}:Wp (AH i f ρ h) Q=Wp (f ρ h) fun d h1=>Q (.nx,ρ.set i (some d)) h1:=by unfold AH;rw [AG];rfl
@[simp] theorem WI:Wp (Bp t g1 g2 ρ h) Q=Wp (t ρ h) fun b h1=>Wp (if b=true then g1 ρ h1 else g2 ρ h1) Q:=by unfold Bp;rw [AG]
@[simp] theorem Zc0 {i j:Nat} {fa:MA}:Wp (Ep i j fa ρ h) Q=Wp (fa ρ h) fun ds h1=>Wp (Qq i j ρ ds h1) Q:=by unfold Ep;rw [AG];rfl
@[simp] theorem Zc1 {sg:MG}:Wp (Gd sg f ρ h) Q=Wp (f ρ h) fun d h1=>Wp (Qr (sg d ρ) h1) Q:=by unfold Gd;rw [AG];rfl
@[simp] theorem Zc2 {fo fi fv:ME}:Wp (K6 fo fi fv ρ h) Q=Wp (fv ρ h) fun v h1=>Wp (fo ρ h1) fun o h2=>Wp (fi ρ h2) fun i h3=>Wp (GM o i v h3 (.ok (.nx,ρ) h3)) Q:=by
  unfold K6;simp only [AG]
end
section
variable {ρ:Ai} {h:HD} {Q:D→HD→Prop} {QB:Bool→HD→Prop} {QA:List D→HD→Prop} {f g k:ME} {t u:MT} {fa:MA} {op op':D→D→HD→Out D} {F:List D→HD→Out D}
@[simp] theorem E9 {d:D} {r:Ai}:Wp (Aa 0 (some d::r) h) Q=Q d h:=rfl
@[simp] theorem Fb {i:Nat} {x:Option D} {r:Ai}:Wp (Aa (i+1) (x::r) h) Q=Wp (Aa i r h) Q:=rfl
@[simp] theorem WJ {d:D}:Wp (mC d ρ h) Q=Q d h:=rfl
@[simp] theorem K8:Wp (Ah op f g ρ h) Q=Wp (f ρ h) fun x h1=>Wp (g ρ h1) fun y h2=>Wp (op x y h2) Q:=by unfold Ah;simp only [AG]
@[simp] theorem Ew:Wp (Ag F fa ρ h) Q=Wp (fa ρ h) fun ds h1=>Wp (F ds h1) Q:=by unfold Ag;rw [AG]
@[simp] theorem DL:Wp (Ae ρ h) QA=QA [] h:=rfl
@[simp] theorem Du:Wp (Ab f fa ρ h) QA=Wp (f ρ h) fun x h1=>Wp (fa ρ h1) fun xs h2=>QA (x::xs) h2:=by unfold Ab;simp only [AG];rfl
@[simp] theorem Zc3:Wp (BM fa ρ h) Q=Wp (fa ρ h) fun xs h1=>Wp (if xs.length≤sizeLine then .ok (.tup xs) h1 else .stuck) Q:=by unfold BM;simp only [AG]
@[simp] theorem Zc4:Wp (CN fa ρ h) Q=Wp (fa ρ h) fun xs h1=>Wp (CF xs h1) Q:=by unfold CN;simp only [AG]
@[simp] theorem Qv:Wp (A7 f ρ h) QB=Wp (f ρ h) fun x h1=>Wp (Jr x h1) QB:=by unfold A7;rw [AG]
@[simp] theorem Zc5:Wp (B2 f ρ h) QB=Wp (f ρ h) fun x h1=>Wp (E1 x h1) QB:=by unfold B2;rw [AG]
@[simp] theorem Zc6:Wp (Ca t ρ h) QB=Wp (t ρ h) fun b h1=>QB (!b) h1:=by unfold Ca;rw [AG];rfl
@[simp] theorem Zc7:Wp (KU t u ρ h) QB=Wp (t ρ h) fun b h1=>Wp (if b=true then u ρ h1 else .ok false h1) QB:=by unfold KU;rw [AG]
@[simp] theorem Zc8:Wp (B3 t u ρ h) QB=Wp (t ρ h) fun b h1=>Wp (if b=true then .ok true h1 else u ρ h1) QB:=by unfold B3;rw [AG]
@[simp] theorem Zc9:Wp (E2 f g ρ h) Q=Wp (f ρ h) fun x h1=>Wp (K7 (g ρ) x h1) Q:=by unfold E2;rw [AG];rfl
@[simp] theorem Zda:Wp (Js f g ρ h) Q=Wp (f ρ h) fun x h1=>Wp (Mz (g ρ) x h1) Q:=by unfold Js;rw [AG];rfl
@[simp] theorem Zdb:Wp (Jt f ρ h) Q=Wp (f ρ h) fun x h1=>Wp (Qs x h1) Q:=by unfold Jt;rw [AG];rfl
@[simp] theorem Zdc:Wp (My f ρ h) Q=Wp (f ρ h) fun x h1=>Wp (Qt x h1) Q:=by unfold My;rw [AG];rfl
@[simp] theorem Zdd:Wp (Ju t f g ρ h) Q=Wp (t ρ h) fun b h1=>Wp (if b=true then f ρ h1 else g ρ h1) Q:=by unfold Ju;rw [AG]
@[simp] theorem Zde:Wp (F8 op op' f g k ρ h) Q=Wp (f ρ h) fun x h1=>Wp (g ρ h1) fun y h2=>Wp (op x y h2) fun z h3=>Wp (K7 (fun h=>(k ρ h).bind fun w h4=>op' y w h4) z h3) Q:=by unfold F8;simp only [AG];rfl
@[simp] theorem Zdf:Wp (Qp f ρ h) Q=Wp (f ρ h) fun x h1=>Wp (Mx x h1) Q:=by unfold Qp;rw [AG]
@[simp] theorem Zdg:Wp (Gg f g ρ h) Q=Wp (f ρ h) fun x h1=>Wp (II x h1) fun x h1=>Wp (g ρ h1) fun y h2=>Wp (IH x y h2) Q:=by unfold Gg;simp only [AG]
@[simp] theorem Zdh:Wp (Bc ρ h) QB=QB true h:=rfl
theorem B7 {xs:List D} (hn:xs.length≤sizeLine) (q:∀l h',Sm h h'→h'[l]?=some (.lst xs)→l=h.length→h'=h++[.lst xs]→Q (.loc l) h'):Wp (CF xs h) Q:=by
 unfold CF
 rw [if_pos hn]
 exact q h.length _ (.app _ _) (by simp) rfl rfl
end
section
variable {ρ:Ai} {h:HD} {QI:(List D×Bk)→HD→Prop} {f:ME} {fa:MA}
@[simp] theorem WK:Wp (By f ρ h) QI=Wp (f ρ h) fun d h1=>Wp (Ge d h1) QI:=by unfold By;rw [AG]
@[simp] theorem Zdi:Wp (Dg fa ρ h) QI=Wp (fa ρ h) fun d h1=>Wp (IB d h1) QI:=by unfold Dg;rw [AG]
@[simp] theorem Zdj:Wp (FN fa ρ h) QI=Wp (fa ρ h) fun d h1=>Wp (IC d h1) QI:=by unfold FN;rw [AG]
@[simp] theorem Zdk:Wp (Qo fa ρ h) QI=Wp (fa ρ h) fun d h1=>Wp (Qn d h1) QI:=by unfold Qo;rw [AG]
theorem Gh {n:Nat} (hn:n≤1000):IB [.int (n:Int)] h=.ok ((List.range n).map fun k=>D.int ((k:Nat):Int),[]) h:=by
 have:(-(2^62):Int)≤(n:Int)∧(n:Int)<2^62:=by omega
 unfold IB
 simp only
 rw [if_pos this]
 simp [Gf]
end
theorem Qw {α:Type} {src:Bk} {items:List D} {sg:MG} {t:MT} {f:ME} {ρc:Ai} (φ:α→D) (g:α→Bool) (e:α→D) (ρ1:α→Ai):
 ∀(xs:List α) (h:HD),(∀h',Sm h h'→Bn src items h')→(∀x∈xs,sg (φ x) ρc=some (ρ1 x))→(∀x∈xs,∀h',Sm h h'→Pu (t (ρ1 x) h') h' (g x))→(∀x∈xs,g x=true→∀h',Sm h h'→Pu (f (ρ1 x) h') h' (e x))→
  Pu (DJ src items sg t f ρc (xs.map φ) h) h ((xs.filter g).map e)
 |[],h,hs,_,_,_=>by
  simp only [Jh,List.filter_nil,DJ]
  rw [if_pos (hs h (.refl _))]
  exact .ok
 |x::xs,h,hs,hg,ht,hf=>by
  simp only [BV,DJ]
  rw [if_pos (hs h (.refl _)),hg x AW]
  simp only
  refine Pu.bind (ht x AW h (.refl _)).noErr fun h1 s1=>?_
  have ih:∀h2,Sm h h2→Pu (DJ src items sg t f ρc (xs.map φ) h2) h2 ((xs.filter g).map e):=fun h2 s2=>Qw φ g e ρ1 xs h2 (fun h' s'=>hs h' (s2.trans s'))
   (fun y hy=>hg y (A1 _ hy)) (fun y hy h' s'=>ht y (A1 _ hy) h' (s2.trans s')) (fun y hy gy h' s'=>hf y (A1 _ hy) gy h' (s2.trans s'))
  cases hgx:g x with
  |false=>
   rw [if_neg Bu,LZ (by simp [hgx])]
   exact ih h1 s1
  |true=>
   rw [if_pos rfl,L0 hgx]
   refine Pu.bind (hf x AW hgx h1 s1).noErr fun h2 s2=>?_
   exact Pu.bind (ih h2 (s1.trans s2)) fun h3 _=>.ok
theorem Cg {α:Type} {xs:List α}:xs.filter (fun _=>true)=xs:=List.filter_eq_self.mpr fun _ _=>rfl
section
variable {α:Type} {cs:List (Option Nat)} {it:MI} {sg:MG} {t:MT} {f:ME} {ρ:Ai} {h:HD} {src:Bk} {xs:List α} {φ:α→D}
theorem DM {Q:D→HD→Prop} (g:α→Bool) (e:α→D) (ρ1:α→Ai) (hi:Wp (it ρ h) fun x h'=>x=(xs.map φ,src)∧Sm h h'∧∀h2,Sm h' h2→Bn src (xs.map φ) h2) (hn:xs.length≤sizeLine)
 (hg:∀x∈xs,sg (φ x) (B6 cs ρ)=some (ρ1 x)) (ht:∀x∈xs,∀h',Sm h h'→Pu (t (ρ1 x) h') h' (g x)) (hf:∀x∈xs,g x=true→∀h',Sm h h'→Pu (f (ρ1 x) h') h' (e x))
 (q:∀l h',Sm h h'→h'[l]?=some (.lst ((xs.filter g).map e))→Q (.loc l) h'):Wp (A3 cs it sg t f ρ h) Q:=by
 unfold A3
 rw [AG]
 refine Wp.mono hi fun x h1 z4_=>?_
 obtain ⟨ex,s1,hs⟩:=z4_
 subst ex
 rw [if_pos (by simpa using hn),AG]
 refine (Qw φ g e ρ1 xs h1 hs hg (fun x hx h' s'=>ht x hx h' (s1.trans s')) (fun x hx gx h' s'=>hf x hx gx h' (s1.trans s'))).wp fun h2 s2=>?_
 refine B7 ?_ fun l h3 s3 e3 _ _=>q l h3 ((s1.trans s2).trans s3) e3
 rw [D0]
 exact B8 (Jc _ _) hn
theorem MF (g:α→Bool) (e:α→D) (ρ1:α→Ai) (hi:Wp (it ρ h) fun x h'=>x=(xs.map φ,src)∧Sm h h'∧∀h2,Sm h' h2→Bn src (xs.map φ) h2) (hn:xs.length≤sizeLine)
 (hg:∀x∈xs,sg (φ x) (B6 cs ρ)=some (ρ1 x)) (ht:∀x∈xs,∀h',Sm h h'→Pu (t (ρ1 x) h') h' (g x)) (hf:∀x∈xs,g x=true→∀h',Sm h h'→Pu (f (ρ1 x) h') h' (e x)):
 Pu (Ag (Am BN) (Ab (A3 cs it sg t f) Ae) ρ h) h (.tup ((xs.filter g).map e)):=by
 unfold Pu
 rw [Ew,Du]
 refine DM g e ρ1 hi hn hg ht hf fun l h' s' e'=>?_
 rw [DL]
 simp only [Am,BN,e']
 exact ⟨rfl,s'⟩
theorem WL (e:α→D) (ρ1:α→Ai) (hi:Wp (it ρ h) fun x h'=>x=(xs.map φ,src)∧Sm h h'∧∀h2,Sm h' h2→Bn src (xs.map φ) h2) (hn:xs.length≤sizeLine)
 (hg:∀x∈xs,sg (φ x) (B6 cs ρ)=some (ρ1 x)) (hf:∀x∈xs,∀h',Sm h h'→Pu (f (ρ1 x) h') h' (e x)):
 Pu (Ag (Am BN) (Ab (A3 cs it sg Bc f) Ae) ρ h) h (.tup (xs.map e)):=by
 have:=MF (t:=Bc) (f:=f) (fun _=>true) e ρ1 hi hn hg (fun x hx h' s'=>(.ok:Pu (.ok true h') h' true)) (fun x hx _ h' s'=>hf x hx h' s')
 rw [Cg] at this
 exact this
theorem FS {β γ:Type} {f:β→Option γ} {g:β→γ}:∀{xs:List β},(∀x∈xs,f x=some (g x))→Bd (xs.map f)=some (xs.map g)
 |[],_=>rfl
 |x::xs,hf=>by
  simp only [BV,hf x AW,Bd,FS (fun y hy=>hf y (A1 _ hy)),Ii]
theorem WM (b:α→Bool) (ρ1:α→Ai) (hi:Wp (it ρ h) fun x h'=>x=(xs.map φ,src)∧Sm h h'∧∀h2,Sm h' h2→Bn src (xs.map φ) h2) (hn:xs.length≤sizeLine)
 (hg:∀x∈xs,sg (φ x) (B6 cs ρ)=some (ρ1 x)) (hf:∀x∈xs,∀h',Sm h h'→Pu (f (ρ1 x) h') h' (.bl (b x))):
 Pu (Ag (Am Es) (Ab (A3 cs it sg Bc f) Ae) ρ h) h (.bl (xs.all b)):=by
 unfold Pu
 rw [Ew,Du]
 refine DM (fun _=>true) (fun x=>.bl (b x)) ρ1 hi hn hg (fun x hx h' s'=>(.ok:Pu (.ok true h') h' true)) (fun x hx _ h' s'=>hf x hx h' s') fun l h' s' e'=>?_
 rw [DL]
 rw [Cg] at e'
 simp only [Am,Es,e',CC]
 rw [FS (f:=GL∘fun x=>D.bl (b x)) (g:=b) (fun x _=>rfl)]
 refine ⟨?_,s'⟩
 simp [List.all_map]
end
def Ci (I:Ai→HD→Prop) (Q:Fl×Ai→HD→Prop):Fl×Ai→HD→Prop
 |(.nx,ρ),h=>I ρ h
 |(.ct,ρ),h=>I ρ h
 |(.bk,ρ),h=>Q (.nx,ρ) h
 |(.rt d,ρ),h=>Q (.rt d,ρ) h
theorem MH {α:Type} {src:Bk} {items:List D} {sg:MG} {body:MS} {Q:Fl×Ai→HD→Prop} (φ:α→D) (I:List α→Ai→HD→Prop) (ho:∀xs ρ h,I xs ρ h→Bn src items h)
 (step:∀x xs ρ h,I (x::xs) ρ h→∃ρ1,sg (φ x) ρ=some ρ1∧Wp (body ρ1 h) (Ci (I xs) Q)) (done:∀ρ h,I [] ρ h→Q (.nx,ρ) h):∀(xs:List α) (ρ:Ai) (h:HD),I xs ρ h→Wp (E7 src items sg body (xs.map φ) ρ h) Q
 |[],ρ,h,i=>by
  simp only [Jh,E7]
  rw [if_pos (ho _ _ _ i)]
  exact done ρ h i
 |x::xs,ρ,h,i=>by
  simp only [BV,E7]
  rw [if_pos (ho _ _ _ i)]
  obtain ⟨ρ1,e,w⟩:=step x xs ρ h i
  rw [e]
  simp only
  rw [AG]
  refine Wp.mono w fun y h' k=>?_
  obtain ⟨fl,ρ2⟩:=y
  cases fl with
  |nx=>exact MH φ I ho step done xs ρ2 h' k
  |ct=>exact MH φ I ho step done xs ρ2 h' k
  |bk=>exact k
  |rt d=>exact k
theorem DN {α:Type} {src:Bk} {it:MI} {sg:MG} {body:MS} {Q:Fl×Ai→HD→Prop} {ρ:Ai} {h:HD} {xs:List α} (φ:α→D) (I:List α→Ai→HD→Prop) (hi:Wp (it ρ h) fun x h'=>x=(xs.map φ,src)∧I xs ρ h') (ho:∀ys ρ h,I ys ρ h→Bn src (xs.map φ) h)
 (step:∀x xs ρ h,I (x::xs) ρ h→∃ρ1,sg (φ x) ρ=some ρ1∧Wp (body ρ1 h) (Ci (I xs) Q)) (done:∀ρ h,I [] ρ h→Q (.nx,ρ) h):Wp (Cq it sg body ρ h) Q:=by
 unfold Cq
 rw [AG]
 refine Wp.mono hi fun x h1 z5_=>?_
 obtain ⟨e,i⟩:=z5_
 subst e
 exact MH φ I ho step done xs ρ h1 i
theorem WN {α β:Type} {f:α→Option β} {ys:List β}:∀{xs:List α},Bd (xs.map f)=some ys→∀{g:α→Option β},(∀x∈xs,∀y,f x=some y→g x=some y)→Bd (xs.map g)=some ys:=by
 intro xs
 induction xs generalizing ys with
 |nil=>intro e g _;exact e
 |cons x xs ih=>
  intro e g hg
  simp only [BV] at e ⊢
  cases hx:f x with
  |none=>rw [hx] at e;simp [Bd] at e
  |some y=>
   rw [hx] at e
   rw [hg x AW y hx]
   simp only [Bd] at e ⊢
   cases hr:Bd (xs.map f) with
   |none=>rw [hr] at e;cases e
   |some zs=>rw [hr] at e;rw [ih hr (fun z hz=>hg z (A1 _ hz))];exact e
theorem K9 {h:HD}:∀{n:Nat} {d:D} {p:PyData},A0 [] n d=some p→A0 h n d=some p
 |n,.non,p,e=>by simpa [A0] using e
 |n,.bl _,p,e=>by simpa [A0] using e
 |n,.int _,p,e=>by simpa [A0] using e
 |n,.str _,p,e=>by simpa [A0] using e
 |n+1,.tup ds,p,e=>by
  simp only [A0] at e ⊢
  cases hr:Bd (ds.map (A0 [] n)) with
  |none=>rw [hr] at e;cases e
  |some zs=>rw [hr] at e;rw [WN hr (fun x _ y hy=>K9 hy)];exact e
 |0,.tup ds,p,e=>by simp [A0] at e
 |n+1,.loc l,p,e=>by simp [A0] at e
 |0,.loc l,p,e=>by simp [A0] at e
 |n,.scr _,p,e=>by cases n<;>simp [A0] at e
 |n,.adr _,p,e=>by cases n<;>simp [A0] at e
 |n,.ty _,p,e=>by cases n<;>simp [A0] at e
 |n,.exc _ _,p,e=>by cases n<;>simp [A0] at e
 |n,.edic,p,e=>by cases n<;>simp [A0] at e
 |n,.glo _,p,e=>by cases n<;>simp [A0] at e
 |n,.clo _ _ _,p,e=>by cases n<;>simp [A0] at e
def Py (d:D) (p:PyData):Prop:=A0 [] 8 d=some p∧SeqAt.shaped p=true
theorem WO {x y:D} {p q:PyData} {h:HD} (hx:Py x p) (hy:Py y q):Ds x y h=.ok (.bl (!PyData.eqv p q)) h:=by
 simp only [Ds,Gb,K9 hx.1,K9 hy.1]
 rw [if_pos ⟨hx.2,hy.2⟩]
theorem WQ {x:D} {p:PyData} {h:HD} (hx:Py x p):Ds x x h=.ok (.bl false) h:=by
 rw [WO hx hx,SeqAt.eqv_refl p (SeqAt.canLay_of_shaped hx.2)];rfl
@[simp] theorem sz0:(0≤sizeLine)=True:=eq_true (FD _)
@[simp] theorem sz1:(1≤sizeLine)=True:=eq_true (by unfold sizeLine;omega)
@[simp] theorem sz2:(2≤sizeLine)=True:=eq_true (by unfold sizeLine;omega)
@[simp] theorem JJ:(3≤sizeLine)=True:=eq_true (by unfold sizeLine;omega)
@[simp] theorem sz4:(4≤sizeLine)=True:=eq_true (by unfold sizeLine;omega)
@[simp] theorem sz5:(5≤sizeLine)=True:=eq_true (by unfold sizeLine;omega)
section
variable {h:HD} {a b c:D} {ds es:List D} {i j:Int} {F1:D→HD→Out D} {F2:D→D→HD→Out D} {F3:D→D→D→HD→Out D}
@[simp] theorem JK:Am F1 [a] h=F1 a h:=rfl
@[simp] theorem WR:BY F2 [a,b] h=F2 a b h:=rfl
@[simp] theorem Zdl:V4 F3 [a,b,c] h=F3 a b c h:=rfl
@[simp] theorem Zdm {b:Bool}:Jr (.bl b) h=.ok b h:=rfl
@[simp] theorem Zdn {b:Bool}:E1 (.bl b) h=.ok b h:=rfl
@[simp] theorem Zdo:E1 .non h=.ok false h:=rfl
@[simp] theorem Zdp:E1 (.int i) h=.ok (i != 0) h:=rfl
@[simp] theorem Zdq:E1 (.tup ds) h=.ok (!ds.isEmpty) h:=rfl
@[simp] theorem Zdr:BA (.int i) (.ty "int") h=.ok (.bl true) h:=rfl
@[simp] theorem Zds:BA (.int i) (.ty "bool") h=.ok (.bl false) h:=rfl
@[simp] theorem Zdt:BA (.int i) (.ty "tuple") h=.ok (.bl false) h:=rfl
@[simp] theorem Zdu:BA (.tup ds) (.ty "tuple") h=.ok (.bl true) h:=rfl
@[simp] theorem Zdv:BA (.tup ds) (.ty "int") h=.ok (.bl false) h:=rfl
@[simp] theorem WS:Bf (.int i) (.int j) h=.ok (.int (i+j)) h:=rfl
@[simp] theorem Qx {f:Int→Int→D}:F9 f (.int i) (.int j) h=.ok (f i j) h:=rfl
@[simp] theorem Zdw {b c:Bool}:V5 (.bl b) (.bl c) h=.ok (.bl (b==c)) h:=rfl
@[simp] theorem Zdx {b c:Bool}:V6 (.bl b) (.bl c) h=.ok (.bl (!(b==c))) h:=rfl
@[simp] theorem Zdy:A9 (.tup ds) h=.ok (.int ds.length) h:=rfl
@[simp] theorem Zdz {ns:List Int}:A9 (.scr ns) h=.ok (.int ns.length) h:=by simp [A9,BE]
@[simp] theorem WT:Ge (.tup ds) h=.ok (ds,[]) h:=rfl
@[simp] theorem ZdA:BN (.tup ds) h=.ok (.tup ds) h:=rfl
@[simp] theorem ZdB:Mx (.tup [a,b]) h=.ok (.tup [b,a]) h:=rfl
@[simp] theorem ZdC:JA (.int i) (.int j) h=.ok (.int (if j>i then j else i)) h:=rfl
@[simp] theorem WU:GI (.int i) (.int j) h=.ok (.int (if j<i then j else i)) h:=rfl
@[simp] theorem WV {b:Bool}:JB (.bl b) h=.ok (.int (if b then 1 else 0)) h:=rfl
@[simp] theorem ZdD:JB (.int i) h=.ok (.int i) h:=rfl
@[simp] theorem ZdE {ρ:Ai} {k:Nat}:Bb k a ρ=some (ρ.set k (some a)):=rfl
@[simp] theorem ZdF {ρ:Ai} {k l:Nat}:BQ k l (.tup [a,b]) ρ=some ((ρ.set k (some a)).set l (some b)):=rfl
@[simp] theorem ZdG {b c:Bool}:Jx (.bl b) (.bl c) h=.ok (.bl (b==c)) h:=rfl
@[simp] theorem ZdH {b c:Bool}:Ds (.bl b) (.bl c) h=.ok (.bl (!(b==c))) h:=rfl
@[simp] theorem ZdI:Jx (.int i) (.int j) h=.ok (.bl (i==j)) h:=rfl
@[simp] theorem ZdJ:Ds (.int i) (.int j) h=.ok (.bl (!(i==j))) h:=rfl
theorem Qy {l:Nat} (e:h[l]?=some (.lst ds)):BN (.loc l) h=.ok (.tup ds) h:=by simp only [BN,e]
theorem La {l:Nat} (e:h[l]?=some (.lst ds)):II (.loc l) h=.ok (.loc l) h:=by simp only [II,e]
theorem Lb {l:Nat} (e:h[l]?=some (.lst ds)) (hn:ds.length<sizeLine):IH (.loc l) a h=.ok .non (h.set l (.lst (ds++[a]))):=by simp only [IH,e];rw [if_pos hn]
theorem ix_tup {k:Nat} (e:ds[k]?=some a):Ax (.tup ds) (.int (k:Nat)) h=.ok a h:=by
 have hk:k<ds.length:=(qa5.mp e).1
 have e1:Dq ds ((k:Nat):Int)=some a:=by
  unfold Dq D8
  rw [if_pos (by omega),if_pos (by omega)]
  simpa using e
 simp only [Ax,BE,e1]
theorem IJ {n k:Nat} {e:Nat→D} (hk:k<n):Ax (.tup ((List.range n).map e)) (.int (k:Nat)) h=.ok (e k) h:=ix_tup (by simp [Ks,hk])
theorem MK {n:Nat} {e:Nat→D} (hk:0<n):Ax (.tup ((List.range n).map e)) (.int 0) h=.ok (e 0) h:=IJ (k:=0) hk
@[simp] theorem ZdK:Ax (.tup [a,b]) (.int 0) h=.ok a h:=rfl
@[simp] theorem ZdL:Ax (.tup [a,b]) (.int 1) h=.ok b h:=rfl
theorem WW {ns:List Int} {k:Nat} (e:ns[k]?=some i):Ax (.scr ns) (.int (k:Nat)) h=.ok (.int i) h:=by
 have hk:k<ns.length:=(qa5.mp e).1
 have e1:Dq (ns.map D.int) ((k:Nat):Int)=some (.int i):=by
  unfold Dq D8
  rw [if_pos (by omega),if_pos (by simpa using hk)]
  simp [e]
 simp only [Ax,BE,e1]
theorem GN {l k:Nat} (el:h[l]?=some (.lst ds)) (e:ds[k]?=some a):Ax (.loc l) (.int (k:Nat)) h=.ok a h:=by
 have hk:k<ds.length:=(qa5.mp e).1
 have e1:Dq ds ((k:Nat):Int)=some a:=by
  unfold Dq D8
  rw [if_pos (by omega),if_pos (by omega)]
  simpa using e
 simp only [Ax,BE,el,e1]
theorem Qz {l k:Nat} {ρ:Ai} (el:h[l]?=some (.lst ds)) (hk:k<ds.length):GM (.loc l) (.int (k:Nat)) a h (.ok (.nx,ρ) h)=.ok (.nx,ρ) (h.set l (.lst (ds.set k a))):=by
 have:D8 ds.length ((k:Nat):Int)=some k:=by
  unfold D8
  rw [if_pos (by omega),if_pos (by omega)]
  simp
 simp only [GM,el,this]
theorem QC {neg:Bool} {k:Nat} {ks:List Nat}:DF neg (.int (k:Nat)) (.tup (ks.map fun i=>.int ((i:Nat):Int))) h=.ok (.bl (if neg then !ks.contains k else ks.contains k)) h:=by
 have e:Bd ((ks.map fun i=>D.int ((i:Nat):Int)).map DE)=some (ks.map fun i=>V.int ((i:Nat):Int)):=by
  rw [CC]
  exact FS (f:=DE∘fun i=>D.int ((i:Nat):Int)) (fun x _=>rfl)
 have e2:Io (V.int ((k:Nat):Int)) (ks.map fun i=>V.int ((i:Nat):Int))=ks.contains k:=by
  unfold Io
  rw [List.any_map,List.contains_eq_any_beq]
  congr 1
  funext i
  change (((i:Nat):Int)==((k:Nat):Int))=_
  rw [qb1]
  simp
  omega
 simp only [DF,BE,e,DE,e2]
end
noncomputable def JL (cs:List (Option Nat)) (it:MI) (sg:MG) (t:MT) (f:ME):ME:=Ag (Am BN) (Ab (A3 cs it sg t f) Ae)
noncomputable def QE (cs:List (Option Nat)) (it:MI) (sg:MG) (t:MT) (f:ME):ME:=Ag (Am Es) (Ab (A3 cs it sg t f) Ae)
section
variable {α:Type} {cs:List (Option Nat)} {it:MI} {sg:MG} {t:MT} {f:ME} {ρ:Ai} {h:HD} {src:Bk} {xs:List α} {φ:α→D}
@[simp] theorem ZdM:Ag (Am BN) (Ab (A3 cs it sg t f) Ae) ρ h=JL cs it sg t f ρ h:=rfl
@[simp] theorem ZdN:Ag (Am Es) (Ab (A3 cs it sg t f) Ae) ρ h=QE cs it sg t f ρ h:=rfl
def BB (o:Out (List D×Bk)) (h:HD) (ds:List D) (src:Bk):Prop:=Wp o fun x h'=>x=(ds,src)∧Sm h h'∧∀h2,Sm h' h2→Bn src ds h2
theorem WX (g:α→Bool) (e:α→D) (ρ1:α→Ai) (hi:BB (it ρ h) h (xs.map φ) src) (hg:∀x∈xs,sg (φ x) (B6 cs ρ)=some (ρ1 x)) (ht:∀x∈xs,∀h',Sm h h'→Pu (t (ρ1 x) h') h' (g x)) (hf:∀x∈xs,g x=true→∀h',Sm h h'→Pu (f (ρ1 x) h') h' (e x)) (hn:xs.length≤sizeLine):
 Pu (JL cs it sg t f ρ h) h (.tup ((xs.filter g).map e)):=MF g e ρ1 hi hn hg ht hf
theorem GO (e:α→D) (ρ1:α→Ai) (hi:BB (it ρ h) h (xs.map φ) src) (hg:∀x∈xs,sg (φ x) (B6 cs ρ)=some (ρ1 x)) (hf:∀x∈xs,∀h',Sm h h'→Pu (f (ρ1 x) h') h' (e x)) (hn:xs.length≤sizeLine):
 Pu (JL cs it sg Bc f ρ h) h (.tup (xs.map e)):=WL e ρ1 hi hn hg hf
theorem ML (b:α→Bool) (ρ1:α→Ai) (hi:BB (it ρ h) h (xs.map φ) src) (hg:∀x∈xs,sg (φ x) (B6 cs ρ)=some (ρ1 x)) (hf:∀x∈xs,∀h',Sm h h'→Pu (f (ρ1 x) h') h' (.bl (b x))) (hn:xs.length≤sizeLine):
 Pu (QE cs it sg Bc f ρ h) h (.bl (xs.all b)):=WM b ρ1 hi hn hg hf
theorem JM {ds:List D}:BB (By (Aa 0) (some (.tup ds)::ρ) h) h ds []:=by
 simp [BB,Sm.refl,Bn]
end
theorem MN {α:Type} {xs:List α} {n:α→Int} {h:HD}:CG (.tup (xs.map fun x=>.int (n x))) h=.ok (.int (xs.map n).sum) h:=by
 simp only [CG,BE,CC]
 rw [FS (f:=FR∘fun x=>D.int (n x)) (g:=n) (fun x _=>rfl)]
section
variable {h:HD} {i j:Int}
theorem JN (h1:-18446744073709551616<j) (h2:j<18446744073709551616):DK (.int i) (.int j) h=.ok (.int (i*j)) h:=by
 have:CMl i j:=.inl (.inr ⟨by omega,by omega⟩)
 simp only [DK];rw [if_pos this]
theorem Gi (h1:-18446744073709551616<i) (h2:i<18446744073709551616):DK (.int i) (.int j) h=.ok (.int (i*j)) h:=by
 have:CMl i j:=.inl (.inl ⟨by omega,by omega⟩)
 simp only [DK];rw [if_pos this]
theorem WY (h1:Builtin.Int.intBits i≤16777216) (h2:Builtin.Int.intBits j≤16777216):DK (.int i) (.int j) h=.ok (.int (i*j)) h:=by
 have:CMl i j:=.inr ⟨h1,h2⟩
 simp only [DK];rw [if_pos this]
theorem IK (h1:0<j):E4 (.int i) (.int j) h=.ok (.int (i % j)) h:=by
 simp only [E4,intD];rw [if_pos h1]
theorem Lc (h1:0<j) (h2:j<18446744073709551616):GH (.int i) (.int j) h=.ok (.int (i / j)) h:=by
 have:CDv i j:=⟨h1,h2⟩
 simp only [GH,intD];rw [if_pos this]
theorem WZ (h1:0<j) (h2:j<18446744073709551616):Jz (.int i) (.int j) h=.ok (.tup [.int (i / j),.int (i % j)]) h:=by
 have:CDv i j:=⟨h1,h2⟩
 simp only [Jz];rw [if_pos this]
end
theorem QF {α:Type} {o:Out α} {Q:α→HD→Prop}:Wp (noErr o) Q=Wp o Q:=by cases o<;>rfl
theorem QG {src:Bk} {items:List D} {sg:MG} {t:MT} {f:ME} {ρc:Ai} (φ:Nat→D) (I:HD→Prop) (T:Nat→Bool→Prop) (R:Nat→D→Prop) (ρ1:Nat→Ai) (hs:∀h,I h→Bn src items h):
 ∀(xs:List Nat) (h:HD),xs.Nodup→I h→(∀x∈xs,sg (φ x) ρc=some (ρ1 x))→(∀x∈xs,∀h,I h→Wp (t (ρ1 x) h) fun b h1=>T x b∧if b=true then Wp (f (ρ1 x) h1) (fun y h2=>I h2∧R x y) else I h1)→
  Wp (DJ src items sg t f ρc (xs.map φ) h) fun ys h'=>I h'∧∃(g:Nat→Bool) (e:Nat→D),ys=(xs.filter g).map e∧(∀x∈xs,g x=true→R x (e x))∧∀x∈xs,T x (g x)
 |[],h,_,i,_,_=>by
  simp only [Jh,DJ]
  rw [if_pos (hs h i)]
  exact ⟨i,fun _=>true,fun _=>.non,rfl,by simp,by simp⟩
 |x::xs,h,hd,i,hg,ht=>by
  simp only [BV,DJ]
  rw [if_pos (hs h i),hg x AW]
  simp only
  rw [AG,QF]
  rw [qbE] at hd
  refine Wp.mono (ht x AW h i) fun b h1 z1_=>?_
  obtain ⟨tb,w⟩:=z1_
  have ih:∀h2,I h2→_:=fun h2 i2=>QG φ I T R ρ1 hs xs h2 hd.2 i2 (fun y hy=>hg y (A1 _ hy)) (fun y hy=>ht y (A1 _ hy))
  cases b with
  |false=>
   rw [if_neg Bu] at w ⊢
   refine Wp.mono (ih h1 w) ?_
   rintro ys h' ⟨i',g,e,ey,hr,tr⟩
   refine ⟨i',fun y=>if y=x then false else g y,e,?_,?_,?_⟩
   ·rw [LZ (by simp),ey]
    congr 1
    refine List.filter_congr fun y hy=>?_
    rw [if_neg]
    intro z;subst z;exact hd.1 hy
   ·intro y hy gy
    rcases qa7.mp hy with z |z
    ·subst z;simp at gy
    ·refine hr y z ?_
     by_cases hz:y=x
     ·subst hz;exact absurd z hd.1
     ·simpa [hz] using gy
   ·intro y hy
    by_cases hz:y=x
    ·subst hz;simpa using tb
    ·simp only [if_neg hz]
     exact tr y (by rcases qa7.mp hy with z |z;exact absurd z hz;exact z)
  |true=>
   rw [if_pos rfl] at w ⊢
   rw [AG,QF]
   refine Wp.mono w fun y h2 z3_=>?_
   obtain ⟨i2,ry⟩:=z3_
   rw [AG]
   refine Wp.mono (ih h2 i2) ?_
   rintro ys h' ⟨i',g,e,ey,hr,tr⟩
   refine ⟨i',fun z=>if z=x then true else g z,fun z=>if z=x then y else e z,?_,?_,?_⟩
   ·rw [L0 (by simp),BV,if_pos rfl,ey]
    congr 1
    rw [show xs.filter (fun z=>if z=x then true else g z)=xs.filter g from List.filter_congr fun z hz=>by
     rw [if_neg]
     intro q;subst q;exact hd.1 hz]
    refine CB fun z hz=>?_
    rw [if_neg]
    intro q;subst q;exact hd.1 (qb9.mp hz).1
   ·intro z hz gz
    by_cases q:z=x
    ·subst q;simpa using ry
    ·rcases qa7.mp hz with w |w
     ·exact absurd w q
     ·simp only [if_neg q] at gz ⊢
      exact hr z w gz
   ·intro z hz
    by_cases q:z=x
    ·subst q;simpa using tb
    ·simp only [if_neg q]
     exact tr z (by rcases qa7.mp hz with w |w;exact absurd w q;exact w)
theorem QH {cs:List (Option Nat)} {it:MI} {sg:MG} {t:MT} {f:ME} {ρ:Ai} {h:HD} {src:Bk} {xs:List Nat} {Q:D→HD→Prop} (φ:Nat→D) (I:HD→Prop) (T:Nat→Bool→Prop) (R:Nat→D→Prop) (ρ1:Nat→Ai) (hi:Wp (it ρ h) fun x h'=>x=(xs.map φ,src)∧I h') (hs:∀h,I h→Bn src (xs.map φ) h)
 (hnew:∀h c,I h→I (h++[c])) (hd:xs.Nodup) (hn:xs.length≤sizeLine) (hg:∀x∈xs,sg (φ x) (B6 cs ρ)=some (ρ1 x)) (ht:∀x∈xs,∀h,I h→Wp (t (ρ1 x) h) fun b h1=>T x b∧if b=true then Wp (f (ρ1 x) h1) (fun y h2=>I h2∧R x y) else I h1)
 (q:∀h' (g:Nat→Bool) (e:Nat→D),I h'→(∀x∈xs,g x=true→R x (e x))→(∀x∈xs,T x (g x))→Q (.tup ((xs.filter g).map e)) h'):Wp (JL cs it sg t f ρ h) Q:=by
 unfold JL
 rw [Ew,Du]
 unfold A3
 rw [AG]
 refine Wp.mono hi fun x h1 z5_=>?_
 obtain ⟨ex,i1⟩:=z5_
 subst ex
 rw [if_pos (by simpa using hn),AG]
 refine Wp.mono (QG φ I T R ρ1 hs xs h1 hd i1 hg ht) fun ys h2 z6_=>?_
 obtain ⟨i2,g,e,ey,hr,tr⟩:=z6_
 subst ey
 refine B7 ?_ fun l h3 s3 e3 _ eh=>?_
 ·rw [D0]
  exact B8 (Jc _ _) hn
 ·rw [DL]
  simp only [Am,BN,e3]
  refine q h3 g e ?_ hr tr
  rw [eh]
  exact hnew _ _ i2
theorem MP {α:Type} {g:α→PyData}:∀{xs:List α},(∀x∈xs,(g x).canLay0=true)→PyData.canLayAll0 (xs.map g)=true
 |[],_=>rfl
 |x::xs,hx=>by
  rw [BV,PyData.canLayAll0,hx x AW,MP fun y hy=>hx y (A1 _ hy)];rfl
theorem MQ {α:Type} {g:α→PyData} {n:Nat}:∀{xs:List α},(∀x∈xs,(g x).depth≤n)→PyData.depthAll (xs.map g)≤n
 |[],_=>FD _
 |x::xs,hx=>by
  rw [BV,PyData.depthAll]
  exact Nat.max_le.mpr ⟨hx x AW,MQ fun y hy=>hx y (A1 _ hy)⟩
structure PyN (n:Nat) (d:D) (p:PyData):Prop where
 rd:∀k,n≤k→A0 [] k d=some p
 ly:p.canLay0=true
 dp:p.depth≤n
theorem PyN.py {n:Nat} {d:D} {p:PyData} (h:PyN n d p) (hn:n≤8):Py d p:=⟨h.rd 8 hn,by
 unfold SeqAt.shaped
 rw [h.ly]
 have:=h.dp
 simp
 omega⟩
theorem Ld {i:Int}:PyN 0 (.int i) (.int i):=⟨fun k _=>by cases k<;>rfl,rfl,AV _⟩
theorem QJ {α:Type} {n:Nat} {xs:List α} {e:α→D} {g:α→PyData} (hx:∀x∈xs,PyN n (e x) (g x)):PyN (n+1) (.tup (xs.map e)) (.tuple (xs.map g)):=by
 refine ⟨fun k hk=>?_,?_,?_⟩
 ·obtain ⟨k,rfl⟩:∃m,k=m+1:=⟨k - 1,by omega⟩
  simp only [A0,CC]
  rw [FS (f:=A0 [] k∘e) (g:=g) (fun x h=>(hx x h).rd k (by omega))]
  rfl
 ·rw [PyData.canLay0];exact MP fun x h=>(hx x h).ly
 ·rw [PyData.depth]
  exact Nat.succ_le_succ (MQ fun x h=>(hx x h).dp)
theorem W0 {n:Nat} {a b:D} {p q:PyData} (ha:PyN n a p) (hb:PyN n b q):PyN (n+1) (.tup [a,b]) (.tuple [p,q]):=
 QJ (xs:=[(a,p),(b,q)]) (e:=Prod.fst) (g:=Prod.snd) (fun x hx=>by
  simp at hx
  rcases hx with rfl |rfl
  ·exact ha
  ·exact hb)
def KD {α:Type}:Sem α→Prop
 |.pure _=>True
 |.raise _=>True
 |.unsupported _=>True
 |.finish _=>True
 |.rule _ k=>KD (k ())
 |.at _ k=>KD (k ())
 |.load _ _ k=>∀o,KD (k o)
 |.update _ _ f k=>(∀o,(f o).dict=o.dict∧(o.isFreed=false→(f o).isFreed=false))∧KD (k ())
 |.loadIfAlive _ k=>∀o,KD (k o)
 |.point _ k=>KD (k ())
 |.register _ _=>True
 |.alloc _ k=>∀a,KD (k a)
 |.fresh k=>∀a,KD (k a)
 |.ask k=>∀a,KD (k a)
 |.choose _ _ k=>∀a,KD (k a)
 |.os _ _ k=>∀a,KD (k a)
 |.call ..=>False
 |.handled _ k=>∀a,KD (k a)
 |.genState _ k=>∀a,KD (k a)
 |.newGen _ k=>∀a,KD (k a)
 |.resume ..=>False
 |.yield ..=>True
 |.stack k=>∀a,KD (k a)
 |.fork ..=>True
 |.thread k=>∀a,KD (k a)
 |.await ..=>True
def Dicts (h h':Heap):Prop:=∀b o,h.get? b=some o→∃o',h'.get? b=some o'∧o'.dict=o.dict
theorem Dicts.refl (h:Heap):Dicts h h:=fun _ o e=>⟨o,e,rfl⟩
theorem Dicts.trans {h h1 h2:Heap} (a:Dicts h h1) (b:Dicts h1 h2):Dicts h h2:=fun c o e=>by
 obtain ⟨o1,e1,d1⟩:=a c o e
 obtain ⟨o2,e2,d2⟩:=b c o1 e1
 exact ⟨o2,e2,d2.trans d1⟩
theorem W1 {α:Type} {M:Model} {Γ:PySem.Ctx} {Q:α→Pos→Shared→Prop} {E:Value→Pos→Shared→Prop}:∀(t:Sem α) (p:Pos) (s:Shared),KD t→Sem.wp M Γ t Q E p s→Sem.wp M Γ t (fun a p s'=>Q a p s'∧Dicts s.heap s'.heap) (fun a p s'=>E a p s'∧Dicts s.heap s'.heap) p s:=by
 have lift:∀(t:Sem α) (p:Pos) (h0:Heap) (s:Shared),Dicts h0 s.heap→Sem.wp M Γ t (fun a p s'=>Q a p s'∧Dicts s.heap s'.heap) (fun a p s'=>E a p s'∧Dicts s.heap s'.heap) p s→Sem.wp M Γ t (fun a p s'=>Q a p s'∧Dicts h0 s'.heap) (fun a p s'=>E a p s'∧Dicts h0 s'.heap) p s:=
  fun t p h0 s d w=>Sem.wp_mono M Γ t (fun a p s' z=>⟨z.1,d.trans z.2⟩) (fun a p s' z=>⟨z.1,d.trans z.2⟩) p s w
 intro t
 induction t with
 |pure a=>exact fun p s _ w=>⟨w,.refl _⟩
 |raise e=>exact fun p s _ w=>⟨w,.refl _⟩
 |unsupported w=>exact fun p s _ w=>w.elim
 |finish w=>exact fun p s _ w=>w.elim
 |rule t k ih=>exact fun p s kd w=>ih () p s kd w
 |«at» t k ih=>exact fun p s kd w=>ih () t s kd w
 |load a x k ih=>exact fun p s kd ⟨o,e,w⟩=>⟨o,e,ih o p s (kd o) w⟩
 |update a x f k ih=>
  refine fun p s kd ⟨e,w⟩=>⟨e,lift _ p s.heap {s with heap:=s.heap.update a f} (fun b o eb=>?_) (ih () p _ kd.2 w)⟩
  by_cases hb:b=a
  ·subst hb
   obtain ⟨d1,d2⟩:=kd.1 o
   exact ⟨f o,L3 f eb (d2 (Heap.get?_some_iff.mp eb).2),d1⟩
  ·exact ⟨o,(L1 s.heap f (Ne.symm hb)).trans eb,rfl⟩
 |alloc o k ih=>exact fun p s kd w=>lift _ p s.heap {s with heap:=s.heap.push o} (fun b ob eb=>⟨ob,AY _ eb,rfl⟩) (ih _ p {s with heap:=s.heap.push o} (kd _) w)
 |loadIfAlive a k ih=>exact fun p s kd w=>ih _ p s (kd _) w
 |point l k ih=>exact fun p s kd w=>ih () p s kd w
 |register a k ih=>exact fun p s kd w=>w.elim
 |fresh k ih=>exact fun p s kd w=>ih _ p {s with toks:=s.toks+1} (kd _) w
 |ask k ih=>exact fun p s kd w=>ih _ p s (kd _) w
 |choose src n k ih=>exact fun p s kd ⟨z,w⟩=>⟨z,ih _ p {s with drawn:=s.drawn.bump src} (kd _) w⟩
 |os q l k ih=>exact fun p s kd w=>ih _ p {s with os:=(Os.step s.os q).1} (kd _) w
 |call c h g l k ih=>exact fun p s kd w=>kd.elim
 |handled o k ih=>exact fun p s kd w=>ih _ p s (kd _) w
 |newGen c k ih=>exact fun p s kd w=>ih _ p {s with gens:=s.gens.push (.fresh c)} (kd _) w
 |genState g k ih=>exact fun p s kd ⟨st,e,w⟩=>⟨st,e,ih _ p s (kd _) w⟩
 |resume g r l k ih=>exact fun p s kd w=>kd.elim
 |yield v g l k ih=>exact fun p s kd w=>w.elim
 |stack k ih=>exact fun p s kd w=>ih _ p s (kd _) w
 |fork c k ih=>exact fun p s kd w=>w.elim
 |thread k ih=>exact fun p s kd w=>ih _ p s (kd _) w
 |await a t b l k ih=>exact fun p s kd w=>w.elim
theorem W2 {α:Type} {M:Model} {A:Around} {t:Sem α} {Q:α→Shared→Prop} {E:Value→Shared→Prop} {s:Shared} (kd:KD t) (h:wpAny M A t Q E s):wpAny M A t (fun a s'=>Q a s'∧Dicts s.heap s'.heap) (fun a s'=>E a s'∧Dicts s.heap s'.heap) s:=
 fun Γ p hΓ=>W1 t p s kd (h Γ p hΓ)
theorem KD.bind {α β:Type} {f:α→Sem β}:∀{t:Sem α},KD t→(∀a,KD (f a))→KD (t >>=f):=by
 intro t
 induction t with
 |pure a=>exact fun _ h=>h a
 |raise e=>exact fun _ _=>True.intro
 |unsupported w=>exact fun _ _=>True.intro
 |finish w=>exact fun _ _=>True.intro
 |rule t k ih=>exact fun kd h=>ih () kd h
 |«at» t k ih=>exact fun kd h=>ih () kd h
 |load a x k ih=>exact fun kd h o=>ih o (kd o) h
 |update a x g k ih=>exact fun kd h=>⟨kd.1,ih () kd.2 h⟩
 |alloc o k ih=>exact fun kd h a=>ih a (kd a) h
 |loadIfAlive a k ih=>exact fun kd h a=>ih a (kd a) h
 |point l k ih=>exact fun kd h=>ih () kd h
 |register a k ih=>exact fun kd h=>True.intro
 |fresh k ih=>exact fun kd h a=>ih a (kd a) h
 |ask k ih=>exact fun kd h a=>ih a (kd a) h
 |choose src n k ih=>exact fun kd h a=>ih a (kd a) h
 |os q l k ih=>exact fun kd h a=>ih a (kd a) h
 |call c h g l k ih=>exact fun kd h=>kd.elim
 |handled o k ih=>exact fun kd h a=>ih a (kd a) h
 |newGen c k ih=>exact fun kd h a=>ih a (kd a) h
 |genState g k ih=>exact fun kd h a=>ih a (kd a) h
 |resume g r l k ih=>exact fun kd h=>kd.elim
 |yield v g l k ih=>exact fun kd h=>True.intro
 |stack k ih=>exact fun kd h a=>ih a (kd a) h
 |fork c k ih=>exact fun kd h=>True.intro
 |thread k ih=>exact fun kd h a=>ih a (kd a) h
 |await a t b l k ih=>exact fun kd h=>True.intro
theorem Gj {α:Type} {c:Prop} [Decidable c] {a b:Sem α} (ha:KD a) (hb:KD b):KD (if c then a else b):=by split<;>assumption
theorem MR {a:Addr}:KD (load a):=fun _=>True.intro
theorem W3 {f:Array Value→Array Value} (o:Obj):(Obj.mapFields f o).dict=o.dict∧(o.isFreed=false→(Obj.mapFields f o).isFreed=false):=by
 obtain ⟨c,d,dt,sl⟩:=o
 cases dt<;>exact ⟨rfl,fun h=>h⟩
theorem W4 {v:Value}:KD (fieldsOf v):=by
 unfold fieldsOf
 split
 ·exact KD.bind MR fun o=>by split<;>exact True.intro
 ·exact True.intro
theorem Le {v:Value} {i:Nat}:KD (field v i):=by
 unfold field
 exact KD.bind W4 fun o=>by split<;>exact True.intro
theorem MU {v x:Value} {i:Nat}:KD (setField v i x):=by
 unfold setField
 split
 ·unfold updateField
  refine KD.bind MR fun o=>?_
  split
  ·exact Gj ⟨W3,True.intro⟩ True.intro
  ·exact True.intro
 ·exact True.intro
theorem W5 {v:Value} {o:Option Addr}:KD (setFlight v o):=by
 unfold setFlight
 exact KD.bind Le fun o=>Gj MU True.intro
theorem W6 {n:String} {vs:List Value}:KD (newFields n vs):=by
 unfold newFields newObj
 unfold newObjAsIs
 dsimp only
 split
 ·exact True.intro
 ·exact fun a=>True.intro
theorem QK:∀{l:List Env},KD (readyFrames l)
 |[]=>True.intro
 |env::outer=>by
  unfold readyFrames
  split
  ·refine KD.bind MR fun o=>Gj True.intro (KD.bind ?_ fun b=>KD.bind ?_ fun v=>KD.bind ⟨fun o=>⟨rfl,fun h=>?_⟩,True.intro⟩ fun _=>QK)
   ·unfold behindIsImport
    exact Gj True.intro (Gj True.intro (KD.bind Le fun _=>True.intro))
   ·unfold keptBack
    split
    ·exact Gj True.intro fun _=>True.intro
    ·exact True.intro
   ·obtain ⟨c,d,dt,sl⟩:=o
    cases dt<;>exact h
  ·exact True.intro
theorem W7 {env:Env}:KD (PySem.frameOf env):=by
 unfold PySem.frameOf
 refine KD.bind (fun _=>True.intro) fun l=>KD.bind ?_ fun o=>?_
 ·unfold frameObject
  split
  ·exact True.intro
  ·exact KD.bind QK fun _=>True.intro
 ·split<;>exact True.intro
theorem W8 {f:Addr} {b:Bool}:KD (entryPlaceOf f b):=by
 unfold entryPlaceOf
 intro l
 show KD (match l.find? _ with |some (_,pos)=>_ |none=>_)
 split<;>exact True.intro
theorem W9 {e:Value} {env:Env}:KD (noteFrame e env):=by
 unfold noteFrame
 split
 ·refine KD.bind Le fun hd=>?_
  have Bm:∀f:Addr,KD (do setField e 1 (←EntryCells.newEntry hd (←PySem.frameOf env) .none (rawInt f) .none (←entryPlaceOf f (hd != .none)))):=fun f=>
   KD.bind W7 fun _=>KD.bind W8 fun _=>KD.bind W6 fun _=>MU
  refine Gj (KD.bind Le fun x=>Gj True.intro (KD.bind MU fun _=>?_)) ?_
  ·exact Bm _
  ·exact Bm _
 ·exact True.intro
theorem Xa {e:Value} {env:Env}:KD (leaving env e):=by
 unfold leaving
 exact KD.bind W9 fun _=>W5
open Classical in
noncomputable def blank (p:Addr→Prop) (h:Heap):Heap:=⟨h.objs.mapIdx fun i o=>if p i then {o with data:=.freed} else o,h.life⟩
theorem Lf {p:Addr→Prop} {h:Heap} {b:Addr} (hp:p b):(blank p h).get? b=none:=by
 unfold blank Heap.get?
 simp only [Array.getElem?_mapIdx]
 cases e:h.objs[b]? with
 |none=>rfl
 |some o=>simp [hp]
theorem Lg {p:Addr→Prop} {h:Heap} {b:Addr} (hp:¬p b):(blank p h).get? b=h.get? b:=by
 unfold blank Heap.get?
 simp only [Array.getElem?_mapIdx]
 cases e:h.objs[b]? with
 |none=>rfl
 |some o=>simp [hp]
theorem Xb {p:Addr→Prop} {h:Heap}:(blank p h).StaysIn h:=fun b o e=>by
 by_cases hp:p b
 ·rw [Lf hp] at e;cases e
 ·rw [Lg hp] at e;exact e
inductive MV (h0 h:Heap) (H:Hp) (a:Addr) (C:Value) (da:Option Addr):Prop where
 |mk (new:h0.get? a=none) (no:H a=none) (oe:Obj) (vs:Array Value) (a0:Value) (T:Addr) (oT:Obj) (ts:Array Value) (e1:h.get? a=some oe) (e2:oe.cls=C∧vs[0]?=some a0) (e3:oe.data=.fields vs) (e4:vs[1]?=some (.ref T)) (e5:h0.get? T=none) (e6:H T=none) (e7:T≠a) (e8:h.get? T=some oT) (e9:oT.data=.fields ts) (e10:ts[3]?=some .none) (e11:oe.dict=da):MV h0 h H a C da
abbrev JO (n:Str):Value:=.str n 0
inductive Aw (P:Program) (w:World) (K:PySem.W.Frag) (outer:List Env) (H:Hp) (s:Shared) (E:XK) (e:Value) (s':Shared):Prop where
 |mk (a C:Addr) (n:Str) (da:Option Addr) (H':Hp) (ee:e=.ref a) (os:s'.os=s.os) (bare:AllBare s'.gens) (un:Un (frs outer) [] H H' s.heap s'.heap) (hok:HOk P w H' s'.heap) (fly:MV s.heap s'.heap H' a (.ref C) da) (nm:PySem.W.nsIn K mainGlobals n=some (some (.ref C))) (q:E (JO n) da H'):Aw P w K outer H s E e s'
theorem QL {h base:Heap} {p:Addr→Prop}:∀{l:List Env},h.FunFrames base l→(∀b∈frs l,p b)→h.FunFrames (blank p h) l
 |[],_,_=>trivial
 |env::rest,⟨k,⟨L,o,hf,_,ho,hd⟩,r⟩,hp=>⟨k,⟨L,o,hf,Lf (hp L (by unfold frs;rw [H0,hf];exact AW)),ho,hd⟩,
  QL r fun b hb=>hp b (by
   unfold frs at hb ⊢
   rw [H0,hf]
   exact A1 _ hb)⟩
theorem Xd {P:Program} {w:World} {H:Hp} {h:Heap} {a:Addr} {o:HO} (x:ObjOk P w H h a o):∃ob,h.get? a=some ob:=by
 cases o with
 |lst xs=>obtain ⟨_,_,_,_,e⟩:=x;exact ⟨_,e⟩
 |tup xs=>obtain ⟨_,_,_,⟨_,e,_⟩,_⟩:=x;exact ⟨_,e⟩
 |own y=>exact x
 |xd fs=>obtain ⟨_,⟨_,_,_,e,_⟩,_⟩:=x;exact ⟨_,e⟩
 |frz ob u=>obtain ⟨e,_⟩:=x;exact ⟨_,e⟩
 |tbl ps=>exact ⟨_,x⟩
 |ext φ=>exact x.2.1
 |mex φ=>exact x.2.1
structure Lv (X:Cx) (E:XK):Prop where
 xe:∀e s',wpAny (model X.prog X.w) X.A (leaving X.env e) (fun _ s''=>Aw X.prog X.w X.K X.outer X.H₀ X.s₀ E e s'') (fun e' s''=>Aw X.prog X.w X.K X.outer X.H₀ X.s₀ E e' s'') s'→X.xe e s'
 stk:X.stack=X.env::X.outer
 fr:X.env.frame=some X.env.locals
 ex:X.ex=[]
theorem Xe {P:Program} {w:World} {K:PySem.W.Frag} {mg:Str→Option Value} {base:Heap} {N:List Str} {qual:Str} {scope:Scope} {f:Addr} {cd:Value} {A:Around} {outer:List Env} {s:Shared} {H:Hp} {E:XK}:Lv (AB (Aw P w K) P w K mg base N qual scope f cd A outer s H E) E:=
 ⟨fun _ _ h=>h,rfl,rfl,rfl⟩
section
variable {X:Cx} {E:XK}
theorem Lv.frs (lv:Lv X E):L2.frs X.stack=X.env.locals::X.fs:=by
 rw [lv.stk];unfold L2.frs;rw [H0,lv.fr];rfl
theorem Xf {pins:List (Addr×Obj)} {σ:L2.St} {H':Hp} {s':Shared} {h':Heap} {a T:Addr} {C:Value} (lv:Lv X E)
 (I:Inv X pins σ H' s')
 (na:X.s₀.heap.get? a=none) (nT:X.s₀.heap.get? T=none) (ha:H' a=none) (hT:H' T=none) {a0:Value}
 (L:Heap.LeftW (blank (fun b=>b=a∨b=T∨b∈frs X.stack) s'.heap) X.stack a C a0 s'.heap h') {da:Option Addr} {oa:Obj} (ea:s'.heap.get? a=some oa) (ed:oa.dict=da) (dd:Dicts s'.heap h'):
 Un X.fs [] X.H₀ H' X.s₀.heap h'∧HOk X.prog X.w H' h'∧MV X.s₀.heap h' H' a C da:=by
 obtain ⟨stay,ff,⟨oe,vs,T2,oT,ts,e1,e2,e3,e4,e5,e6,e7,e8,e9⟩,ups⟩:=L
 have e11:oe.dict=da:=by
  obtain ⟨o',q1,q2⟩:=dd a oa ea
  rw [e1] at q1
  cases q1
  exact q2.trans ed
 have B:Un X.fs [] X.H₀ H' X.s₀.heap s'.heap:=by have:=I.base;rw [lv.ex] at this;exact this
 have stk:=I.stack
 have frNone:∀b∈frs X.stack,H' b=none:=fun b hb=>I.stkFree b hb
 have keepOf:∀b o,¬(b=a∨b=T∨b∈frs X.stack)→s'.heap.get? b=some o→h'.get? b=some o:=fun b o hb e=>stay b o (by rw [Lg hb];exact e)
 have notL:∀b o,X.s₀.heap.get? b=some o→b∉X.fs→b∉frs X.stack:=fun b o e hb z=>by
  rw [lv.frs] at z
  rcases qa7.mp z with z |z
  ·have:=AX e
   rw [z] at this
   exact absurd (Bq this I.ok.above) (D4 _)
  ·exact hb z
 have old:∀b o,X.s₀.heap.get? b=some o→b≠a∧b≠T:=fun b o e=>⟨fun z=>(by rw [z,na] at e;cases e),fun z=>(by rw [z,nT] at e;cases e)⟩
 have noFields:∀b,b∈frs X.stack→∃o,s'.heap.get? b=some o∧∀vs,o.data≠.fields vs:=fun b hb=>(stk.mem hb).2
 have any:∀b o,X.s₀.heap.get? b=some o→s'.heap.get? b≠none→∃o',h'.get? b=some o':=fun b o e hn=>by
  cases e':s'.heap.get? b with
  |none=>exact absurd e' hn
  |some o'=>
   by_cases hb:b∈frs X.stack
   ·obtain ⟨o2,h2,d2⟩:=noFields b hb
    obtain ⟨sl,h3⟩:=ups b o2 h2 d2
    exact ⟨_,h3⟩
   ·exact ⟨o',keepOf b o' (fun z=>by rcases z with z |z |z;exact (old b o e).1 z;exact (old b o e).2 z;exact hb z) e'⟩
 refine ⟨⟨fun b o e n hb hx=>?_,fun b o e n hb hx=>?_,B.free,fun b o e hx=>?_,B.tups,B.frzs,B.tbls⟩,fun b o e=>?_,na,ha,oe,vs,a0,T2,oT,ts,e1,e2,e3,e4,?_,?_,e6,e7,e8,e9,e11⟩
 ·exact keepOf b o (fun z=>by rcases z with z |z |z;exact (old b o e).1 z;exact (old b o e).2 z;exact notL b o e hb z) (B.keep b o e n hb hx)
 ·obtain ⟨sl,h1⟩:=B.slot b o e n hb hx
  have hb':b∈frs X.stack:=by rw [lv.frs];exact A1 _ hb
  obtain ⟨o2,h2,d2⟩:=noFields b hb'
  rw [h1] at h2
  cases h2
  obtain ⟨sl2,h3⟩:=ups b _ h1 d2
  exact ⟨sl2,h3⟩
 ·obtain ⟨o',h1⟩:=B.there b o e hx
  exact any b o e (by rw [h1];simp)
 ·refine (I.hok b o e).stay (fun c u hc q=>keepOf c u (fun z=>?_) q) (fun _ q=>q) fun _ _ q=>q
  have hc':H' c≠none:=by
   rcases hc with rfl |hc
   ·rw [e];simp
   ·rw [hc];simp
  rcases z with z |z |z
  ·exact hc' (z ▸ ha)
  ·exact hc' (z ▸ hT)
  ·exact hc' (frNone c z)
 ·cases q:X.s₀.heap.get? T2 with
  |none=>rfl
  |some o=>
   exfalso
   obtain ⟨o',h1⟩:=B.there T2 o q (by simp)
   by_cases hb:T2∈frs X.stack
   ·obtain ⟨o2,h2,d2⟩:=noFields T2 hb
    obtain ⟨sl,h3⟩:=ups T2 o2 h2 d2
    rw [h3] at e7
    cases e7
    exact d2 _ e8
   ·rw [Lg (fun z=>by rcases z with z |z |z;exact (old T2 o q).1 z;exact (old T2 o q).2 z;exact hb z),h1] at e5
    cases e5
 ·cases q:H' T2 with
  |none=>rfl
  |some o=>
   exfalso
   by_cases hb:T2=a∨T2=T∨T2∈frs X.stack
   ·rcases hb with z |z |z
    ·rw [z,ha] at q;cases q
    ·rw [z,hT] at q;cases q
    ·rw [frNone T2 z] at q;cases q
   ·rw [Lg hb] at e5
    obtain ⟨ob,eb⟩:=Xd (I.hok T2 o q)
    rw [eb] at e5
    cases e5
theorem Lv.older (lv:Lv X E) {pins:List (Addr×Obj)} {σ:L2.St} {H1:Hp} {s1:Shared} (I:Inv X pins σ H1 s1):∀b,s1.heap.get? b=none→X.s₀.heap.get? b=none:=fun b hb=>by
 cases q:X.s₀.heap.get? b with
 |none=>rfl
 |some o=>
  obtain ⟨o',h1⟩:=I.base.there b o q (by rw [lv.ex];simp)
  rw [hb] at h1;cases h1
theorem Xg (lv:Lv X E):Il (Aw X.prog X.w X.K) X E:=by
 rintro pins σ H1 s1 e s' I ⟨a,C,n,da,H',ee,os,bare,un,hok,fly,nm,q⟩
 subst ee
 have I':Inv X pins σ H' s':=I.call' os un hok bare (fun b hb=>absurd hb (by simp))
 obtain ⟨fnew,fno,oe,vs,a0,T,oT,ts,e1,e2,e3,e4,e5,e6,e7,e8,e9,e10,e11⟩:=fly
 have fro:X.A.frames=some (X.env::X.outer):=by rw [←lv.stk];exact I'.ok.frames
 have stk:s'.heap.FunFrames X.base (X.env::X.outer):=by have:=I'.stack;rw [lv.stk] at this;exact this
 have run:=W2 Xa (wpAny_leaving_nextW (M:=model X.prog X.w) (E:=fun _ _=>False) (Q:=fun _ s''=>∃h',s''={s' with heap:=h'}∧Heap.LeftW (blank (fun b=>b=a∨b=T∨b∈frs X.stack) s'.heap) (X.env::X.outer) a (.ref C) a0 s'.heap h') (base:=blank (fun b=>b=a∨b=T∨b∈frs X.stack) s'.heap) (cls:=.ref C) (a0:=a0) fro (QL stk fun b hb=>.inr (.inr (by rw [lv.stk];exact hb))) lv.fr
  ⟨oe,vs,T,oT,ts,e1,e2,e3,e4,Lf (.inr (.inl rfl)),e7,e8,e9,e10⟩ Xb (Lf (.inl rfl)) fun h' L=>⟨h',rfl,L⟩)
 refine lv.xe _ _ (wpAny_mono run (fun _ s'' z=>?_) fun _ _ z=>z.1.elim)
 obtain ⟨⟨h',rfl,L⟩,D⟩:=z
 obtain ⟨u1,u2,u3⟩:=Xf lv I' (lv.older I a fnew) (lv.older I T e5) fno e6 (by rw [lv.stk] at *;exact L) e1 e11 D
 exact ⟨a,C,n,da,H',rfl,I'.os,bare,u1,u2,u3,nm,q⟩
end
section
variable {P:Program} {w:World} {K:PySem.W.Frag} {mg:Str→Option Value} {base:Heap} {N:List Str} {qual:Str} {scope:Scope} {f:Addr} {cd:Value} {A:Around} {outer:List Env} {s:Shared} {H:Hp} {E:XK}
theorem As:Il (Aw P w K) (AB (Aw P w K) P w K mg base N qual scope f cd A outer s H E) E:=Xg Xe
end
inductive QM (h:Heap) (C:Addr) (bmB:List Value) (newId:String):Prop where
 |mk (bm:List Value) (N:Addr) (nm q:Str) (bs:List Value) (hdct:Bool) (sn:List Str) (sub:List Value) (ab:Bool) (col:Option Bool) (dd:Option Addr) (k0 k1 k2 k3 k5:Option Value) (mN:Str→Option Value)
  (hC:h.get? C=some (excClassObj nm q C N bs bm hdct sn sub ab col dd k0 k1 k2 k3 k5 newId)) (hN:h.Ns N mN) (hni:mN "__init__"=none) (T:OwnTail h bmB bm):QM h C bmB newId
def Xh (K:PySem.W.Frag) (C:Addr) (bmB:List Value) (newId:String):Prop:=∀h:Heap,K.In h→QM h C bmB newId
def clsOf:Data→Option ClassData
 |.cls c=>some c
 |_=>none
inductive Xi {α:Type} (l:List α):Prop where
 |mk (a b c d e f:α) (q:l=[a,b,c,d,e,f]):Xi l
def Xj (K:PySem.W.Frag) (C:Addr) (bmB:List Value) (newId:String) (o:Obj) (cd:ClassData):Bool:=
 decide (o.cls=.type "type")&&(decide (cd.mro=.ref C::cd.mro.tail)&&(!cd.hasDel&&(PySem.W.tailIn K bmB cd.mro.tail&&(PySem.W.nsOkIn K cd.ns&&(PySem.W.nsIn K cd.ns "__init__"==some none&&(decide (o.slots.toList.length=6)&&decide (o.slots.toList[4]?=some (some (.builtin newId)))))))))
def Xk (K:PySem.W.Frag) (C:Addr) (bmB:List Value) (newId:String):Bool:=match K.lookup C with
 |some o=>(match clsOf o.data with
  |some cd=>Xj K C bmB newId o cd
  |none=>false)
 |none=>false
abbrev Lh:List Value:=[.type "ValueError",.type "Exception",.type "BaseException",.type "object"]
def ZdO (X:Cx) (E:XK):Prop:=∀(pins:List (Addr×Obj)) (σ:L2.St) (H1:Hp) (s1:Shared) (h':Heap) (a C:Addr) (n:Str) (vs:List Value),Inv X pins σ H1 s1→Heap.MadeExcOf s1.heap h' a (.ref C) vs→PySem.W.nsIn X.K mainGlobals n=some (some (.ref C))→E (JO n) none H1→X.xe (.ref a) {s1 with heap:=h'}
section
variable {X:Cx} {E:XK}
def QN (n:Str) (fa:MA):MS:=fun ρ h=>(fa ρ h).bind fun xs h1=>if xs.length≤sizeLine then .err (JO n) [] h1 else .stuck
inductive Gk (K:PySem.W.Frag) (F:List D→HD→Out D) (vs:List V) (H:Hp) (Q:VK) (E:XK):Prop where
 |mk (m:List Addr) (ds:List D) (h:HD) (hr:HR K m h H) (r:DVs K m H ds vs) (p:Post K (rD K) m H E Q (F ds h)):Gk K F vs H Q E
theorem Ey {P:Program} {w:World} {K:PySem.W.Frag} {X:Cx}:Il (Aw P w K) X E0:=fun _ _ _ _ _ _ _ z2_=>by obtain ⟨_,_,_,_,_,_,_,_,_,_,_,_,q⟩:=z2_;exact (q.elim)
theorem QP {K:PySem.W.Frag} {n:Nat} {F:List D→HD→Out D} (ar:Ar n F) {vs:List V} {H:Hp} {Q:VK} {E':XK} (h:Gk K F vs H Q E'):vs.length=n:=by
 obtain ⟨m,ds,hd,hr,r,p⟩:=h
 rw [←r.len]
 by_cases e:ds.length=n
 ·exact e
 ·rw [ar ds hd e] at p;exact p.elim
structure CaE (P:Program) (w:World) (K:PySem.W.Frag) (mg:Str→Option Value) (base:Heap) (x:Str) (k:Nat) (F:List D→HD→Out D):Prop where
 ex:∃(f:Addr) (fd:FuncData) (ps:List Str),FnOk P w K mg base (Aw P w K) k f fd ps (Gk K F)∧Binds K fd ps []∧mg x=some (.ref f)∧PySem.W.keepIn K (.ref f)=true
theorem Ao {k k':Nat} {F:List D→HD→Out D} {fa:MA} {x:Str} {p pos:Pos} {e:Expr} {es:List Expr} (C:CaE X.prog X.w X.K X.mg X.base x k F) (hr:Room k' X.A) (hx:Il (Aw X.prog X.w X.K) X E) (ha:DA X E (e::es) fa) (hk:k≤k':=by decide) (hg:Gl X x:=by rfl)
 (hdb:(x==("__debug__":Str))=false:=by decide) (he:starEach (e::es) X.env=(false,eval e X.env)::starEach es X.env:=by rfl) (hpl:(backTo pos (starEach es X.env)).any (·.1)=false:=by rfl):
 Ev X E (.Call (.Name x p) (e::es) [] pos) (Ag F fa):=by
 obtain ⟨f,fd,ps,G,hb,hm,hkp⟩:=C.ex
 exact B9 (Vf (E:=E) G (hr.mono hk) hg hm hkp hb .nil hx ha hdb he hpl) fun σ H Q z3_=>by obtain ⟨m,ρ,hd,hr,er,p⟩:=z3_;exact (⟨m,ρ,hd,hr,er,Post.bind p fun xs h1 vs m1 H1 e1 p1 k1 hr1 r1 q1=>by
  rw [Jf]
  exact ⟨m1,xs,h1,hr1,r1,q1⟩⟩)
theorem AR {P:Program} {w:World} {K:PySem.W.Frag} {mg:Str→Option Value} {base:Heap} {x qual:Str} {st:Stmt} {f:Addr} {fd:FuncData} {N ps:List Str} {k:Nat} {F:List D→HD→Out D} {g:MS} (Fn:Fun K x qual st f fd) (S:AJ N ps (defScope st)) (ar:Ar ps.length F)
 (hg:∀ds h,ds.length=ps.length→F ds h=Ak N.length g ds h)
 (hbody:∀(cdv:Value) (A:Around) (outer:List Env) (s:Shared) (H:Hp) (E:XK),Room k (A.deeper (envOfC qual (defScope st) s.heap.objs.size f cdv))→AE (AB (Aw P w K) P w K mg base N qual (defScope st) f cdv A outer s H E) E (defBody st) g):FnOk P w K mg base (Aw P w K) (k+1) f fd ps (Gk K F):=by
 obtain ⟨oc,od,kV,doc,pm,an,cdv,ct,osl,rfl,lk,hcd⟩:=Fn.ex
 refine Vh lk hcd S (fun vs H Q E h=>QP ar h) fun A outer s H vs Q E hr h=>?_
 refine ⟨_,hbody cdv A outer s H E hr,?_⟩
 have hl:=QP ar h
 obtain ⟨m,ds,hd,hr1,r,p⟩:=h
 have hld:ds.length=ps.length:=by rw [r.len];exact hl
 refine ⟨m,ds.map some++List.replicate (N.length - ds.length) none,hd,hr1,ER.start r,?_⟩
 rw [hg ds hd hld] at p
 unfold Ak at p
 cases o:g (ds.map some++List.replicate (N.length - ds.length) none) hd with
 |stuck=>rw [o] at p;exact p
 |err C fs h1=>rw [o] at p;exact p
 |ok a h1=>
  rw [o] at p
  obtain ⟨fl,ρ1⟩:=a
  intro m1 H1 p1 k1 hr1
  cases fl with
  |nx=>exact fun σ er=>p .non m1 H1 p1 k1 hr1 (by simp [rD,DV])
  |bk=>exact False.elim p
  |ct=>exact False.elim p
  |rt d=>exact fun v rv=>p v m1 H1 p1 k1 hr1 rv
end
theorem Dv {P:Program} {w:World} {K:PySem.W.Frag} {mg:Str→Option Value} {base:Heap} {N:List Str} {qual:Str} {scope:Scope} {f:Addr} {cd:Value} {A:Around} {outer:List Env} {s:Shared} {H:Hp} {E:XK}:
 PassesOwn (model P w) (AB (Aw P w K) P w K mg base N qual scope f cd A outer s H E).A (AB (Aw P w K) P w K mg base N qual scope f cd A outer s H E).env (AB (Aw P w K) P w K mg base N qual scope f cd A outer s H E).xe:=by
 passes_own
section
variable {X:Cx} {E:XK}
abbrev MO:=Ai→HD→Out (Option Int)
abbrev Li (X:Cx) (E:XK) (e:Option Expr) (f:MO):Prop:=PO X e (tM X.K (fun _ _ a b=>a=b) E f)
def Gm:MO:=fun _ h=>.ok none h
def FT (f:ME):MO:=fun ρ h=>(f ρ h).bind fun x h1=>match x with
 |.int i=>.ok (some i) h1
 |_=>.stuck
theorem QR {e:Option Expr} {t t':TO} (h:PO X e t) (i:∀σ H Q,t' σ H Q→t σ H Q):PO X e t':=fun pins s σ H Q I q=>h pins s σ H Q I (i σ H Q q)
theorem IP:Li X E none Gm:=QR Vq fun σ H Q z1_=>by obtain ⟨m,ρ,h,hr,er,p⟩:=z1_;exact (p none m H (AL _) (.refl _) hr rfl)
theorem IQ {e:Expr} {f:ME} (he:Ev X E e f):Li X E (some e) (FT f):=QR (Vr he) fun σ H Q z2_=>by obtain ⟨m,ρ,h,hr,er,p⟩:=z2_;exact (⟨m,ρ,h,hr,er,Post.bind p fun x h1 v m1 H1 eo p1 k1 hr1 r1 q1=>by
 clear eo
 split at q1
 ·rename_i i
  simp only [rD,DV] at r1
  exact ⟨i,r1,q1 (some i) m1 H1 (AL _) (.refl _) hr1 rfl⟩
 ·exact q1.elim⟩)
def JP (xs:List D) (lo hi:Option Int):List D:=(xs.drop (HT.sIx xs.length 0 lo)).take (HT.sIx xs.length xs.length hi - HT.sIx xs.length 0 lo)
def QT (x:D) (lo hi:Option Int) (h:HD):Out D:=match x with
 |.tup xs=>if HT.sIx xs.length 0 lo=0∧HT.sIx xs.length xs.length hi=xs.length then .stuck else .ok (.tup (JP xs lo hi)) h
 |_=>.stuck
def QU (f:ME) (lo hi:MO):ME:=fun ρ h=>(f ρ h).bind fun x h1=>(lo ρ h1).bind fun l h2=>(hi ρ h2).bind fun u h3=>QT x l u h3
theorem DVs.cut {K:PySem.W.Frag} {m:List Addr} {H:Hp} {ds:List D} {vs:List V} (r:DVs K m H ds vs) (lo hi:Option Int):DVs K m H (JP ds lo hi) (Im vs lo hi):=by
 unfold JP Im
 rw [r.len]
 exact (r.drop _).take _
def IR (o i x y:D) (ρ:Ai) (h:HD):Out (Fl×Ai):=match x,y with
 |.int a,.int b=>GM o i (.int (a+b)) h (.ok (.nx,ρ) h)
 |_,_=>.stuck
def IS (o i:D) (h:HD):Out D:=match o,i with
 |.loc l,.int n=>if 0≤n then (match h[l]? with
  |some (.lst ds)=>(match ds[n.toNat]? with
   |some d=>.ok d h
   |none=>.stuck)
  |_=>.stuck) else .stuck
 |_,_=>.stuck
def JQ (fo fi fv:ME):MS:=fun ρ h=>(fo ρ h).bind fun o h1=>(fi ρ h1).bind fun i h2=>(IS o i h2).bind fun x h3=>(fv ρ h3).bind fun y h4=>IR o i x y ρ h4
theorem Xl:O6 X (fun x y H Q=>∃(p:Addr) (xs:List V) (i:Nat) (v:V),x=.ref p∧y=.int i∧SqL X.K H p xs∧xs[i]?=some v∧Q v H):=by
 intro pins s σ H o i ov iv Q I ro ri h
 obtain ⟨p,xs,k,z,rfl,rfl,hq,he,q⟩:=h
 cases ro
 obtain ⟨t,rfl⟩:=ri
 obtain ⟨its,r,pl,hz⟩:=I.list hq
 obtain ⟨w,ew,rw'⟩:=r.get he
 have hk:k<xs.length:=(qa5.mp he).1
 have hn:sizeLine≤2^30:=by unfold sizeLine;omega
 exact wpAny_getItem_list pl.isList (by omega) (by omega) (by simpa using ew) ⟨z,H,I,rw',q⟩
theorem QV {o i e:Expr} {fo fi fv:ME} {tpos pos:Pos} (ho:Ev X E o fo) (hi:Ev X E i fi) (he:Ev X E e fv)
 (ha:∀ov iv new,augStore i ov iv new=(do holding [new,ov,iv] (setItem ov iv new);release [new,ov,iv] [];pure .next):=by intros;rfl):Ex X E (.AugAssign (.Subscript o i tpos) .Add e pos) (JQ fo fi fv):=
 En (Uv ho hi Xl he Ux Px ha) fun Dn σ H ⟨m,ρ,h,hr,er,p⟩=>⟨m,ρ,h,hr,er,PostS.bind p fun ov h1 vo m1 H1 eo1 p1 k1 hr1 r1 q1=>
  ⟨m1,ρ,h1,hr1,er.keep p1 k1,PostS.bind q1 fun iv h2 vi m2 H2 eo2 p2 k2 hr2 r2 q2=>by
   clear eo1 eo2
   have ro:=DV.keep p2 k2 r1
   unfold IS at q2
   split at q2
   ·rename_i l n
    split at q2
    ·rename_i hn
     split at q2
     ·rename_i ds el
      split at q2
      ·rename_i d ek
       simp only [Out.bind_ok] at q2
       obtain ⟨k,rfl⟩:∃k:Nat,n=(k:Int):=⟨n.toNat,by omega⟩
       simp only [DV] at ro
       obtain ⟨a,rfl,ha⟩:=ro
       simp only [rD,DV] at r2
       subst r2
       obtain ⟨ws,hv,dv⟩:=hr2.cells l _ a el ha
       obtain ⟨wv,ew,rw'⟩:=dv.get (by simpa using ek)
       refine ⟨a,ws,k,wv,rfl,rfl,SqL.of hv,ew,m2,ρ,h2,hr2,(er.keep p1 k1).keep p2 k2,PostS.bind q2 fun y h4 vy m4 H4 eo4 p4 k4 hr4 r4 q4=>?_⟩
       clear eo4
       unfold IR at q4
       split at q4
       ·rename_i a1 b1
        have rx:=DV.keep p4 k4 rw'
        simp only [DV] at rx
        simp only [rD,DV] at r4
        subst rx r4
        refine ⟨a1,b1,rfl,rfl,?_⟩
        unfold GM at q4
        simp only at q4
        split at q4
        ·rename_i ds4 el4
         split at q4
         ·rename_i j ej
          have ha4:=Iq p4 ha
          obtain ⟨ws4,hv4,dv4⟩:=hr4.cells l _ a el4 ha4
          refine ⟨a,ws4,k,j,rfl,rfl,hv4,by rw [←dv4.len];exact ej,?_⟩
          have hr5:HR X.K m4 (h4.set l (.lst (ds4.set j (.int (a1+b1))))) (Az H4 a (.lst (ws4.set j (.int (a1+b1))))):=hr4.setCell ha4 hv4 rfl ⟨_,Dp,(dv4.set j (by simp [DV])).keep (AL _) (.set hv4 rfl)⟩
          exact q4 m4 _ (AL _) (.set hv4 rfl) hr5 σ ((((er.keep p1 k1).keep p2 k2).keep p4 k4).keep (AL _) (.set hv4 rfl))
         ·exact q4.elim
        ·exact q4.elim
       ·exact q4.elim
      ·exact q2.elim
     ·exact q2.elim
    ·exact q2.elim
   ·exact q2.elim⟩⟩
end
theorem vals_ints:∀{ns:List Int} {its:List Value},Vals (ns.map V.int) its→∃ys:List (Int×Tok),its=ys.map (fun p=>Value.int p.1 p.2)∧ys.map (·.1)=ns
 |[],its,r=>by cases r;exact ⟨[],rfl,rfl⟩
 |n::ns,its,r=>by
  cases r with
  |cons r1 r2=>
   obtain ⟨t,rfl⟩:=r1
   obtain ⟨ys,rfl,e⟩:=vals_ints r2
   exact ⟨(n,t)::ys,rfl,by simp [e]⟩
section
variable {X:Cx}
theorem Xm (hc:X.calm=true):CY X (.builtin "min") (fun xs H Q=>∃(p:Addr) (ns:List Int),xs=[.ref p]∧SqL X.K H p (ns.map V.int)∧ns≠[]∧∀M,M∈ns→(∀a∈ns,M≤a)→Q (.int M) H):=by
 intro pins s σ H xs us Q I r h
 obtain ⟨p,ns,rfl,hs,hne,q⟩:=h
 obtain ⟨u,rfl,rx⟩:=FE r
 cases rx
 obtain ⟨its,rv,pl,hz⟩:=I.list hs
 obtain ⟨ys,rfl,en⟩:=vals_ints rv
 have hlen:ys.length=ns.length:=by rw [←en];simp
 have hpos:0<ys.length:=by rw [hlen];exact List.length_pos_iff.mpr hne
 have hl:s.heap.IsList p (intItems ys.toArray):=by
  have:=pl.isList
  simpa [intItems] using this
 refine min_intList (I.ok.hd hc) hl (by simpa using hpos) fun v h' tk hv hk=>?_
 obtain ⟨t,rfl⟩:=intItems_at hv
 obtain ⟨h1,h2⟩:=argBest_lt (numAt ys.toArray) (ys.toArray.size - 1)
 have hsz:ys.toArray.size=ys.length:=by simp
 have at':∀j,j<ys.length→numAt ys.toArray j∈ns:=fun j hj=>by
  rw [numAt_eq]
  simp only [DW]
  rw [←en,Bi (by simpa using hj)]
  simp only [Option.getD_some]
  exact Je _
 refine ⟨.int (numAt ys.toArray (argBest _ (ys.toArray.size - 1))),H,I.kept hk,⟨t,rfl⟩,q _ (at' _ (by omega)) fun a ha=>?_⟩
 rw [←en] at ha
 obtain ⟨j,hj,rfl⟩:=Jd ha
 have hj':j<ys.length:=by simpa using hj
 have:=h2 j (by omega)
 rw [numAt_eq ys.toArray j] at this
 simpa [DW,Bi hj'] using this
def GP:List Int→Int
 |[]=>0
 |n::ns=>ns.foldl min n
theorem MW:∀(ns:List Int) (n:Int),(ns.foldl min n∈n::ns)∧∀a∈n::ns,ns.foldl min n≤a
 |[],n=>by simp
 |m::ns,n=>by
  obtain ⟨h1,h2⟩:=MW ns (min n m)
  rw [Kw]
  refine ⟨?_,fun a ha=>?_⟩
  ·rcases qa7.mp h1 with z |z
   ·rw [z]
    rcases Int.le_total n m with q |q
    ·rw [Int.min_eq_left q];simp
    ·rw [Int.min_eq_right q];simp
   ·exact A1 _ (A1 _ z)
  ·have h0:=h2 (min n m) AW
   rcases qa7.mp ha with z |z
   ·subst z;omega
   ·rcases qa7.mp z with z |z
    ·subst z;omega
    ·exact h2 a (A1 _ z)
theorem QW {ns:List Int} (h:ns≠[]):GP ns∈ns:=by
 cases ns with
 |nil=>exact absurd rfl h
 |cons n ns=>exact (MW ns n).1
theorem QX {ns:List Int} {a:Int} (h:a∈ns):GP ns≤a:=by
 cases ns with
 |nil=>cases h
 |cons n ns=>exact (MW ns n).2 a h
def Gn (f:List Int→Int):D→HD→Out D:=fun x h=>match x with
 |.loc l=>match h[l]? with
  |some (.lst ds)=>match Bd (ds.map FR) with
   |some ns=>if ns=[] then .stuck else .ok (.int (f ns)) h
   |none=>.stuck
  |_=>.stuck
 |_=>.stuck
theorem QY (hc:X.calm=true):De X (.builtin "min") (Am (Gn GP)):=by
 refine ⟨_,Xm hc,fun m H h E ds vs Q hr r q=>Gc r q fun d v ev rv q=>?_⟩
 unfold Gn at q
 split at q
 ·rename_i l
  split at q
  ·rename_i ds el
   split at q
   ·rename_i ns en
    split at q
    ·exact q.elim
    ·rename_i hne
     simp only [DV] at rv
     obtain ⟨a,rfl,ha⟩:=rv
     obtain ⟨ws,hv,dv⟩:=hr.cells l _ a el ha
     have ew:=Mt dv en
     subst ew
     refine ⟨a,ns,ev,SqL.of hv,hne,fun M h1 h2=>?_⟩
     have:M=GP ns:=Int.le_antisymm (h2 _ (QW hne)) (QX h1)
     subst this
     exact BD hr q (by simp [DV])
   ·exact q.elim
  ·exact q.elim
 ·exact q.elim
end
def QZ (K:PySem.W.Frag) (t:Addr):It:=⟨fun i H=>∃xs,SqL K H t xs∧i<xs.length,fun i H x H'=>∃p v,H p=none∧x=.ref p∧(∀xs:List V,SqL K H t xs→xs[i]?=some v)∧H'=Az H p (.tup [.int i,v]),fun i H=>∃xs,SqL K H t xs∧i=xs.length⟩
theorem Xn {P:Program} {w:World} {K:PySem.W.Frag} {elts:List Expr} {kt:Nat} {tpos:Pos} (e it t:Addr) (hei:e≠it) (hte:t≠e) (hti:t≠it):
 F5 P w K (.Tuple elts kt tpos) (QZ K t) [e,it] e (fun i h=>(∃old,IsEnum h e it i old)∧h.IsListIter it t i) where
 mem:=by simp
 obj:=fun i h st b hb=>by
  obtain ⟨⟨old,h1⟩,o,h2,hc,hd⟩:=st
  rcases qa7.mp hb with z |z
  ·subst z;exact ⟨_,h1,fun v z=>by cases z⟩
  ·rw [qaE] at z
   subst z
   exact ⟨o,h2,fun v z=>by rw [hd] at z;cases z⟩
 keep:=fun i h h' st k=>by
  obtain ⟨⟨old,h1⟩,h2⟩:=st
  exact ⟨⟨old,k e (by simp) _ h1⟩,h2.at fun o z=>k it (by simp) o z⟩
 item:=by
  intro X hP hw hK hc i pins s σ H E I hf st hg
  subst hP hw hK
  obtain ⟨⟨old,he⟩,hit⟩:=st
  obtain ⟨xs,hq,hi⟩:=hg
  obtain ⟨its,rv,p,hz⟩:=I.list hq
  have hT:s.heap.IsList t its.toArray:=p.isList
  have hl:=rv.length
  obtain ⟨e0,e1,e2,e3,e4,e5⟩:=hf e (by simp)
  obtain ⟨i0,i1,i2,i3,i4,i5⟩:=hf it (by simp)
  have hx:xs[i]?=some xs[i]:=Bi hi
  refine wpAny_pyNext_enum_itemD (Draws.list (A:=X.A.in1) (I.ok.hd hc) it t hti its.toArray) he ⟨hit,hT⟩ (by rw [Ba];omega) hei (by simp [hei,Ne.symm hte]) fun x h1 tk hPx ho hs1 hTup hsz hk=>?_
  obtain ⟨u,hu,ru⟩:=rv.get hx
  have hux:u=x:=by
   have:its[i]?=some x:=by simpa using hPx
   rw [hu] at this
   exact Option.some.inj this
  subst hux
  refine ⟨.ref s.heap.objs.size,rfl,wpAny_letOwnedTupleGo_enum ho fun h2 he2 sb=>?_⟩
  have hfr:H s.heap.objs.size=none:=I.hok.fresh (AV _)
  have kk:∀b o,b∉[e,it]→s.heap.get? b=some o→h2.get? b=some o:=fun b o hb z=>by
   have n1:b≠e:=fun q=>hb (by simp [q])
   have n2:b≠it:=fun q=>hb (by simp [q])
   exact (sb.2 b n1).trans (hk b o n1 n2 z)
  have na:s.heap.objs.size≠e:=ID (AX he)
  have hnew:h2.get? s.heap.objs.size=some {cls:=.type "tuple",data:=.seq #[.int i tk,u]}:=(sb.2 _ na).trans hTup
  have ntr:∀b w,H b=some w→b∉[e,it]:=fun b w z hb=>by
   rcases qa7.mp hb with q |q
   ·rw [q,e0] at z;cases z
   ·rw [qaE.mp q,i0] at z;cases z
  have nal:∀b o,s.heap.get? b=some o→b≠s.heap.objs.size:=fun b o z=>Bz (AX z)
  have it2:h2.IsListIter it t (i+1):=by
   obtain ⟨o,q,r⟩:=hs1.1
   exact ⟨o,(sb.2 it (Ne.symm hei)).trans q,r⟩
  refine ⟨.ref s.heap.objs.size,Az H s.heap.objs.size (.tup [.int i,xs[i]]),?_,rfl,⟨s.heap.objs.size,xs[i],hfr,rfl,fun ys hy=>by rw [I.list_inj hy hq];exact hx,rfl⟩,⟨⟨u,he2⟩,it2⟩,fun b hb=>?_⟩
  ·show Inv X pins σ _ {s with heap:=h2,gens:=s.gens,drawn:=s.drawn,toks:=tk+1}
   refine I.step (g':=s.gens) (d':=s.drawn) (t':=tk+1) (h':=h2) (ch:=[e,it]) (fun b hb=>?_) (fun b o _ _ hc z _=>kk b o hc z) (fun b o _ _ hc z _=>⟨o.slots,kk b o hc z⟩) (fun b o _ z n=>by rw [AM (nal b o z)];exact n)
    (fun b o hc z=>⟨o,kk b o hc z⟩) (fun b ys z=>by rw [AM (BO z hfr)];exact z) (fun b o u z=>by rw [AM (BO z hfr)];exact z) (fun b ps z=>⟨#[],by rw [AM (BO z hfr),z];simp⟩) (fun m hm=>?_) (fun b w z=>?_) I.bare
   ·rcases qa7.mp hb with q |q
    ·subst q;exact ⟨e3,e1,e4,e5⟩
    ·rw [qaE] at q;subst q;exact ⟨i3,i1,i4,i5⟩
   ·obtain ⟨o,es,ep,q,r⟩:=hm
    exact ⟨o,es,ep,kk _ o (by simp [Ne.symm e1,Ne.symm i1]) q,r⟩
   ·by_cases hb:b=s.heap.objs.size
    ·subst hb
     rw [Dp] at z
     cases z
     exact ⟨by simp only [Ie,Jg];rw [sizeLine_eq];decide,[.int i tk,u],.cons ⟨tk,rfl⟩ (.cons ru .nil),⟨_,hnew,rfl,0,rfl⟩,fun o e=>by rw [hnew] at e;cases e;rfl⟩
    ·rw [AM hb] at z
     refine (I.hok b w z).stay (fun c v hc q=>kk c v ?_ q) (fun c q=>by rw [AM (BO q hfr)];exact q) fun c ys q=>by rw [AM (BO q hfr)];exact q
     rcases hc with rfl |hc
     ·exact ntr c _ z
     ·exact ntr c _ hc
  ·have nb:b≠s.heap.objs.size:=by
    rcases qa7.mp hb with q |q
    ·rw [q];exact na.symm
    ·rw [qaE.mp q]
     obtain ⟨o,z,_⟩:=hit
     exact nal _ _ z
   rw [AM nb]
   exact (hf b hb).1
 done:=by
  intro X hP hw hK hc i pins s σ H E I hf st hg
  subst hP hw hK
  obtain ⟨⟨old,he⟩,hit⟩:=st
  obtain ⟨xs,hq,hi⟩:=hg
  obtain ⟨its,rv,p,hz⟩:=I.list hq
  have hT:s.heap.IsList t its.toArray:=p.isList
  have hl:=rv.length
  obtain ⟨i0,i1,i2,i3,i4,i5⟩:=hf it (by simp)
  have hin:i=its.toArray.size:=by rw [Ba];omega
  refine wpAny_pyNext_enum_endD (Draws.list (A:=X.A.in1) (I.ok.hd hc) it t hti its.toArray) he (hin ▸ ⟨hit,hT⟩) fun h' eb=>⟨rfl,I.turned (t':=s.toks) (fun b o hb z=>eb b o hb z) i0 i1 i3 i4 i5⟩
 self:=fun A i s Q E st h=>by
  obtain ⟨⟨old,he⟩,_⟩:=st
  exact wpAny_pyIter_enum he h
section
variable {X:Cx} {E:XK}
theorem Xo {elts:List Expr} {kt:Nat} {tpos p pos:Pos} {a:Expr} {ta:TA} (hg:Gl X "enumerate") (hm:X.mg "enumerate"=none) (ha:PA X [a] ta) (hs:starEach [a] X.env=[(false,eval a X.env)]:=by rfl):
 PI X (.Tuple elts kt tpos) (.Call (.Name "enumerate" p) [a] [] pos) (fun σ H R=>ta σ H fun vs H1=>(∃t xs,vs=[.ref t]∧SqT X.K H1 t xs∧R (Qm X.K t xs) H1)∨∃t xs,vs=[.ref t]∧SqL X.K H1 t xs∧R (QZ X.K t) H1):=by
 intro pins s σ H R I h
 refine Call_ (GC I hg hm boot_enumerate (PyProof.Rows.callWith_type1 (Au (ha pos pins s σ H _ I h) fun us s1 z1_=>?_) hs rfl))
 obtain ⟨vs,H1,I1,r1,q1⟩:=z1_
 rcases q1 with ⟨t,xs,e,hq,q⟩ |⟨t,xs,e,hq,q⟩
 ·subst e
  cases r1 with
  |cons r rr=>
   cases rr
   cases r
   obtain ⟨its,rv,p,hz⟩:=I1.tuple hq
   have hT:s1.heap.IsTuple t its.toArray:=p
   have hlt:t<s1.heap.objs.size:=p.lt
   refine WC hT fun h' he hit hsz hk=>wpAny_pyIter_enum (s:={s1 with heap:=h'}) he ?_
   have I2:Inv X pins σ H1 {s1 with heap:=h'}:=I1.kept (t':=s1.toks) hk
   refine ⟨s1.heap.objs.size+1,[s1.heap.objs.size+1,s1.heap.objs.size],_,_,H1,rfl,I2,WD (s1.heap.objs.size+1) s1.heap.objs.size t (Nat.succ_ne_self _) (Bz (Ib hlt)) (Bz hlt) xs,⟨⟨.none,he⟩,hit⟩,fun b hb=>?_,q⟩
   rcases qa7.mp hb with z |z
   ·subst z;exact I1.fpOk (Nat.le_succ _) (I1.hok.fresh (Nat.le_succ _))
   ·rw [qaE] at z;subst z;exact I1.fpOk (AV _) (I1.hok.fresh (AV _))
 ·subst e
  cases r1 with
  |cons r rr=>
   cases rr
   cases r
   obtain ⟨its,rv,p,hz⟩:=I1.list hq
   have hT:s1.heap.IsList t its.toArray:=p.isList
   have hlt:t<s1.heap.objs.size:=by obtain ⟨_,z,_⟩:=hT;exact AX z
   refine call_enumerate_list hT fun h' he hit hsz hk=>wpAny_pyIter_enum (s:={s1 with heap:=h'}) he ?_
   have I2:Inv X pins σ H1 {s1 with heap:=h'}:=I1.kept (t':=s1.toks) hk
   refine ⟨s1.heap.objs.size+1,[s1.heap.objs.size+1,s1.heap.objs.size],_,_,H1,rfl,I2,Xn (s1.heap.objs.size+1) s1.heap.objs.size t (Nat.succ_ne_self _) (Bz (Ib hlt)) (Bz hlt),⟨⟨.none,he⟩,hit⟩,fun b hb=>?_,q⟩
   rcases qa7.mp hb with z |z
   ·subst z;exact I1.fpOk (Nat.le_succ _) (I1.hok.fresh (Nat.le_succ _))
   ·rw [qaE] at z;subst z;exact I1.fpOk (AV _) (I1.hok.fresh (AV _))
def GQ:List D→HD→Out (List D×Bk):=fun ds h=>match ds with
 |[.tup xs]=>.ok (Eu xs,[]) h
 |[.loc l]=>match h[l]? with
  |some (.lst xs)=>.ok (Eu xs,[(l,xs)]) h
  |_=>.stuck
 |_=>.stuck
def Ed (fa:MA):MI:=fun ρ h=>(fa ρ h).bind GQ
theorem Gp {elts:List Expr} {kt:Nat} {tpos p pos:Pos} {a:Expr} {fa:MA} (hg:Gl X "enumerate") (hm:X.mg "enumerate"=none) (ha:DA X E [a] fa) (hs:starEach [a] X.env=[(false,eval a X.env)]:=by rfl):
 E6 X E (.Tuple elts kt tpos) (.Call (.Name "enumerate" p) [a] [] pos) (Ed fa):=
 JF (Xo hg hm ha hs) fun σ H R ⟨m,ρ,h,hr,er,p⟩=>⟨m,ρ,h,hr,er,Post.bind p fun x h1 v m1 H1 eo p1 k1 hr1 r1 q1=>by
  clear eo
  unfold GQ at q1
  split at q1
  ·rename_i xs
   simp only [FH,DVs,DV] at r1
   obtain ⟨v,w,rfl,⟨a,vs,rfl,ha,dv⟩,rfl⟩:=r1
   refine .inl ⟨a,vs,rfl,SqT.of ha,q1 _ m1 H1 (AL _) (.refl _) hr1 fun i m2 h2 H2 p2 k2 hr2 _=>⟨fun hi=>?_,fun hi=>?_⟩⟩
   ·have hi':i<xs.length:=by simpa [Eu] using hi
    refine ⟨⟨by rw [←dv.len];exact hi',SqT.of (k2 _ _ ha rfl)⟩,fun y H3 ⟨pp,vv,hp,ey,ev,eH⟩=>?_⟩
    subst ey eH
    have hd:xs[i]?=some xs[i]:=Bi hi'
    obtain ⟨v2,e2,r2⟩:=dv.get hd
    rw [ev] at e2
    cases e2
    refine ⟨.new hp,hr2.new hp,.tup [.int i,xs[i]],?_,?_⟩
    ·simp [Eu,hd]
    ·simp only [DV]
     exact ⟨pp,_,rfl,Dp,.cons (by simp [DV]) (.cons (DV.keep p2 (k2.trans (.new hp)) r2) .nil)⟩
   ·exact ⟨by rw [←dv.len];simpa [Eu] using hi,SqT.of (k2 _ _ ha rfl)⟩
  ·rename_i l
   split at q1
   ·rename_i xs el
    simp only [FH,DVs,DV] at r1
    obtain ⟨v,w,rfl,⟨a,rfl,ha⟩,rfl⟩:=r1
    obtain ⟨vs,hv,dv⟩:=hr1.cells l _ a el ha
    refine .inr ⟨a,vs,rfl,SqL.of hv,q1 _ m1 H1 (AL _) (.refl _) hr1 fun i m2 h2 H2 p2 k2 hr2 hsr=>?_⟩
    obtain ⟨ws,hw,dw⟩:=hr2.cells l _ a (hsr _ AW) (Iq p2 ha)
    refine ⟨fun hi=>?_,fun hi=>⟨ws,SqL.of hw,by rw [←dw.len];simpa [Eu] using hi⟩⟩
    have hi':i<xs.length:=by simpa [Eu] using hi
    refine ⟨⟨ws,SqL.of hw,by rw [←dw.len];exact hi'⟩,fun y H3 ⟨pp,vv,hp,ey,ev,eH⟩=>?_⟩
    subst ey eH
    have hd:xs[i]?=some xs[i]:=Bi hi'
    obtain ⟨v2,e2,r2⟩:=dw.get hd
    rw [ev ws (SqL.of hw)] at e2
    cases e2
    refine ⟨.new hp,hr2.new hp,.tup [.int i,xs[i]],?_,?_⟩
    ·simp [Eu,hd]
    ·simp only [DV]
     exact ⟨pp,_,rfl,Dp,.cons (by simp [DV]) (.cons (DV.keep (AL _) (.new hp) r2) .nil)⟩
   ·exact q1.elim
  ·exact q1.elim⟩
end
structure IT (z TI TO p q:Addr) (f g:List Addr):Prop where
 a1:TI≠z
 a2:TO≠z
 a3:p≠z
 a4:q≠z
 a5:TI≠TO
 a6:TI≠p
 a7:TI≠q
 a8:TO≠p
 a9:TO≠q
 b1:p≠q
 b2:z∉f
 b3:z∉g
 b4:TO∉f
 b5:TO∉g
 b6:p∉g
 b7:q∉f
section
variable {prog:Program} {w:World} {A:Around} {E:Value→Shared→Prop} {s:Shared} {z TI TO p q:Addr} {f g:List Addr} {n1 n2 k:Nat} {P1 P2:Nat→Value→Prop} {S1 S2:Nat→Heap→Prop} {a b:Value}
theorem Xp {Q:Value→Shared→Prop} (D1:Draws prog w A p f n1 P1 S1) (D2:Draws prog w A q g n2 P2 S2) (ap:IT z TI TO p q f g)
 (zz:IsZip s.heap z TI TO .none) (zi:IsPair s.heap TI (.ref p) (.ref q)) (zo:IsPair s.heap TO a b) (s1:S1 k s.heap) (s2:S2 k s.heap) (l1:k<n1) (l2:k<n2)
 (hQ:∀h' tk x y,P1 k x→P2 k y→IsZip h' z TI TO (rawInt s.heap.objs.size)→IsPair h' TO x y→S1 (k+1) h'→S2 (k+1) h'→IsPair h' s.heap.objs.size x y→
  (∀c o,c≠z→c≠TO→c≠p→c≠q→s.heap.get? c=some o→h'.get? c=some o)→Q (.ref s.heap.objs.size) {s with heap:=h',toks:=tk}):
 wpAny (model prog w) A (Builtin.«zip.__next__» ⟨[.ref z],[]⟩) (fun Bm s'=>∃v,Bm=.done (.ret v)∧Q v s') E s:=by
 show wpAny _ _ (field (.ref z) 2 >>=_) _ _ _
 refine wpAny_bind (wpAny_field zz rfl (x:=.bool false) rfl ?_)
 show wpAny _ _ (field (.ref z) 3 >>=_) _ _ _
 refine wpAny_bind (wpAny_field zz rfl (x:=.ref TI) rfl ?_)
 refine wpAny_bind (wpAny_seqItems zi rfl ?_)
 show wpAny _ _ (Builtin.SmallTypes.ownedTupleIsFree (.ref z) >>=_) _ _ _
 refine wpAny_bind ?_
 unfold Builtin.SmallTypes.ownedTupleIsFree
 refine wpAny_bind (wpAny_field zz rfl (x:=.none) rfl (wpAny_pure ?_))
 simp only [if_true]
 refine wpAny_bind (wpAny_rule ?_)
 refine wpAny_bind (wpAny_field zz rfl (x:=.ref TO) rfl ?_)
 refine wpAny_bind (wpAny_setField_rec zz (by simp) fun m1 zz1 t1=>?_)
 replace zz1:IsZip m1 z TI TO .ellipsis:=zz1
 refine wpAny_bind ?_
 simp only [List.zipIdx_cons,List.zipIdx_nil,List.forIn_cons,List.forIn_nil]
 refine wpAny_bind (wpAny_bind (wpAny_onRaise ?_))
 show wpAny _ _ (Builtin.SmallTypes.nextOf (.ref p) >>=_) _ _ _
 refine wpAny_bind (D1.item k _ _ _ l1 (D1.frame k _ _ s1 fun c hc o e=>t1.extBut _ _ (fun y=>ap.b2 (y ▸ hc)) e) fun x m2 tk2 px s12 t2=>wpAny_pure ?_)
 have zo2:IsPair m2 TO a b:=t2.extBut _ _ ap.a8 (t1.extBut _ _ ap.a2 zo)
 refine wpAny_bind (wpAny_seqItems zo2 rfl ?_)
 refine wpAny_bind (wpAny_updateSeq_pair zo2 fun m3 zo3 t3=>?_)
 replace zo3:IsPair m3 TO x b:=zo3
 refine wpAny_bind (wpAny_letGo (wpAny_pure ?_))
 refine wpAny_bind (wpAny_bind (wpAny_onRaise ?_))
 show wpAny _ _ (Builtin.SmallTypes.nextOf (.ref q) >>=_) _ _ _
 have s23:S2 k m3:=D2.frame k _ _ s2 fun c hc o e=>t3.extBut _ _ (fun y=>ap.b5 (y ▸ hc)) (t2.extBut _ _ (fun y=>ap.b6 (y ▸ hc)) (t1.extBut _ _ (fun y=>ap.b3 (y ▸ hc)) e))
 refine wpAny_bind (D2.item k _ _ _ l2 s23 fun y m4 tk4 py s24 t4=>wpAny_pure ?_)
 have zo4:IsPair m4 TO x b:=t4.extBut _ _ ap.a9 zo3
 refine wpAny_bind (wpAny_seqItems zo4 rfl ?_)
 refine wpAny_bind (wpAny_updateSeq_pair zo4 fun m5 zo5 t5=>?_)
 replace zo5:IsPair m5 TO x y:=zo5
 refine wpAny_bind (wpAny_letGo (wpAny_pure (wpAny_pure ?_)))
 refine wpAny_bind (wpAny_seqItems zo5 rfl ?_)
 refine wpAny_bind (wpAny_newTuple ?_)
 have sz:m5.objs.size=s.heap.objs.size:=by rw [t5.1,t4.1,t3.1,t2.1,t1.1]
 have zz5:IsZip m5 z TI TO .ellipsis:=t5.extBut _ _ ap.a2.symm (t4.extBut _ _ ap.a4.symm (t3.extBut _ _ ap.a2.symm (t2.extBut _ _ ap.a3.symm zz1)))
 have kp:∀c o,c≠z→c≠TO→c≠p→c≠q→s.heap.get? c=some o→m5.get? c=some o:=fun c o c1 c2 c3 c4 e=>t5.extBut _ _ c2 (t4.extBut _ _ c4 (t3.extBut _ _ c2 (t2.extBut _ _ c3 (t1.extBut _ _ c1 e))))
 have zlt:z<m5.objs.size:=AX zz5
 show wpAny _ _ (Builtin.SmallTypes.ownedTupleHandOut (.ref z) (.ref m5.objs.size) >>=_) _ _ _
 refine wpAny_bind ?_
 unfold Builtin.SmallTypes.ownedTupleHandOut
 have zz6:IsZip (m5.push {cls:=.type "tuple",data:=.seq #[x,y]}) z TI TO .ellipsis:=AY _ zz5
 refine wpAny_bind (wpAny_setField_rec zz6 (by simp) fun m7 zz7 t7=>?_)
 replace zz7:IsZip m7 z TI TO (rawInt m5.objs.size):=zz7
 refine wpAny_setField_rec zz7 (by simp) fun m8 zz8 t8=>?_
 replace zz8:IsZip m8 z TI TO (rawInt m5.objs.size):=zz8
 have up:∀c o,c≠z→m5.get? c=some o→m8.get? c=some o:=fun c o c1 e=>t8.extBut _ _ c1 (t7.extBut _ _ c1 (AY _ e))
 have nw:IsPair m8 m5.objs.size x y:=t8.extBut _ _ (Cp zlt) (t7.extBut _ _ (Cp zlt) (BK _ rfl))
 rw [sz] at zz8 nw
 refine wpAny_pure ⟨_,rfl,?_⟩
 show Q (.ref m5.objs.size) _
 rw [sz]
 refine hQ m8 tk4 x y px py zz8 (up _ _ ap.a2 zo5) (D1.frame _ m2 m8 s12 fun c hc o e=>?_) (D2.frame _ m4 m8 s24 fun c hc o e=>?_) nw fun c o c1 c2 c3 c4 e=>up c o c1 (kp c o c1 c2 c3 c4 e)
 ·have n1:c≠TO:=fun y=>ap.b4 (y ▸ hc)
  exact up c o (fun y=>ap.b2 (y ▸ hc)) (t5.extBut _ _ n1 (t4.extBut _ _ (fun y=>ap.b7 (y ▸ hc)) (t3.extBut _ _ n1 e)))
 ·exact up c o (fun y=>ap.b3 (y ▸ hc)) (t5.extBut _ _ (fun y=>ap.b5 (y ▸ hc)) e)
theorem Xq {Q:Fin→Shared→Prop} (D1:Draws prog w A p f n1 P1 S1) (D2:Draws prog w A q g n2 P2 S2) (ap:IT z TI TO p q f g)
 (zz:IsZip s.heap z TI TO .none) (zi:IsPair s.heap TI (.ref p) (.ref q)) (zo:IsPair s.heap TO a b) (s1:S1 k s.heap) (s2:S2 k s.heap) (hk:k=n1∨(k<n1∧k=n2))
 (hE:∀h' tk e,(∀c o,c≠z→c≠TO→c≠p→c≠q→s.heap.get? c=some o→h'.get? c=some o)→(∃o,h'.get? e=some o∧o.cls=.type "StopIteration")→E (.ref e) {s with heap:=h',toks:=tk}):
 wpAny (model prog w) A (Builtin.«zip.__next__» ⟨[.ref z],[]⟩) Q E s:=by
 show wpAny _ _ (field (.ref z) 2 >>=_) _ _ _
 refine wpAny_bind (wpAny_field zz rfl (x:=.bool false) rfl ?_)
 show wpAny _ _ (field (.ref z) 3 >>=_) _ _ _
 refine wpAny_bind (wpAny_field zz rfl (x:=.ref TI) rfl ?_)
 refine wpAny_bind (wpAny_seqItems zi rfl ?_)
 show wpAny _ _ (Builtin.SmallTypes.ownedTupleIsFree (.ref z) >>=_) _ _ _
 refine wpAny_bind ?_
 unfold Builtin.SmallTypes.ownedTupleIsFree
 refine wpAny_bind (wpAny_field zz rfl (x:=.none) rfl (wpAny_pure ?_))
 simp only [if_true]
 refine wpAny_bind (wpAny_rule ?_)
 refine wpAny_bind (wpAny_field zz rfl (x:=.ref TO) rfl ?_)
 refine wpAny_bind (wpAny_setField_rec zz (by simp) fun m1 zz1 t1=>?_)
 replace zz1:IsZip m1 z TI TO .ellipsis:=zz1
 refine wpAny_bind ?_
 simp only [List.zipIdx_cons,List.zipIdx_nil,List.forIn_cons,List.forIn_nil]
 refine wpAny_bind (wpAny_bind (wpAny_onRaise ?_))
 show wpAny _ _ (Builtin.SmallTypes.nextOf (.ref p) >>=_) _ _ _
 have s11:=D1.frame k _ m1 s1 fun c hc o e=>t1.extBut _ _ (fun y=>ap.b2 (y ▸ hc)) e
 rcases hk with hk |⟨hk,hk2⟩
 ·subst hk
  refine wpAny_bind (D1.done _ _ _ s11 fun m2 e t2 he=>?_)
  obtain ⟨oe,e1,e2⟩:=he
  have zz2:IsZip m2 z TI TO .ellipsis:=t2 _ _ ap.a3.symm zz1
  have ne:e≠z:=fun y=>by subst y;rw [zz2] at e1;cases e1;simp at e2
  exact wpAny_setField_rec zz2 (by simp) fun m3 _ t3=>hE m3 _ e (fun c o c1 _ c3 _ y=>t3.extBut _ _ c1 (t2 _ _ c3 (t1.extBut _ _ c1 y))) ⟨oe,t3.extBut _ _ ne e1,e2⟩
 ·subst hk2
  refine wpAny_bind (D1.item k _ _ _ hk s11 fun x m2 tk2 px s12 t2=>wpAny_pure ?_)
  have zo2:IsPair m2 TO a b:=t2.extBut _ _ ap.a8 (t1.extBut _ _ ap.a2 zo)
  refine wpAny_bind (wpAny_seqItems zo2 rfl ?_)
  refine wpAny_bind (wpAny_updateSeq_pair zo2 fun m3 zo3 t3=>?_)
  refine wpAny_bind (wpAny_letGo (wpAny_pure ?_))
  refine wpAny_bind (wpAny_bind (wpAny_onRaise ?_))
  show wpAny _ _ (Builtin.SmallTypes.nextOf (.ref q) >>=_) _ _ _
  have s23:S2 k m3:=D2.frame k _ _ s2 fun c hc o e=>t3.extBut _ _ (fun y=>ap.b5 (y ▸ hc)) (t2.extBut _ _ (fun y=>ap.b6 (y ▸ hc)) (t1.extBut _ _ (fun y=>ap.b3 (y ▸ hc)) e))
  refine wpAny_bind (D2.done _ _ _ s23 fun m4 e t4 he=>?_)
  obtain ⟨oe,e1,e2⟩:=he
  have zz4:IsZip m4 z TI TO .ellipsis:=t4 _ _ ap.a4.symm (t3.extBut _ _ ap.a2.symm (t2.extBut _ _ ap.a3.symm zz1))
  have ne:e≠z:=fun y=>by subst y;rw [zz4] at e1;cases e1;simp at e2
  exact wpAny_setField_rec zz4 (by simp) fun m5 _ t5=>hE m5 _ e (fun c o c1 c2 c3 c4 y=>t5.extBut _ _ c1 (t4 _ _ c4 (t3.extBut _ _ c2 (t2.extBut _ _ c3 (t1.extBut _ _ c1 y))))) ⟨oe,t5.extBut _ _ ne e1,e2⟩
theorem Xr {Q:Option Value→Shared→Prop} (D1:Draws prog w A.in1 p f n1 P1 S1) (D2:Draws prog w A.in1 q g n2 P2 S2) (ap:IT z TI TO p q f g)
 (zz:IsZip s.heap z TI TO .none) (zi:IsPair s.heap TI (.ref p) (.ref q)) (zo:IsPair s.heap TO a b) (s1:S1 k s.heap) (s2:S2 k s.heap) (l1:k<n1) (l2:k<n2)
 (hQ:∀h' tk x y,P1 k x→P2 k y→IsZip h' z TI TO (rawInt s.heap.objs.size)→IsPair h' TO x y→S1 (k+1) h'→S2 (k+1) h'→IsPair h' s.heap.objs.size x y→
  (∀c o,c≠z→c≠TO→c≠p→c≠q→s.heap.get? c=some o→h'.get? c=some o)→Q (some (.ref s.heap.objs.size)) {s with heap:=h',toks:=tk}):
 wpAny (model prog w) A (pyNext (.ref z)) Q E s:=by
 have hT:s.TypeIs (.ref z) "zip":=⟨_,zz,rfl⟩
 unfold pyNext
 exact wpAny_bind (wpAny_attempt (wpAny_callSpecial?_slot (name:=Str.ofString "__next__") hT F.slot_zip_next (wpAny_call_entry F.slot_zip_next hT F.entry_zip_next
  (Xp D1 D2 ap zz zi zo s1 s2 l1 l2 fun h' tk x y c1 c2 c3 c4 c5 c6 c7 c8=>wpAny_pure (hQ h' tk x y c1 c2 c3 c4 c5 c6 c7 c8)) (F.args_zip_next_1 _))))
theorem Xs {Q:Option Value→Shared→Prop} (D1:Draws prog w A.in1 p f n1 P1 S1) (D2:Draws prog w A.in1 q g n2 P2 S2) (ap:IT z TI TO p q f g)
 (zz:IsZip s.heap z TI TO .none) (zi:IsPair s.heap TI (.ref p) (.ref q)) (zo:IsPair s.heap TO a b) (s1:S1 k s.heap) (s2:S2 k s.heap) (hk:k=n1∨(k<n1∧k=n2))
 (hQ:∀h' tk,(∀c o,c≠z→c≠TO→c≠p→c≠q→s.heap.get? c=some o→h'.get? c=some o)→Q none {s with heap:=h',toks:=tk}):wpAny (model prog w) A (pyNext (.ref z)) Q E s:=by
 have hT:s.TypeIs (.ref z) "zip":=⟨_,zz,rfl⟩
 unfold pyNext
 refine wpAny_bind (wpAny_attempt (wpAny_callSpecial?_slot (name:=Str.ofString "__next__") hT F.slot_zip_next (wpAny_call_entry F.slot_zip_next hT F.entry_zip_next
  (Xq D1 D2 ap zz zi zo s1 s2 hk fun h' tk e kp he=>?_) (F.args_zip_next_1 _))))
 obtain ⟨o,ho,hc⟩:=he
 refine wpAny_bind (wpAny_isInstance (T:="StopIteration") (b:=true) ⟨o,ho,hc⟩ isSubtype_stop ?_)
 exact wpAny_pure (hQ _ _ kp)
end
open AutoSeq1 (wpAny_loadPart')
def ItAt:Bool→Heap→Addr→Addr→Nat→Prop
 |true,h,it,l,i=>h.IsTupleIter it l i
 |false,h,it,l,i=>h.IsListIter it l i
def SqA:Bool→Heap→Addr→Array Value→Prop
 |true,h,l,xs=>h.IsTuple l xs
 |false,h,l,xs=>h.IsList l xs
def Ee:Bool→PySem.W.Frag→Hp→Addr→List V→Prop
 |true,K,H,a,xs=>SqT K H a xs
 |false,K,H,a,xs=>SqL K H a xs
def GR (k:Bool) (l:Addr):Obj:={cls:=.type (if k then "tuple_iterator" else "list_iterator"),data:=.fields #[.ref l,.int 0 0]}
theorem Lj {prog:Program} {w:World} {A:Around} (k:Bool) (hh:A.handled=none) (it l:Addr) (hne:l≠it) (items:Array Value):
 Draws prog w A it [it,l] items.size (fun i v=>items[i]?=some v) (fun i h=>ItAt k h it l i∧SqA k h l items):=by
 cases k
 ·exact Draws.list hh it l hne items
 ·exact Mw hh it l hne items
theorem ItAt.obj {k:Bool} {h:Heap} {it l:Addr} {i:Nat} (x:ItAt k h it l i):∃o,h.get? it=some o∧∀v,o.data≠.cell v:=by
 cases k
 ·obtain ⟨o,e,c,d⟩:=x
  exact ⟨o,e,fun v z=>by rw [d] at z;cases z⟩
 ·obtain ⟨o,e,c,d⟩:=x
  exact ⟨o,e,fun v z=>by rw [d] at z;cases z⟩
theorem ItAt.at {k:Bool} {h h':Heap} {it l:Addr} {i:Nat} (x:ItAt k h it l i) (f:∀o,h.get? it=some o→h'.get? it=some o):ItAt k h' it l i:=by
 cases k
 ·exact Heap.IsListIter.at x f
 ·exact Heap.IsTupleIter.at x f
section
variable {X:Cx} {pins:List (Addr×Obj)} {σ:L2.St} {H:Hp} {s:Shared}
theorem IU {k:Bool} {a:Addr} {xs:List V} (I:Inv X pins σ H s) (h:Ee k X.K H a xs):∃its:List Value,Vals xs its∧SqA k s.heap a its.toArray∧a<s.heap.objs.size:=by
 cases k
 ·obtain ⟨its,r,p,_⟩:=I.list h
  have q:=p.isList
  exact ⟨its,r,q,by obtain ⟨_,e,_⟩:=q;exact AX e⟩
 ·obtain ⟨its,r,p,_⟩:=I.tuple h
  exact ⟨its,r,p,p.lt⟩
theorem Q0 {k:Bool} {a:Addr} {xs ys:List V} (I:Inv X pins σ H s) (h:Ee k X.K H a xs) (h':Ee k X.K H a ys):xs=ys:=by
 cases k
 ·exact I.list_inj h h'
 ·exact I.tuple_inj h h'
end
def Q1 (K:PySem.W.Frag) (k1 k2:Bool) (t u:Addr):It:=⟨fun i H=>∃xs ys,Ee k1 K H t xs∧Ee k2 K H u ys∧i<xs.length∧i<ys.length,
 fun i H x H'=>∃p v v',H p=none∧x=.ref p∧(∀xs:List V,Ee k1 K H t xs→xs[i]?=some v)∧(∀ys:List V,Ee k2 K H u ys→ys[i]?=some v')∧H'=Az H p (.tup [v,v']),
 fun i H=>∃xs ys,Ee k1 K H t xs∧Ee k2 K H u ys∧(i=xs.length∨(i<xs.length∧i=ys.length))⟩
inductive Q2 (k1 k2:Bool) (z TI TO p q t u:Addr) (i:Nat) (h:Heap):Prop where
 |mk (zz:IsZip h z TI TO .none) (zi:IsPair h TI (.ref p) (.ref q)) (zo:∃a b,IsPair h TO a b) (x1:ItAt k1 h p t i) (x2:ItAt k2 h q u i):Q2 k1 k2 z TI TO p q t u i h
theorem Xu {P:Program} {w:World} {K:PySem.W.Frag} {elts:List Expr} {kt:Nat} {tpos:Pos} (k1 k2:Bool) (z TI TO p q t u:Addr) (ap:IT z TI TO p q [p,t] [q,u]) (n1:t≠p) (n2:u≠q):
 F5 P w K (.Tuple elts kt tpos) (Q1 K k1 k2 t u) [z,TI,TO,p,q] z (Q2 k1 k2 z TI TO p q t u) where
 mem:=by simp
 obj:=fun i h st c hc=>by
  obtain ⟨zz,zi,⟨a,b,zo⟩,x1,x2⟩:=st
  simp only [qa7,DZ,or_false] at hc
  rcases hc with rfl |rfl |rfl |rfl |rfl
  ·exact ⟨_,zz,fun v y=>by cases y⟩
  ·exact ⟨_,zi,fun v y=>by cases y⟩
  ·exact ⟨_,zo,fun v y=>by cases y⟩
  ·exact x1.obj
  ·exact x2.obj
 keep:=fun i h h' st kp=>by
  obtain ⟨zz,zi,⟨a,b,zo⟩,x1,x2⟩:=st
  exact ⟨kp z (by simp) _ zz,kp TI (by simp) _ zi,⟨a,b,kp TO (by simp) _ zo⟩,x1.at fun o e=>kp p (by simp) o e,x2.at fun o e=>kp q (by simp) o e⟩
 item:=by
  intro X hP hw hK hc i pins s σ H E I hf st hg
  subst hP hw hK
  obtain ⟨zz,zi,⟨a,b,zo⟩,x1,x2⟩:=st
  obtain ⟨xs,ys,hq1,hq2,l1,l2⟩:=hg
  obtain ⟨it1,rv1,sq1,lt1⟩:=IU I hq1
  obtain ⟨it2,rv2,sq2,lt2⟩:=IU I hq2
  have e1:=rv1.length
  have e2:=rv2.length
  have hh:X.A.in1.handled=none:=I.ok.hd hc
  refine Xr (Lj k1 hh p t n1 it1.toArray) (Lj k2 hh q u n2 it2.toArray) ap zz zi zo ⟨x1,sq1⟩ ⟨x2,sq2⟩ (by rw [Ba];omega) (by rw [Ba];omega) fun h1 tk x y px py zz1 zo1 OU Do nw kp=>?_
  refine ⟨.ref s.heap.objs.size,rfl,wpAny_letOwnedTupleGo_zip zz1 fun h2 zz2 sb=>?_⟩
  have hx:xs[i]?=some xs[i]:=Bi l1
  have hy:ys[i]?=some ys[i]:=Bi l2
  obtain ⟨u1,hu1,ru1⟩:=rv1.get hx
  obtain ⟨u2,hu2,ru2⟩:=rv2.get hy
  have hux:u1=x:=by
   have:it1[i]?=some x:=by simpa using px
   rw [hu1] at this
   exact Option.some.inj this
  have huy:u2=y:=by
   have:it2[i]?=some y:=by simpa using py
   rw [hu2] at this
   exact Option.some.inj this
  subst hux huy
  have hfr:H s.heap.objs.size=none:=I.hok.fresh (AV _)
  have kk:∀c o,c∉[z,TI,TO,p,q]→s.heap.get? c=some o→h2.get? c=some o:=fun c o hc e=>by
   simp only [qa7,DZ,or_false,not_or] at hc
   exact (sb.2 c hc.1).trans (kp c o hc.1 hc.2.2.1 hc.2.2.2.1 hc.2.2.2.2 e)
  have nal:∀c o,s.heap.get? c=some o→c≠s.heap.objs.size:=fun c o e=>Bz (AX e)
  have na:s.heap.objs.size≠z:=Ne.symm (nal z _ zz)
  have hnew:h2.get? s.heap.objs.size=some {cls:=.type "tuple",data:=.seq #[u1,u2]}:=(sb.2 _ na).trans nw
  have ntr:∀c o,H c=some o→c∉[z,TI,TO,p,q]:=fun c o e hc=>by
   rw [(hf c hc).1] at e;cases e
  refine ⟨.ref s.heap.objs.size,Az H s.heap.objs.size (.tup [xs[i],ys[i]]),?_,rfl,⟨s.heap.objs.size,xs[i],ys[i],hfr,rfl,fun zs hz=>by rw [Q0 I hz hq1];exact hx,fun zs hz=>by rw [Q0 I hz hq2];exact hy,rfl⟩,
   ⟨zz2,(sb.2 TI ap.a1).trans (kp TI _ ap.a1 ap.a5 ap.a6 ap.a7 zi),⟨u1,u2,(sb.2 TO ap.a2).trans zo1⟩,OU.1.at fun o e=>(sb.2 p ap.a3).trans e,Do.1.at fun o e=>(sb.2 q ap.a4).trans e⟩,fun c hc=>?_⟩
  ·show Inv X pins σ _ {s with heap:=h2,gens:=s.gens,drawn:=s.drawn,toks:=tk}
   refine I.step (g':=s.gens) (d':=s.drawn) (t':=tk) (h':=h2) (ch:=[z,TI,TO,p,q]) (fun c hc=>?_) (fun c o _ _ hc e _=>kk c o hc e) (fun c o _ _ hc e _=>⟨o.slots,kk c o hc e⟩) (fun c o _ e n=>by rw [AM (nal c o e)];exact n)
    (fun c o hc e=>⟨o,kk c o hc e⟩) (fun c zs e=>by rw [AM (BO e hfr)];exact e) (fun c o v e=>by rw [AM (BO e hfr)];exact e) (fun c ps e=>⟨#[],by rw [AM (BO e hfr),e];simp⟩) (fun m hm=>?_) (fun c o e=>?_) I.bare
   ·obtain ⟨_,c1,_,c3,c4,c5⟩:=hf c hc
    exact ⟨c3,c1,c4,c5⟩
   ·obtain ⟨o,es,ep,e,r⟩:=hm
    exact ⟨o,es,ep,kk _ o (fun hc=>(hf _ hc).2.1 rfl) e,r⟩
   ·by_cases hb:c=s.heap.objs.size
    ·subst hb
     rw [Dp] at e
     cases e
     exact ⟨by simp only [Ie,Jg];rw [sizeLine_eq];decide,[u1,u2],.cons ru1 (.cons ru2 .nil),⟨_,hnew,rfl,0,rfl⟩,fun o e=>by rw [hnew] at e;cases e;rfl⟩
    ·rw [AM hb] at e
     refine (I.hok c o e).stay (fun d v hd e'=>kk d v ?_ e') (fun d e'=>by rw [AM (BO e' hfr)];exact e') fun d zs e'=>by rw [AM (BO e' hfr)];exact e'
     rcases hd with rfl |hd
     ·exact ntr d _ e
     ·exact ntr d _ hd
  ·have nc:c≠s.heap.objs.size:=by
    simp only [qa7,DZ,or_false] at hc
    rcases hc with rfl |rfl |rfl |rfl |rfl
    ·exact nal _ _ zz
    ·exact nal _ _ zi
    ·exact nal _ _ zo
    ·obtain ⟨o,e,_⟩:=x1.obj;exact nal _ _ e
    ·obtain ⟨o,e,_⟩:=x2.obj;exact nal _ _ e
   rw [AM nc]
   exact (hf c hc).1
 done:=by
  intro X hP hw hK hc i pins s σ H E I hf st hg
  subst hP hw hK
  obtain ⟨zz,zi,⟨a,b,zo⟩,x1,x2⟩:=st
  obtain ⟨xs,ys,hq1,hq2,hl⟩:=hg
  obtain ⟨it1,rv1,sq1,lt1⟩:=IU I hq1
  obtain ⟨it2,rv2,sq2,lt2⟩:=IU I hq2
  have e1:=rv1.length
  have e2:=rv2.length
  have hh:X.A.in1.handled=none:=I.ok.hd hc
  refine Xs (Lj k1 hh p t n1 it1.toArray) (Lj k2 hh q u n2 it2.toArray) ap zz zi zo ⟨x1,sq1⟩ ⟨x2,sq2⟩ (by simp only [Ba];omega) fun h' tk kp=>⟨rfl,?_⟩
  have kk:∀c o,c∉[z,TI,TO,p,q]→s.heap.get? c=some o→h'.get? c=some o:=fun c o hc e=>by
   simp only [qa7,DZ,or_false,not_or] at hc
   exact kp c o hc.1 hc.2.2.1 hc.2.2.2.1 hc.2.2.2.2 e
  have ntr:∀c o,H c=some o→c∉[z,TI,TO,p,q]:=fun c o e hc=>by
   rw [(hf c hc).1] at e;cases e
  show Inv X pins σ _ {s with heap:=h',gens:=s.gens,drawn:=s.drawn,toks:=tk}
  refine I.step (g':=s.gens) (d':=s.drawn) (t':=tk) (h':=h') (ch:=[z,TI,TO,p,q]) (fun c hc=>?_) (fun c o _ _ hc e _=>kk c o hc e) (fun c o _ _ hc e _=>⟨o.slots,kk c o hc e⟩) (fun c o _ e n=>n)
   (fun c o hc e=>⟨o,kk c o hc e⟩) (fun c zs e=>e) (fun c o v e=>e) (fun c ps e=>⟨#[],by rw [e];simp⟩) (fun m hm=>?_) (fun c o e=>?_) I.bare
  ·obtain ⟨_,c1,_,c3,c4,c5⟩:=hf c hc
   exact ⟨c3,c1,c4,c5⟩
  ·obtain ⟨o,es,ep,e,r⟩:=hm
   exact ⟨o,es,ep,kk _ o (fun hc=>(hf _ hc).2.1 rfl) e,r⟩
  ·refine (I.hok c o e).stay (fun d v hd e'=>kk d v ?_ e') (fun d e'=>e') fun d zs e'=>e'
   rcases hd with rfl |hd
   ·exact ntr d _ e
   ·exact ntr d _ hd
 self:=fun A i s Q E st h=>by cases st with |mk zz zi zo x1 x2=>exact wpAny_pyIter_zip zz h
abbrev zA (h:Heap) (k1:Bool) (t:Addr):Heap:=h.push (GR k1 t)
abbrev zB (h:Heap) (k1 k2:Bool) (t u:Addr):Heap:=(zA h k1 t).push (GR k2 u)
abbrev zC (h:Heap) (k1 k2:Bool) (t u:Addr):Heap:=(zB h k1 k2 t u).push {cls:=.type "tuple",data:=.seq #[.ref h.objs.size,.ref (zA h k1 t).objs.size]}
abbrev zD (h:Heap) (k1 k2:Bool) (t u:Addr):Heap:=(zC h k1 k2 t u).push {cls:=.type "tuple",data:=.seq #[.none,.none]}
abbrev zE (h:Heap) (k1 k2:Bool) (t u:Addr):Heap:=(zD h k1 k2 t u).push {cls:=.type "zip",data:=.fields #[.none,.bool false,.bool false,.ref (zB h k1 k2 t u).objs.size,.ref (zC h k1 k2 t u).objs.size]}
theorem SqA.push {k:Bool} {h:Heap} {l:Addr} {xs:Array Value} (x:SqA k h l xs) (o:Obj):SqA k (h.push o) l xs:=by
 cases k
 ·exact Heap.IsList.push x o
 ·exact Heap.IsTuple.push x o
theorem Q3 {prog:Program} {w:World} {A:Around} {E:Value→Shared→Prop} {s:Shared} {k:Bool} {l:Addr} {xs:Array Value} {Q:Value→Shared→Prop} (x:SqA k s.heap l xs) (hQ:Q (.ref s.heap.objs.size) {s with heap:=s.heap.push (GR k l)}):
 wpAny (model prog w) A (pyIter (.ref l)) Q E s:=by
 cases k
 ·exact wpAny_pyIter_list x hQ
 ·exact wpAny_pyIter_tuple x hQ
theorem Xv (k1 k2:Bool) (t u:Addr) (xs ys:Array Value):
 Meets (Builtin.«zip.__new__» ⟨[.type "zip",.ref t,.ref u],[]⟩) (fun _ R s=>SqA k1 s.heap t xs∧SqA k2 s.heap u ys∧
  R (.ok (.ret (.ref (zD s.heap k1 k2 t u).objs.size))) {s with heap:=zE s.heap k1 k2 t u}):=
 .of_wp fun prog w A R s h=>by
  obtain ⟨hp,g,d,tk,os⟩:=s;obtain ⟨hl1,hl2,h⟩:=h
  have hsub:=sub_zip
  have hL1:SqA k1 (Shared.heap ⟨hp,g,d,tk,os⟩) t xs:=hl1
  have hL2:SqA k2 (Shared.heap ⟨hp.push (GR k1 t),g,d,tk,os⟩) u ys:=SqA.push hl2 _
  wp_walk using Q3 hL1,Q3 hL2
  exact ⟨_,rfl,h⟩
theorem ItAt.new {k:Bool} {h:Heap} {it l:Addr} (e:h.get? it=some (GR k l)):ItAt k h it l 0:=by
 cases k
 ·exact ⟨_,e,rfl,rfl⟩
 ·exact ⟨_,e,rfl,rfl⟩
theorem Xw {prog:Program} {w:World} {A:Around} {E:Value→Shared→Prop} {s:Shared} {k1 k2:Bool} {t u:Addr} {xs ys:Array Value} {Q:Value→Shared→Prop} (h1:SqA k1 s.heap t xs) (h2:SqA k2 s.heap u ys)
 (h:∀h',IsZip h' (s.heap.objs.size+4) (s.heap.objs.size+2) (s.heap.objs.size+3) .none→IsPair h' (s.heap.objs.size+2) (.ref s.heap.objs.size) (.ref (s.heap.objs.size+1))→
  IsPair h' (s.heap.objs.size+3) .none .none→ItAt k1 h' s.heap.objs.size t 0→ItAt k2 h' (s.heap.objs.size+1) u 0→(∀c o,s.heap.get? c=some o→h'.get? c=some o)→Q (.ref (s.heap.objs.size+4)) {s with heap:=h'}):
 wpAny (model prog w) A (call (.type "zip") [.ref t,.ref u]) Q E s:=by
 refine callType_new F.called_zip (by decide) (F.typeCall_zip_2 _ _) (F.newCall_zip_2 _ _) (fun obj=>F.args_object_init_3 obj _ _) F.entry_zip_new
  (Xv k1 k2 t u xs ys) ⟨h1,h2,?_⟩
 have y1:(zA s.heap k1 t).objs.size=s.heap.objs.size+1:=CL ..
 have y2:(zB s.heap k1 k2 t u).objs.size=s.heap.objs.size+2:=by rw [CL,y1]
 have y3:(zC s.heap k1 k2 t u).objs.size=s.heap.objs.size+3:=by rw [CL,y2]
 have y4:(zD s.heap k1 k2 t u).objs.size=s.heap.objs.size+4:=by rw [CL,y3]
 have g5:(zE s.heap k1 k2 t u).get? (zD s.heap k1 k2 t u).objs.size=some _:=BK _ rfl
 have g4:(zE s.heap k1 k2 t u).get? (zC s.heap k1 k2 t u).objs.size=some _:=AY _ (BK _ rfl)
 have g3:(zE s.heap k1 k2 t u).get? (zB s.heap k1 k2 t u).objs.size=some _:=AY _ (AY _ (BK _ rfl))
 have g2:(zE s.heap k1 k2 t u).get? (zA s.heap k1 t).objs.size=some (GR k2 u):=AY _ (AY _ (AY _ (BK _ rfl)))
 have g1:(zE s.heap k1 k2 t u).get? s.heap.objs.size=some (GR k1 t):=AY _ (AY _ (AY _ (AY _ (BK _ rfl))))
 show _∧_
 rw [y2,y3,y4] at g5
 rw [y1,y2] at g3
 rw [y3] at g4
 rw [y1] at g2
 rw [y4]
 exact ⟨⟨_,g5,rfl⟩,h _ g5 g3 g4 (.new g1) (.new g2) fun c o x=>AY _ (AY _ (AY _ (AY _ (AY _ x))))⟩
section
variable {X:Cx} {E:XK}
theorem Xx {elts:List Expr} {kt:Nat} {tpos p pos:Pos} {a b:Expr} {ta:TA} (hg:Gl X "zip") (hm:X.mg "zip"=none) (ha:PA X [a,b] ta) (hs:starEach [a,b] X.env=[(false,eval a X.env),(false,eval b X.env)]:=by rfl) (hs2:starEach [b] X.env=[(false,eval b X.env)]:=by rfl):
 PI X (.Tuple elts kt tpos) (.Call (.Name "zip" p) [a,b] [] pos) (fun σ H R=>ta σ H fun vs H1=>∃k1 k2 t u xs ys,vs=[.ref t,.ref u]∧Ee k1 X.K H1 t xs∧Ee k2 X.K H1 u ys∧R (Q1 X.K k1 k2 t u) H1):=by
 intro pins s σ H R I h
 refine Call_ (GC I hg hm PyProof.Rows.boot_zip (PyProof.Rows.callWith_type1 (Au (ha pos pins s σ H _ I h) fun us s1 ⟨vs,H1,I1,r1,q1⟩=>?_) (by rw [hs,hs2]) (by rw [hs2];rfl)))
 obtain ⟨k1,k2,t,u,xs,ys,e,hq1,hq2,q⟩:=q1
 subst e
 cases r1 with
 |cons r rr=>
  cases rr with
  |cons r' rr=>
   cases rr
   cases r
   cases r'
   obtain ⟨it1,rv1,sq1,lt1⟩:=IU I1 hq1
   obtain ⟨it2,rv2,sq2,lt2⟩:=IU I1 hq2
   refine Xw sq1 sq2 fun h' zz zi zo x1 x2 kp=>wpAny_pyIter_zip (s:={s1 with heap:=h'}) zz ?_
   have I2:Inv X pins σ H1 {s1 with heap:=h'}:=I1.kept (t':=s1.toks) kp
   have fr:∀c,s1.heap.objs.size≤c→CW X pins H1 c:=fun c hc=>I1.fpOk hc (I1.hok.fresh hc)
   have m0:s1.heap.objs.size≠s1.heap.objs.size+4:=BX (by omega)
   have ap:IT (s1.heap.objs.size+4) (s1.heap.objs.size+2) (s1.heap.objs.size+3) s1.heap.objs.size (s1.heap.objs.size+1) [s1.heap.objs.size,t] [s1.heap.objs.size+1,u]:=by
    generalize s1.heap.objs.size=n at lt1 lt2
    exact ⟨BX (by omega),BX (by omega),BX (by omega),BX (by omega),BX (by omega),Cp (by omega),Cp (by omega),Cp (by omega),Cp (by omega),BX (by omega),
     fun z=>by simp only [qa7,DZ,or_false] at z;rcases z with z |z;exact absurd z (Cp (by omega));exact absurd z (Cp (Bq lt1 (FC _ _))),
     fun z=>by simp only [qa7,DZ,or_false] at z;rcases z with z |z;exact absurd z (Cp (by omega));exact absurd z (Cp (Bq lt2 (FC _ _))),
     fun z=>by simp only [qa7,DZ,or_false] at z;rcases z with z |z;exact absurd z (Cp (by omega));exact absurd z (Cp (Bq lt1 (FC _ _))),
     fun z=>by simp only [qa7,DZ,or_false] at z;rcases z with z |z;exact absurd z (Cp (by omega));exact absurd z (Cp (Bq lt2 (FC _ _))),
     fun z=>by simp only [qa7,DZ,or_false] at z;rcases z with z |z;exact absurd z (BX (by omega));exact absurd z (Cp lt2),
     fun z=>by simp only [qa7,DZ,or_false] at z;rcases z with z |z;exact absurd z (Cp (by omega));exact absurd z (Cp (Bq lt1 (FC _ _)))⟩
   refine ⟨s1.heap.objs.size+4,[s1.heap.objs.size+4,s1.heap.objs.size+2,s1.heap.objs.size+3,s1.heap.objs.size,s1.heap.objs.size+1],_,_,H1,rfl,I2,Xu k1 k2 _ _ _ _ _ t u ap (Bz lt1) (Bz (Ib lt2)),⟨zz,zi,⟨_,_,zo⟩,x1,x2⟩,fun c hc=>?_,q⟩
   simp only [qa7,DZ,or_false] at hc
   rcases hc with rfl |rfl |rfl |rfl |rfl
   ·exact fr _ (FC _ _)
   ·exact fr _ (FC _ _)
   ·exact fr _ (FC _ _)
   ·exact fr _ (AV _)
   ·exact fr _ (FC _ _)
def IV (xs ys:List D):List D:=List.zipWith (fun a b=>.tup [a,b]) xs ys
def CH:D→HD→Option (List D×Bk)
 |.tup xs,_=>some (xs,[])
 |.loc l,h=>match h[l]? with
  |some (.lst xs)=>some (xs,[(l,xs)])
  |_=>none
 |_,_=>none
def JR:List D→HD→Out (List D×Bk):=fun ds h=>match ds with
 |[x,y]=>match CH x h,CH y h with
  |some (xs,s1),some (ys,s2)=>.ok (IV xs ys,s1++s2) h
  |_,_=>.stuck
 |_=>.stuck
def JS (fa:MA):MI:=fun ρ h=>(fa ρ h).bind JR
theorem Q4 {m:List Addr} {h:HD} {d:D} {v:V} {H:Hp} {xs:List D} {sr:Bk} (hr:HR X.K m h H) (r:DV X.K m H d v) (e:CH d h=some (xs,sr)):
 ∃k t,v=.ref t∧∀m2 h2 H2,m <+:m2→Kp H H2→HR X.K m2 h2 H2→(∀p∈sr,h2[p.1]?=some (.lst p.2))→∃vs,Ee k X.K H2 t vs∧DVs X.K m2 H2 xs vs:=by
 cases d with
 |tup zs=>
  simp only [CH,Option.some.injEq,Prod.mk.injEq] at e
  obtain ⟨rfl,rfl⟩:=e
  simp only [DV] at r
  obtain ⟨a,vs,rfl,ha,dv⟩:=r
  exact ⟨true,a,rfl,fun m2 h2 H2 p2 k2 hr2 _=>⟨vs,SqT.of (k2 _ _ ha rfl),dv.keep p2 k2⟩⟩
 |loc l=>
  simp only [CH] at e
  split at e
  ·rename_i zs el
   simp only [Option.some.injEq,Prod.mk.injEq] at e
   obtain ⟨rfl,rfl⟩:=e
   simp only [DV] at r
   obtain ⟨a,rfl,ha⟩:=r
   refine ⟨false,a,rfl,fun m2 h2 H2 p2 k2 hr2 hs=>?_⟩
   obtain ⟨ws,hw,dw⟩:=hr2.cells l _ a (hs _ AW) (Iq p2 ha)
   exact ⟨ws,SqL.of hw,dw⟩
  ·cases e
 |_=>simp [CH] at e
theorem Q5 {h:HD} {d:D} {xs:List D} {sr:Bk} (e:CH d h=some (xs,sr)):∀p∈sr,h[p.1]?=some (.lst p.2):=by
 cases d with
 |tup zs=>
  simp only [CH,Option.some.injEq,Prod.mk.injEq] at e
  obtain ⟨rfl,rfl⟩:=e
  exact fun p hp=>nomatch hp
 |loc l=>
  simp only [CH] at e
  split at e
  ·rename_i zs el
   simp only [Option.some.injEq,Prod.mk.injEq] at e
   obtain ⟨rfl,rfl⟩:=e
   intro p hp
   rw [qaE] at hp
   subst hp
   exact el
  ·cases e
 |_=>simp [CH] at e
theorem Q6 {elts:List Expr} {kt:Nat} {tpos p pos:Pos} {a b:Expr} {fa:MA} (hg:Gl X "zip") (hm:X.mg "zip"=none) (ha:DA X E [a,b] fa) (hs:starEach [a,b] X.env=[(false,eval a X.env),(false,eval b X.env)]:=by rfl) (hs2:starEach [b] X.env=[(false,eval b X.env)]:=by rfl):
 E6 X E (.Tuple elts kt tpos) (.Call (.Name "zip" p) [a,b] [] pos) (JS fa):=
 JF (Xx hg hm ha hs hs2) fun σ H R ⟨m,ρ,h,hr,er,p⟩=>⟨m,ρ,h,hr,er,Post.bind p fun x h1 v m1 H1 eo p1 k1 hr1 r1 q1=>by
  clear eo
  unfold JR at q1
  split at q1
  ·rename_i d1 d2
   split at q1
   ·rename_i xs s1 ys s2 e1 e2
    simp only [FH,DVs] at r1
    obtain ⟨v1,w1,rfl,rv1,v2,w2,rfl,rv2,rfl⟩:=r1
    obtain ⟨kd1,t,rfl,f1⟩:=Q4 hr1 rv1 e1
    obtain ⟨kd2,u,rfl,f2⟩:=Q4 hr1 rv2 e2
    obtain ⟨vs1,sq1,_⟩:=f1 m1 h1 H1 (AL _) (.refl _) hr1 (Q5 e1)
    obtain ⟨vs2,sq2,_⟩:=f2 m1 h1 H1 (AL _) (.refl _) hr1 (Q5 e2)
    refine ⟨kd1,kd2,t,u,vs1,vs2,rfl,sq1,sq2,q1 _ m1 H1 (AL _) (.refl _) hr1 fun i m2 h2 H2 p2 k2 hr2 hsr=>?_⟩
    obtain ⟨ws1,sw1,dw1⟩:=f1 m2 h2 H2 p2 k2 hr2 fun p hp=>hsr p (Gz _ hp)
    obtain ⟨ws2,sw2,dw2⟩:=f2 m2 h2 H2 p2 k2 hr2 fun p hp=>hsr p (BJ _ hp)
    have n1:=dw1.len
    have n2:=dw2.len
    have nl:(IV xs ys).length=min xs.length ys.length:=by simp [IV]
    refine ⟨fun hi=>?_,fun hi=>⟨ws1,ws2,sw1,sw2,by dsimp only at hi;omega⟩⟩
    dsimp only at hi
    have i1:i<xs.length:=by omega
    have i2:i<ys.length:=by omega
    refine ⟨⟨ws1,ws2,sw1,sw2,by omega,by omega⟩,fun y H3 z3_=>?_⟩
    obtain ⟨pp,vv,vv',hp,ey,ev,ev',eH⟩:=z3_
    subst ey eH
    have g1:xs[i]?=some xs[i]:=Bi i1
    have g2:ys[i]?=some ys[i]:=Bi i2
    obtain ⟨c1,z1,r1'⟩:=dw1.get g1
    obtain ⟨c2,z2,r2'⟩:=dw2.get g2
    rw [ev ws1 sw1] at z1
    rw [ev' ws2 sw2] at z2
    cases z1
    cases z2
    refine ⟨.new hp,hr2.new hp,.tup [xs[i],ys[i]],?_,?_⟩
    ·simp [IV,List.getElem?_zipWith,g1,g2]
    ·simp only [DV]
     exact ⟨pp,_,rfl,Dp,.cons (DV.keep (AL _) (.new hp) r1') (.cons (DV.keep (AL _) (.new hp) r2') .nil)⟩
   ·exact q1.elim
  ·exact q1.elim⟩
end
end LS
namespace LS
open PySem PySem.Spec PyProof.Rows L2
section
variable {ρ:Ai} {h:HD} {QI:(List D×Bk)→HD→Prop} {Q:D→HD→Prop} {QO:Option Int→HD→Prop} {QS:Fl×Ai→HD→Prop} {f fo fi fv:ME} {lo hi:MO} {fa:MA}
@[simp] theorem Xy:Wp (Ed fa ρ h) QI=Wp (fa ρ h) fun d h1=>Wp (GQ d h1) QI:=by unfold Ed;rw [AG]
@[simp] theorem ZdP:Wp (JS fa ρ h) QI=Wp (fa ρ h) fun d h1=>Wp (JR d h1) QI:=by unfold JS;rw [AG]
@[simp] theorem ZdQ:Wp (QU f lo hi ρ h) Q=Wp (f ρ h) fun x h1=>Wp (lo ρ h1) fun l h2=>Wp (hi ρ h2) fun u h3=>Wp (QT x l u h3) Q:=by unfold QU;simp only [AG]
@[simp] theorem ZdR:Wp (Gm ρ h) QO=QO none h:=id rfl
@[simp] theorem ZdS:Wp (FT f ρ h) QO=Wp (f ρ h) fun x h1=>Wp (match x with
  |.int i=>(.ok (some i) h1:Out (Option Int))
  |_=>.stuck) QO:=by unfold FT;rw [AG]<;>rfl
@[simp] theorem ZdT:Wp (JQ fo fi fv ρ h) QS=Wp (fo ρ h) fun o h1=>Wp (fi ρ h1) fun i h2=>Wp (IS o i h2) fun x h3=>Wp (fv ρ h3) fun y h4=>Wp (IR o i x y ρ h4) QS:=by unfold JQ;simp only [AG]
theorem Q7 {n:Nat} {e:Nat→D}:Eu ((List.range n).map e)=(List.range n).map fun k=>D.tup [.int ((k:Nat):Int),e k]:=by
 unfold Eu
 apply Ih
 ·simp
 ·intro i h1 h2;simp
theorem Lk {n:Nat} {e:Nat→D}:GQ [.tup ((List.range n).map e)] h=.ok ((List.range n).map fun k=>D.tup [.int ((k:Nat):Int),e k],[]) h:=by
 simp only [GQ,Q7]
theorem Ll {n l:Nat} {e:Nat→D} (he:h[l]?=some (.lst ((List.range n).map e))):GQ [.loc l] h=.ok ((List.range n).map fun k=>D.tup [.int ((k:Nat):Int),e k],[(l,(List.range n).map e)]) h:=by
 simp only [GQ,he,Q7]
theorem Xz {n:Nat} {e e':Nat→D}:IV ((List.range n).map e) ((List.range n).map e')=(List.range n).map fun k=>D.tup [e k,e' k]:=by
 unfold IV
 apply Ih
 ·simp
 ·intro i h1 h2;simp
theorem Q8 {n:Nat} {e e':Nat→D} {x y:D} {s1 s2:Bk} (hx:CH x h=some ((List.range n).map e,s1)) (hy:CH y h=some ((List.range n).map e',s2)):
 JR [x,y] h=.ok ((List.range n).map fun k=>D.tup [e k,e' k],s1++s2) h:=by
 simp only [JR,hx,hy,Xz]
theorem MX {ds:List D}:CH (.tup ds) h=some (ds,[]):=rfl
theorem XA {l:Nat} {ds:List D} (e:h[l]?=some (.lst ds)):CH (.loc l) h=some (ds,[(l,ds)]):=by simp only [CH,e]
theorem Q9 {l:Nat} {F:List Int→Int} {ns:List Int} (e:h[l]?=some (.lst (ns.map D.int))) (hn:ns≠[]):Gn F (.loc l) h=.ok (.int (F ns)) h:=by
 simp only [Gn,e,CC]
 rw [FS (f:=FR∘D.int) (g:=id) (fun x _=>rfl)]
 simp only [List.map_id,if_neg hn]
theorem Gq {l:Nat} {ds:List D} (e:h[l]?=some (.lst ds)):Ge (.loc l) h=.ok (ds,[(l,ds)]) h:=by
 simp only [Ge,BE,e,P6]
theorem XB {l k:Nat} {xs ys:List D} (e:h[l]?=some (.lst xs)) (e':h[k]?=some (.lst ys)):Bf (.loc l) (.loc k) h=CF (xs++ys) h:=by
 simp only [Bf,e,e']
theorem XC {xs ys:List D} (hn:xs.length+ys.length≤sizeLine):Bf (.tup xs) (.tup ys) h=.ok (.tup (xs++ys)) h:=by
 simp only [Bf];rw [if_pos hn]
theorem Lm {l:Nat} {ds:List D} (e:h[l]?=some (.lst ds)):A9 (.loc l) h=.ok (.int ds.length) h:=by
 simp only [A9,BE,e]
theorem Ra {a:D}:∀n:Nat,(List.replicate n [a]).flatten=List.replicate n a
 |0=>rfl
 |n+1=>by rw [FZ,GA,Ra n];rfl
theorem Rb {l n:Nat} {a:D} (e:h[l]?=some (.lst [a])) (hn:n≤1000):DK (.loc l) (.int (n:Nat)) h=CF (List.replicate n a) h:=by
 have:(-(2^63):Int)≤(n:Int)∧(n:Int)<2^63:=by omega
 simp only [DK,e]
 rw [if_pos this]
 simp [Ra]
theorem XE {l k:Nat} {ds:List D} {d:D} (e:h[l]?=some (.lst ds)) (ek:ds[k]?=some d):IS (.loc l) (.int (k:Nat)) h=.ok d h:=by
 simp only [IS,e]
 rw [if_pos (by omega)]
 simp [ek]
theorem XF {l k:Nat} {ds:List D} {a b:Int} (e:h[l]?=some (.lst ds)) (hk:k<ds.length):IR (.loc l) (.int (k:Nat)) (.int a) (.int b) ρ h=.ok (.nx,ρ) (h.set l (.lst (ds.set k (.int (a+b))))):=by
 simp only [IR]
 exact Qz e hk
end
noncomputable def MY (cs:List (Option Nat)) (it:MI) (sg:MG) (t:MT) (f:ME):ME:=Ag (Am CG) (Ab (A3 cs it sg t f) Ae)
noncomputable def MZ (F:List Int→Int) (cs:List (Option Nat)) (it:MI) (sg:MG) (t:MT) (f:ME):ME:=Ag (Am (Gn F)) (Ab (A3 cs it sg t f) Ae)
section
variable {α:Type} {cs:List (Option Nat)} {it:MI} {sg:MG} {t:MT} {f:ME} {ρ:Ai} {h:HD} {src:Bk} {xs:List α} {φ:α→D} {F:List Int→Int}
@[simp] theorem ZdU:Ag (Am CG) (Ab (A3 cs it sg t f) Ae) ρ h=MY cs it sg t f ρ h:=rfl
@[simp] theorem ZdV:Ag (Am (Gn F)) (Ab (A3 cs it sg t f) Ae) ρ h=MZ F cs it sg t f ρ h:=rfl
theorem XG (n:α→Int) (ρ1:α→Ai) (hi:BB (it ρ h) h (xs.map φ) src) (hg:∀x∈xs,sg (φ x) (B6 cs ρ)=some (ρ1 x)) (hf:∀x∈xs,∀h',Sm h h'→Pu (f (ρ1 x) h') h' (.int (n x))) (hn:xs.length≤sizeLine):
 Pu (MY cs it sg Bc f ρ h) h (.int (xs.map n).sum):=by
 unfold Pu MY
 rw [Ew,Du]
 refine DM (fun _=>true) (fun x=>.int (n x)) ρ1 hi hn hg (fun x hx h' s'=>(.ok:Pu (.ok true h') h' true)) (fun x hx _ h' s'=>hf x hx h' s') fun l h' s' e'=>?_
 rw [Cg] at e'
 rw [DL]
 simp only [Am,CG,BE,e',CC]
 rw [FS (f:=FR∘fun x=>D.int (n x)) (g:=n) (fun x _=>rfl)]
 exact ⟨rfl,s'⟩
theorem XH (n:α→Int) (ρ1:α→Ai) (hi:BB (it ρ h) h (xs.map φ) src) (hg:∀x∈xs,sg (φ x) (B6 cs ρ)=some (ρ1 x)) (hf:∀x∈xs,∀h',Sm h h'→Pu (f (ρ1 x) h') h' (.int (n x))) (hn:xs.length≤sizeLine) (hne:xs≠[]):
 Pu (MZ F cs it sg Bc f ρ h) h (.int (F (xs.map n))):=by
 unfold Pu MZ
 rw [Ew,Du]
 refine DM (fun _=>true) (fun x=>.int (n x)) ρ1 hi hn hg (fun x hx h' s'=>(.ok:Pu (.ok true h') h' true)) (fun x hx _ h' s'=>hf x hx h' s') fun l h' s' e'=>?_
 rw [Cg] at e'
 rw [DL,JK,Q9 (ns:=xs.map n) (by rw [e',CC];rfl) (by simpa using hne)]
 exact ⟨rfl,s'⟩
theorem XI {l:Nat} {ds:List D} {o:Out D} {h1:HD} (e:o=.ok (.loc l) h1) (s:Sm h h1) (el:h1[l]?=some (.lst ds)):BB (o.bind Ge) h ds [(l,ds)]:=by
 subst e
 simp only [Out.bind_ok,Gq el,BB,BU]
 exact ⟨trivial,s,fun h2 s2=>DH (s2 _ _ el)⟩
end
def Gr (t:MT) (g:MS):Nat→MS
 |0=>fun _ _=>.stuck
 |n+1=>fun ρ h=>(t ρ h).bind fun b h1=>if b=true then (g ρ h1).bind (fun x h2=>match x with
   |(.nx,ρ2)=>Gr t g n ρ2 h2
   |(.ct,ρ2)=>Gr t g n ρ2 h2
   |(.bk,ρ2)=>.ok (.nx,ρ2) h2
   |(.rt d,ρ2)=>.ok (.rt d,ρ2) h2) else .ok (.nx,ρ) h1
def JT (t:MT) (g:MS):MS:=Gr t g 100000
section
variable {X:Cx} {E:XK}
theorem XJ {c:Expr} {body:List Stmt} {t:MT} {g:MS} {pos:Pos} (hp:PassesOwn (model X.prog X.w) X.A X.env X.xe) (hc:D9 X E c t) (hb:AE X E body g):Ex X E (.While c body [] pos) (JT t g):=by
 refine En (Uz hp hc hb) fun Dn σ H z1_=>?_
 obtain ⟨m,ρ,h,hr,er,p⟩:=z1_
 unfold JT at p
 generalize (100000:Nat)=N at p
 refine ⟨fun n σ H=>∃m ρ h,HR X.K m h H∧ER X.K m H ρ σ∧PostS X.K m H E Dn (Gr t g n ρ h),⟨N,m,ρ,h,hr,er,p⟩,?_⟩
 rintro n σ H ⟨m,ρ,h,hr,er,p⟩
 cases n with
 |zero=>exact p.elim
 |succ n=>
  unfold Gr at p
  refine ⟨m,ρ,h,hr,er,PostS.bind p fun b h1 v m1 H1 eo p1 k1 hr1 r1 q1=>?_⟩
  clear eo
  cases r1
  cases b with
  |false=>
   rw [if_neg Bu] at q1 ⊢
   exact (q1.here hr1) σ (er.keep p1 k1)
  |true=>
   rw [if_pos rfl] at q1 ⊢
   refine ⟨fun σ' H'=>∃m ρ h,HR X.K m h H'∧ER X.K m H' ρ σ'∧PostS X.K m H' E Dn (Gr t g n ρ h),fun σ' H' z=>⟨n,Kv _,z⟩,m1,ρ,h1,hr1,er.keep p1 k1,?_⟩
   cases o:g ρ h1 with
   |stuck=>rw [o] at q1;exact q1
   |err C fs h5=>rw [o] at q1;exact q1
   |ok z h5=>
    rw [o] at q1
    obtain ⟨fl,ρ5⟩:=z
    intro m5 H5 p5 k5 hr5
    cases fl with
    |nx=>exact fun σ5 er5=>⟨m5,ρ5,h5,hr5,er5,PostS.ahead p5 k5 q1⟩
    |ct=>exact fun σ5 er5=>⟨m5,ρ5,h5,hr5,er5,PostS.ahead p5 k5 q1⟩
    |bk=>exact fun σ5 er5=>q1 m5 H5 p5 k5 hr5 σ5 er5
    |rt d=>exact fun v rv=>q1 m5 H5 p5 k5 hr5 v rv
end
theorem M0 {t:MT} {g:MS} {Q:Fl×Ai→HD→Prop} (I:Nat→Ai→HD→Prop)
 (step:∀m ρ h,I m ρ h→Wp (t ρ h) fun b h1=>if b=true then Wp (g ρ h1) (Ci (fun ρ2 h2=>∃m',m' < m∧I m' ρ2 h2) Q) else Q (.nx,ρ) h1):∀(n m:Nat) (ρ:Ai) (h:HD),m<n→I m ρ h→Wp (Gr t g n ρ h) Q
 |0,m,ρ,h,hm,_=>by omega
 |n+1,m,ρ,h,hm,i=>by
  unfold Gr
  rw [AG]
  refine Wp.mono (step m ρ h i) fun b h1 w=>?_
  cases b with
  |false=>rw [if_neg Bu] at w ⊢;exact w
  |true=>
   rw [if_pos rfl] at w ⊢
   rw [AG]
   refine Wp.mono w fun x h2 k=>?_
   obtain ⟨fl,ρ2⟩:=x
   cases fl with
   |nx=>obtain ⟨m',h1,h2⟩:=k;exact M0 I step n m' _ _ (by omega) h2
   |ct=>obtain ⟨m',h1,h2⟩:=k;exact M0 I step n m' _ _ (by omega) h2
   |bk=>exact k
   |rt d=>exact k
theorem XM {t:MT} {g:MS} {ρ:Ai} {h:HD} {Q:Fl×Ai→HD→Prop} (I:Nat→Ai→HD→Prop) (m:Nat) (hm:m<100000) (i:I m ρ h)
 (step:∀m ρ h,I m ρ h→Wp (t ρ h) fun b h1=>if b=true then Wp (g ρ h1) (Ci (fun ρ2 h2=>∃m',m' < m∧I m' ρ2 h2) Q) else Q (.nx,ρ) h1):Wp (JT t g ρ h) Q:=
 M0 I step _ m ρ h hm i
section
variable {X:Cx}
theorem XN (hc:X.calm=true):CY X (.builtin "any") (fun xs H Q=>∃(p:Addr) (bs:List Bool),xs=[.ref p]∧SqL X.K H p (bs.map V.bl)∧Q (.bl (bs.any id)) H):=by
 intro pins s σ H xs us Q I r h
 obtain ⟨p,bs,rfl,hs,q⟩:=h
 obtain ⟨u,rfl,rx⟩:=FE r
 cases rx
 have hh:X.A.in1.handled=none:=I.ok.hd hc
 obtain ⟨its,rv,pl,hz⟩:=I.list hs
 have hl:=rv.length
 rw [D0] at hl
 have hlt:p<s.heap.objs.size:=by obtain ⟨_,e,_⟩:=pl.isList;exact AX e
 have item:∀(i:Nat) (v:Value),its.toArray[i]?=some v→v=.bool (bs.getD i false):=fun i v e=>by
  have e':its[i]?=some v:=by simpa using e
  have hi:i<its.length:=(qa5.mp e').1
  have hn:(bs.map V.bl)[i]?=some (V.bl (bs.getD i false)):=by
   rw [Dy,Bi (by omega)]
   simp [DW,Bi (show i<bs.length by omega)]
  obtain ⟨u,h1,h2⟩:=rv.get hn
  rw [e'] at h1
  cases h1
  exact h2
 refine call_any_walk (wpAny_pyIter_list pl.isList ?_)
 refine ⟨s.heap.objs.size,[s.heap.objs.size,p],[s.heap.objs.size],its.toArray.size,_,_,fun i=>bs.getD i false,rfl,Walks.list (A:=X.A.in1) hh _ p (Bz hlt) its.toArray,⟨⟨_,BK _ rfl,rfl,rfl⟩,pl.isList.push _⟩,fun i v s' Q' E' e hQ=>?_,fun h' tk hk=>?_⟩
 ·rw [item i v e]
  exact wpAny_truthy_bool hQ
 ·have e:(List.range its.toArray.size).any (fun i=>bs.getD i false)=bs.any id:=by
   rw [Ba,←hl]
   apply qb1.mpr
   simp only [List.any_eq_true,qb4,id]
   constructor
   ·rintro ⟨i,hi,h⟩
    refine ⟨bs[i],Je hi,?_⟩
    simpa [DW,Bi hi] using h
   ·rintro ⟨b,hb,h⟩
    obtain ⟨i,hi,rfl⟩:=Jd hb
    refine ⟨i,hi,?_⟩
    simpa [DW,Bi hi] using h
  rw [e]
  exact ⟨.bl _,H,I.kept (K4 (fun b o e=>AY _ e) (AV _) hk),rfl,q⟩
def IW:D→HD→Out D:=fun x h=>match x with
 |.loc l=>match h[l]? with
  |some (.lst ds)=>match Bd (ds.map GL) with
   |some bs=>.ok (.bl (bs.any id)) h
   |none=>.stuck
  |_=>.stuck
 |_=>.stuck
theorem XO (hc:X.calm=true):De X (.builtin "any") (Am IW):=by
 refine ⟨_,XN hc,fun m H h E ds vs Q hr r q=>Gc r q fun d v ev rv q=>?_⟩
 unfold IW at q
 split at q
 ·rename_i l
  split at q
  ·rename_i xs el
   split at q
   ·rename_i bs eb
    simp only [DV] at rv
    obtain ⟨a,rfl,ha⟩:=rv
    obtain ⟨ws,hv,dv⟩:=hr.cells _ _ a el ha
    have:=Mu dv eb
    subst this
    exact ⟨a,bs,ev,SqL.of hv,BD hr q (by simp [DV])⟩
   ·exact q.elim
  ·exact q.elim
 ·exact q.elim
end
noncomputable def M1 (cs:List (Option Nat)) (it:MI) (sg:MG) (t:MT) (f:ME):ME:=Ag (Am IW) (Ab (A3 cs it sg t f) Ae)
section
variable {α:Type} {cs:List (Option Nat)} {it:MI} {sg:MG} {t:MT} {f:ME} {ρ:Ai} {h:HD} {src:Bk} {xs:List α} {φ:α→D}
@[simp] theorem ZdW:Ag (Am IW) (Ab (A3 cs it sg t f) Ae) ρ h=M1 cs it sg t f ρ h:=rfl
theorem XQ (b:α→Bool) (ρ1:α→Ai) (hi:BB (it ρ h) h (xs.map φ) src) (hg:∀x∈xs,sg (φ x) (B6 cs ρ)=some (ρ1 x)) (hf:∀x∈xs,∀h',Sm h h'→Pu (f (ρ1 x) h') h' (.bl (b x))) (hn:xs.length≤sizeLine):
 Pu (M1 cs it sg Bc f ρ h) h (.bl (xs.any b)):=by
 unfold Pu M1
 rw [Ew,Du]
 refine DM (fun _=>true) (fun x=>.bl (b x)) ρ1 hi hn hg (fun x hx h' s'=>(.ok:Pu (.ok true h') h' true)) (fun x hx _ h' s'=>hf x hx h' s') fun l h' s' e'=>?_
 rw [DL]
 rw [Cg] at e'
 simp only [Am,IW,e',CC]
 rw [FS (f:=GL∘fun x=>D.bl (b x)) (g:=b) (fun x _=>rfl)]
 refine ⟨?_,s'⟩
 simp [List.any_map]
end
end LS
namespace LK
open LS
def Bo (n:Nat) (r:Nat→Bool):Int:=((List.range n).map fun j=>if r j then (1:Int) else 0).sum
theorem M3 {α:Type} {f g:α→Int}:∀{xs:List α},(xs.map fun x=>f x+g x).sum=(xs.map f).sum+(xs.map g).sum
 |[]=>rfl
 |x::xs=>by simp only [BV,List.sum_cons,M3 (xs:=xs)];omega
theorem JU {α:Type}:∀{xs:List α},(xs.map fun _=>(0:Int)).sum=0
 |[]=>rfl
 |x::xs=>by simp only [BV,List.sum_cons,JU (xs:=xs)];rfl
theorem Rc {α β:Type} {f:α→β→Int} {ys:List β}:∀{xs:List α},(xs.map fun x=>(ys.map fun y=>f x y).sum).sum=(ys.map fun y=>(xs.map fun x=>f x y).sum).sum
 |[]=>by simp [JU]
 |x::xs=>by
  simp only [BV,List.sum_cons,Rc (xs:=xs)]
  rw [←M3]
theorem Ln {α:Type} {f g:α→Int}:∀{xs:List α},(∀x∈xs,f x≤g x)→(xs.map f).sum≤(xs.map g).sum
 |[],_=>Int.le_refl _
 |x::xs,h=>by
  simp only [BV,List.sum_cons]
  have:=h x AW
  have:=Ln (xs:=xs) fun y hy=>h y (A1 _ hy)
  omega
theorem FU {α:Type} {f g:α→Int} {xs:List α} (h:∀x∈xs,f x=g x):(xs.map f).sum=(xs.map g).sum:=by
 rw [CB h]
theorem GS {n:Nat} {r r':Nat→Bool} (h:∀i,i<n→r i=r' i):Bo n r=Bo n r':=
 FU fun i hi=>by rw [h i (by simpa using hi)]
theorem XR {n:Nat} {r:Nat→Bool}:Bo n (fun i=>!r i)=n - Bo n r:=by
 have:Bo n (fun i=>!r i)+Bo n r=n:=by
  unfold Bo
  rw [←M3]
  have:∀m:Nat,((List.range m).map fun i=>(if (!r i)=true then (1:Int) else 0)+if r i=true then 1 else 0).sum=m:=fun m=>by
   induction m with
   |zero=>rfl
   |succ m ih=>
    rw [Dz,CV,D3,ih]
    cases e:r m<;>simp [e]
  exact this n
 omega
theorem Re {n:Nat} {r:Nat→Bool}:0≤Bo n r∧Bo n r≤n:=by
 unfold Bo
 induction n with
 |zero=>simp
 |succ n ih=>
  rw [Dz,CV,D3]
  cases r n<;>simp<;>omega
def cc (H:Nat) (f:Nat→Nat→Bool) (R:Nat→Bool) (j:Nat):Int:=Bo H fun i=>Bool.xor (f i j) (R i)
def CP (W:Nat) (H:Int) (c:Nat→Int) (C:Nat→Bool):Int:=((List.range W).map fun j=>if C j then H - c j else c j).sum
def Ef (W:Nat) (H:Int) (c:Nat→Int):Int:=((List.range W).map fun j=>if H - c j<c j then H - c j else c j).sum
def TT (H W:Nat) (f:Nat→Nat→Bool) (R C:Nat→Bool):Int:=CP W H (cc H f R) C
theorem Rf {H:Nat} {f:Nat→Nat→Bool} {R R':Nat→Bool} {j:Nat} (h:∀i,i<H→R i=R' i):cc H f R j=cc H f R' j:=GS fun i hi=>by rw [h i hi]
theorem XS {H W:Nat} {f:Nat→Nat→Bool} {R R' C C':Nat→Bool} (h:∀i,i<H→R i=R' i) (h':∀j,j<W→C j=C' j):TT H W f R C=TT H W f R' C':=
 FU fun j hj=>by rw [Rf h,h' j (by simpa using hj)]
theorem Lo {H W:Nat} {f:Nat→Nat→Bool} {R C:Nat→Bool}:TT H W f R C=((List.range W).map fun j=>Bo H fun i=>Bool.xor (f i j) (Bool.xor (R i) (C j))).sum:=by
 refine FU fun j _=>?_
 cases C j
 ·simp only [DY,if_false,Bool.xor_false];rfl
 ·simp only [if_true,cc]
  rw [←XR]
  exact GS fun i _=>by cases f i j<;>cases R i<;>rfl
theorem M4 {H W:Nat} {f:Nat→Nat→Bool} {R C:Nat→Bool}:((List.range H).map fun i=>Bo W fun j=>Bool.xor (f i j) (Bool.xor (R i) (C j))).sum=TT H W f R C:=by
 rw [Lo];exact Rc
theorem Rg {H W:Nat} {f:Nat→Nat→Bool} {R C:Nat→Bool}:TT W H (fun i j=>f j i) C R=TT H W f R C:=by
 rw [Lo,←M4]
 exact FU fun i _=>GS fun j _=>by cases f i j<;>cases R i<;>cases C j<;>rfl
theorem XT {H W:Nat} {f:Nat→Nat→Bool} {R C:Nat→Bool}:TT H W f (fun i=>!R i) (fun j=>!C j)=TT H W f R C:=by
 rw [Lo,Lo]
 exact FU fun j _=>GS fun i _=>by cases f i j<;>cases R i<;>cases C j<;>rfl
theorem XU {W:Nat} {H:Int} {c:Nat→Int} {C:Nat→Bool}:Ef W H c≤CP W H c C:=
 Ln fun j _=>by split<;>split<;>omega
def Dw (H:Int) (c:Nat→Int) (j:Nat):Bool:=decide (H<2*c j)
theorem M5 {W:Nat} {H:Int} {c:Nat→Int}:CP W H c (Dw H c)=Ef W H c:=
 FU fun j _=>by
  unfold Dw
  by_cases h:H<2*c j
  ·rw [if_pos (by simpa using h),if_pos (by omega)]
  ·rw [if_neg (by simpa using h),if_neg (by omega)]
def ext (n:Nat) (R:Nat→Bool):Nat→Bool:=fun i=>if i=n then true else R i
def LL (s:Nat):Nat→List (Nat→Bool)
 |0=>[fun _=>false]
 |k+1=>LL s k++(LL s k).map (ext (s+k))
theorem GT {s:Nat}:∀{k:Nat} {R:Nat→Bool},R∈LL s k→∀i,i<s∨s+k≤i→R i=false
 |0,R,h,i,_=>by
  simp only [LL,qaE] at h
  subst h;rfl
 |k+1,R,h,i,hi=>by
  rcases qaV.mp h with z |z
  ·exact GT z i (by omega)
  ·obtain ⟨R',z1,rfl⟩:=qb0.mp z
   unfold ext
   rw [if_neg (by omega)]
   exact GT z1 i (by omega)
theorem Rh {s:Nat} (R:Nat→Bool):∀k:Nat,∃R'∈LL s k,∀i,s≤i→i<s+k→R' i=R i
 |0=>⟨_,AW,fun i h1 h2=>by omega⟩
 |k+1=>by
  obtain ⟨R',h1,h2⟩:=Rh R k
  cases e:R (s+k) with
  |false=>
   refine ⟨R',Gz _ h1,fun i hi hi2=>?_⟩
   by_cases hz:i=s+k
   ·rw [hz,e];exact GT h1 _ (by omega)
   ·exact h2 i hi (by omega)
  |true=>
   refine ⟨ext (s+k) R',BJ _ (qb0.mpr ⟨R',h1,rfl⟩),fun i hi hi2=>?_⟩
   unfold ext
   by_cases hz:i=s+k
   ·rw [if_pos hz,hz,e]
   ·rw [if_neg hz];exact h2 i hi (by omega)
theorem M6 {s:Nat}:∀k,(LL s k).length=2^k
 |0=>rfl
 |k+1=>by simp only [LL,F0,D0,M6 k];omega
def Bw (H W:Nat) (f:Nat→Nat→Bool):Int:=GP ((LL 1 (H - 1)).map fun R=>Ef W H (cc H f R))
theorem Ri {s k:Nat}:LL s k≠[]:=fun h=>by
 have:=M6 (s:=s) k
 rw [h] at this
 have:0<2^k:=Nat.two_pow_pos k
 simp_all
theorem Rj {H W:Nat} {f:Nat→Nat→Bool}:∃R∈LL 1 (H - 1),Ef W H (cc H f R)=Bw H W f:=by
 have:=QW (ns:=(LL 1 (H - 1)).map fun R=>Ef W H (cc H f R)) (by simp [Ri])
 obtain ⟨R,h,e⟩:=qb0.mp this
 exact ⟨R,h,e⟩
theorem XW {H W:Nat} {f:Nat→Nat→Bool} {R:Nat→Bool} (h:R∈LL 1 (H - 1)):Bw H W f≤Ef W H (cc H f R):=QX (qb0.mpr ⟨R,h,rfl⟩)
theorem M7 {H W:Nat} {f:Nat→Nat→Bool} (hH:1≤H) (R C:Nat→Bool):Bw H W f≤TT H W f R C:=by
 have key:∀R C:Nat→Bool,R 0=false→Bw H W f≤TT H W f R C:=fun R C h0=>by
  obtain ⟨R',h1,h2⟩:=Rh (s:=1) R (H - 1)
  have:∀i,i<H→R i=R' i:=fun i hi=>by
   by_cases hz:i=0
   ·rw [hz,h0];exact (GT h1 0 (by omega)).symm
   ·exact (h2 i (by omega) (by omega)).symm
  rw [XS this (fun _ _=>rfl)]
  exact Ji (XW h1) XU
 cases h:R 0 with
 |false=>exact key R C h
 |true=>
  rw [←XT]
  exact key _ _ (by simp [h])
theorem M8 {H W:Nat} (f:Nat→Nat→Bool):∃R C,TT H W f R C=Bw H W f:=by
 obtain ⟨R,_,e⟩:=Rj (H:=H) (W:=W) (f:=f)
 exact ⟨R,Dw H (cc H f R),by rw [←e];exact M5⟩
theorem XX {H W:Nat} {f:Nat→Nat→Bool} (hH:1≤H) (hW:1≤W):Bw W H (fun i j=>f j i)=Bw H W f:=by
 refine Int.le_antisymm ?_ ?_
 ·obtain ⟨R,C,e⟩:=M8 (H:=H) (W:=W) f
  rw [←e,←Rg]
  exact M7 hW _ _
 ·obtain ⟨C,R,e⟩:=M8 (H:=W) (W:=H) (fun i j=>f j i)
  rw [←e,Rg]
  exact M7 hH _ _
def A4 (L:List Int) (k:Int):Int:=(L.map fun x=>if x=k then (1:Int) else 0).sum
def hk (H W:Nat) (f:Nat→Nat→Bool) (k:Int) (R:Nat→Bool):Int:=A4 ((LL 0 W).map (TT H W f R)) k
def NN (H W:Nat) (f:Nat→Nat→Bool) (k:Int):Int:=((LL 1 (H - 1)).map (hk H W f k)).sum
theorem XY {L:List Int} {k:Int} (h:k∉L):A4 L k=0:=by
 unfold A4
 rw [show L.map (fun x=>if x=k then (1:Int) else 0)=L.map fun _=>(0:Int) from CB fun x hx=>by
  rw [if_neg];intro z;subst z;exact h hx]
 exact JU
end LK
namespace LS
open PySem PySem.Spec PyProof.Rows L2 PySem.W
structure EC (K:Frag) (C:Addr):Prop where
 ga:findIn K (.ref C) "__getattribute__"=some (some (.builtin "BaseException.__getattribute__"))
 gt:findIn K (.ref C) "__getattr__"=some none
 cl:(clsIn K C).isSome=true
 ac:findIn K (.ref C) "__class__"=some (some (.builtin "object.__class__"))
 sg:specialIn K (.builtin "object.__class__") "__get__"=some (some (.builtin "getset_descriptor.__get__"))
 tk:takesIn K (.builtin "object.__class__")=some true
 mo:mroIn K C (.type "object")=some true
 mb:mroIn K C (.type "BaseException")=some true
section
variable {prog:Program} {w:World} {A:Around} {E:Value→Shared→Prop} {s:Shared} {K:Frag} {x C:Addr} {ox:Obj} {od:Option Obj}
def TyAt (x C:Addr) (h:Heap):Prop:=∃o,h.get? x=some o∧o.cls=.ref C
theorem TyAt.type {M:Model} {h:Heap} (t:TyAt x C h):Looks M h (typeOf (.ref x)) (.ref C):=by
 obtain ⟨o,h1,h2⟩:=t
 exact h2 ▸ (Looks.ld h1).andThen .now
end
def excNames:List Str:=["NoBoard","NoLine","NoSwitching","NoNumber","Unlike","NoNet","NoPlace","NoText","NoRow","TooMany","SwitchError"]
def M9 (n n':Str):Bool:=n==n'||n'=="SwitchError"
def XZ (K:Frag) (C:Addr):Bool:=
 findIn K (.ref C) "__getattribute__"==some (some (.builtin "BaseException.__getattribute__"))&&findIn K (.ref C) "__getattr__"==some none&&(clsIn K C).isSome&&
 findIn K (.ref C) "__class__"==some (some (.builtin "object.__class__"))&&specialIn K (.builtin "object.__class__") "__get__"==some (some (.builtin "getset_descriptor.__get__"))&&
 takesIn K (.builtin "object.__class__")==some true&&mroIn K C (.type "object")==some true&&mroIn K C (.type "BaseException")==some true
def Na (K:Frag) (n:Str):Option Addr:=match nsIn K mainGlobals n with
 |some (some (.ref C))=>some C
 |_=>none
def X0 (K:Frag) (n:Str) (C S:Addr):Bool:=
 XZ K C&&kitOne K (.ref C) (.type "ValueError")==some true&&(n=="TooMany"||Xk K C Lh "ValueError.__new__")&&exmOne K (.ref C) (.ref S)==some true&&
  excNames.all fun n'=>match Na K n' with
   |some C'=>kitOne K (.ref C) (.ref C')==some (M9 n n')
   |none=>false
def etOk (K:Frag):Bool:=match Na K "SwitchError" with
 |some S=>excNames.all fun n=>match Na K n with
  |some C=>X0 K n C S
  |none=>false
 |none=>false
structure ET (K:Frag) (n:Str) (C:Addr):Prop where
 ec:EC K C
 ve:kitOne K (.ref C) (.type "ValueError")=some true
 at_:n≠"TooMany"→Xh K C Lh "ValueError.__new__"
 sw:∀S,nsIn K mainGlobals "SwitchError"=some (some (.ref S))→exmOne K (.ref C) (.ref S)=some true
 sub:∀n' C',n'∈excNames→nsIn K mainGlobals n'=some (some (.ref C'))→kitOne K (.ref C) (.ref C')=some (M9 n n')
section
variable {X:Cx} {E:XK}
def NoE {α:Type}:Out α→Prop
 |.err _ _ _=>False
 |_=>True
def CI:D→D→HD→Out D:=fun x y h=>match x with
 |.exc n _=>(match y with
  |.glo n'=>if n∈excNames∧n'∈excNames then .ok (.bl (M9 n n')) h else .stuck
  |.ty T=>if n∈excNames∧T="ValueError" then .ok (.bl true) h else .stuck
  |_=>.stuck)
 |.edic=>(match y with
  |.ty T=>(match JH "dict" T with
   |some b=>.ok (.bl b) h
   |none=>.stuck)
  |_=>.stuck)
 |_=>BA x y h
end
section
variable {X:Cx} {E:XK}
def Rk (chk:D→HD→Out D) (op:D→D→HD→Out D) (f g:ME):ME:=fun ρ h=>((f ρ h).bind chk).bind fun x h1=>(g ρ h1).bind fun y h2=>op x y h2
def Rl (X:Cx) (T:String) (x:V) (H:Hp):Prop:=∀(pins:List (Addr×Obj)) (σ:L2.St) (s:Shared) (u:Value),Inv X pins σ H s→RelV x u→s.TypeIs u T∧∀a,u=.ref a→∃ob,s.heap.get? a=some ob∧ob.dict=none
def ZdX (X:Cx) (T:String) (r:V→List V→Hp→VK→Prop) (to:TE) (t:TA):TE:=fun σ H Q=>to σ H fun x H1=>Rl X T x H1∧t σ H1 fun xs H2=>r x xs H2 Q
structure Chk (X:Cx) (T:String) (chk:D→HD→Out D):Prop where
 two:∀x h,chk x h=.ok x h∨chk x h=.stuck
 ty:∀m H h x v,HR X.K m h H→DV X.K m H x v→chk x h=.ok x h→Rl X T v H
def ZdY (X:Cx) (id:String) (op:D→D→HD→Out D):Prop:=
 ∀(pins:List (Addr×Obj)) (s:Shared) (σ:L2.St) (H:Hp) (m:List Addr) (h:HD) (x y:D) (v yv:V) (u uy:Value) (Q:VK),Inv X pins σ H s→HR X.K m h H→DV X.K m H x v→DV X.K m H y yv→RelV v u→RelV yv uy→Post X.K (rD X.K) m H E0 Q (op x y h)→
  wpAny (model X.prog X.w) X.A (call (.builtin id) [u,uy]) (EP X pins σ Q) X.xe s
def X1 (x:V) (xs:List V):Nat:=xs.countP fun y=>EY y x
def Rm:D→D→HD→Out D:=fun x y h=>match BE x h with
 |none=>.stuck
 |some ds=>match DE y,Bd (ds.map DE) with
  |some v,some vs=>.ok (.int (X1 v vs)) h
  |_,_=>.stuck
def ZdZ:D→D→HD→Out D:=fun x y h=>(II x h).bind fun _ _=>Rm x y h
def X2 (x:V) (xs:List V):Option Nat:=xs.findIdx? fun y=>EY y x
def Zd0:D→D→HD→Out D:=fun x y h=>match x with
 |.loc l=>(match h[l]? with
  |some (.lst ds)=>(match DE y,Bd (ds.map DE) with
   |some v,some vs=>(match X2 v vs with
    |some j=>.ok (.int j) h
    |none=>.stuck)
   |_,_=>.stuck)
  |_=>.stuck)
 |_=>.stuck
end
theorem HR.tab {K:Frag} {m:List Addr} {h:HD} {H H':Hp} {P:Addr} (r:HR K m h H) (k:Kp H H') (s:∀b,b≠P→H b≠none→H' b=H b) (t:TabIs K H' P) (tt:TabIs K H P):HR K m h H':=by
 refine ⟨r.len,r.nd,fun l c a e q=>?_⟩
 have hm:a∈m:=HZ q
 have hn:H a≠none:=r.mem hm
 have:=r.cells l c a e q
 cases c with
 |lst ds=>
  obtain ⟨vs,e1,e2⟩:=this
  have ha:a≠P:=by
   rintro rfl
   obtain ⟨_,ps,z,_⟩:=tt
   rw [z] at e1;cases e1
  exact ⟨vs,by rw [s a ha hn];exact e1,e2.keep (AL _) k⟩
 |tab=>
  by_cases ha:a=P
  ·subst ha;exact t
  ·exact TabIs.keep this k (s a ha hn)
structure LamX (X:Cx) (c P:Addr):Prop where
 code:X.env.code=.ref c
 tp:tabP X.K=some (c,P)
 hd:codeHdIn X.K c P=true
 qual:X.env.qual="law.<locals>."
 bm:∃bm o,X.mg "__builtins__"=some (.ref bm)∧bm≠builtinsNs∧X.base.get? bm=some o∧o.cls=.type "module"∧o.dict=some builtinsNs∧o.data=.plain
section
variable {X:Cx} {E:Value→Shared→Prop} {c P:Addr} {pins:List (Addr×Obj)} {σ:L2.St} {H:Hp} {s:Shared}
theorem LamX.builtins (L:LamX X c P) (I:Inv X pins σ H s) (t:TabIs X.K H P):s.heap.BuiltinsAt X.mg P:=by
 obtain ⟨bm,o,h1,h2,h3,h4,h5,h6⟩:=L.bm
 obtain ⟨e,n⟩:=I.bs bm o h3
 refine ⟨bm,o,h1,h2,fun z=>?_,fun z=>?_,e,h4,h5,h6⟩
 ·obtain ⟨og,es,ep,e1,e2,_⟩:=I.mod.glob
  rw [z,e1] at h3
  cases h3
  rw [e2] at h6;cases h6
 ·obtain ⟨_,ps,q,_⟩:=t
  rw [z,q] at n;cases n
abbrev IX:Str:="law.<locals>.<lambda>"
end
def lCx (P:Program) (w:World) (K:Frag) (mg:Str→Option Value) (base:Heap) (N:List Str) (scope:Scope) (a:Addr) (cd:Value) (cl:List (Str×Addr)) (A:Around) (outer:List Env) (s:Shared) (H:Hp) (E:XK):Cx where
 prog:=P
 w:=w
 K:=K
 mg:=mg
 base:=base
 A:=A.deeper (envX IX scope s.heap.objs.size a cd cl)
 N:=N
 s₀:=s
 H₀:=H
 env:=envX IX scope s.heap.objs.size a cd cl
 outer:=outer
 stack:=envX IX scope s.heap.objs.size a cd cl::outer
 ex:=[]
 calm:=true
 fn:=fun _=>false
 pn:=[]
 xe:=fun e s'=>wpAny (model P w) (A.deeper (envX IX scope s.heap.objs.size a cd cl)) (leaving (envX IX scope s.heap.objs.size a cd cl) e) (fun _ s''=>Aw P w K outer H s E e s'') (fun e' s''=>Aw P w K outer H s E e' s'') s'
structure X3 (h:Heap) (H:Hp) (outer:List Env) (N:List Str) (scope:Scope) (cl:List (Str×Addr)) (vs:List V):Prop where
 len:vs.length=N.length
 inj:∀x y c,cl.lookup x=some c→cl.lookup y=some c→x=y
 has:∀x,scope.names.lookup x=some .free→∃c,cl.lookup x=some c
 cell:∀x c,cl.lookup x=some c→(∃v,h.IsCell c v)∧H c=none∧c∉frs outer
 val:∀(i:Nat) (x:Str) (v:V),N[i]?=some x→vs[i]?=some v→scope.names.lookup x=some .free∧∃c u,cl.lookup x=some c∧h.IsCell c (some u)∧RelV v u
structure X4 (scope:Scope):Prop where
 kind:scope.kind=.function
 co:scope.isCoroutine=false
 gen:scope.isGenerator=false
 only:(scope.names.all fun y=>y.2 != .cell)=true
section
variable {P:Program} {w:World} {K:Frag} {mg:Str→Option Value} {base:Heap} {N:List Str} {scope:Scope} {a c':Addr} {pm ctv:Value} {params:Arguments} {body:Expr} {cl:List (Str×Addr)} {A:Around} {outer:List Env} {s:Shared} {H:Hp} {E:XK} {vs:List V}
end
structure RoomM (k:Nat) (A:Around):Prop where
 dp:A.depth+3*k+5<recursionLimit
 un:A.units+16*k+200<cLine
 gd:A.guards=some []
theorem RoomM.deeper {k:Nat} {A:Around} (r:RoomM (k+1) A) (env:Env):RoomM k (A.deeper env):=
 ⟨by have:=r.dp;show A.depth+1+3*k+5<_;omega,by have:=r.un;show A.units+3+16*k+200<_;omega,r.gd⟩
theorem RoomM.units {k:Nat} {A:Around} (r:RoomM k A):A.units+64<cLine:=by have:=r.un;omega
theorem RoomM.mono {j k:Nat} {A:Around} (r:RoomM k A) (h:j≤k):RoomM j A:=⟨by have:=r.dp;omega,by have:=r.un;omega,r.gd⟩
theorem RoomM.of {k:Nat} {A:Around} (r:Room k A) (e:Option Value):RoomM k (A.mark e):=⟨r.dp,r.un,r.gd⟩
def cxM (P:Program) (w:World) (K:Frag) (mg:Str→Option Value) (base:Heap) (N:List Str) (qual:Str) (scope:Scope) (f:Addr) (cd:Value) (A:Around) (outer:List Env) (s:Shared) (H:Hp):Cx:=
 {AB PD P w K mg base N qual scope f cd A outer s H E0 with calm:=false,xe:=fun _ _=>False}
structure X5 (P:Program) (w:World) (K:Frag) (mg:Str→Option Value) (base:Heap) (k:Nat) (f:Addr) (fd:FuncData) (ps:List Str) (F:List D→HD→Out D):Prop where
 run:∀(A:Around) (outer:List Env) (s:Shared) (H:Hp) (args:Args) (us:List Value) (vs:List V) (Q:VK),RoomM k A→Jp P w K mg base A outer s H→BindsTo s fd args (ps.zip us)→Vals vs us→Mk K F vs H Q E0→
  codeAny (model P w) A (.call (.ref f) args) (CR PD outer P w H s Q E0) s
structure CaM (P:Program) (w:World) (K:Frag) (mg:Str→Option Value) (base:Heap) (x:Str) (k:Nat) (F:List D→HD→Out D):Prop where
 ex:∃(f:Addr) (fd:FuncData) (ps:List Str),X5 P w K mg base k f fd ps F∧Binds K fd ps []∧mg x=some (.ref f)∧PySem.W.keepIn K (.ref f)=true∧Ar ps.length F
section
variable {X:Cx} {E:XK}
end
section
variable {X:Cx} {pins:List (Addr×Obj)} {σ:L2.St} {H:Hp} {s:Shared}
theorem Inv.locals {σ':L2.St} {h':Heap} {m':Str→Option Value} {t':Nat} (I:Inv X pins σ H s) (hn':h'.Ns X.env.locals m') (hs:Heap.SameBut X.env.locals s.heap h')
 (hl:∀(i:Nat) (x:Str) (v:V),X.N[i]?=some x→σ'[i]?=some (some v)→KB X.env.scope x→∃u,RelV v u∧OY X.env h' m' x u) (len:σ'.length=σ.length):Inv X pins σ' H {s with heap:=h',toks:=t'}:=by
 obtain ⟨m,hn,_⟩:=id I.loc
 obtain ⟨oL,_,_,hoL,_⟩:=id hn
 have neL:∀b o,X.s₀.heap.get? b=some o→b≠X.env.locals:=fun b o e=>BX (Bq (AX e) I.ok.above)
 refine ⟨I.ok,I.os,I.bare,⟨fun b o e n hb hx=>?_,fun b o e n hb hx=>?_,I.base.free,fun b o e hx=>?_,I.base.tups,I.base.frzs,I.base.tbls⟩,⟨_,hn',hl⟩,fun y c e=>?_,I.free,I.freeC,fun p hp=>?_,fun b ob e=>?_,len.trans I.len⟩
 ·exact (hs.2 b (neL b o e)).trans (I.base.keep b o e n hb hx)
 ·obtain ⟨sl,e1⟩:=I.base.slot b o e n hb hx
  exact ⟨sl,(hs.2 b (neL b o e)).trans e1⟩
 ·obtain ⟨o',e1⟩:=I.base.there b o e hx
  exact ⟨o',(hs.2 b (neL b o e)).trans e1⟩
 ·obtain ⟨v,z⟩:=I.cell y c e
  exact ⟨v,z.sameBut hs (I.cne y c e)⟩
 ·obtain ⟨a1,a2,a3,a4⟩:=I.pin p hp
  exact ⟨(hs.2 _ a3).trans a1,a2,a3,a4⟩
 ·refine (I.hok b ob e).stay (fun c w' hc q=>(hs.2 c ?_).trans q) (fun _ q=>q) fun _ _ q=>q
  rintro rfl
  have hfree:=I.free
  rcases hc with rfl |hc
  ·rw [hfree] at e;cases e
  ·rw [hfree] at hc;cases hc
end
def Nb:List (Str×D)→Option (List (Str×Int))
 |[]=>some []
 |(f,.int i)::r=>(Nb r).map fun l=>(f,i)::l
 |_=>none
open Classical in
noncomputable def Zd1 (a:Addr) (vs:List V) (Fk:List D→HD→Out D) (f:ME):MS:=fun ρ h=>match (ρ[0]?:Option (Option D)),(h[0]?:Option Cell) with
 |some (some (.clo a' vs' ds)),some .tab=>if a'=a∧vs'=vs then (match f (ds.map some) h with
  |.ok _ h1=>.ok (.nx,ρ) h1
  |.err (.str n _) fs h1=>if n∈excNames then (match Nb fs with
   |some is=>(match Fk [.exc n is] h1 with
    |.ok d h2=>.ok (.nx,(ρ.set 1 (some d)).set 2 none) h2
    |_=>.stuck)
   |none=>.stuck) else .stuck
  |_=>.stuck) else .stuck
 |_,_=>.stuck
structure Zd2 (X:Cx) (P a c':Addr) (lpos:Pos) (Nc:List Str) (params:Arguments) (body:Expr) (scope:Scope) (cl:List (Str×Addr)) (pm ctv:Value) (vs:List V):Prop where
 N:X.N=(["_law_call","_law_word","_law_e"]:List Str)
 k0:X.env.kindOf "_law_call"=some .local
 k1:X.env.kindOf "_law_word"=some .local
 k2:X.env.kindOf "_law_e"=some .local
 tp:∃c,tabP X.K=some (c,P)
 tb:∃ps,X.H₀ P=some (.tbl ps)∧TriplesOk ps.toList∧codeAmong lpos ps.toList=some (.ref c')
 ob:X.s₀.heap.get? a=some (kla_obj "<lambda>" IX params body scope cl pm c' ctv)
 no:X.H₀ a=none
 nf:a∉X.fs
 clo:X3 X.s₀.heap X.H₀ X.outer Nc scope cl vs
section
variable {X:Cx} {E:XK} {P a c':Addr} {lpos:Pos} {Nc:List Str} {params:Arguments} {body:Expr} {scope:Scope} {cl:List (Str×Addr)} {pm ctv:Value} {vs:List V}
def mCx (X:Cx) (e:Addr):Cx:={X with A:=X.A.mark (some (.ref e)),calm:=false,xe:=fun _ _=>False}
end
noncomputable def X6 (Fk:List D→HD→Out D):Out D→Out D
 |.ok _ h1=>.ok (.str "told") h1
 |.err (.str n _) fs h1=>if n∈excNames then (match Nb fs with
  |some is=>(match Fk [.exc n is] h1 with
   |.ok d h2=>.ok d h2
   |_=>.stuck)
  |none=>.stuck) else .stuck
 |_=>.stuck
noncomputable def Zd3 (cs:List Nat) (Fk:List D→HD→Out D) (f:ME):ME:=fun ρ h=>match (h[0]?:Option Cell),Bd (cs.map fun j=>(ρ[j]?).join) with
 |some .tab,some ds=>X6 Fk (f (ds.map some) h)
 |_,_=>.stuck
structure LSc (X:Cx) (scope:Scope) (Nc:List Str) (cs:List Nat):Prop where
 lam:X4 scope
 nd:(scope.names.map (·.1)).Nodup
 free:(scope.names.all fun y=>y.2 != .free||(X.env.kindOf y.1==some .cell||X.env.kindOf y.1==some .free))=true
 len:cs.length=Nc.length
 out:((Nc.zip cs).all fun p=>X.N[p.2]?==some p.1&&scope.names.lookup p.1==some .free)=true
theorem LSc.at_ {X:Cx} {scope:Scope} {Nc:List Str} {cs:List Nat} (S:LSc X scope Nc cs) {i j:Nat} {x:Str} (h1:Nc[i]?=some x) (h2:cs[i]?=some j):X.N[j]?=some x∧scope.names.lookup x=some .free:=by
 have hz:(Nc.zip cs)[i]?=some (x,j):=by
  rw [List.getElem?_zip_eq_some]
  exact ⟨h1,h2⟩
 have:=qb2.mp S.out (x,j) (HZ hz)
 simpa using this
theorem LSc.fr {X:Cx} {scope:Scope} {Nc:List Str} {cs:List Nat} (S:LSc X scope Nc cs):∀y∈scope.names,y.2=.free→X.env.kindOf y.1=some .cell∨X.env.kindOf y.1=some .free:=fun y hy e=>by
 have:=qb2.mp S.free y hy
 rw [e] at this
 simpa using this
section
variable {X:Cx} {E:XK} {c P:Addr} {Nc:List Str} {cs:List Nat} {params:Arguments} {body:Expr} {scope:Scope}
end
def JV (mg:Str→Option Value) (base:Heap):Prop:=∃bm o,mg "__builtins__"=some (.ref bm)∧bm≠builtinsNs∧base.get? bm=some o∧o.cls=.type "module"∧o.dict=some builtinsNs∧o.data=.plain
open AutoSeq1 (wpAny_loadPart')
theorem X7:fillsNumberSlot (.type "tuple") "mul"=pure false:=by
 first |exact noFill_tuple_mul' |(unfold fillsNumberSlot;kernel_rfl)
theorem X8:seqRepeat? (.type "tuple")=pure (some (.builtin "tuple.__mul__")):=by
 unfold seqRepeat?
 rw [PySem.seqSlot_of (T:="tuple") (name:="__mul__") (id:="tuple.__mul__") F.slot_tuple_mul.lookup (by decide +kernel),PySem.seqSlot_of (T:="tuple") (name:="__rmul__") (id:="tuple.__rmul__") (by rw [typeLookup_type,builtinLookup_eq_fast];kernel_rfl) (by decide +kernel)]
 rfl
theorem X9 (a:Int) (t:Tok) (l:Addr) (items:Array Value) (n:Nat) (dd:Option Addr) (sl:Array (Option Value)):
 Meets (Builtin.«int.__rmul__» ⟨[.int a t,.ref l],[]⟩) (fun _ R s=>s.heap.get? l=some {cls:=.type "tuple",dict:=dd,data:=.seq items n,slots:=sl}∧R (.ok (.ret Value.notImplemented)) s):=
 .of_wp fun prog w A R s h=>by
  obtain ⟨hp,g,d,tk,os⟩:=s;obtain ⟨hl,h⟩:=h
  wp_walk;exact ⟨_,rfl,h⟩
theorem Yb (l:Addr) (items:Array Value) (n:Nat) (dd:Option Addr) (sl:Array (Option Value)) (x:Int) (u:Tok) (h1:1<x) (h2:x<2^63) (hne:items.isEmpty=false) (hz:items.size*x.toNat≤sizeLine):
 Meets (Builtin.«tuple.__mul__» ⟨[.ref l,.int x u],[]⟩) (fun _ R s=>s.heap.get? l=some {cls:=.type "tuple",dict:=dd,data:=.seq items n,slots:=sl}∧R (.ok (.ret (Value.ref s.heap.objs.size))) {s with heap:=s.heap.push {cls:=Value.type "tuple",data:=Data.seq (List.foldl (fun x1 x2=>x1++x2) #[] (List.replicate x.toNat items))}}):=
 .of_wp fun prog w A R s h=>by
  obtain ⟨hp,g,d,tk,os⟩:=s;obtain ⟨hl,h⟩:=h
  have c1:(decide (x < -2^63)||decide (x≥2^63))=false:=by simp;omega
  have c2:(items.isEmpty||x==1)=false:=by
   rw [hne,Bool.false_or]
   exact beq_eq_false_iff_ne.mpr (by omega)
  have c3:(decide (x≤0)||items.isEmpty)=false:=by
   rw [hne,Bool.or_false]
   exact decide_eq_false (by omega)
  have hx:(x.toNat:Int)=x:=Ia (by omega)
  have hz':(items.size:Int)*x≤sizeLine:=by rw [←hx];exact_mod_cast hz
  have c4:¬((items.size:Int)*x>(2^63 - 1) / 8):=by
   have:(sizeLine:Int)≤(2^63 - 1) / 8:=by decide
   omega
  have c5:Builtin.Tuple.tupleTooMany ((items.size:Int)*x)=false:=by
   unfold Builtin.Tuple.tupleTooMany
   exact decide_eq_false (by omega)
  have c6:(List.foldl (fun x1 x2=>x1++x2) #[] (List.replicate x.toNat items)).size≤sizeLine:=by
   have f0:=KO items.toList x.toNat []
   rw [Kx] at f0
   have:List.foldl (fun x1 x2=>x1++x2) #[] (List.replicate x.toNat items)=(List.replicate x.toNat items.toList).flatten.toArray:=by simpa using f0
   rw [this,Ba,KP,Nat.mul_comm]
   simpa using hz
  wp_walk using wpAny_loadPart' hl
  rw [c1]
  simp only [DY,if_false]
  refine wpAny_bind ?_
  unfold Builtin.Tuple.tupleItemsOf
  wp_walk using wpAny_loadPart' hl
  rw [c2]
  simp only [DY,if_false]
  rw [c3]
  simp only [DY,if_false]
  rw [if_neg c4,c5]
  simp only [DY,if_false]
  refine wpAny_bind (wpAny_newObj_type (wpAny_pure ⟨_,rfl,h⟩) c6)
theorem Yc (l:Addr) (items:Array Value) (n:Nat) (dd:Option Addr) (sl:Array (Option Value)) (u:Tok):
 Meets (Builtin.«tuple.__mul__» ⟨[.ref l,.int 1 u],[]⟩) (fun _ R s=>s.heap.get? l=some {cls:=.type "tuple",dict:=dd,data:=.seq items n,slots:=sl}∧R (.ok (.ret (Value.ref l))) s):=
 .of_wp fun prog w A R s h=>by
  obtain ⟨hp,g,d,tk,os⟩:=s;obtain ⟨hl,h⟩:=h
  have c1:(decide ((1:Int) < -2^63)||decide ((1:Int)≥2^63))=false:=by decide
  have c2:(items.isEmpty||(1:Int)==1)=true:=by simp
  wp_walk using wpAny_loadPart' hl
  exact ⟨_,rfl,h⟩
theorem Yd (l:Addr) (items:Array Value) (n:Nat) (dd:Option Addr) (sl:Array (Option Value)) (x:Int) (u:Tok) (h1:-(2^63)≤x) (h2:x≤0) (hne:items.isEmpty=false):
 Meets (Builtin.«tuple.__mul__» ⟨[.ref l,.int x u],[]⟩) (fun _ R s=>s.heap.get? l=some {cls:=.type "tuple",dict:=dd,data:=.seq items n,slots:=sl}∧R (.ok (.ret (Value.ref s.heap.objs.size))) {s with heap:=s.heap.push {cls:=Value.type "tuple",data:=Data.seq #[]}}):=
 .of_wp fun prog w A R s h=>by
  obtain ⟨hp,g,d,tk,os⟩:=s;obtain ⟨hl,h⟩:=h
  have c1:(decide (x < -2^63)||decide (x≥2^63))=false:=by simp;omega
  have c2:(items.isEmpty||x==1)=false:=by
   rw [hne,Bool.false_or]
   exact beq_eq_false_iff_ne.mpr (by omega)
  have c3:(decide (x≤0)||items.isEmpty)=true:=by
   rw [hne,Bool.or_false]
   exact decide_eq_true h2
  wp_walk using wpAny_loadPart' hl
  rw [c1]
  simp only [DY,if_false]
  refine wpAny_bind ?_
  unfold Builtin.Tuple.tupleItemsOf
  wp_walk using wpAny_loadPart' hl
  rw [c2]
  simp only [DY,if_false]
  rw [c3]
  simp only [if_true]
  refine wpAny_bind (wpAny_newObj_type (wpAny_pure ⟨_,rfl,h⟩) (by show (#[]:Array Value).size≤sizeLine;simp))
section
variable {X:Cx} {E:XK}
def Ye (K:Frag):R2:=fun x y H Q=>∃l k xs,x=.ref l∧y=.int k∧H l=some (.tup xs)∧xs≠[]∧-(2^63)≤k∧k<2^63∧xs.length*k.toNat≤sizeLine∧(k=1→Q (.ref l) H)∧
 ∀p,H p=none→Q (.ref p) (Az H p (.tup (List.replicate k.toNat xs).flatten))
theorem Inv.tnew {pins:List (Addr×Obj)} {σ:L2.St} {H:Hp} {s:Shared} {ys:List V} {its:List Value} {t':Nat} (I:Inv X pins σ H s) (hv:Vals ys its) (hz:ys.length≤sizeLine):
 Inv X pins σ (Az H s.heap.objs.size (.tup ys)) {s with heap:=s.heap.push {cls:=.type "tuple",data:=.seq its.toArray},toks:=t'}:=
 I.laid (fun _ _ q=>AY _ q) (AV _) ⟨hz,its,hv,⟨_,BK _ rfl,rfl,0,rfl⟩,NoDict.new⟩
theorem op_repT:OpR X (binaryOp .Mult) (Ye X.K):=by
 intro pins s σ H x y v u Q I rx ry h
 obtain ⟨l,k,xs,rfl,rfl,hH,hne,h1,h2,hz,q1,q⟩:=h
 cases rx
 obtain ⟨t,rfl⟩:=ry
 obtain ⟨z,its,r,⟨o,ho,hc,n,hd⟩,_⟩:=(show ObjOk X.prog X.w H s.heap l (.tup xs) from I.hok l _ hH)
 obtain ⟨oc,dd,dat,sl⟩:=o
 simp only at hc hd
 subst hc hd
 have hl:=r.length
 have hine:its.toArray.isEmpty=false:=by
  cases its with
  |nil=>exfalso;cases xs with
   |nil=>exact hne rfl
   |cons _ _=>simp at hl
  |cons a b=>simp
 have mul:∀{Q':Value→Shared→Prop},wpAny (model X.prog X.w) X.A (call (.builtin "tuple.__mul__") [.ref l,.int k t]) Q' X.xe s→wpAny (model X.prog X.w) X.A (binaryOp .Mult (.ref l) (.int k t)) Q' X.xe s:=fun {Q'} hq=>
  wpAny_binaryOp_repeat_ref (T:="tuple") (U:="int") (by decide) ⟨_,ho,rfl⟩ (fun s'=>typeIs_int s' k t) X7 F.fills_int_mul F.slot_int_rmul X8 F.slot_int_index.lookup
   (call_meets F.slot_int_rmul (typeIs_int s k t) F.entry_int_rmul (F.args_int_rmul_2 _ _) (X9 k t l its.toArray n dd sl) ⟨ho,rfl,⟨_,ho,rfl⟩,hq⟩)
 refine mul ?_
 rcases Int.lt_trichotomy k 1 with hk |hk |hk
 ·refine call_meets F.slot_tuple_mul ⟨_,ho,rfl⟩ F.entry_tuple_mul (F.args_tuple_mul_2 _ _) (Yd l its.toArray n dd sl k t h1 (by omega) hine) ⟨ho,?_⟩
  have e:(List.replicate k.toNat xs).flatten=[]:=by
   have:k.toNat=0:=by omega
   rw [this];rfl
  have:=q _ I.fresh
  rw [e] at this
  exact ⟨.ref _,_,LS.Inv.tnew (its:=[]) (t':=s.toks) I .nil (FD _),rfl,this⟩
 ·subst hk
  refine call_meets F.slot_tuple_mul ⟨_,ho,rfl⟩ F.entry_tuple_mul (F.args_tuple_mul_2 _ _) (Yc l its.toArray n dd sl t) ⟨ho,?_⟩
  exact ⟨.ref l,H,I,rfl,q1 rfl⟩
 ·refine call_meets F.slot_tuple_mul ⟨_,ho,rfl⟩ F.entry_tuple_mul (F.args_tuple_mul_2 _ _) (Yb l its.toArray n dd sl k t hk h2 hine (by rw [Ba,←hl];exact hz)) ⟨ho,?_⟩
  have f0:=KO its k.toNat []
  rw [Kx] at f0
  have f1:List.foldl (fun x1 x2=>x1++x2) #[] (List.replicate k.toNat its.toArray)=(List.replicate k.toNat its).flatten.toArray:=f0
  rw [f1]
  exact ⟨.ref _,_,LS.Inv.tnew (t':=s.toks) I (r.rep k.toNat) (by rw [KP,Nat.mul_comm];exact hz),rfl,q _ I.fresh⟩
noncomputable def Bx:D→D→HD→Out D:=fun x y h=>match x,y with
 |.tup xs,.int k=>@ite _ (xs≠[]∧-(2^63)≤k∧k<2^63∧xs.length*k.toNat≤sizeLine) (Classical.propDecidable _) (.ok (.tup (List.replicate k.toNat xs).flatten) h) .stuck
 |_,_=>DK x y h
theorem Cj:BL X (binaryOp .Mult) Bx:=by
 obtain ⟨r0,hr0,i0⟩:=WG (X:=X)
 refine ⟨_,op_repT.or hr0,fun m H h E x y v u Q hr rx ry q=>?_⟩
 unfold Bx at q
 split at q
 ·rename_i xs k
  split at q
  ·rename_i hc
   obtain ⟨hne,h1,h2,hz⟩:=hc
   simp only [DV] at rx ry
   obtain ⟨a,vs,rfl,ha,dv⟩:=rx
   subst ry
   refine .inl ⟨a,k,vs,rfl,rfl,ha,?_,h1,h2,by rw [←dv.len];exact hz,fun e=>?_,?_⟩
   ·intro e;have:=dv.len;rw [e] at this;exact hne (List.length_eq_zero_iff.mp this)
   ·subst e
    refine BD hr q ?_
    simp only [DV]
    exact ⟨a,vs,rfl,ha,by simpa using dv⟩
   ·exact Ir hr (DVs.rep dv k.toNat) q
  ·exact q.elim
 ·exact .inr (i0 m H h E x y v u Q hr rx ry q)
end
end LS
namespace LS
open PySem PySem.Spec PyProof.Rows L2 PySem.W
section
variable {X:Cx} {E:XK}
abbrev MJ:=Str→Ai→HD→Out Str
def Yg:MJ:=fun acc _ h=>if acc.length≤sizeLine then .ok acc h else .stuck
def Yh (y:Str) (r:MJ):MJ:=fun acc ρ h=>if (acc++y).length≤sizeLine then r (acc++y) ρ h else .stuck
def Rn (f:ME) (r:MJ):MJ:=fun acc ρ h=>(f ρ h).bind fun d h1=>match d with
 |.int i=>if i.natAbs.log2<1920∧(acc++(toString i:Str)).length≤sizeLine then r (acc++(toString i:Str)) ρ h1 else .stuck
 |_=>.stuck
def Nd (fj:MJ):ME:=fun ρ h=>(fj Str.empty ρ h).bind fun x h1=>.ok (.str x) h1
def Zd4:D→HD→Out D:=fun x h=>match A0 h 8 x with
 |some p=>if p.showable=true∧p.hasDict=false∧p.depth≤40∧p.shown.length≤sizeLine then .ok (.str p.shown) h else .stuck
 |none=>.stuck
def CQ:D→D→HD→Out D:=fun x y h=>match x,y with
 |.str a,.str b=>.ok (.bl (a==b)) h
 |_,_=>Jx x y h
def BZ:D→D→HD→Out D:=fun x y h=>match x,y with
 |.str a,.str b=>.ok (.bl (!(a==b))) h
 |_,_=>Ds x y h
theorem Gs (hu:X.A.units+64<cLine):BL X (compareOp .Eq) CQ:=by
 obtain ⟨r0,hr0,i0⟩:=V7 (X:=X) hu
 refine ⟨_,op_eq.or hr0,fun m H h E x y v u Q hr rx ry q=>?_⟩
 unfold CQ at q
 split at q
 ·simp only [DV] at rx ry
  subst rx ry
  exact .inl ⟨rfl,by rw [KM];exact BD hr q (by simp [DV])⟩
 ·exact .inr (i0 m H h E x y v u Q hr rx ry q)
theorem Gu (hu:X.A.units+64<cLine):BL X (compareOp .NotEq) BZ:=by
 obtain ⟨r0,hr0,i0⟩:=V8 (X:=X) hu
 refine ⟨_,op_ne.or hr0,fun m H h E x y v u Q hr rx ry q=>?_⟩
 unfold BZ at q
 split at q
 ·simp only [DV] at rx ry
  subst rx ry
  exact .inl ⟨rfl,by rw [KM];exact BD hr q (by simp [DV])⟩
 ·exact .inr (i0 m H h E x y v u Q hr rx ry q)
def Lp:List Nat→List D→Ai→Option Ai
 |[],[],ρ=>some ρ
 |i::is,d::ds,ρ=>Lp is ds (ρ.set i (some d))
 |_,_,_=>none
def IY (is:List Nat):MG:=fun d ρ=>match d with
 |.tup ds=>Lp is ds ρ
 |_=>none
def Nf:List Nat→F4
 |[]=>GD
 |i::is=>D7 (CD i) (Nf is)
theorem Ro:∀{is:List Nat} {ds:List D} {ρ ρ':Ai},Lp is ds ρ=some ρ'→ds.length=is.length
 |[],[],_,_,_=>rfl
 |[],_::_,_,_,e=>by cases e
 |_::_,[],_,_,e=>by cases e
 |_::is,_::ds,_,_,e=>by simpa using Ro (is:=is) (ds:=ds) e
theorem Rq {K:Frag} {m:List Addr} {H:Hp}:∀{is:List Nat} {ds:List D} {vs:List V} {ρ ρ':Ai} {σ:L2.St} {Q:L2.St→Hp→Prop},DVs K m H ds vs→ER K m H ρ σ→Lp is ds ρ=some ρ'→(∀σ',ER K m H ρ' σ'→Q σ' H)→Nf is vs σ H Q
 |[],[],vs,ρ,ρ',σ,Q,r,er,e,q=>by
  simp only [DVs] at r
  subst r
  cases e
  exact ⟨rfl,q σ er⟩
 |[],_::_,_,_,_,_,_,_,_,e,_=>by cases e
 |_::_,[],_,_,_,_,_,_,_,e,_=>by cases e
 |i::is,d::ds,vs,ρ,ρ',σ,Q,r,er,e,q=>by
  simp only [DVs] at r
  obtain ⟨v,w,rfl,rv,rw'⟩:=r
  exact ⟨v,w,rfl,Rq rw' (er.set rv) e q⟩
theorem Yi {es:List Expr} {is:List Nat} {kt:Nat} {pos:Pos} (h:PG X (.Tuple es kt pos) (GE X.K is.length (Nf is))):JE X (.Tuple es kt pos) (IY is):=⟨_,h,fun m H d v ρ σ ρ' Q r er e q=>by
 unfold IY at e
 split at e
 ·rename_i ds
  simp only [DV] at r
  obtain ⟨p,vs,rfl,hp,dv⟩:=r
  exact ⟨p,vs,rfl,SqT.of hp,by rw [←dv.len];exact Ro e,Rq dv er e q⟩
 ·cases e⟩
end
section
variable {X:Cx} {E:XK}
end
theorem CaM.mono {P:Program} {w:World} {K:Frag} {mg:Str→Option Value} {base:Heap} {x:Str} {j k:Nat} {F:List D→HD→Out D} (C:CaM P w K mg base x j F) (h:j≤k):CaM P w K mg base x k F:=by
 obtain ⟨f,fd,ps,G,r⟩:=C.ex
 exact ⟨f,fd,ps,⟨fun A outer s H args us vs Q hr=>G.run A outer s H args us vs Q (hr.mono h)⟩,r⟩
structure SaidD (K:Frag) (mg:Str→Option Value) (st:Stmt) (fs:Addr) (fd:FuncData):Prop where
 fn:Fun K "_law_said" "_law_said" st fs fd
 bd:Binds K fd ["_law_call"] []
 mg:mg "_law_said"=some (.ref fs)
structure Zd5 (st:Stmt):Prop where
 sc:AJ ["_law_call","_law_word","_law_e"] ["_law_call"] (defScope st)
 k0:(defScope st).names.lookup ("_law_call":Str)=some .local
 k1:(defScope st).names.lookup ("_law_word":Str)=some .local
 k2:(defScope st).names.lookup ("_law_e":Str)=some .local
 gS:(defScope st).names.lookup ("SwitchError":Str)=some .globalImplicit
 gK:(defScope st).names.lookup ("_law_kind":Str)=some .globalImplicit
 tx:∃p1 j1 p2 p3 p4 p5 p6 p7 p8 p9 p10 p11 p12 p13 p14 p15 p16,defBody st=[.Assign [.Name "_law_word" p1] (.Constant (.str "told") j1 p2) p3,.Try [.Expr (.Call (.Name "_law_call" p4) [] [] p5) p6] [.ExceptHandler (some (.Name "SwitchError" p7)) (some "_law_e") [.Assign [.Name "_law_word" p8] (.Call (.Name "_law_kind" p9) [.Name "_law_e" p10] [] p11) p12] p13] [] [] p14,.Return (some (.Name "_law_word" p15)) p16]
def Zd6 (K:Frag) (T:Addr):Bool:=match tabP K with
 |some (c,T')=>T'==T&&codeHdIn K c T
 |none=>false
end LS
namespace LS
open PySem PySem.Spec PyProof.Rows L2
def We {α:Type} (o:Out α) (Q:α→HD→Prop) (R:Str→List (Str×D)→HD→Prop):Prop:=match o with
 |.ok a h=>Q a h
 |.err (.str n _) fs h=>R n fs h
 |_=>False
section
variable {α β:Type} {o:Out α} {Q Q':α→HD→Prop} {R R':Str→List (Str×D)→HD→Prop}
@[simp] theorem Zd7 (a:α) (h:HD):We (.ok a h) Q R=Q a h:=rfl
@[simp] theorem Zd8 (n:Str) (t:Tok) (fs:List (Str×D)) (h:HD):We (.err (.str n t) fs h:Out α) Q R=R n fs h:=rfl
@[simp] theorem Zd9:We .stuck Q R=False:=rfl
theorem Dh {k:α→HD→Out β} {Q:β→HD→Prop}:We (o.bind k) Q R=We o (fun a h=>We (k a h) Q R) R:=by
 cases o with
 |ok a h=>rfl
 |err C fs h=>cases C<;>rfl
 |stuck=>rfl
theorem We.mono (h:We o Q R) (f:∀a h,Q a h→Q' a h) (g:∀n fs h,R n fs h→R' n fs h):We o Q' R':=by
 cases o with
 |ok a h'=>exact f _ _ h
 |err C fs h'=>cases C<;>first |exact g _ _ _ h |exact h.elim
 |stuck=>exact h
end
def Er {α:Type} (o:Out α) (h:HD) (n:Str):Prop:=We o (fun _ _=>False) fun n' fs h'=>n'=n∧fs=[]∧Sm h h'
section
variable {ρ:Ai} {h:HD} {Q:Fl×Ai→HD→Prop} {QD:D→HD→Prop} {QB:Bool→HD→Prop} {R:Str→List (Str×D)→HD→Prop} {g g1 g2:MS} {f:ME} {t:MT} {fa:MA} {F:List D→HD→Out D}
def Ng (g2:MS) (Q:Fl×Ai→HD→Prop) (R:Str→List (Str×D)→HD→Prop):Fl×Ai→HD→Prop
 |(.nx,ρ),h=>We (g2 ρ h) Q R
 |y,h=>Q y h
@[simp] theorem Zea:Ng g2 Q R (.nx,ρ) h=We (g2 ρ h) Q R:=rfl
@[simp] theorem Zeb {d:D}:Ng g2 Q R (.rt d,ρ) h=Q (.rt d,ρ) h:=rfl
@[simp] theorem Zec:We (Aj g1 g2 ρ h) Q R=We (g1 ρ h) (Ng g2 Q R) R:=by
  unfold Aj
  rw [Dh]
  congr 1
  funext x h1
  obtain ⟨fl,ρ1⟩:=x
  cases fl<;>rfl
@[simp] theorem Zed:We (Bs ρ h) Q R=Q (.nx,ρ) h:=rfl
@[simp] theorem Zee:We (Cb f ρ h) Q R=We (f ρ h) (fun _ h1=>Q (.nx,ρ) h1) R:=by unfold Cb;rw [Dh];rfl
@[simp] theorem Zef:We (Av f ρ h) Q R=We (f ρ h) (fun d h1=>Q (.rt d,ρ) h1) R:=by unfold Av;rw [Dh];rfl
@[simp] theorem Zeg {i:Nat}:We (AH i f ρ h) Q R=We (f ρ h) (fun d h1=>Q (.nx,ρ.set i (some d)) h1) R:=by unfold AH;rw [Dh];rfl
@[simp] theorem Zeh:We (Bp t g1 g2 ρ h) Q R=We (t ρ h) (fun b h1=>We (if b=true then g1 ρ h1 else g2 ρ h1) Q R) R:=by unfold Bp;rw [Dh]
@[simp] theorem Zei:We (Ag F fa ρ h) QD R=We (fa ρ h) (fun ds h1=>We (F ds h1) QD R) R:=by unfold Ag;rw [Dh]
@[simp] theorem Zej {n:Str}:We (QN n fa ρ h) Q R=We (fa ρ h) (fun xs h1=>We (if xs.length≤sizeLine then (.err (JO n) [] h1:Out (Fl×Ai)) else .stuck) Q R) R:=by unfold QN;rw [Dh]
@[simp] theorem Zek:We (Ca t ρ h) QB R=We (t ρ h) (fun b h1=>QB (!b) h1) R:=by unfold Ca;rw [Dh];rfl
@[simp] theorem Zel {u:MT}:We (KU t u ρ h) QB R=We (t ρ h) (fun b h1=>We (if b=true then u ρ h1 else .ok false h1) QB R) R:=by unfold KU;rw [Dh]
@[simp] theorem Zem {u:MT}:We (B3 t u ρ h) QB R=We (t ρ h) (fun b h1=>We (if b=true then .ok true h1 else u ρ h1) QB R) R:=by unfold B3;rw [Dh]
@[simp] theorem Zen:We (B2 f ρ h) QB R=We (f ρ h) (fun x h1=>We (E1 x h1) QB R) R:=by unfold B2;rw [Dh]
@[simp] theorem Zeo:We (A7 f ρ h) QB R=We (f ρ h) (fun x h1=>We (Jr x h1) QB R) R:=by unfold A7;rw [Dh]
@[simp] theorem Zep {QA:List D→HD→Prop}:We (Ae ρ h) QA R=QA [] h:=rfl
@[simp] theorem Zeq {QA:List D→HD→Prop}:We (Ab f fa ρ h) QA R=We (f ρ h) (fun x h1=>We (fa ρ h1) (fun xs h2=>QA (x::xs) h2) R) R:=by
  unfold Ab;simp only [Dh];rfl
@[simp] theorem Zer {d:D} {r:Ai}:We (Aa 0 (some d::r) h) QD R=QD d h:=rfl
@[simp] theorem Zes {i:Nat} {x:Option D} {r:Ai}:We (Aa (i+1) (x::r) h) QD R=We (Aa i r h) QD R:=rfl
@[simp] theorem Zet {d:D}:We (mC d ρ h) QD R=QD d h:=rfl
@[simp] theorem Zeu {op:D→D→HD→Out D} {f':ME}:We (Ah op f f' ρ h) QD R=We (f ρ h) (fun x h1=>We (f' ρ h1) (fun y h2=>We (op x y h2) QD R) R) R:=by unfold Ah;simp only [Dh]
@[simp] theorem Zev {fj:MJ}:We (Nd fj ρ h) QD R=We (fj Str.empty ρ h) (fun x h1=>QD (.str x) h1) R:=by unfold Nd;rw [Dh];rfl
end
def Et {α:Type} (o:Out α) (h:HD) (n:Str) (fs:List (Str×D)):Prop:=We o (fun _ _=>False) fun n' fs' h'=>n'=n∧fs'=fs∧Sm h h'
def Rp (n L:Nat) (d:D):Prop:=∃p:PyData,(∀(h:HD) (m:Nat),A0 h (n+m) d=some p)∧p.showable=true∧p.hasDict=false∧p.depth≤n∧p.shown.length≤L
section
variable {h:HD} {i j:Int} {ds:List D} {a b:D} {l:Nat} {x y:Str}
@[simp] theorem Zew:BZ (.str x) (.str y) h=.ok (.bl (!(x==y))) h:=rfl
@[simp] theorem Zex:CQ (.str x) (.str y) h=.ok (.bl (x==y)) h:=rfl
@[simp] theorem Zey:BZ (.int i) (.int j) h=.ok (.bl (!(i==j))) h:=rfl
@[simp] theorem Yj:CQ (.int i) (.int j) h=.ok (.bl (i==j)) h:=rfl
@[simp] theorem Zez {c d:Bool}:BZ (.bl c) (.bl d) h=.ok (.bl (!(c==d))) h:=rfl
@[simp] theorem ZeA {c d:Bool}:CQ (.bl c) (.bl d) h=.ok (.bl (c==d)) h:=rfl
@[simp] theorem ZeB {es:List D}:BZ (.tup ds) (.tup es) h=Ds (.tup ds) (.tup es) h:=rfl
@[simp] theorem ZeC {es:List D}:CQ (.tup ds) (.tup es) h=Jx (.tup ds) (.tup es) h:=rfl
@[simp] theorem Yk:Bx (.int i) (.int j) h=DK (.int i) (.int j) h:=rfl
@[simp] theorem Yl:Bx (.loc l) b h=DK (.loc l) b h:=rfl
@[simp] theorem ZeD:CI (.int i) b h=BA (.int i) b h:=rfl
@[simp] theorem ZeE {c:Bool}:CI (.bl c) b h=BA (.bl c) b h:=rfl
@[simp] theorem ZeF:CI .non b h=BA .non b h:=rfl
@[simp] theorem ZeG:CI (.str x) b h=BA (.str x) b h:=rfl
@[simp] theorem ZeH:CI (.tup ds) b h=BA (.tup ds) b h:=rfl
@[simp] theorem Rr:CI (.loc l) b h=BA (.loc l) b h:=rfl
@[simp] theorem ZeI {c:Bool}:BA (.bl c) (.ty "int") h=.ok (.bl true) h:=rfl
@[simp] theorem ZeJ {c:Bool}:BA (.bl c) (.ty "bool") h=.ok (.bl true) h:=rfl
@[simp] theorem ZeK {c:Bool}:BA (.bl c) (.ty "tuple") h=.ok (.bl false) h:=rfl
@[simp] theorem ZeL:BA .non (.ty "int") h=.ok (.bl false) h:=rfl
@[simp] theorem ZeM:BA .non (.ty "tuple") h=.ok (.bl false) h:=rfl
@[simp] theorem ZeN:BA (.str x) (.ty "int") h=.ok (.bl false) h:=rfl
@[simp] theorem ZeO:BA (.str x) (.ty "tuple") h=.ok (.bl false) h:=rfl
theorem Ym (e:h[l]?=some (.lst ds)):BA (.loc l) (.ty "int") h=.ok (.bl false) h:=by
 simp only [BA,Ec,e];rfl
theorem Yn (e:h[l]?=some (.lst ds)):BA (.loc l) (.ty "tuple") h=.ok (.bl false) h:=by
 simp only [BA,Ec,e];rfl
@[simp] theorem ZeP:CI .edic (.ty "int") h=.ok (.bl false) h:=rfl
@[simp] theorem ZeQ:CI .edic (.ty "tuple") h=.ok (.bl false) h:=rfl
@[simp] theorem ZeR {ρ:Ai} {c d:D} {i j k l:Nat}:IY [i,j,k,l] (.tup [a,b,c,d]) ρ=some ((((ρ.set i (some a)).set j (some b)).set k (some c)).set l (some d)):=rfl
@[simp] theorem ZeS {chk:D→HD→Out D} {op:D→D→HD→Out D} {f g:ME} {ρ:Ai} {Q:D→HD→Prop}:Wp (Rk chk op f g ρ h) Q=Wp (f ρ h) fun x h1=>Wp (chk x h1) fun x h2=>Wp (g ρ h2) fun y h3=>Wp (op x y h3) Q:=by unfold Rk;simp only [AG]
@[simp] theorem sz6:(6≤sizeLine)=True:=eq_true (by unfold sizeLine;omega)
@[simp] theorem sz7:(7≤sizeLine)=True:=eq_true (by unfold sizeLine;omega)
@[simp] theorem sz8:(8≤sizeLine)=True:=eq_true (by unfold sizeLine;omega)
@[simp] theorem sz9:(9≤sizeLine)=True:=eq_true (by unfold sizeLine;omega)
@[simp] theorem ZeT:(10≤sizeLine)=True:=eq_true (by unfold sizeLine;omega)
end
section
variable {ρ:Ai} {h:HD} {Q:Str→HD→Prop} {R:Str→List (Str×D)→HD→Prop} {acc y:Str} {r:MJ} {f:ME} {n:Nat} {i:Int}
end
end LS
namespace LS
open PySem PySem.Spec PyProof.Rows L2 PySem.W
section
variable {X:Cx} {E:XK}
def JW:D→HD→Out D:=fun x h=>match BE x h with
 |some ds=>CF ds h
 |none=>.stuck
theorem Yo:De X (.type "list") (Am JW):=by
 refine ⟨_,VH,fun m H h E ds vs Q hr r q=>Gc r q fun d v ev rv q=>?_⟩
 unfold JW at q
 split at q
 ·rename_i ds' e
  obtain ⟨p,ws,rfl,hs,dv⟩:=Jy hr rv e
  exact ⟨p,ws,ev,hs,(GG hr dv q).2⟩
 ·exact q.elim
def ZeU (T:List (Str×(List D→HD→Out D))) (fv:ME) (fa:MA):ME:=fun ρ h=>(fv ρ h).bind fun d h1=>match d with
 |.glo n=>(match T.lookup n with
  |some F=>(fa ρ h1).bind F
  |none=>.stuck)
 |_=>.stuck
def ZeV (P:Program) (w:World) (K:Frag) (mg:Str→Option Value) (base:Heap) (k:Nat) (T:List (Str×(List D→HD→Out D))):Prop:=∀n F,T.lookup n=some F→CaE P w K mg base n k F
theorem CaE.mono {P:Program} {w:World} {K:Frag} {mg:Str→Option Value} {base:Heap} {x:Str} {j k:Nat} {F:List D→HD→Out D} (C:CaE P w K mg base x j F) (h:j≤k):CaE P w K mg base x k F:=by
 obtain ⟨f,fd,ps,G,r⟩:=C.ex
 exact ⟨f,fd,ps,G.mono h,r⟩
end
def ZeW (K:Frag) (c:Addr):Bool:=match tabP K with
 |some (c',T)=>c'==c&&codeHdIn K c T
 |none=>false
section
variable {prog:Program} {w:World} {A:Around} {E:Str→Value→Shared→Prop}
end
section
variable {X:Cx} {E:XK}
def Yp (K:PySem.W.Frag):V→Option Int→Option Int→Hp→VK→Prop:=fun x lo hi H Q=>∃a xs,x=.ref a∧SqT K H a xs∧HT.sIx xs.length 0 lo=0∧HT.sIx xs.length xs.length hi=xs.length∧Q (.ref a) H
theorem sl_whole:SlR X (Yp X.K):=by
 rintro pins s σ H x v vl vu lo hi sl Q I rx hs pl pu ⟨a,xs,rfl,hx,w0,w1,q⟩
 cases rx
 obtain ⟨its,r,ht,hz⟩:=I.tuple hx
 have hl:its.toArray.size=xs.length:=by rw [Ba];exact r.length.symm
 rw [←hl] at w0 w1
 obtain ⟨os,hos,hcs,hds⟩:=id hs
 refine ⟨"tuple",_,slot_tuple_getitem.lookup,ht.typeIs,?_⟩
 unfold getItem
 try with_reducible refine wpAny_holding ?_
 first |refine wpAny_bind (wpAny_pure ?_) |skip
 refine wpAny_bind (wpAny_sequenceKey ht.typeIs (by decide) (wpAny_bind (wpAny_callSpecial?_slot (name:=Str.ofString "__getitem__") ht.typeIs slot_tuple_getitem
  (wpAny_call_entry slot_tuple_getitem ht.typeIs entry_tuple_getitem ?_ (args_tuple_getitem _ _)))))
 show wpAny _ _ (Builtin.Tuple.tupleItemsOf (.ref a) >>=_) _ _ s
 refine wpAny_bind (tupleItemsOf_ ht (wpAny_bind (wpAny_typeOf (show s.TypeIs (.ref sl) "slice" from ⟨os,hos,hcs⟩) ?_)))
 rw [if_pos (by decide)]
 refine wpAny_bind (HT.sliceApplied_gen hs pl pu ?_)
 have hy:(((HT.sIx its.toArray.size 0 lo:Nat):Int)==0&&(1:Int)==1&&(HT.sIx its.toArray.size its.toArray.size hi - HT.sIx its.toArray.size 0 lo)==its.toArray.size)=true:=by
  rw [w0,w1]
  simp
 show wpAny _ _ (if (((HT.sIx its.toArray.size 0 lo:Nat):Int)==0&&(1:Int)==1&&(HT.sIx its.toArray.size its.toArray.size hi - HT.sIx its.toArray.size 0 lo)==its.toArray.size)=true then _ else _) _ _ s
 rw [if_pos hy]
 unfold Builtin.Tuple.tupleIsExact
 refine wpAny_bind (wpAny_bind (wpAny_typeOf ht.typeIs (wpAny_pure ?_)))
 rw [if_pos (by decide)]
 refine wpAny_bind (wpAny_rule ?_)
 have Bm:EP X pins σ Q (.ref a) s:=⟨.ref a,H,I,rfl,q⟩
 first
  |exact wpAny_pure ⟨_,rfl,wpAny_pure Bm⟩
  |exact wpAny_pure Bm
def Ez (x:D) (lo hi:Option Int) (h:HD):Out D:=match x with
 |.tup xs=>.ok (.tup (JP xs lo hi)) h
 |_=>.stuck
def FV (f:ME) (lo hi:MO):ME:=fun ρ h=>(f ρ h).bind fun x h1=>(lo ρ h1).bind fun l h2=>(hi ρ h2).bind fun u h3=>Ez x l u h3
theorem Yq {α:Type} {xs:List α} {lo hi:Option Int} (h0:HT.sIx xs.length 0 lo=0) (h1:HT.sIx xs.length xs.length hi=xs.length):(xs.drop (HT.sIx xs.length 0 lo)).take (HT.sIx xs.length xs.length hi - HT.sIx xs.length 0 lo)=xs:=by
 rw [h0,h1];simp
theorem IZ {e:Expr} {lo hi:Option Expr} {f:ME} {fl fh:MO} {p2 pos:Pos} (he:Ev X E e f) (hl:Li X E lo fl) (hu:Li X E hi fh):Ev X E (.Subscript e (.Slice lo hi none p2) pos) (FV f fl fh):=
 B9 (Vt (sl_whole.or Vw) he hl hu) fun σ H Q ⟨m,ρ,h,hr,er,p⟩=>⟨m,ρ,h,hr,er,Post.bind p fun x h1 v m1 H1 eo1 p1 k1 hr1 r1 q1=>
  ⟨m1,ρ,h1,hr1,er.keep p1 k1,Post.bind q1 fun l h2 l' m2 H2 eo2 p2 k2 hr2 r2 q2=>
   ⟨m2,ρ,h2,hr2,(er.keep p1 k1).keep p2 k2,Post.bind q2 fun u h3 u' m3 H3 eo3 p3 k3 hr3 r3 q3=>by
    clear eo1 eo2 eo3
    subst r2 r3
    have rx:=DV.keep p3 k3 (DV.keep p2 k2 r1)
    unfold Ez at q3
    split at q3
    ·rename_i xs
     have rx0:=rx
     simp only [DV] at rx
     obtain ⟨a,vs,rfl,ha,dv⟩:=rx
     by_cases hz:HT.sIx xs.length 0 l=0∧HT.sIx xs.length xs.length u=xs.length
     ·refine .inl ⟨a,vs,rfl,SqT.of ha,by rw [←dv.len];exact hz.1,by rw [←dv.len];exact hz.2,?_⟩
      have e:JP xs l u=xs:=Yq hz.1 hz.2
      rw [e] at q3
      exact q3 (.ref a) m3 H3 (AL _) (.refl _) hr3 rx0
     ·rw [dv.len] at hz
      exact .inr ⟨a,vs,rfl,SqT.of ha,hz,Ir hr3 (dv.cut l u) q3⟩
    ·exact q3.elim⟩⟩⟩
end
section
variable {f:ME} {lo hi:MO} {ρ:Ai} {h:HD} {Q:D→HD→Prop}
@[simp] theorem ZeX:Wp (FV f lo hi ρ h) Q=Wp (f ρ h) fun x h1=>Wp (lo ρ h1) fun l h2=>Wp (hi ρ h2) fun u h3=>Wp (Ez x l u h3) Q:=by unfold FV;simp only [AG]
end
section
variable {K:Frag} {mg:Str→Option Value} {h:Heap}
theorem Yr {us:List Value} (h:us.length=0):us=[]:=List.length_eq_zero_iff.mp h
theorem Rt {us:List Value} (h:us.length=1):∃v0,us=[v0]:=by
 cases us with
 |nil=>cases h
 |cons v t=>
  obtain rfl:=Yr (Nat.succ.inj h)
  exact ⟨v,rfl⟩
theorem Ru {us:List Value} (h:us.length=2):∃v0 v1,us=[v0,v1]:=by
 cases us with
 |nil=>cases h
 |cons v t=>
  obtain ⟨w0,rfl⟩:=Rt (Nat.succ.inj h)
  exact ⟨v,w0,rfl⟩
theorem Ys {us:List Value} (h:us.length=3):∃v0 v1 v2,us=[v0,v1,v2]:=by
 cases us with
 |nil=>cases h
 |cons v t=>
  obtain ⟨w0,w1,rfl⟩:=Ru (Nat.succ.inj h)
  exact ⟨v,w0,w1,rfl⟩
theorem Ck {x p0:Str} {st:Stmt} {f:Addr} {oc:Value} {od an:Option Addr} {osl:Array (Option Value)} {kV doc pm cdv ct:Value} (X:K.In h) (G:h.Ns mainGlobals mg) (l:K.lookup f=some ⟨oc,od,.func (fnOf x x (defArgs st) (defBody st) (defScope st) .none kV doc pm an cdv ct),osl⟩) (c:codeIn K cdv x=true) (k:keepIn K (.ref f)=true) (a:nsIn K mainGlobals x=some (some (.ref f)))
 (b:∀(kV doc pm:Value) (an:Option Addr) (cdv ct v0:Value),bindArgs (fnOf x x (defArgs st) (defBody st) (defScope st) .none kV doc pm an cdv ct) ⟨[v0],[]⟩=pure (([p0]:List Str).zip [v0])):Dn K mg x [p0] st f (fnOf x x (defArgs st) (defBody st) (defScope st) .none kV doc pm an cdv ct):=
 ⟨Ip l c k,(Ip l c k).binds (fun kV doc pm an cdv ct us hl=>by obtain ⟨v0,rfl⟩:=Rt hl;exact b kV doc pm an cdv ct v0),mg_of X G a⟩
theorem BH {x p0 p1:Str} {st:Stmt} {f:Addr} {oc:Value} {od an:Option Addr} {osl:Array (Option Value)} {kV doc pm cdv ct:Value} (X:K.In h) (G:h.Ns mainGlobals mg) (l:K.lookup f=some ⟨oc,od,.func (fnOf x x (defArgs st) (defBody st) (defScope st) .none kV doc pm an cdv ct),osl⟩) (c:codeIn K cdv x=true) (k:keepIn K (.ref f)=true) (a:nsIn K mainGlobals x=some (some (.ref f)))
 (b:∀(kV doc pm:Value) (an:Option Addr) (cdv ct v0 v1:Value),bindArgs (fnOf x x (defArgs st) (defBody st) (defScope st) .none kV doc pm an cdv ct) ⟨[v0,v1],[]⟩=pure (([p0,p1]:List Str).zip [v0,v1])):Dn K mg x [p0,p1] st f (fnOf x x (defArgs st) (defBody st) (defScope st) .none kV doc pm an cdv ct):=
 ⟨Ip l c k,(Ip l c k).binds (fun kV doc pm an cdv ct us hl=>by obtain ⟨v0,v1,rfl⟩:=Ru hl;exact b kV doc pm an cdv ct v0 v1),mg_of X G a⟩
theorem GU {x p0 p1 p2:Str} {st:Stmt} {f:Addr} {oc:Value} {od an:Option Addr} {osl:Array (Option Value)} {kV doc pm cdv ct:Value} (X:K.In h) (G:h.Ns mainGlobals mg) (l:K.lookup f=some ⟨oc,od,.func (fnOf x x (defArgs st) (defBody st) (defScope st) .none kV doc pm an cdv ct),osl⟩) (c:codeIn K cdv x=true) (k:keepIn K (.ref f)=true) (a:nsIn K mainGlobals x=some (some (.ref f)))
 (b:∀(kV doc pm:Value) (an:Option Addr) (cdv ct v0 v1 v2:Value),bindArgs (fnOf x x (defArgs st) (defBody st) (defScope st) .none kV doc pm an cdv ct) ⟨[v0,v1,v2],[]⟩=pure (([p0,p1,p2]:List Str).zip [v0,v1,v2])):Dn K mg x [p0,p1,p2] st f (fnOf x x (defArgs st) (defBody st) (defScope st) .none kV doc pm an cdv ct):=
 ⟨Ip l c k,(Ip l c k).binds (fun kV doc pm an cdv ct us hl=>by obtain ⟨v0,v1,v2,rfl⟩:=Ys hl;exact b kV doc pm an cdv ct v0 v1 v2),mg_of X G a⟩
theorem SaidD.of {st:Stmt} {f:Addr} {fd:FuncData} (d:Dn K mg "_law_said" ["_law_call"] st f fd):SaidD K mg st f fd:=⟨d.fn,d.bd,d.mg⟩
end
open AutoSeq1 (wpAny_loadPart')
section
variable {prog:Program} {w:World} {A:Around} {E:Value→Shared→Prop} {s:Shared}
end
def Rv (r:Addr) (n:Nat) (h:Heap):Prop:=∃t u v,IsRange h r 0 (n:Int) 1 t u v
section
variable {X:Cx} {E:XK}
inductive Yt (vs:List V) (H:Hp) (Q:VK):Prop where
 |mk (n:Nat) (e:vs=[.int (n:Int)]) (hn:n≤1000) (q:∀p,H p=none→Q (.ref p) (Az H p (.ext (Rv p n)))):Yt vs H Q
inductive Yu (vs:List V) (H:Hp) (Q:VK):Prop where
 |mk (r:Addr) (n:Nat) (e:vs=[.ref r]) (hr:H r=some (.ext (Rv r n))) (hn:n≤1000) (q:∀p,H p=none→Q (.ref p) (Az H p (.tup ((List.range n).map fun i=>V.int ((i:Nat):Int))))):Yu vs H Q
noncomputable def Yv:D→HD→Out D:=fun d h=>match d with
 |.int i=>@ite _ (0≤i∧i≤1000) (Classical.propDecidable _) (.ok (.tup ((List.range i.toNat).map fun k=>D.int ((k:Nat):Int))) h) .stuck
 |_=>.stuck
noncomputable def ZeY (f:ME):ME:=fun ρ h=>(f ρ h).bind Yv
end
end LS
namespace LS
open PySem PySem.Spec PyProof.Rows L2 PySem.W
section
variable {X:Cx} {E:XK}
def Yw:D→HD→Out D:=fun x h=>match x with
 |.tup _=>.ok x h
 |_=>.stuck
def ZeZ:D→D→HD→Out D:=fun x y h=>(Yw x h).bind fun _ _=>Rm x y h
mutual
def Nh:PyData→Bool
 |.list _=>false
 |.tuple xs=>Ni xs
 |_=>true
def Ni:List PyData→Bool
 |[]=>true
 |x::xs=>Nh x&&Ni xs
end
def Nj (h:HD):Nat→D→Option PyData
 |_,.non=>some .none
 |_,.bl b=>some (.bool b)
 |_,.int i=>some (.int i)
 |_,.str x=>some (.str x)
 |_,.edic=>some (.dict [])
 |n+1,.tup ds=>(Bd (ds.map (Nj h n))).map .tuple
 |n+1,.loc l=>match h[l]? with
  |some (.lst ds)=>(Bd (ds.map (Nj h n))).map .list
  |_=>none
 |_,_=>none
inductive Yx (h:Heap) (u:Value) (p:PyData):Prop where
 |mk (as:List Addr) (f1:Reads h u p as) (f2:Nh p=true→sysModules∉as):Yx h u p
inductive Yy (h:Heap) (us:List Value) (ps:List PyData):Prop where
 |mk (as:List Addr) (f1:ReadsAll h us ps as) (f2:Ni ps=true→sysModules∉as):Yy h us ps
variable {pins:List (Addr×Obj)} {σ:L2.St} {H:Hp} {s:Shared} {m:List Addr} {h:HD}
def Ze0:D→HD→Out D:=fun x h=>match Nj h 8 x with
 |some p=>if p.showable=true∧(p.hasDict=false∨Nh p=true)∧p.depth≤40∧p.shown.length≤sizeLine then .ok (.str p.shown) h else .stuck
 |none=>.stuck
end
end LS
namespace HT
open PySem PyProof.Rows
def lexLe:List Int→List Int→Bool
 |[],[]=>true
 |[],_::_=>true
 |_::_,[]=>false
 |x::xs,y::ys=>if x=y then lexLe xs ys else decide (x≤y)
section
open PySem.SeqAt
open PySem.AutoSeq1 (wpAny_loadPart')
open PySem.MeetsSeq PySem.MeetsSeq2 PySem.MeetsSeq3
end
section
variable {prog:Program} {w:World} {A:Around} {E:Value→Shared→Prop} {s:Shared}
end
end HT
namespace L2
open PySem PySem.Spec PyProof.Rows
section
variable {X:Cx}
def Ze1 (K:PySem.W.Frag):R2:=fun x y H Q=>∃a b ns ms,x=.ref a∧y=.ref b∧SqT K H a (ns.map V.int)∧SqT K H b (ms.map V.int)∧Q (.bl (HT.lexLe ns ms)) H
end
end L2
namespace LS
open PySem PySem.Spec PyProof.Rows L2
section
variable {X:Cx} {E:XK}
def Rw:D→Option (List Int)
 |.tup ds=>Bd (ds.map FR)
 |_=>none
def Ze2 (f:List Int→List Int→Bool):D→D→HD→Out D:=fun x y h=>match Rw x,Rw y with
 |some ns,some ms=>.ok (.bl (f ns ms)) h
 |_,_=>.stuck
end
section
variable {prog:Program} {w:World} {A:Around} {E:Value→Shared→Prop} {s:Shared}
end
section
variable {X:Cx} {E:XK} {e:Expr} {f:ME}
def Yz:D→HD→Out D:=fun x h=>match x with
 |.tup ds=>.ok (.tup ds.reverse) h
 |_=>.stuck
def Ze3 (f:ME):ME:=fun ρ h=>(f ρ h).bind Yz
theorem DVs.rev {K:PySem.W.Frag} {m:List Addr} {H:Hp}:∀{ds:List D} {vs:List V},DVs K m H ds vs→DVs K m H ds.reverse vs.reverse
 |[],vs,r=>by
  simp only [DVs] at r
  subst r
  exact .nil
 |d::ds,vs,r=>by
  simp only [DVs] at r
  obtain ⟨v,w,rfl,rv,rw'⟩:=r
  rw [Ku,Ku]
  exact (DVs.rev rw').app (.cons rv .nil)
theorem YA {vs:List V} {us:List Value} (r:Vals vs us):Vals vs.reverse us.reverse:=r.reverse
end
end LS
namespace LS
open PySem
section
variable {prog:Program} {w:World} {A:Around} {E:Value→Shared→Prop} {h:Heap} {g:Array GenState} {d:Drawn} {t:Nat} {os:OsState}
variable {nm q:Str} {C N:Addr} {bs bm bmB:List Value} {hdct:Bool} {sn:List Str} {sub:List Value} {ab:Bool} {col:Option Bool} {dd:Option Addr} {k0 k1 k2 k3 k5:Option Value} {B newId initId:String}
end
end LS
namespace LS
open PySem PySem.Spec PyProof.Rows L2
def Nk (i j k:Nat):MG:=fun d ρ=>match d with
 |.tup [x,.tup [y,z]]=>some (((ρ.set i (some x)).set j (some y)).set k (some z))
 |_=>none
abbrev YB (K:PySem.W.Frag) (i j k:Nat):TG:=GE K 2 (D7 (CD i) (D7 (GE K 2 (D7 (CD j) (D7 (CD k) GD))) GD))
theorem YC {K:PySem.W.Frag} {cs:List (Option Nat)} {i j k:Nat} (h:cs[i]?=some none) (h':cs[j]?=some none) (h2:cs[k]?=some none):IF K cs (YB K i j k) (Nk i j k):=fun m H d v ρ σ0 ρ' Q r er e q=>by
 unfold Nk at e
 split at e
 ·cases e
  simp only [DV,DVs] at r
  obtain ⟨p,vs,rfl,hp,v1,w1,rfl,r1,v2,w2,rfl,⟨p2,vs2,rfl,hp2,v3,w3,rfl,r3,v4,w4,rfl,r4,rfl⟩,rfl⟩:=r
  exact ⟨p,_,rfl,SqT.of hp,rfl,v1,_,rfl,_,_,rfl,⟨p2,_,rfl,SqT.of hp2,rfl,v3,_,rfl,v4,_,rfl,rfl,rfl,q _ ((((Sub.refl _).set h).set h').set h2) (((er.set r1).set r3).set r4)⟩⟩
 ·cases e
def Di (elt:Expr) (gens:List Comprehension) (scope:Scope) (pos:Pos) (d:Nat) (acc:Value) (env:Env):Sem Unit:=match gens[d+1]? with
 |some g=>eval g.iter env >>=fun x=>standAt g.iter.pos >>=fun _=>foldedSetIterable g.iter env x >>=fun y=>holding [y] (pyIter y) >>=fun it=>
  runOwn (.compStart (.ListComp elt gens scope pos) (d+1) it acc env) env >>=fun _=>pure ()
 |none=>eval elt env >>=fun x=>call (.builtin "list.append") [acc,x] >>=fun _=>pure ()
theorem YD {elt tg iter:Expr} {gens:List Comprehension} {ifs:List Expr} {scope:Scope} {pos:Pos} {d:Nat} {it acc:Value} {env:Env} (hg:gens[d]?=some ⟨tg,iter,ifs,0⟩) (ha:∀g,gens[d+1]?=some g→g.is_async=0):
 compTurn (.ListComp elt gens scope pos) d it acc env=standAt iter.pos >>=fun _=>pyNext it >>=fun r=>match r with
  |none=>pure (.done .next)
  |some v=>letOwnedTupleGo tg it v >>=fun _=>assign tg env v >>=fun _=>(forIn ifs true fun c r=>if r=true then do let ok ←isTrue c env (eval c env);pure (ForInStep.yield ok) else pure (ForInStep.yield r)) >>=fun ok=>
   if ok=true then Di elt gens scope pos d acc env >>=fun _=>again (.compLoop (.ListComp elt gens scope pos) d it acc env) else again (.compLoop (.ListComp elt gens scope pos) d it acc env):=by
 unfold compTurn Di
 simp only [hg]
 cases e:gens[d+1]? with
 |none=>rfl
 |some g=>
  obtain ⟨a,b,c,k⟩:=g
  have:k=0:=ha _ e
  subst this
  simp only [bind_assoc,pure_bind]
  rfl
section
variable {prog:Program} {w:World} {A:Around} {R:Result→Shared→Prop} {s:Shared} {elt tg iter:Expr} {gens:List Comprehension} {ifs:List Expr} {scope:Scope} {pos:Pos} {d:Nat} {it acc:Value} {env:Env}
theorem YE (hg:gens[d]?=some ⟨tg,iter,ifs,0⟩) (ha:∀g,gens[d+1]?=some g→g.is_async=0) (I:Nat→Shared→Prop)
 (turn:∀n s,I n s→wpAny (model prog w) A (pyNext it) (fun r s₁=>match r with
  |none=>R (.ok .next) s₁
  |some v=>wpAny (model prog w) A (letOwnedTupleGo tg it v) (fun _ s₁'=>wpAny (model prog w) A (assign tg env v) (fun _ s₂=>
   wpAny (model prog w) A (forIn ifs true fun c r=>if r=true then do let ok ←isTrue c env (eval c env);pure (ForInStep.yield ok) else pure (ForInStep.yield r)) (fun ok s₃=>
    if ok=true then wpAny (model prog w) A (Di elt gens scope pos d acc env) (fun _ s₅=>∃m,m<n∧I m s₅) (fun _ _=>False) s₃ else ∃m,m<n∧I m s₃) (fun _ _=>False) s₂) (fun _ _=>False) s₁') (fun _ _=>False) s₁) (fun _ _=>False) s)
 (n:Nat) (h:I n s):codeAny (model prog w) A (.compLoop (.ListComp elt gens scope pos) d it acc env) R s:=by
 refine codeAny_loop rfl I (fun n s hI=>?_) n h
 show wpAny _ A ((compTurn (.ListComp elt gens scope pos) d it acc env).onRaise (fun x=>do noteFrame x env;theTreesLotGoes x)) _ _ s
 refine wpAny_noted ?_
 rw [YD hg ha]
 refine wpAny_bind (wpAny_standAt (wpAny_bind (wpAny_mono (turn n s hI) (fun r s₁ h₁=>?_) fun _ _ h'=>h'.elim)))
 cases r with
 |none=>exact wpAny_pure h₁
 |some v=>
  refine wpAny_bind (wpAny_mono h₁ (fun _ s₁' h₁'=>?_) fun _ _ h'=>h'.elim)
  refine wpAny_bind (wpAny_mono h₁' (fun _ s₂ h₂=>wpAny_bind (wpAny_mono h₂ (fun ok s₃ h₃=>?_) fun _ _ h'=>h'.elim)) fun _ _ h'=>h'.elim)
  cases ok with
  |false=>exact wpAny_pure ⟨rfl,h₃⟩
  |true=>exact wpAny_bind (wpAny_mono h₃ (fun _ s₅ h₅=>wpAny_pure ⟨rfl,h₅⟩) fun _ _ h'=>h'.elim)
theorem Rx (hg:gens[d]?=some ⟨tg,iter,ifs,0⟩)
 (h0:codeAny (model prog w) A (.compLoop (.ListComp elt gens scope pos) d it acc env) R s)
 (h:wpAny (model prog w) A (pyIter it) (fun it' s'=>codeAny (model prog w) A (.compLoop (.ListComp elt gens scope pos) d it' acc env) R s') (fun _ _=>False) s):
 codeAny (model prog w) A (.compStart (.ListComp elt gens scope pos) d it acc env) R s:=by
 refine codeAny_of_tree ?_
 show wpAny _ _ ((compStart (.ListComp elt gens scope pos) d it acc env).onRaise (fun x=>do noteFrame x env;standAt theWindowsPlace)) _ _ s
 refine wpAny_notedAt ?_
 have hc:(clausesOf (.ListComp elt gens scope pos))[d]?=some ⟨tg,iter,ifs,0⟩:=hg
 unfold compStart
 rw [hc]
 show wpAny _ _ (ask >>=_) _ _ s
 refine wpAny_bind (wpAny_askSetting (wpAny_ite ?_))
 split
 ·first
   |exact wpAny_bind (wpAny_pure (wpAny_pure ⟨rfl,h0⟩))
   |exact wpAny_pure ⟨rfl,h0⟩
 ·refine wpAny_bind (wpAny_rule ?_)
  show wpAny _ _ (standAt iter.pos >>=_) _ _ s
  exact wpAny_bind (wpAny_standAt (wpAny_bind (wpAny_mono h (fun it' s' h'=>wpAny_pure ⟨rfl,h'⟩) fun _ _ x=>x.elim)))
end
abbrev CJ (its:List Value) (k:Nat):Obj:={cls:=.type "list",data:=.seq its.toArray k}
structure GV (X:Cx) (D:Addr):Prop where
 lo:D≠X.env.locals
 ce:∀x c,X.env.cells.lookup x=some c→c≠D
 pn:∀p∈X.pn,p.1≠D
 ex:D∈X.ex
 fs:D∉X.fs
section
variable {X:Cx} {D:Addr} {its its':List Value} {k k':Nat} {rest:List (Addr×Obj)} {σ:L2.St} {H:Hp} {s:Shared} {h':Heap}
theorem Inv.repin (ao:GV X D) (I:Inv X ((D,CJ its k)::rest) σ H s) (hr:∀p∈rest,p.1≠D) (sb:Heap.SameBut D s.heap h') (e:h'.get? D=some (CJ its' k')):Inv X ((D,CJ its' k')::rest) σ H {s with heap:=h'}:=by
 have hD:=(I.pin _ (BJ _ AW)).2.1
 have I1:Inv X rest σ H s:=I.pins_of fun p hp=>I.pin p (BJ _ (A1 _ hp))
 have I2:Inv X rest σ H {s with heap:=h'}:=I1.turned (t':=s.toks) (it:=D) (fun b o hb e=>(sb.2 b hb).trans e) hD ao.lo (.inl ao.ex) ao.ce fun p hp=>by
  rcases qaV.mp hp with z |z
  ·exact ao.pn p z
  ·exact hr p z
 refine I2.pins_of fun p hp=>?_
 rcases qa7.mp hp with rfl |z
 ·exact ⟨e,hD,ao.lo,ao.fs,fun v z=>by cases z⟩
 ·exact I2.pin p (BJ _ z)
def EM (X:Cx) (D:Addr) (em:Sem Unit) (te:L2.St→Hp→List V→(List V→Hp→Prop)→Prop):Prop:=
 ∀(rest:List (Addr×Obj)) (its:List Value) (k:Nat) (acc:List V) (σ:L2.St) (H:Hp) (s:Shared) (Q:List V→Hp→Prop),Inv X ((D,CJ its k)::rest) σ H s→(∀p∈rest,p.1≠D)→Vals acc its→te σ H acc Q→
  wpAny (model X.prog X.w) X.A em (fun _ s'=>∃its' k' acc' H',Inv X ((D,CJ its' k')::rest) σ H' s'∧Vals acc' its'∧Q acc' H') (fun _ _=>False) s
def Ry (te:TE):L2.St→Hp→List V→(List V→Hp→Prop)→Prop:=fun σ H acc Q=>acc.length<sizeLine∧te σ H fun y H'=>Q (acc++[y]) H'
theorem YF {elt:Expr} {gens:List Comprehension} {scope:Scope} {pos:Pos} {d:Nat} {te:TE} (ao:GV X D) (xe:X.xe=fun _ _=>False) (hl:gens[d+1]?=none) (pe:PE X elt te):EM X D (Di elt gens scope pos d (.ref D) X.env) (Ry te):=by
 rintro rest its k acc σ H s Q I hr rv ⟨hz,h⟩
 unfold Di
 rw [hl]
 have z:=pe _ s σ H _ I h
 rw [xe] at z
 refine wpAny_bind (wpAny_mono z (fun y s1 z1=>?_) fun _ _ z=>z.elim)
 obtain ⟨yv,H1,I1,r1,q1⟩:=z1
 obtain ⟨ho,hD,_⟩:=I1.pin _ (BJ _ AW)
 have hlen:=rv.length
 refine wpAny_bind (wpAny_list_append_plain ⟨k,ho⟩ (fun h' z2 sb=>?_) (by rw [Ba];omega))
 obtain ⟨k',hl'⟩:=z2
 refine wpAny_pure ⟨its++[y],k',acc++[yv],H1,Inv.repin ao I1 hr sb (by rw [hl'];simp [CJ]),rv.append (.cons r1 .nil),q1⟩
theorem YG {o o':Obj} {H':Hp} {b:Addr} (f:CW X ((D,o)::rest) H b) (n:H' b=none):CW X ((D,o')::rest) H' b:=by
 obtain ⟨_,f1,f2,f3,f4,f5⟩:=f
 refine ⟨n,f1,f2,f3,f4,fun p hp=>?_⟩
 rcases qaV.mp hp with z |z
 ·exact f5 p (Gz _ z)
 ·rcases qa7.mp z with rfl |z
  ·exact f5 (D,o) (BJ _ AW)
  ·exact f5 p (BJ _ (A1 _ z))
def Rz (wi:TI) (g:TG) (tc:TT) (te:L2.St→Hp→List V→(List V→Hp→Prop)→Prop):L2.St→Hp→List V→(List V→Hp→Prop)→Prop:=fun σ H acc Q=>wi σ H fun J H1=>∃W:Nat→Nat→List V→Hp→Prop,(∃n,W 0 n acc H1)∧∀i n acc H,W i n acc H→
 (J.stop i H∧Q acc H)∨
 (J.go i H∧∀x H',J.yld i H x H'→g x σ H' fun σ2 H2=>Sub σ σ2∧tc σ2 H2 fun b H3=>if b=true then te σ2 H3 acc fun acc' H4=>∃n',n' < n∧W (i+1) n' acc' H4 else ∃n',n' < n∧W (i+1) n' acc H3)
inductive Nl (X:Cx) (D:Addr) (rest:List (Addr×Obj)) (σ:L2.St) (W:Nat→Nat→List V→Hp→Prop) (tn:Nat→Heap→Prop) (fp:List Addr) (n:Nat) (s':Shared):Prop where
 |mk (i:Nat) (acc:List V) (H':Hp) (its:List Value) (k:Nat) (w:W i n acc H') (ii:Inv X ((D,CJ its k)::rest) σ H' s') (st:tn i s'.heap) (fr:∀b∈fp,H' b=none) (rv:Vals acc its):Nl X D rest σ W tn fp n s'
theorem RA {elt tg iter:Expr} {gens:List Comprehension} {ifs:List Expr} {scope:Scope} {pos:Pos} {d:Nat} {g:TG} {tc:TT} {te:L2.St→Hp→List V→(List V→Hp→Prop)→Prop} {R:Result→Shared→Prop} {it:Addr} {fp:List Addr} {tn:Nat→Heap→Prop} {J:It} {W:Nat→Nat→List V→Hp→Prop} {QQ:List V→Hp→Prop}
 (xe:X.xe=fun _ _=>False) (xc:X.calm=true) (hg:gens[d]?=some ⟨tg,iter,ifs,0⟩) (ha:∀g,gens[d+1]?=some g→g.is_async=0) (pg:PG X tg g) (pt:FP X ifs tc) (em:EM X D (Di elt gens scope pos d (.ref D) X.env) te)
 (T:F5 X.prog X.w X.K tg J fp it tn) (f:∀b∈fp,∀o H',H' b=none→CW X ((D,o)::rest) H' b) (hr:∀p∈rest,p.1≠D)
 (turn:∀i n acc H,W i n acc H→(J.stop i H∧QQ acc H)∨
  (J.go i H∧∀x H',J.yld i H x H'→g x σ H' fun σ2 H2=>Sub σ σ2∧tc σ2 H2 fun b H3=>if b=true then te σ2 H3 acc fun acc' H4=>∃n',n' < n∧W (i+1) n' acc' H4 else ∃n',n' < n∧W (i+1) n' acc H3))
 (Bm:∀its k acc H' s',Inv X ((D,CJ its k)::rest) σ H' s'→Vals acc its→QQ acc H'→R (.ok .next) s') (n:Nat) (h:Nl X D rest σ W tn fp n s):
 codeAny (model X.prog X.w) X.A (.compLoop (.ListComp elt gens scope pos) d (.ref it) (.ref D) X.env) R s:=by
 refine YE hg ha (Nl X D rest σ W tn fp) ?_ n h
 rintro n s5 ⟨i,acc,H5,its,k,w5,I5,EU,fr5,rv5⟩
 have fk:∀{H':Hp},(∀b∈fp,H' b=none)→∀b∈fp,CW X ((D,CJ its k)::rest) H' b:=fun hn b hb=>f b hb _ _ (hn b hb)
 rcases turn i n acc H5 w5 with ⟨stop,qn⟩ |⟨go,step⟩
 ·refine wpAny_mono (T.done X rfl rfl rfl xc i _ s5 σ H5 (fun _ _=>False) I5 (fk fr5) EU stop) (fun r s6 z=>?_) fun _ _ z=>z
  obtain ⟨rfl,I6⟩:=z
  exact Bm its k acc H5 s6 I6 rv5 qn
 ·refine wpAny_mono (T.item X rfl rfl rfl xc i _ s5 σ H5 (fun _ _=>False) I5 (fk fr5) EU go) (fun r s6 z=>?_) fun _ _ z=>z
  obtain ⟨u,rfl,h6⟩:=z
  refine wpAny_mono h6 (fun _ s7 z=>?_) fun _ _ z=>z
  obtain ⟨x,H7,I7,r7,y7,FY,fr7⟩:=z
  have I7':Inv X ((D,CJ its k)::(rest++F6 fp s7.heap)) σ H7 s7:=I7.pinned (fp:=fp) (fk fr7) (T.obj _ _ FY)
  have hr':∀p∈rest++F6 fp s7.heap,p.1≠D:=fun p hp=>by
   rcases qaV.mp hp with z |z
   ·exact hr p z
   ·obtain ⟨hb,_⟩:=O8 z
    exact Ne.symm ((f p.1 hb (CJ its k) H7 (fr7 p.1 hb)).2.2.2.2.2 (D,CJ its k) (BJ _ AW))
  have z2:=pg _ s7 σ H7 x u _ I7' r7 (step x H7 y7)
  rw [xe] at z2
  refine wpAny_mono z2 (fun _ s8 z=>?_) fun _ _ z=>z
  obtain ⟨σ8,H8,I8,sub8,q8⟩:=z
  have z3:=pt _ s8 σ8 H8 _ I8 q8
  rw [xe] at z3
  refine wpAny_mono z3 (fun ok s9 z=>?_) fun _ _ z=>z
  obtain ⟨H9,I9,q9⟩:=z
  have back:∀{sy:Shared} {Hy:Hp} {its':List Value} {k':Nat},Inv X ((D,CJ its' k')::(rest++F6 fp s7.heap)) σ8 Hy sy→
   Inv X ((D,CJ its' k')::rest) σ Hy sy∧tn (i+1) sy.heap∧∀b∈fp,Hy b=none:=fun {sy Hy its' k'} Iy=>by
   have at_:∀b∈fp,∀o,s7.heap.get? b=some o→sy.heap.get? b=some o∧Hy b=none:=fun b hb o e=>by
    obtain ⟨z1,z2,_⟩:=Iy.pin (b,o) (BJ _ (A1 _ (BJ _ (Jn hb e))))
    exact ⟨z1,z2⟩
   refine ⟨(Iy.pins_of fun p hp=>Iy.pin p (BJ _ ?_)).weak sub8.1 fun j v z=>sub8.2 j v z,T.keep _ _ _ FY fun b hb o e=>(at_ b hb o e).1,fun b hb=>?_⟩
   ·rcases qa7.mp hp with rfl |z
    ·exact AW
    ·exact A1 _ (Gz _ z)
   ·obtain ⟨o,e,_⟩:=T.obj _ _ FY b hb
    exact (at_ b hb o e).2
  cases ok with
  |false=>
   simp only [DY,if_false] at q9 ⊢
   obtain ⟨n',hn',w'⟩:=q9
   obtain ⟨a1,a2,a3⟩:=back I9
   exact ⟨n',hn',i+1,acc,H9,its,k,w',a1,a2,a3,rv5⟩
  |true=>
   simp only [if_true] at q9 ⊢
   refine wpAny_mono (em _ its k acc σ8 H9 s9 _ I9 hr' rv5 q9) (fun _ s10 z=>?_) fun _ _ z=>z
   obtain ⟨its',k',acc',H10,I10,rv10,n',hn',w'⟩:=z
   obtain ⟨a1,a2,a3⟩:=back I10
   exact ⟨n',hn',i+1,acc',H10,its',k',w',a1,a2,a3,rv10⟩
theorem YH {elt tg iter:Expr} {gens:List Comprehension} {ifs:List Expr} {scope:Scope} {pos:Pos} {d:Nat} {wi:TI} {g:TG} {tc:TT} {te:L2.St→Hp→List V→(List V→Hp→Prop)→Prop}
 (xe:X.xe=fun _ _=>False) (xc:X.calm=true) (hg:gens[d+1]?=some ⟨tg,iter,ifs,0⟩) (ha:∀g,gens[d+1+1]?=some g→g.is_async=0) (hi:PI X tg iter wi) (pg:PG X tg g) (pt:FP X ifs tc) (em:EM X D (Di elt gens scope pos (d+1) (.ref D) X.env) te)
 (hsf:∀x,foldedSetIterable iter X.env x=pure x):EM X D (Di elt gens scope pos d (.ref D) X.env) (Rz wi g tc te):=by
 rintro rest its k acc σ H s Q I hr rv h
 unfold Di
 rw [hg]
 have z:=hi _ s σ H _ I h
 rw [xe] at z
 refine wpAny_bind (wpAny_mono z (fun xv s1 h1=>?_) fun _ _ z=>z)
 refine wpAny_bind (wpAny_standAt (wpAny_bind (wpAny_of_eq (hsf xv) ?_)))
 refine wpAny_bind (wpAny_holding (wpAny_mono h1 (fun itv s2 h2=>?_) fun _ _ z=>z))
 obtain ⟨it,fp,tn,J,H2,e,I2,T,Do,f2,W,⟨n0,w0⟩,turn⟩:=h2
 subst e
 refine wpAny_bind (wpAny_runOwn ?_)
 rw [Around.mark_none]
 have loop:=RA (R:=fun r s'=>match r with |.ok f=>wpAny (model X.prog X.w) X.A (pure ()) (fun _ s'=>∃its' k' acc' H',Inv X ((D,CJ its' k')::rest) σ H' s'∧Vals acc' its'∧Q acc' H') (fun _ _=>False) s' |.error e=>cameBackBy (model X.prog X.w) X.A X.env (fun _ _=>False) e s')
  xe xc hg ha pg pt em T (fun b hb o H' hn=>YG (f2 b hb) hn) hr turn (fun its' k' acc' H' s' I' rv' q'=>wpAny_pure ⟨its',k',acc',H',I',rv',q'⟩) n0 ⟨0,acc,H2,its,k,w0,I2,Do,fun b hb=>(f2 b hb).1,rv⟩
 exact Rx hg loop (T.self X.A 0 s2 _ _ Do loop)
end
def Nm (cs:List (Option Nat)) (wi:TI) (g:TG) (tc:TT) (te:L2.St→Hp→List V→(List V→Hp→Prop)→Prop):TE:=fun σ H Q=>wi σ H fun J H1=>∃W:Nat→Nat→List V→Hp→Prop,(∃n,W 0 n [] H1)∧∀i n acc H,W i n acc H→
 (J.stop i H∧acc.length≤sizeLine∧∀p,H p=none→Q (.ref p) (Az H p (.lst acc)))∨
 (J.go i H∧∀x H',J.yld i H x H'→g x (Bv cs σ) H' fun σ2 H2=>Sub (Bv cs σ) σ2∧tc σ2 H2 fun b H3=>if b=true then te σ2 H3 acc fun acc' H4=>∃n',n' < n∧W (i+1) n' acc' H4 else ∃n',n' < n∧W (i+1) n' acc H3)
section
variable {X:Cx} {elt tg iter:Expr} {ifs:List Expr} {gs:List Comprehension} {scope:Scope} {pos:Pos} {Nc:List Str} {cs:List (Option Nat)} {wi:TI} {g:TG} {tc:TT} {te:L2.St→Hp→List V→(List V→Hp→Prop)→Prop}
theorem YI {use:Option (Value→Sem Unit)} {QQ:Value→Shared→Prop} {ppos:Pos} {pins:List (Addr×Obj)} {s:Shared} {σ:L2.St} {H:Hp} {Q:VK} (hcalm:X.calm=true) (S:FQ X scope Nc cs) (hi:PI X tg iter wi) (ha:∀g,gs[0]?=some g→g.is_async=0)
 (hb:∀(C D:Addr) (cells:List (Str×Addr)) (fp:List Addr) (s₀:Shared) (H₀:Hp) (pins:List (Addr×Obj)),GV (Bg X Nc scope C D cells fp s₀ H₀ pins) D→PG (Bg X Nc scope C D cells fp s₀ H₀ pins) tg g∧FP (Bg X Nc scope C D cells fp s₀ H₀ pins) ifs tc∧
  EM (Bg X Nc scope C D cells fp s₀ H₀ pins) D (Di elt (⟨tg,iter,ifs,0⟩::gs) scope pos 0 (.ref D) (Bg X Nc scope C D cells fp s₀ H₀ pins).env) te)
 (hsf:∀x,foldedSetIterable iter X.env x=pure x) (I:Inv X pins σ H s) (h:Nm cs wi g tc te σ H Q)
 (Bm:∀(s6:Shared) (C D:Addr) (H7:Hp) (m6:Str→Option Value),s6.heap.Ns C m6→H7 C=none→X.s₀.heap.objs.size≤C→C≠X.env.locals→(∀x c,X.env.cells.lookup x=some c→c≠C)→(∀p∈X.pn++pins,p.1≠C)→
  (∀h',Heap.SameBut C s6.heap h'→Inv X pins σ H7 {s6 with heap:=h'})→Q (.ref D) H7→compPost (model X.prog X.w) X.A X.xe use QQ (.ref D) C (.ok .next) s6):
 wpAny (model X.prog X.w) X.A (comprehension (.ListComp elt (⟨tg,iter,ifs,0⟩::gs) scope pos) scope X.env ppos (newList []) false (eval iter X.env) use) QQ X.xe s:=by
 obtain ⟨cl,hclos,hcl,hcl2⟩:=Qb (scope:=scope) (env:=X.env) fun y hy hf=>I.ok.has y.1 (S.free y hy hf)
 refine wpAny_comprehension_free (use:=use) rfl hsf hclos S.kind S.loc (Au (hi pins s σ H _ I h) fun xv s1 h1=>Au h1 fun itv s2 h2=>?_)
 obtain ⟨it,fp,tn,J,H2,e,I2,T,Do,f2,W,⟨n0,w0⟩,turn⟩:=h2
 subst e
 refine wpAny_newObj_type ?_
 generalize e3:({s2 with heap:=s2.heap.push {cls:=.type "list",data:=.seq ([]:List Value).toArray}}:Shared)=s3
 refine Qc ?_
 have ob2:∀b∈fp,∃o,s2.heap.get? b=some o:=fun b hb=>let ⟨o,e,_⟩:=T.obj _ _ Do b hb;⟨o,e⟩
 have I4:=Qf (fp:=fp) (cl:=cl) S I2 f2 ob2 hcl hcl2 e3.symm
 generalize e4:({s3 with heap:=pushCells (s3.heap.push {cls:=.type "dict",data:=.dict #[]}) scope.names}:Shared)=s4 at I4
 generalize ecl:cellsFrom (s3.heap.objs.size+1) scope.names cl=cells at I4
 have okc:=I4.ok
 have k3:∀b o,s2.heap.get? b=some o→s3.heap.get? b=some o:=fun b o e=>by subst e3;exact AY _ e
 have JJ:s3.heap.objs.size=s2.heap.objs.size+1:=by subst e3;exact CL ..
 have k34:∀b o,s3.heap.get? b=some o→s4.heap.get? b=some o:=fun b o e=>by subst e4;exact pushCells_keeps _ _ b o (AY _ e)
 have hDfp:s2.heap.objs.size∉fp:=fun hm=>by
  obtain ⟨o,e⟩:=ob2 _ hm
  exact absurd (AX e) (D4 _)
 have hDex:s2.heap.objs.size∈(Bg X Nc scope s3.heap.objs.size s2.heap.objs.size cells fp s3 H2 pins).ex:=AW
 have ao:GV (Bg X Nc scope s3.heap.objs.size s2.heap.objs.size cells fp s3 H2 pins) s2.heap.objs.size:=
  ⟨show s2.heap.objs.size≠s3.heap.objs.size from Bz (by omega),fun x c e=>(okc.exf _ hDex).2 x c e,fun p hp=>Bz (AX (I2.pin p hp).1),hDex,okc.exfs _ hDex⟩
 obtain ⟨pg,pt,em⟩:=hb s3.heap.objs.size s2.heap.objs.size cells fp s3 H2 pins ao
 have hD4:s4.heap.get? s2.heap.objs.size=some (CJ [] 0):=by
  refine k34 _ _ ?_
  subst e3
  exact BK _ rfl
 have fC:∀b∈fp,∀(o:Obj) (H':Hp),H' b=none→CW (Bg X Nc scope s3.heap.objs.size s2.heap.objs.size cells fp s3 H2 pins) ((s2.heap.objs.size,o)::[]) H' b:=fun b hb o H' hn=>by
  have hbx:b∈(Bg X Nc scope s3.heap.objs.size s2.heap.objs.size cells fp s3 H2 pins).ex:=A1 _ hb
  refine ⟨hn,(okc.exf b hbx).1,okc.exfs b hbx,.inl hbx,(okc.exf b hbx).2,fun p hpp=>?_⟩
  rcases qaV.mp hpp with z |z
  ·exact (f2 b hb).2.2.2.2.2 p z
  ·rw [qaE] at z
   subst z
   intro e
   exact hDfp ((show s2.heap.objs.size=b from e) ▸ hb)
 have I4':Inv (Bg X Nc scope s3.heap.objs.size s2.heap.objs.size cells fp s3 H2 pins) ((s2.heap.objs.size,CJ [] 0)::[]) (Bv cs σ) H2 s4:=I4.pins_of fun p hp=>by
  rw [qaE] at hp
  subst hp
  exact ⟨hD4,I2.hok.fresh (AV _),ao.lo,ao.fs,fun v z=>by cases z⟩
 have LW:tn 0 s4.heap:=T.keep _ _ _ Do fun b hb o e=>k34 b o (k3 b o e)
 have loop:=RA (X:=Bg X Nc scope s3.heap.objs.size s2.heap.objs.size cells fp s3 H2 pins) (QQ:=fun acc H5=>acc.length≤sizeLine∧∀p,H5 p=none→Q (.ref p) (Az H5 p (.lst acc)))
  (R:=compPost (model X.prog X.w) X.A X.xe use QQ (.ref s2.heap.objs.size) s3.heap.objs.size) rfl hcalm (d:=0) (gens:=⟨tg,iter,ifs,0⟩::gs) rfl ha pg pt em T fC (fun p hp=>(nomatch hp)) turn (fun its k acc H5 s6 I6 rv5 qn=>?_) n0
   ⟨0,[],H2,[],0,w0,I4',LW,fun b hb=>(f2 b hb).1,.nil⟩
 ·exact Rx (d:=0) rfl loop (T.self X.A 0 s4 _ _ LW loop)
 ·obtain ⟨m6,hn6,_⟩:=I6.loc
  obtain ⟨ho6,hD6,_⟩:=I6.pin _ (BJ _ AW)
  have lt2:∀b,b<s2.heap.objs.size→b≠s3.heap.objs.size:=fun b hb=>Bz (Bq hb (by omega))
  refine Bm s6 s3.heap.objs.size s2.heap.objs.size (Az H5 s2.heap.objs.size (.lst acc)) m6 hn6 ?_ (B8 I2.sz (by omega)) ?_ ?_ ?_ ?_ (qn.2 _ hD6)
  ·rw [AM (ID (by omega))]
   exact I6.free
  ·obtain ⟨m2,hn2,_⟩:=I2.loc
   exact Ne.symm (lt2 _ hn2.lt)
  ·intro x c hx
   obtain ⟨v,hv⟩:=I2.cell x c hx
   obtain ⟨o,ho,_⟩:=hv
   exact lt2 _ (AX ho)
  ·intro p hp
   exact lt2 _ (AX (I2.pin p hp).1)
  ·intro h' sb
   exact Qg I2 f2 e3.symm rfl I6 hD6 qn.1 rv5 ho6 sb
theorem YJ (hcalm:X.calm=true) (S:FQ X scope Nc cs) (hi:PI X tg iter wi) (ha:∀g,gs[0]?=some g→g.is_async=0)
 (hb:∀(C D:Addr) (cells:List (Str×Addr)) (fp:List Addr) (s₀:Shared) (H₀:Hp) (pins:List (Addr×Obj)),GV (Bg X Nc scope C D cells fp s₀ H₀ pins) D→PG (Bg X Nc scope C D cells fp s₀ H₀ pins) tg g∧FP (Bg X Nc scope C D cells fp s₀ H₀ pins) ifs tc∧
  EM (Bg X Nc scope C D cells fp s₀ H₀ pins) D (Di elt (⟨tg,iter,ifs,0⟩::gs) scope pos 0 (.ref D) (Bg X Nc scope C D cells fp s₀ H₀ pins).env) te)
 (hsf:∀x,foldedSetIterable iter X.env x=pure x:=by intro _;rfl):PE X (.ListComp elt (⟨tg,iter,ifs,0⟩::gs) scope pos) (Nm cs wi g tc te):=by
 intro pins s σ H Q I h
 rw [eval_ListComp]
 exact YI (use:=none) hcalm S hi ha hb hsf I h fun s6 C D H7 m6 hn _ _ _ _ _ inv q=>⟨m6,hn,fun h' sb=>⟨.ref D,H7,inv h' sb,rfl,q⟩⟩
end
abbrev Dj:=Ai→HD→List D→Out (List D)
abbrev RB:=L2.St→Hp→List V→(List V→Hp→Prop)→Prop
def Frs (js:List Nat) (σ:L2.St):Prop:=∀j∈js,σ[j]?=some none
def I0 (K:PySem.W.Frag) (is js:List Nat) (gg:TG) (sg:MG):Prop:=
 ∀m H d v ρ σ ρ' Q,DV K m H d v→ER K m H ρ σ→Frs (is++js) σ→sg d ρ=some ρ'→(∀σ',Sub σ σ'→Frs js σ'→ER K m H ρ' σ'→Q σ' H)→gg v σ H Q
theorem YK {σ σ':L2.St} {i:Nat} {v:V} (h:σ[i]?=some none) (s:Sub σ σ'):Sub σ (σ'.set i (some v)):=by
 refine ⟨by rw [s.1];simp,fun j w e=>?_⟩
 have hj:i≠j:=by
  rintro rfl
  rw [h] at e
  cases e
 rw [CU hj]
 exact s.2 j w e
theorem Frs.set {js:List Nat} {σ:L2.St} {i:Nat} {v:Option V} (h:Frs js σ) (n:i∉js):Frs js (σ.set i v):=fun j hj=>by
 have hn:i≠j:=by
  rintro rfl
  exact n hj
 rw [CU hn]
 exact h j hj
theorem Lq {K:PySem.W.Frag} {i:Nat} {js:List Nat} (n:i∉js):I0 K [i] js (CD i) (Bb i):=fun m H d v ρ σ ρ' Q r er f e q=>by
 simp only [Bb,Option.some.injEq] at e
 subst e
 exact q _ (YK (f i AW) (.refl _)) (Frs.set (fun j hj=>f j (A1 _ hj)) n) (er.set r)
noncomputable def Fc (f:ME):Dj:=fun ρ h acc=>if acc.length<sizeLine then (noErr (f ρ h)).bind fun y h2=>.ok (acc++[y]) h2 else .stuck
open Classical in
noncomputable def Eg (src:Bk) (items:List D) (sg:MG) (t:MT) (e:Dj) (ρ:Ai):List D→HD→List D→Out (List D)
 |[],h,acc=>if Bn src items h then .ok acc h else .stuck
 |d::ds,h,acc=>if Bn src items h then match sg d ρ with
   |none=>.stuck
   |some ρ1=>(noErr (t ρ1 h)).bind fun b h1=>if b=true then (noErr (e ρ1 h1 acc)).bind fun acc2 h2=>Eg src items sg t e ρ ds h2 acc2 else Eg src items sg t e ρ ds h1 acc
  else .stuck
noncomputable def Eh (it:MI) (sg:MG) (t:MT) (e:Dj):Dj:=fun ρ h acc=>(noErr (it ρ h)).bind fun x h1=>Eg x.2 x.1 sg t e ρ x.1 h1 acc
noncomputable def FW (cs:List (Option Nat)) (it:MI) (sg:MG) (t:MT) (e:Dj):ME:=fun ρ h=>(it ρ h).bind fun x h1=>(Eg x.2 x.1 sg t e (B6 cs ρ) x.1 h1 []).bind CF
def Fd (K:PySem.W.Frag) (js:List Nat) (e:Dj):RB:=fun σ H acc Q=>∃m ρ h dacc,HR K m h H∧ER K m H ρ σ∧DVs K m H dacc acc∧Frs js σ∧Post K (FH K) m H E0 Q (e ρ h dacc)
theorem EM.imp {X:Cx} {D:Addr} {em:Sem Unit} {te te':RB} (h:EM X D em te) (f:∀σ H acc Q,te' σ H acc Q→te σ H acc Q):EM X D em te':=
 fun rest its k acc σ H s Q I hr rv z=>h rest its k acc σ H s Q I hr rv (f _ _ _ _ z)
theorem YL {K:PySem.W.Frag} {js:List Nat} {f:ME} (σ:L2.St) (H:Hp) (acc:List V) (Q:List V→Hp→Prop):Fd K js (Fc f) σ H acc Q→Ry (tD K E0 f) σ H acc Q:=by
 rintro ⟨m,ρ,h,dacc,hr,er,da,_,p⟩
 unfold Fc at p
 split at p
 ·rename_i hz
  refine ⟨by rw [←DVs.len da];exact hz,m,ρ,h,hr,er,IE p fun y h1 v m1 H1 _ p1 k1 hr1 r1 q1=>?_⟩
  exact q1 _ m1 H1 (AL _) (.refl _) hr1 ((DVs.keep p1 k1 da).app (.cons r1 .nil))
 ·exact p.elim
inductive RC {β:Type} (K:PySem.W.Frag) (E:XK) (α:Type) (R:List Addr→Hp→α→β→Prop) (Q:β→Hp→Prop) (kk:List D→HD→Out α) (src:Bk) (items:List D) (sg:MG) (t:MT) (e:Dj) (ρ:Ai) (m1:List Addr) (H1:Hp) (i n:Nat) (acc:List V) (H2:Hp):Prop where
 |mk (en:n=items.length - i) (l:i≤items.length) (m2:List Addr) (h2:HD) (dacc:List D) (p:m1 <+:m2) (k:Kp H1 H2) (hr:HR K m2 h2 H2) (da:DVs K m2 H2 dacc acc) (q:Post K R m2 H2 E Q ((Eg src items sg t e ρ (items.drop i) h2 dacc).bind kk)):RC K E α R Q kk src items sg t e ρ m1 H1 i n acc H2
theorem RD {K:PySem.W.Frag} {E:XK} {α β:Type} {R:List Addr→Hp→α→β→Prop} {Q:β→Hp→Prop} {kk:List D→HD→Out α} {is js:List Nat} {gg:TG} {sg:MG} {t:MT} {e:Dj} {src:Bk} {items:List D} {J:It} {ρ:Ai} {σ:L2.St} {m1:List Addr} {h1:HD} {H1:Hp} {dacc:List D} {acc:List V} {QQ:List V→Hp→Prop}
 (hg:I0 K is js gg sg) (fr:Frs (is++js) σ) (er:ER K m1 H1 ρ σ) (r1:GJ K m1 H1 (items,src) J) (hr1:HR K m1 h1 H1) (da:DVs K m1 H1 dacc acc) (q:Post K R m1 H1 E Q ((Eg src items sg t e ρ items h1 dacc).bind kk))
 (Bm:∀m h H dacc acc,m1 <+:m→Kp H1 H→HR K m h H→DVs K m H dacc acc→Post K R m H E Q (kk dacc h)→QQ acc H):
 ∃W:Nat→Nat→List V→Hp→Prop,(∃n,W 0 n acc H1)∧∀i n acc H,W i n acc H→(J.stop i H∧QQ acc H)∨
  (J.go i H∧∀x H',J.yld i H x H'→gg x σ H' fun σ2 H2=>Sub σ σ2∧EZ K E0 t σ2 H2 fun b H3=>if b=true then Fd K js e σ2 H3 acc fun acc' H4=>∃n',n' < n∧W (i+1) n' acc' H4 else ∃n',n' < n∧W (i+1) n' acc H3):=by
 refine ⟨RC K E α R Q kk src items sg t e ρ m1 H1,⟨items.length,rfl,FD _,m1,h1,dacc,AL _,.refl _,hr1,da,q⟩,?_⟩
 rintro i n acc H2 ⟨rfl,hi',m2,h2,dacc,p2,k2,hr2,da,q2⟩
 by_cases hlt:i<items.length
 ·rw [Kq hlt] at q2
  unfold Eg at q2
  split at q2
  ·rename_i hs
   obtain ⟨hgo,hy⟩:=(r1 i m2 h2 H2 p2 k2 hr2 hs).1 hlt
   refine .inr ⟨hgo,fun y H3 hyl=>?_⟩
   obtain ⟨k3,hr3,d,ed,rd⟩:=hy y H3 hyl
   have ed':d=items[i]:=by rw [Bi hlt] at ed;exact (Option.some.inj ed).symm
   subst ed'
   split at q2
   ·exact q2.elim
   ·rename_i ρ3 es
    refine hg m2 H3 _ y ρ σ ρ3 _ rd (er.keep p2 (k2.trans k3)) fr es fun σ4 sub4 fr4 er4=>⟨sub4,m2,ρ3,h2,hr3,er4,?_⟩
    rw [Out.bind_assoc] at q2
    refine IE (Post.ahead (AL _) k3 q2) fun b h5 v m5 H5 _ p5 k5 hr5 r5 q5=>?_
    cases r5
    cases b with
    |false=>
     simp only [DY,if_false] at q5 ⊢
     exact ⟨items.length - (i+1),by omega,rfl,hlt,m5,h5,dacc,p2.trans p5,(k2.trans k3).trans k5,hr5,DVs.keep p5 (k3.trans k5) da,q5⟩
    |true=>
     simp only [if_true] at q5 ⊢
     rw [Out.bind_assoc] at q5
     refine ⟨m5,ρ3,h5,dacc,hr5,er4.keep p5 k5,DVs.keep p5 (k3.trans k5) da,fr4,IE q5 fun z h6 w m6 H6 _ p6 k6 hr6 r6 q6=>?_⟩
     exact ⟨items.length - (i+1),by omega,rfl,hlt,m6,h6,z,(p2.trans p5).trans p6,((k2.trans k3).trans k5).trans k6,hr6,r6,q6⟩
  ·exact q2.elim
 ·have he:i=items.length:=Nat.le_antisymm hi' (Ic hlt)
  subst he
  rw [List.drop_length] at q2
  unfold Eg at q2
  split at q2
  ·rename_i hs
   exact .inl ⟨(r1 _ m2 h2 H2 p2 k2 hr2 hs).2 rfl,Bm m2 h2 H2 dacc acc p2 k2 hr2 da q2⟩
  ·exact q2.elim
theorem YM {K:PySem.W.Frag} {is js:List Nat} {it:MI} {gg:TG} {sg:MG} {t:MT} {e:Dj} (hg:I0 K is js gg sg) (σ:L2.St) (H:Hp) (acc:List V) (Q:List V→Hp→Prop):Fd K (is++js) (Eh it sg t e) σ H acc Q→Rz (tM K (GJ K) E0 it) gg (EZ K E0 t) (Fd K js e) σ H acc Q:=by
 rintro ⟨m,ρ,h,dacc,hr,er,da,fr,p⟩
 unfold Eh at p
 refine ⟨m,ρ,h,hr,er,IE p fun x h1 J m1 H1 _ p1 k1 hr1 r1 q1=>?_⟩
 refine RD (E:=E0) (kk:=fun a h=>.ok a h) hg fr (er.keep p1 k1) r1 hr1 (DVs.keep p1 k1 da) ?_ fun m2 h2 H2 dacc2 acc2 p2 k2 hr2 da2 q2=>q2 _ m2 H2 (AL _) (.refl _) hr2 da2
 have:∀o:Out (List D),(o.bind fun a h=>.ok a h)=o:=fun o=>by cases o<;>rfl
 rw [this]
 exact q1
section
variable {X:Cx} {E:XK} {D:Addr} {elt tg iter:Expr} {ifs:List Expr} {gs gens:List Comprehension} {scope:Scope} {pos:Pos} {Nc:List Str} {cs:List (Option Nat)} {it:MI} {gg:TG} {sg:MG} {t:MT} {f:ME} {e:Dj} {d:Nat} {is js:List Nat}
theorem YN (ao:GV X D) (xe:X.xe=fun _ _=>False) (hl:gens[d+1]?=none) (pe:Ev X E0 elt f):EM X D (Di elt gens scope pos d (.ref D) X.env) (Fd X.K js (Fc f)):=(YF ao xe hl pe).imp YL
theorem Nn (xe:X.xe=fun _ _=>False) (xc:X.calm=true) (hg:gens[d+1]?=some ⟨tg,iter,ifs,0⟩) (ha:∀g,gens[d+1+1]?=some g→g.is_async=0) (hi:E6 X E0 tg iter it) (pg:PG X tg gg) (gk:I0 X.K is js gg sg) (pt:IG X E0 ifs t) (em:EM X D (Di elt gens scope pos (d+1) (.ref D) X.env) (Fd X.K js e))
 (hsf:∀x,foldedSetIterable iter X.env x=pure x:=by intro _;rfl):EM X D (Di elt gens scope pos d (.ref D) X.env) (Fd X.K (is++js) (Eh it sg t e)):=(YH xe xc hg ha hi pg pt em hsf).imp (YM gk)
theorem YO (hc:∀j∈is++js,cs[j]?=some none) (hg:I0 X.K is js gg sg):∀σ H Q,tD X.K E (FW cs it sg t e) σ H Q→Nm cs (tM X.K (GJ X.K) E it) gg (EZ X.K E0 t) (Fd X.K js e) σ H Q:=by
 rintro σ H Q ⟨m,ρ,h,hr,er,p⟩
 refine ⟨m,ρ,h,hr,er,Post.bind p fun x h1 J m1 H1 _ p1 k1 hr1 r1 q1=>?_⟩
 exact RD (QQ:=fun acc H=>acc.length≤sizeLine∧∀p,H p=none→Q (.ref p) (Az H p (.lst acc))) hg (fun j hj=>by unfold Bv;rw [Dy,hc j hj];rfl) ((er.keep p1 k1).comp cs) r1 hr1 .nil q1 fun m2 h2 H2 dacc2 acc2 p2 k2 hr2 da2 q2=>GG (X:=X) hr2 da2 q2
theorem YQ (hcalm:X.calm=true) (S:FQ X scope Nc cs) (hi:E6 X E tg iter it) (ha:∀g,gs[0]?=some g→g.is_async=0) (hc:∀j∈is++js,cs[j]?=some none) (hg:I0 X.K is js gg sg)
 (hb:∀(C D:Addr) (cells:List (Str×Addr)) (fp:List Addr) (s₀:Shared) (H₀:Hp) (pins:List (Addr×Obj)),GV (Bg X Nc scope C D cells fp s₀ H₀ pins) D→PG (Bg X Nc scope C D cells fp s₀ H₀ pins) tg gg∧IG (Bg X Nc scope C D cells fp s₀ H₀ pins) E0 ifs t∧
  EM (Bg X Nc scope C D cells fp s₀ H₀ pins) D (Di elt (⟨tg,iter,ifs,0⟩::gs) scope pos 0 (.ref D) (Bg X Nc scope C D cells fp s₀ H₀ pins).env) (Fd X.K js e))
 (hsf:∀x,foldedSetIterable iter X.env x=pure x:=by intro _;rfl):Ev X E (.ListComp elt (⟨tg,iter,ifs,0⟩::gs) scope pos) (FW cs it sg t e):=
 B9 (YJ (g:=gg) (tc:=EZ X.K E0 t) (te:=Fd X.K js e) hcalm S hi ha hb hsf) (YO hc hg)
end
theorem Np {α:Type} {src:Bk} {items:List D} {sg:MG} {t:MT} {e:Dj} {ρ:Ai} (φ:α→D) (g:α→Bool) (es:α→List D) (ρ1:α→Ai):
 ∀(xs:List α) (h:HD) (acc:List D),(∀h',Sm h h'→Bn src items h')→(∀x∈xs,sg (φ x) ρ=some (ρ1 x))→(∀x∈xs,∀h',Sm h h'→Pu (t (ρ1 x) h') h' (g x))→(∀x∈xs,g x=true→∀h' acc,Sm h h'→acc.length+(es x).length≤sizeLine→Pu (e (ρ1 x) h' acc) h' (acc++es x))→
  acc.length+((xs.filter g).flatMap es).length≤sizeLine→Pu (Eg src items sg t e ρ (xs.map φ) h acc) h (acc++(xs.filter g).flatMap es)
 |[],h,acc,hs,_,_,_,_=>by
  simp only [Jh,List.filter_nil,Eg]
  rw [if_pos (hs h (.refl _))]
  simpa using (.ok:Pu (.ok acc h) h acc)
 |x::xs,h,acc,hs,hg,ht,hf,hz=>by
  simp only [BV,Eg]
  rw [if_pos (hs h (.refl _)),hg x AW]
  simp only
  refine Pu.bind (ht x AW h (.refl _)).noErr fun h1 s1=>?_
  have ih:∀h2 acc,Sm h h2→acc.length+((xs.filter g).flatMap es).length≤sizeLine→Pu (Eg src items sg t e ρ (xs.map φ) h2 acc) h2 (acc++(xs.filter g).flatMap es):=fun h2 acc s2 z2=>Np φ g es ρ1 xs h2 acc (fun h' s'=>hs h' (s2.trans s'))
   (fun y hy=>hg y (A1 _ hy)) (fun y hy h' s'=>ht y (A1 _ hy) h' (s2.trans s')) (fun y hy gy h' a s' z'=>hf y (A1 _ hy) gy h' a (s2.trans s') z') z2
  cases hgx:g x with
  |false=>
   rw [LZ (by simp [hgx])] at hz ⊢
   rw [if_neg Bu]
   exact ih h1 acc s1 hz
  |true=>
   rw [L0 hgx,List.flatMap_cons] at hz ⊢
   rw [F0] at hz
   rw [if_pos rfl]
   refine Pu.bind (hf x AW hgx h1 acc s1 (by omega)).noErr fun h2 s2=>?_
   have:=ih h2 (acc++es x) (s1.trans s2) (by rw [F0];omega)
   rwa [List.append_assoc] at this
theorem YR {f:ME} {ρ:Ai} {h:HD} {acc:List D} {y:D} (hf:Pu (f ρ h) h y) (hz:acc.length+1≤sizeLine):Pu (Fc f ρ h acc) h (acc++[y]):=by
 unfold Fc
 rw [if_pos (by omega)]
 exact Pu.bind hf.noErr fun h2 s2=>.ok
theorem Nq {α β:Type} {y:α→β}:∀{xs:List α},xs.flatMap (fun x=>[y x])=xs.map y
 |[]=>rfl
 |x::xs=>by rw [List.flatMap_cons,Nq,BV];rfl
section
variable {α β:Type} {cs:List (Option Nat)} {it:MI} {sg:MG} {t:MT} {f:ME} {e:Dj} {ρ:Ai} {h:HD} {src:Bk} {xs:List α} {φ:α→D} {acc:List D}
theorem Nr (g:α→Bool) (es:α→List D) (ρ1:α→Ai) (hi:BB (it ρ h) h (xs.map φ) src) (hg:∀x∈xs,sg (φ x) ρ=some (ρ1 x)) (ht:∀x∈xs,∀h',Sm h h'→Pu (t (ρ1 x) h') h' (g x)) (hf:∀x∈xs,g x=true→∀h' acc,Sm h h'→acc.length+(es x).length≤sizeLine→Pu (e (ρ1 x) h' acc) h' (acc++es x))
 (hz:acc.length+((xs.filter g).flatMap es).length≤sizeLine):Pu (Eh it sg t e ρ h acc) h (acc++(xs.filter g).flatMap es):=by
 unfold Eh Pu
 have:Wp (noErr (it ρ h)) fun x h'=>x=(xs.map φ,src)∧Sm h h'∧∀h2,Sm h' h2→Bn src (xs.map φ) h2:=by
  unfold BB at hi
  cases eo:it ρ h with
  |ok a h1=>rw [eo] at hi;exact hi
  |err C fs h1=>rw [eo] at hi;exact hi
  |stuck=>rw [eo] at hi;exact hi
 rw [AG]
 refine Wp.mono this fun x h1 z=>?_
 obtain ⟨rfl,s1,hs⟩:=z
 exact (Np φ g es ρ1 xs h1 acc hs hg (fun x hx h' s'=>ht x hx h' (s1.trans s')) (fun x hx gx h' a s' z'=>hf x hx gx h' a (s1.trans s') z') hz).wp fun h2 s2=>⟨rfl,s1.trans s2⟩
theorem YS (y:α→D) (ρ1:α→Ai) (hi:BB (it ρ h) h (xs.map φ) src) (hg:∀x∈xs,sg (φ x) ρ=some (ρ1 x)) (hf:∀x∈xs,∀h',Sm h h'→Pu (f (ρ1 x) h') h' (y x)) (hz:acc.length+(xs.map y).length≤sizeLine):
 Pu (Eh it sg Bc (Fc f) ρ h acc) h (acc++xs.map y):=by
 have:=Nr (t:=Bc) (e:=Fc f) (acc:=acc) (fun _=>true) (fun x=>[y x]) ρ1 hi hg (fun x hx h' s'=>(.ok:Pu (.ok true h') h' true)) (fun x hx _ h' acc s' z'=>YR (hf x hx h' s') z') (by rw [Cg,Nq];exact hz)
 rwa [Cg,Nq] at this
theorem YT {Q:D→HD→Prop} (g:α→Bool) (es:α→List D) (ρ1:α→Ai) (hi:BB (it ρ h) h (xs.map φ) src) (hg:∀x∈xs,sg (φ x) (B6 cs ρ)=some (ρ1 x)) (ht:∀x∈xs,∀h',Sm h h'→Pu (t (ρ1 x) h') h' (g x)) (hf:∀x∈xs,g x=true→∀h' acc,Sm h h'→acc.length+(es x).length≤sizeLine→Pu (e (ρ1 x) h' acc) h' (acc++es x))
 (hz:((xs.filter g).flatMap es).length≤sizeLine) (q:∀l h',Sm h h'→h'[l]?=some (.lst ((xs.filter g).flatMap es))→Q (.loc l) h'):Wp (FW cs it sg t e ρ h) Q:=by
 unfold FW
 rw [AG]
 refine Wp.mono hi fun x h1 z=>?_
 obtain ⟨rfl,s1,hs⟩:=z
 rw [AG]
 refine (Np φ g es ρ1 xs h1 [] hs hg (fun x hx h' s'=>ht x hx h' (s1.trans s')) (fun x hx gx h' a s' z'=>hf x hx gx h' a (s1.trans s') z') (by simpa using hz)).wp fun h2 s2=>?_
 rw [Kx]
 exact B7 hz fun l h3 s3 e3 _ _=>q l h3 ((s1.trans s2).trans s3) e3
noncomputable def YU (cs:List (Option Nat)) (it:MI) (sg:MG) (t:MT) (e:Dj):ME:=Ag (Am BN) (Ab (FW cs it sg t e) Ae)
noncomputable def YV (cs:List (Option Nat)) (it:MI) (sg:MG) (t:MT) (e:Dj):ME:=Ag (Am Es) (Ab (FW cs it sg t e) Ae)
@[simp] theorem Ze4:Ag (Am BN) (Ab (FW cs it sg t e) Ae) ρ h=YU cs it sg t e ρ h:=rfl
@[simp] theorem Ze5:Ag (Am Es) (Ab (FW cs it sg t e) Ae) ρ h=YV cs it sg t e ρ h:=rfl
end
end LS
namespace LS
open PySem
inductive TlN (h:Heap) (ns:List Str) (bB:List Value):List Value→Prop
 |base:TlN h ns bB bB
 |own {a:Addr} {c0:Value} {dd:Option Addr} {cd:ClassData} {sl:Array (Option Value)} {m:Str→Option Value} {tl:List Value} (ha:h.get? a=some {cls:=c0,dict:=dd,data:=.cls cd,slots:=sl}) (hm:h.Ns cd.ns m) (no:∀n∈ns,m n=none) (r:TlN h ns bB tl):TlN h ns bB (.ref a::tl)
theorem TlN.keeps {h h':Heap} {ns:List Str} {bB tl:List Value} (T:TlN h ns bB tl) (k:∀b o,h.get? b=some o→h'.get? b=some o):TlN h' ns bB tl:=by
 induction T with
 |base=>exact .base
 |own ha hm no _ ih=>exact .own (k _ _ ha) (hm.keeps k) no ih
theorem TlN.has {h:Heap} {ns:List Str} {bB tl:List Value} {v:Value} (T:TlN h ns bB tl) (hv:bB.contains v=true):tl.contains v=true:=by
 induction T with
 |base=>exact hv
 |own ha hm no _ ih=>rw [List.contains_cons,ih,Bool.or_true]
section
variable {M:Model} {A:Around} {E:Value→Shared→Prop} {h:Heap} {g:Array GenState} {d:Drawn} {t:Nat} {os:OsState}
theorem TlN.look {ns:List Str} {bB tl:List Value} {n:Str} {y:Option Value} {Q:Option Value→Shared→Prop} (T:TlN h ns bB tl) (hn:n∈ns) (e:lookupAlong bB n=pure y) (q:Q y ⟨h,g,d,t,os⟩):wpAny M A (lookupAlong tl n) Q E ⟨h,g,d,t,os⟩:=by
 induction T with
 |base=>rw [e];exact wpAny_pure q
 |own ha hm no _ ih=>
  rw [lookupAlong_cons];refine wpAny_bind (wpAny_classOwn_cls ha hm ?_);rw [no n hn]
  exact ih
variable {nm q:Str} {C N x:Addr} {bs bm bB:List Value} {hd:Bool} {sn:List Str} {sub:List Value} {ab:Bool} {col:Option Bool} {dd:Option Addr} {k0 k1 k2 k3 k5:Option Value} {B newId sa owner:String} {ns:List Str} {mN mA:Str→Option Value} {name:Str} {v:Value}
end
section
variable {prog:Program} {w:World} {A:Around} {E:Value→Shared→Prop} {h:Heap} {g:Array GenState} {d:Drawn} {t:Nat} {os:OsState}
variable {nm q:Str} {C N x:Addr} {bs bm bB:List Value} {sn:List Str} {sub:List Value} {ab:Bool} {col:Option Bool} {dd:Option Addr} {k0 k1 k2 k3 k5:Option Value} {B newId sa owner:String} {ns:List Str} {mN mA:Str→Option Value} {name:Str} {v:Value}
structure Ze6 (h h':Heap) (x C:Addr) (name:Str) (v:Value) (mA:Str→Option Value):Prop where
 inst:h'.Inst x C (fun y=>if y=name then some v else mA y)
 keep:∀b o,b≠x→(∀o0 dx,h.get? x=some o0→o0.dict=some dx→b≠dx)→h.get? b=some o→h'.get? b=some o
 new:∀o0,h.get? x=some o0→o0.dict=none→∃o1,h'.get? x=some o1∧o1.dict=some h.objs.size
 same:∀o0,h.get? x=some o0→∃o1,h'.get? x=some o1∧o1.cls=o0.cls∧o1.data=o0.data∧o1.slots=o0.slots∧∀dx,o0.dict=some dx→o1.dict=some dx
end
section
variable {prog:Program} {w:World} {A:Around} {E:Value→Shared→Prop} {h:Heap} {g:Array GenState} {d:Drawn} {t:Nat} {os:OsState}
variable {nm q:Str} {C N x:Addr} {bs bm bB:List Value} {sn:List Str} {sub:List Value} {ab:Bool} {col:Option Bool} {dd:Option Addr} {k0 k1 k2 k3 k5:Option Value} {B newId:String} {ns:List Str} {mN mA:Str→Option Value} {name:Str} {v:Value}
end
end LS
namespace LS
open PySem PySem.Spec PyProof.Rows L2
def tmNames:List Str:=["__init__","__setattr__","__getattribute__","__getattr__","many","most"]
def RE (K:PySem.W.Frag) (ns:List Str) (bB:List Value):List Value→Bool
 |[]=>bB==[]
 |v::r=>(v::r)==bB||match v with
  |.ref a=>(match K.lookup a with
   |some o=>(match clsOf o.data with
    |some cd=>PySem.W.nsOkIn K cd.ns&&(ns.all (fun n=>PySem.W.nsIn K cd.ns n==some none)&&RE K ns bB r)
    |none=>false)
   |none=>false)
  |_=>false
theorem TlN.tail {h:Heap} {ns:List Str} {bB tl:List Value} (T:TlN h ns bB tl) (hi:("__init__":Str)∈ns):OwnTail h bB tl:=by
 induction T with
 |base=>exact .base
 |own ha hm no _ ih=>exact .own ha hm (no _ hi) ih
inductive YW (h:Heap) (C fI:Addr):Prop where
 |mk (bm:List Value) (N:Addr) (nm q:Str) (bs:List Value) (sn:List Str) (sub:List Value) (ab:Bool) (col:Option Bool) (dd:Option Addr) (k0 k1 k2 k3 k5:Option Value) (mN:Str→Option Value)
  (hC:h.get? C=some (excClassObj nm q C N bs bm true sn sub ab col dd k0 k1 k2 k3 k5 "ValueError.__new__")) (hN:h.Ns N mN) (hi:mN "__init__"=some (.ref fI)) (no:∀n∈tmNames.tail,mN n=none) (T:TlN h tmNames Lh bm):YW h C fI
def YX (K:PySem.W.Frag) (C fI:Addr) (o:Obj) (cd:ClassData):Bool:=
 decide (o.cls=.type "type")&&(decide (cd.mro=.ref C::cd.mro.tail)&&(!cd.hasDel&&(RE K tmNames Lh cd.mro.tail&&(PySem.W.nsOkIn K cd.ns&&(PySem.W.nsIn K cd.ns "__init__"==some (some (.ref fI))&&(tmNames.tail.all (fun n=>PySem.W.nsIn K cd.ns n==some none)&&(decide (o.slots.toList.length=6)&&(decide (o.slots.toList[4]?=some (some (.builtin "ValueError.__new__")))&&cd.hasDict))))))))
def tmX (K:PySem.W.Frag) (C fI:Addr):Bool:=match K.lookup C with
 |some o=>(match clsOf o.data with
  |some cd=>YX K C fI o cd
  |none=>false)
 |none=>false
def YY (C t0:Addr) (da:Option Addr):Obj:={cls:=.ref C,dict:=da,data:=.fields #[.ref t0,.none,.none,.none,.bool false,.none]}
def Lr (C e:Addr) (da:Option Addr) (h:Heap):Prop:=∃t0,h.get? e=some (YY C t0 da)
def Ze7 (d:Addr) (m:Str→Option Value) (h:Heap):Prop:=h.Ns1 d m
def one (n:Str) (u:Value):Str→Option Value:=fun y=>if y=n then some u else none
section
variable {X:Cx} {pins:List (Addr×Obj)} {σ:L2.St} {H:Hp} {s:Shared} {E:Value→Shared→Prop} {A:Around} {C fI e da:Addr} {n:Str} {u:Value}
def del (H:Hp) (a:Addr):Hp:=fun b=>if b=a then none else H b
theorem RF {H:Hp} {a b:Addr} (h:b≠a):del H a b=H b:=by unfold del;rw [if_neg h]
theorem Kp.del {H:Hp} {a:Addr} {φ:Heap→Prop} (h:H a=some (.mex φ)):Kp H (LS.del H a):=fun b o e i=>by
 rw [RF]
 ·exact e
 ·intro z
  rw [z,h] at e;cases e;cases i
theorem HR.del {K:PySem.W.Frag} {m:List Addr} {h:HD} {H:Hp} {a:Addr} {φ:Heap→Prop} (r:HR K m h H) (e:H a=some (.mex φ)):HR K m h (LS.del H a):=r.same (.del e) fun b hb=>RF fun z=>by
 subst z
 obtain ⟨l,hl,el⟩:=Jd hb
 have hl':l<h.length:=by rw [←r.len];exact hl
 have c:=r.cells l h[l] m[l] (Bi hl') (Bi hl)
 rw [el] at c
 cases hc:h[l] with
 |lst ds=>rw [hc] at c;obtain ⟨vs,q,_⟩:=c;rw [e] at q;cases q
 |tab=>rw [hc] at c;obtain ⟨_,ps,q,_⟩:=c;rw [e] at q;cases q
end
end LS
namespace LS
open PySem PySem.Spec PyProof.Rows L2 PySem.Calls PySem.W
def swX (K:PySem.W.Frag) (S:Addr):Bool:=PySem.W.readsIn K S (.type "type")&&(match PySem.W.findCls K (.ref S) (.type "type") "__init__" with
 |some (.val (.builtin b))=>b=="ValueError.__init__"
 |_=>false)
def Ze8 (H₀:Hp) (C:Addr) (ta:TA):TE:=fun σ H Q=>∃e,H₀ e≠none∧H e=some (.mex (Lr C e none))∧ta σ (del H e) fun vs H1=>∃x,vs=[.ref e,.str x]∧(H1 e=none→Q .non (Az H1 e (.mex (Lr C e none))))
section
variable {X:Cx} {C fI S:Addr} {ta:TA} {a1 a2:Expr} {p1 p2 p5:Pos}
end
end LS
namespace LS
open PySem PySem.Spec PyProof.Rows L2 PySem.Calls
section
variable {X:Cx} {C fI S:Addr}
end
noncomputable abbrev RG:ME:=Nd (Rn (Aa 1) (Yh " are more than " (Rn (Aa 2) Yg)))
inductive RH (K:PySem.W.Frag) (C:Addr) (vs:List V) (H:Hp) (Q:VK) (E:XK):Prop
 |mk (e:Addr) (a b:Int) (m:List Addr) (h h2:HD) (x:Str) (ev:vs=[.ref e,.int a,.int b]) (hr:HR K m h H) (hH:H e=some (.mex (Lr C e none))) (hj:RG [none,some (.int a),some (.int b)] h=.ok (.str x) h2)
  (q:∀m1 H1 da,m <+:m1→Kp (del H e) H1→HR K m1 h2 H1→H1 e=none→H1 da=none→da≠e→Q .non (Az (Az H1 e (.mex (Lr C e (some da)))) da (.xd [("many",.int a),("most",.int b)]))):RH K C vs H Q E
section
variable {P:Program} {w:World} {K:PySem.W.Frag} {mg:Str→Option Value} {base:Heap} {C f S:Addr} {k:Nat} {qual:Str} {scope:Scope} {p1 p2 p3 p4 p5 p6 q1 q2 q3 q4 r1 r2 r3 r4:Pos} {js:Expr}
abbrev Ze9 (js:Expr) (p1 p2 p3 p5 p6 q1 q2 q3 q4 r1 r2 r3 r4:Pos):List Stmt:=[.Expr (.Call (.Attribute (.Name "SwitchError" p1) "__init__" p2) [.Name "self" p3,js] [] p5) p6,.Assign [.Attribute (.Name "self" q1) "many" q2] (.Name "many" q3) q4,.Assign [.Attribute (.Name "self" r1) "most" r2] (.Name "most" r3) r4]
end
noncomputable def Zfa (fa:MA):MS:=fun ρ h=>(fa ρ h).bind fun xs h1=>match xs with
 |[.int a,.int b]=>(match RG [none,some (.int a),some (.int b)] h1 with
  |.ok (.str _) h2=>.err (JO "TooMany") [("many",.int a),("most",.int b)] h2
  |_=>.stuck)
 |_=>.stuck
section
variable {X:Cx} {E:XK} {C fI:Addr} {fd:FuncData} {k:Nat}
end
def YZ (nm:Str):D→HD→Out D
 |.exc n fs,h=>if n="TooMany" then (match fs.lookup nm with
  |some i=>.ok (.int i) h
  |none=>.stuck) else .stuck
 |_,_=>.stuck
noncomputable def Zfb (f:ME) (nm:Str):ME:=fun ρ h=>(f ρ h).bind fun d h1=>YZ nm d h1
section
variable {X:Cx} {E:XK} {C fI:Addr}
end
end LS
namespace Tp
open PySem PySem.W PySem.Spec PySem.Calls PyProof.Rows
section
variable {α β:Type}
noncomputable def fN (n:Nat) (k:Nat→α):α:=@Nat.rec (fun _=>α) (k 0) (fun m _=>k (Nat.succ m)) n
theorem Ls (n:Nat) (k:Nat→α):fN n k=k n:=by cases n<;>rfl
noncomputable def fL (l:List β):(List β→α)→α:=@List.rec β (fun _=>(List β→α)→α) (fun k=>k []) (fun a _ ih k=>ih fun l'=>k (a::l')) l
theorem JX:∀(l:List β) (k:List β→α),fL l k=k l
 |[],_=>rfl
 |a::l,k=>JX l fun l'=>k (a::l')
noncomputable def fE (l:List DictEntry):(List DictEntry→α)→α:=@List.rec DictEntry (fun _=>(List DictEntry→α)→α) (fun k=>k []) (fun a _ ih k=>ih fun l'=>@DictEntry.rec (fun _=>α) (fun x y z=>k (⟨x,y,z⟩::l')) a) l
theorem RI:∀(l:List DictEntry) (k:List DictEntry→α),fE l k=k l
 |[],_=>rfl
 |⟨_,_,_⟩::l,k=>RI l fun l'=>k (_::l')
noncomputable def fD (d:Data) (k:Data→α):α:=@Data.rec (fun _=>α) (k .plain) (fun v=>k (.prim v)) (fun x n=>@Array.rec Value (fun _=>α) (fun l=>fL l fun l=>fN n fun n=>k (.seq ⟨l⟩ n)) x)
 (fun x n=>@Array.rec DictEntry (fun _=>α) (fun l=>fE l fun l=>fN n fun n=>k (.dict ⟨l⟩ n)) x) (fun x n t=>k (.set x n t)) (fun b n=>k (.bytearray b n)) (fun v=>k (.cell v)) (fun f=>k (.func f)) (fun c=>k (.cls c))
 (fun x=>@Array.rec Value (fun _=>α) (fun l=>fL l fun l=>k (.fields ⟨l⟩)) x) (k .freed) d
theorem Y0 (d:Data) (k:Data→α):fD d k=k d:=by
 cases d with
 |seq x n=>cases x;simp only [fD,JX,Ls]
 |dict x n=>cases x;simp only [fD,RI,Ls]
 |fields x=>cases x;simp only [fD,JX]
 |_=>rfl
noncomputable def fO (o:Obj) (k:Obj→α):α:=@Obj.rec (fun _=>α) (fun c d da sl=>fD da fun da=>k ⟨c,d,da,sl⟩) o
theorem RJ (o:Obj) (k:Obj→α):fO o k=k o:=by cases o;simp only [fO,Y0]
noncomputable def fT (t:BT):(BT→α)→α:=@BT.rec (fun _=>(BT→α)→α) (fun k=>k .nil) (fun v _ _ il ir k=>fO v fun v=>il fun l=>ir fun r=>k (.node v l r)) t
theorem Nt:∀(t:BT) (k:BT→α),fT t k=k t
 |.nil,_=>rfl
 |.node v l r,k=>by
  show fO v (fun v=>fT l fun l=>fT r fun r=>k (.node v l r))=_
  rw [RJ,Nt l,Nt r]
noncomputable def fS (s:SharedT) (k:SharedT→α):α:=@SharedT.rec (fun _=>α) (fun t n li g d tk os=>fT t fun t=>fN n fun n=>fN tk fun tk=>@Drawn.rec (fun _=>α) (fun a b c e=>@Array.rec GenState (fun _=>α) (fun g=>fL g fun g=>k ⟨t,n,li,⟨g⟩,⟨a,b,c,e⟩,tk,os⟩) g) d) s
theorem Nu (s:SharedT) (k:SharedT→α):fS s k=k s:=by
 obtain ⟨t,n,li,⟨g⟩,⟨a,b,c,e⟩,tk,os⟩:=s
 simp only [fS,Nt,Ls,JX]
noncomputable def fP (p:Pos) (k:Pos→α):α:=@Pos.rec (fun _=>α) (fun a b c d=>fN a fun a=>fN b fun b=>fN c fun c=>fN d fun d=>k ⟨a,b,c,d⟩) p
theorem Nv (p:Pos) (k:Pos→α):fP p k=k p:=by cases p;simp only [fP,Ls]
end
section
variable (stp:SharedT→Thread→Option (SharedT×Thread)) (ok:Thread→Bool) (seg:Nat→SharedT→Thread→Option (Flow×SharedT×Code×Pos))
noncomputable def Ja (env:Env) (c:Code) (f:Nat):List (List Stmt)→SharedT→Pos→List Code→Option (SharedT×Pos×List Code)
 |[],s,pos,cs=>some (s,pos,cs)
 |l::ls,s,pos,cs=>match seg f s (piecesOf l env c pos [topFrame ⟨0,0,0,0⟩]) with
  |some (.next,s',c',pos')=>fS s' fun s'=>fP pos' fun pos'=>Ja env c f ls s' pos' (c'::cs)
  |_=>none
def Lu:Nat→SharedT→Thread→Option (SharedT×Thread)
 |0,s,t=>some (s,t)
 |n+1,s,t=>match through t with
  |true=>none
  |false=>match ok t with
   |false=>none
   |true=>match stp s t with
    |some (s',t')=>Lu n s' t'
    |none=>none
def Lw:Nat→SharedT→Thread→Option SharedT
 |0,_,_=>none
 |n+1,s,t=>match through t with
  |true=>some s
  |false=>match ok t with
   |false=>none
   |true=>match stp s t with
    |some (s',t')=>Lw n s' t'
    |none=>none
def cut:Nat→List Stmt→List (List Stmt)
 |0,l=>[l]
 |n+1,l=>match l with
  |[]=>[]
  |x::l=>[x]::cut n l
theorem RK:∀(n:Nat) (l:List Stmt),(cut n l).flatten=l
 |0,l=>by simp [cut]
 |_+1,[]=>rfl
 |n+1,x::l=>by simp [cut,RK n l]
theorem RL:∀(n:Nat) (l:List Stmt),(cut n l).length≤n+1
 |0,l=>AV _
 |_+1,[]=>FD _
 |n+1,x::l=>Nat.succ_le_succ (RL n l)
def Nw (p:Program):Env:={scope:=p.main.scope,locals:=mainNs,globals:=mainNs,cells:=[],code:=.ref 13,frame:=some 14}
def GW (p:Program):Code:=.body (behindTheImports p) (Nw p)
noncomputable def Fe (p:Program) (S0:SharedT):Option (Thread×List Code×SharedT):=match Lu stp ok 12 S0 (topStub p) with
 |some (sa,ta)=>match seg 1 sa (blockOf (behindTheImports p) (Nw p) (GW p) ⟨0,0,0,0⟩ [topFrame ⟨0,0,0,0⟩]) with
  |some (.next,sb,cb,pb)=>fS sb fun sb=>fP pb fun pb=>match Ja seg (Nw p) (GW p) 2000 (cut 400 (behindTheImports p)) sb pb [cb] with
   |some (sf,pf,cs)=>match Lw stp ok 2 sf ⟨doneF .next,GW p,pf,[topFrame ⟨0,0,0,0⟩]⟩ with
    |some sg=>some (ta,cs,sg)
    |none=>none
   |none=>none
  |_=>none
 |none=>none
end
noncomputable def RM (P:Params) (os:OsState):SharedT:=⟨((boot_heap P).objs.toList.foldl (fun (x:BT×Nat) o=>(x.1.ins x.2 o,x.2+1)) (.nil,0)).1,11,(boot_heap P).life,⟨[]⟩,boot_drawn,boot_toks,os⟩
theorem Y1 (P:Params) (os:OsState):(RM P os).abs=⟨boot_heap P,⟨[]⟩,boot_drawn,boot_toks,os⟩:=by kernel_rfl
section
variable {α:Type}
noncomputable def Nx (l:List Obj):(List Obj→α)→α:=@List.rec Obj (fun _=>(List Obj→α)→α) (fun k=>k []) (fun a _ ih k=>fO a fun a=>ih fun l'=>k (a::l')) l
theorem RN:∀(l:List Obj) (k:List Obj→α),Nx l k=k l
 |[],_=>rfl
 |a::l,k=>by show fO a (fun a=>Nx l fun l'=>k (a::l'))=_;rw [RJ,RN]
noncomputable def Bm (s:SharedT) (k:Shared→α):α:=Nx (s.tree.list s.n) fun l=>k ⟨⟨⟨l⟩,s.life⟩,s.gens,s.drawn,s.toks,s.os⟩
theorem Y2 (s:SharedT) (k:Shared→α):Bm s k=k s.abs:=RN _ _
end
section
variable {tb:String→Option Builtin} {p:Program} {w:World} {m0:Nat} {ann:Option Value}
theorem RO:∀{n:Nat} {s s':SharedT} {t t':Thread},Lu (stepT (denote tb) p w) (stepOk m0 ann) n s t=some (s',t')→topGo tb p w m0 ann n s.abs t=some (s'.abs,t')
 |0,_,_,_,_,h=>by cases h;rfl
 |n+1,s,s',t,t',h=>by
  unfold Lu at h
  unfold topGo
  cases he:through t with
  |true=>rw [he] at h;cases h
  |false=>
   rw [he] at h
   cases hk:stepOk m0 ann t with
   |false=>rw [hk] at h;cases h
   |true=>
    rw [hk] at h
    cases hs:stepT (denote tb) p w s t with
    |none=>rw [hs] at h;cases h
    |some r=>obtain ⟨s₂,t₂⟩:=r;rw [hs] at h;rw [stepT_spec hs];exact RO h
theorem RP:∀{n:Nat} {s s':SharedT} {t:Thread},Lw (stepT (denote tb) p w) (stepOk m0 ann) n s t=some s'→topRun tb p w m0 ann n s.abs t=some s'.abs
 |0,_,_,_,h=>by cases h
 |n+1,s,s',t,h=>by
  unfold Lw at h
  unfold topRun
  cases he:through t with
  |true=>rw [he] at h;cases h;rfl
  |false=>
   rw [he] at h
   cases hk:stepOk m0 ann t with
   |false=>rw [hk] at h;cases h
   |true=>
    rw [hk] at h
    cases hs:stepT (denote tb) p w s t with
    |none=>rw [hs] at h;cases h
    |some r=>obtain ⟨s₂,t₂⟩:=r;rw [hs] at h;rw [stepT_spec hs];exact RP h
theorem Ny {seg:Nat→SharedT→Thread→Option (Flow×SharedT×Code×Pos)} {env:Env} {c:Code} {f:Nat}:∀{ls:List (List Stmt)} {s sf:SharedT} {pos pf:Pos} {c0 cs:List Code},Ja seg env c f ls s pos c0=some (sf,pf,cs)→∀x∈c0,x∈cs
 |[],_,_,_,_,_,_,h,x,hx=>by cases h;exact hx
 |l::ls,s,sf,pos,pf,c0,cs,h,x,hx=>by
  unfold Ja at h
  split at h
  ·rw [Nu,Nv] at h;exact Ny h x (.tail _ hx)
  ·cases h
theorem RQ {env:Env} {c:Code} {f:Nat}:∀{ls:List (List Stmt)} {s sf:SharedT} {pos pf:Pos} {c0 cs:List Code},Ja (segRunT tb p w m0 ann 1) env c f ls s pos c0=some (sf,pf,cs)→(∀x∈cs,x=c)→∀{N:Nat} {r:Shared},
 topRun tb p w m0 ann N sf.abs ⟨doneF .next,c,pf,[topFrame ⟨0,0,0,0⟩]⟩=some r→topRun tb p w m0 ann (ls.length*f+N) s.abs (restOf ls.flatten env c pos [topFrame ⟨0,0,0,0⟩])=some r
 |[],s,sf,pos,pf,c0,cs,h,hc,N,r,k=>by
  cases h
  rw [Jg,Nat.zero_mul,Nat.zero_add]
  exact piece_nil k
 |l::ls,s,sf,pos,pf,c0,cs,h,hc,N,r,k=>by
  unfold Ja at h
  split at h
  ·rename_i s' c' pos' e
   rw [Nu,Nv] at h
   have e1:=segRun_of e
   rw [hc c' (Ny h c' (.head _))] at e1
   have:=piece_app (rest:=ls.flatten) e1 (RQ h hc k)
   rw [Ie,Nat.succ_mul,Nat.add_comm (ls.length*f) f,Nat.add_assoc]
   exact this
  ·cases h
end
noncomputable def Y3 {α:Type} (OS:Program→List Str→List Str→(Shared→Bool)→Bool→Shared→_) (IM:List Stmt→List Str) (p q:Program) (loose:List Str) (Yf:Shared→α) (H₀:Heap) (s:Shared):=
 ((staticsOk (IM p.main.body) H₀ s.heap&&namesBound p s.heap&&gensDone s&&laidKept H₀ s.heap),(OS q loose (IM p.main.body) (fun _=>true) true s:type_of% (openSeen q loose [] (fun _=>true) true s)),Yf s)
theorem left_of {p q:Program} {loose:List Str} {α:Type} {Yf:Shared→α} {Ya:World→α} {n:Nat} (e:opening p=plainProg p.main.scope.names) (fm:∀s,fenceModules? p s=some s)
 (size:∀w:World,((boot_heap w.params).isNs mainGlobals&&(Array.mk ([]:List GenState)).size==0,(boot_heap w.params).objs.size,(boot_heap w.params).nsMap mainGlobals "__annotations__")=(true,11,some (.ref 6)))
 (h:∀(w:World) (os:OsState),(Fe (stepT (denote treeTable) p w) (stepOk 11 (some (.ref 6))) (segRunT treeTable p w 11 (some (.ref 6)) 1) p (RM w.params os)).map (fun r=>(r.1,r.2.1,Bm r.2.2 (Y3 openSeen importedModules p q loose Yf (boot_heap w.params))))=
  some (⟨denote treeTable (GW p),GW p,⟨0,0,0,0⟩,[topFrame ⟨0,0,0,0⟩]⟩,List.replicate n (GW p),(true,openGood q loose,Ya w))):
 LeftO p q loose (fun _=>true) Yf Ya 1000000:=fun w=>by
 obtain ⟨⟨hp,gs,d,k,os⟩,e0,e'⟩:=qaS.mp (boot_open (N:=1000000) e rfl fm w)
 obtain ⟨rfl,rfl,rfl,rfl⟩:hp=boot_heap w.params∧gs=Array.mk []∧d=boot_drawn∧k=boot_toks:=by simpa using e'
 obtain ⟨z1,z2,z3⟩:_∧_∧_:=by simpa only [Prod.mk.injEq] using size w
 obtain ⟨⟨ta,cs,sg⟩,h1,h2⟩:=qaS.mp (h w os)
 dsimp only at h2
 rw [Y2] at h2
 obtain ⟨h3,h4⟩:=Prod.mk.inj h2
 obtain ⟨h5,h6⟩:=Prod.mk.inj h4
 obtain ⟨l1,h7⟩:=Prod.mk.inj h6
 obtain ⟨l2,l3⟩:=Prod.mk.inj h7
 have hcs:∀x∈cs,x=GW p:=fun x hx=>by rw [h5] at hx;exact List.eq_of_mem_replicate hx
 have run:topRun treeTable p w 11 (some (.ref 6)) 1000000 ⟨boot_heap w.params,Array.mk [],boot_drawn,boot_toks,os⟩ (topStub p)=some sg.abs:=by
  rw [←Y1]
  unfold Fe at h1
  split at h1
  ·rename_i sa ta' ea
   split at h1
   ·rename_i sb cb pb eb
    rw [Nu,Nv] at h1
    split at h1
    ·rename_i sf pf cs' ec
     split at h1
     ·rename_i sg' eg
      cases h1
      have hb:=segRun_of eb
      rw [hcs cb (Ny ec cb (.head _))] at hb
      have c1:=RQ ec hcs (RP eg)
      rw [RK] at c1
      have c2:=piece_block hb c1
      have c3:=RO ea
      rw [h3] at c3
      have c4:=go_top c3 c2
      have hl:=RL 400 (behindTheImports p)
      have:=topRun_mono (1000000 - (12+(1+((cut 400 (behindTheImports p)).length*2000+2)))) _ _ _ _ c4
      rwa [show 12+(1+((cut 400 (behindTheImports p)).length*2000+2))+(1000000 - (12+(1+((cut 400 (behindTheImports p)).length*2000+2))))=1000000 by omega] at this
     ·cases h1
    ·cases h1
   ·cases h1
  ·cases h1
 have t:topFrom treeTable p w 1000000 ⟨boot_heap w.params,Array.mk [],boot_drawn,boot_toks,os⟩=some sg.abs:=by
  unfold topFrom
  dsimp only
  rw [z1,z2,z3,run]
  show (match staticsOk (importedModules p.main.body) (boot_heap w.params) sg.abs.heap&&namesBound p sg.abs.heap&&gensDone sg.abs&&laidKept (boot_heap w.params) sg.abs.heap with |true=>_ |false=>_)=_
  rw [l1]
 unfold openEnds
 rw [e0]
 show (topFrom treeTable p w 1000000 _).map _=_
 rw [t]
 exact congrArg some (Prod.ext l2 l3)
def Lx (h:Heap) (a:Addr):Option (Addr×Obj):=match h.get? a with
 |some o=>(match o.cls,a==mainNs||a==cStatics with
  |.none,false=>none
  |_,_=>some (a,o))
 |none=>none
def Ly (h:Heap):Frag:=(List.range h.objs.size).filterMap (Lx h)
theorem lookup_mem {a:Addr} {o:Obj}:∀{l:Frag},l.lookup a=some o→(a,o)∈l
 |[],h=>by cases h
 |(b,o')::l,h=>by
  rw [Ig] at h
  split at h
  ·rename_i q
   cases h
   rw [beq_iff_eq.mp q]
   exact .head _
  ·exact .tail _ (lookup_mem h)
theorem Y4 (h:Heap):(Ly h).In h:=fun a o e=>by
 obtain ⟨b,_,hb⟩:=List.mem_filterMap.mp (lookup_mem e)
 unfold Lx at hb
 split at hb
 ·rename_i o' e'
  split at hb
  ·cases hb
  ·cases hb;exact e'
 ·cases hb
def blank (fd:FuncData):FuncData:={fd with kwdefaults:=.none,doc:=.none,pyModule:=.none,annotations:=none,code:=.none,closureTuple:=.none}
def JY (K:Frag) (n:Str):Option (FuncData×Bool×Bool):=match nsIn K mainGlobals n with
 |some (some (.ref f))=>(match K.lookup f with
  |some ⟨_,_,.func fd,_⟩=>some (blank fd,codeIn K fd.code n,keepIn K (.ref f))
  |_=>none)
 |_=>none
abbrev Lz (n:Str) (st:Stmt):FuncData:=fnOf n n (L2.defArgs st) (L2.defBody st) (L2.defScope st) .none .none .none .none none .none .none
inductive LA (K:Frag) (n:Str) (st:Stmt):Prop where
 |mk (f:Addr) (od an:Option Addr) (sl:Array (Option Value)) (oc kV dc pm cd ct:Value) (a:nsIn K mainGlobals n=some (some (.ref f)))
  (l:K.lookup f=some ⟨oc,od,.func (fnOf n n (L2.defArgs st) (L2.defBody st) (L2.defScope st) .none kV dc pm an cd ct),sl⟩) (c:codeIn K cd n=true) (k:keepIn K (.ref f)=true):LA K n st
theorem Y5 {K:Frag} {n:Str} {st:Stmt} (e:JY K n=some (Lz n st,true,true)):LA K n st:=by
 unfold JY at e
 split at e
 ·rename_i f hf
  split at e
  ·rename_i oc od fd sl hl
   obtain ⟨e1,e2⟩:=Prod.mk.inj (Option.some.inj e)
   obtain ⟨e3,e4⟩:=Prod.mk.inj e2
   obtain ⟨x1,x2,x3,x4,x5,x6,x7,x8,x9,x10,x11,x12,x13,x14,x15⟩:=fd
   replace e1:FuncData.mk x1 x2 x3 x4 x5 x6 x7 x8 .none .none .none none .none .none x15=Lz n st:=e1
   injection e1 with y1 y2 y3 y4 y5 y6 y7 y8 y9 y10 y11 y12 y13 y14 y15
   subst x1 x2 x3 x4 x5 x6 x7 x8 x15
   exact ⟨f,od,x12,sl,oc,x9,x10,x11,x13,x14,hf,hl,e3,e4⟩
  ·cases e
 ·cases e
def JZ (K:Frag) (x:Str):Option Int:=match nsIn K mainGlobals x with
 |some (some (.int v _))=>some v
 |_=>none
theorem Y6 {K:Frag} {x:Str} {v:Int} (e:JZ K x=some v):∃t,nsIn K mainGlobals x=some (some (.int v t)):=by
 unfold JZ at e
 split at e
 ·rename_i t h;cases e;exact ⟨t,h⟩
 ·cases e
def RR (K:Frag) (h:Heap):Option (Option Obj×Bool×Bool):=match LS.tabP K with
 |some (c,T)=>some (h.get? T,codeHdIn K c T,(K.lookup T).isNone)
 |none=>none
structure Want where
 fs:List (Str×Stmt)
 cs:List (Str×Int)
 bs:List Str
abbrev LB:=List (Option (FuncData×Bool×Bool))×List (Option Int)×List (Option (Option Value))×Bool×Option (Option Obj×Bool×Bool)
noncomputable def Zfc (W:Want) (s:Shared):LB:=fL (Ly s.heap) fun K=>
 (W.fs.map fun x=>JY K x.1,W.cs.map fun x=>JZ K x.1,W.bs.map (nsIn K mainGlobals),LS.etOk K,RR K s.heap)
def Y7 (W:Want):LB:=(W.fs.map fun x=>some (Lz x.1 x.2,true,true),W.cs.map fun x=>some x.2,W.bs.map fun _=>some none,true,some (some (tabObj #[]),true,true))
inductive Nz (W:Want) (K:Frag) (c T:Addr):Prop where
 |mk (fs:∀(i:Nat) n st,W.fs[i]?=some (n,st)→LA K n st) (cs:∀(i:Nat) n v,W.cs[i]?=some (n,v)→∃t,nsIn K mainGlobals n=some (some (.int v t))) (bs:∀(i:Nat) n,W.bs[i]?=some n→nsIn K mainGlobals n=some none)
  (et:LS.etOk K=true) (tb:LS.tabP K=some (c,T)) (hd:codeHdIn K c T=true) (no:K.lookup T=none):Nz W K c T
def Says (W:Want) (_:World) (h:Heap):Prop:=∃(K:Frag) (c T:Addr),K.In h∧Nz W K c T∧h.get? T=some (tabObj #[])
theorem Says.keeps {W:Want} (w:World) (h h':Heap) (x:Says W w h) (k:∀b o,h.get? b=some o→h'.get? b=some o):Says W w h':=by
 obtain ⟨K,c,T,h1,h2,h3⟩:=x
 exact ⟨K,c,T,h1.keeps k,h2,k _ _ h3⟩
theorem NA {α β:Type} {f g:α→β} {l:List α} (e:l.map f=l.map g) {i:Nat} {x:α} (h:l[i]?=some x):f x=g x:=by
 have:=congrArg (·[i]?) e
 simp only [Dy,h,Ii,Option.some.injEq] at this
 exact this
end Tp
namespace LS
open PySem PySem.W PySem.Spec PySem.Calls PyProof.Rows L2
end LS
namespace Tp
open PySem PySem.W PySem.Spec PySem.Calls PyProof.Rows
def Y8 (K:Frag):Option (FuncData×List Bool):=match nsIn K mainGlobals "TooMany",nsIn K mainGlobals "SwitchError" with
 |some (some (.ref C)),some (some (.ref S))=>(match K.lookup C with
  |some o=>(match LS.clsOf o.data with
   |some cd=>(match nsIn K cd.ns "__init__" with
    |some (some (.ref f))=>(match K.lookup f with
     |some ⟨oc,_,.func fd,_⟩=>some (blank fd,[codeIn K fd.code "TooMany.__init__",LS.tmX K C f,LS.swX K S,keepIn K (.ref C),oc==.type "function"])
     |_=>none)
    |_=>none)
   |none=>none)
  |none=>none)
 |_,_=>none
abbrev Y9 (st:Stmt):FuncData:=fnOf "__init__" "TooMany.__init__" (L2.defArgs st) (L2.defBody st) (L2.defScope st) .none .none .none .none none .none .none
inductive RS (K:Frag) (st:Stmt):Prop where
 |mk (C S f:Addr) (od an:Option Addr) (sl:Array (Option Value)) (kV dc pm cd ct:Value) (nC:nsIn K mainGlobals "TooMany"=some (some (.ref C))) (nS:nsIn K mainGlobals "SwitchError"=some (some (.ref S)))
  (l:K.lookup f=some ⟨.type "function",od,.func (fnOf "__init__" "TooMany.__init__" (L2.defArgs st) (L2.defBody st) (L2.defScope st) .none kV dc pm an cd ct),sl⟩) (c:codeIn K cd "TooMany.__init__"=true) (tm:LS.tmX K C f=true) (sw:LS.swX K S=true) (kp:keepIn K (.ref C)=true):RS K st
noncomputable def Zfd (W:Want) (s:Shared):LB×Option (FuncData×List Bool):=fL (Ly s.heap) fun K=>
 ((W.fs.map fun x=>JY K x.1,W.cs.map fun x=>JZ K x.1,W.bs.map (nsIn K mainGlobals),LS.etOk K,RR K s.heap),Y8 K)
def Zfe (W:Want) (st:Stmt):LB×Option (FuncData×List Bool):=(Y7 W,some (Y9 st,[true,true,true,true,true]))
def SaysT (W:Want) (st:Stmt) (_:World) (h:Heap):Prop:=∃(K:Frag) (c T:Addr),K.In h∧(Nz W K c T∧RS K st)∧h.get? T=some (tabObj #[])
theorem SaysT.keeps {W:Want} {st:Stmt} (w:World) (h h':Heap) (x:SaysT W st w h) (k:∀b o,h.get? b=some o→h'.get? b=some o):SaysT W st w h':=by
 obtain ⟨K,c,T,h1,h2,h3⟩:=x
 exact ⟨K,c,T,h1.keeps k,h2,k _ _ h3⟩
end Tp
namespace LS
open PySem PySem.W PySem.Spec PySem.Calls PyProof.Rows L2
structure TmK (P:Program) (w:World) (K:Frag) (mg:Str→Option Value) (base:Heap) (C f:Addr) (fd:FuncData) (oI:Obj):Prop where
 tm:tmX K C f=true
 F:FnOk P w K mg base (Aw P w K) 1 f fd ["self","many","most"] (RH K C)
 hb:Binds K fd ["self","many","most"] []
 lI:K.lookup f=some oI
 cI:oI.cls=.type "function"
 kp:keepIn K (.ref C)=true
 nC:nsIn K mainGlobals "TooMany"=some (some (.ref C))
end LS
namespace LS
open PySem PySem.Spec PyProof.Rows L2
open Classical in
noncomputable def Zff:D→HD→Out D
 |.int i,h=>if i.natAbs<4611686018427387904 then .ok (.str (toString i)) h else .stuck
 |_,_=>.stuck
section
variable {X:Cx}
def Zfg (i j k:Nat) (ta:TA):TS:=fun Dn σ H=>ta σ H fun vs H1=>∃u v w,vs=[u,v,w]∧Dn.nx (((σ.set i (some u)).set j (some v)).set k (some w)) H1
def NB (i j k:Nat) (ρ:Ai):List D→HD→Out (Fl×Ai)
 |[u,v,w],h=>.ok (.nx,((ρ.set i (some u)).set j (some v)).set k (some w)) h
 |_,_=>.stuck
noncomputable def RT (i j k:Nat) (fa:MA):MS:=fun ρ h=>(fa ρ h).bind fun ds h1=>NB i j k ρ ds h1
end
@[simp] theorem Zfh {i j k:Nat} {fa:MA} {ρ:Ai} {h:HD} {Q:Fl×Ai→HD→Prop}:Wp (RT i j k fa ρ h) Q=Wp (fa ρ h) fun ds h1=>Wp (NB i j k ρ ds h1) Q:=by unfold RT;rw [AG]
@[simp] theorem Zfi {i j k:Nat} {ρ:Ai} {u v w:D} {h:HD} {Q:Fl×Ai→HD→Prop}:Wp (NB i j k ρ [u,v,w] h) Q=Q (.nx,((ρ.set i (some u)).set j (some v)).set k (some w)) h:=rfl
section
variable {X:Cx}
abbrev Zfj:=F9 fun i j=>.int (Builtin.bitXor i j)
end
section
variable {X:Cx} {E:XK} {D:Addr} {elt tg iter:Expr} {ifs:List Expr} {gs gens:List Comprehension} {scope:Scope} {pos:Pos} {Nc:List Str} {cs:List (Option Nat)} {it:MI} {gg:TG} {sg:MG} {t:MT} {f:ME} {e:Dj} {d:Nat} {is js:List Nat}
end
def Za:List Expr→Option (List (Int×Int))
 |[]=>some []
 |.Tuple [.Constant (.int a) _ _,.Constant (.int b) _ _] _ _::es=>(Za es).map ((a,b)::·)
 |_=>none
noncomputable def LC:List (Int×Int)→MA
 |[]=>Ae
 |p::ps=>Ab (BM (Ab (mC (.int p.1)) (Ab (mC (.int p.2)) Ae))) (LC ps)
@[simp] theorem Zfk:LC []=Ae:=rfl
@[simp] theorem Zfl {p:Int×Int} {ps:List (Int×Int)}:LC (p::ps)=Ab (BM (Ab (mC (.int p.1)) (Ab (mC (.int p.2)) Ae))) (LC ps):=rfl
section
variable {X:Cx} {E:XK}
@[irreducible] def ExI (X:Cx) (E:XK) (st:Stmt) (g:MS):Prop:=Ex X E st g
@[irreducible] def Zfm (X:Cx) (E:XK) (sts:List Stmt) (g:MS):Prop:=AE X E sts g
end
end LS
namespace LS
open PySem PySem.Spec PySem.W PyProof.Rows L2
end LS
namespace LS
open PySem PySem.Spec PyProof.Rows L2 PySem.W
theorem Zb {P:Program} {w:World} {K:Frag} {mg mb:Str→Option Value} {k:Nat} {fa a:Addr} {fd:FuncData} {x:Str} {F:List D→HD→Out D} {s₁:Shared} {vs:List Value} {ns:List Int}
 (KX:K.In s₁.heap) (hns:s₁.heap.Ns mainGlobals mg) (hb:s₁.heap.Ns builtinsNs mb) (hbb:∀x:Str,x≠"__name__"→mb x=bootBuiltins x) (hlim:s₁.heap.NoLimit) (hg:s₁.gens=#[]) (hbm:JV mg s₁.heap)
 (ha:s₁.heap.get? a=some {cls:=.type "list",data:=.seq vs.toArray}) (hi:IntsAre vs ns) (hl:ns.length≤sizeLine) (hr:Room k callerA)
 (FF:∀base:Heap,K.In base→base.Ns mainGlobals mg→JV mg base→FnOk P w K mg base (Aw P w K) k fa fd [x] (Gk K F)) (hbind:∀(s:Shared) (u:Value),BindsTo s fd ⟨[u],[]⟩ [(x,u)])
 (hF:∃h',F [.scr ns] []=.ok (.bl true) h'):
 codeAny (model P w) callerA (.call (.ref fa) ⟨[.ref a],[]⟩) (fun r s'=>r=.ok (.ret (.bool true))∧OldK s₁.heap s'.heap∧s'.os=s₁.os∧AllBare s'.gens) s₁:=by
 have rv:=L2.vals_ints hi
 have lenV:=hi.length
 have core:∀H:Hp,(∀b,H b=none∨∃o xs,H b=some (.frz o (.lst xs)))→FzL K H a (ns.map V.int)→HOk P w H s₁.heap→(∀b,H b≠none→b=a)→(H a≠none→K.lookup a=none)→
  codeAny (model P w) callerA (.call (.ref fa) ⟨[.ref a],[]⟩) (fun r s'=>r=.ok (.ret (.bool true))∧OldK s₁.heap s'.heap∧s'.os=s₁.os∧AllBare s'.gens) s₁:=by
  intro H hO hS hok hA hK
  have base_of:∀{b:Addr} {o:Obj},s₁.heap.get? b=some o→H b=none→(EV s₁.heap H).get? b=some o:=fun e n=>TC e n
  have noA:∀{b:Addr} {o:Obj},s₁.heap.get? b=some o→(∀its n,o.data≠.seq its n)→(∀ws,o.data≠.fields ws)→H b=none:=fun {b o} e d1 d2=>by
   cases q:H b with
   |none=>rfl
   |some u=>
    have e':=hA b (by rw [q];simp)
    subst e'
    rw [ha] at e;cases e
    exact absurd rfl (d1 _ _)
  have nsK:∀{b:Addr} {m:Str→Option Value},s₁.heap.Ns b m→(EV s₁.heap H).Ns b m:=fun {b m} ⟨o,es,ep,e,d,r⟩=>⟨o,es,ep,base_of e (noA e (fun _ _ z=>by rw [d] at z;cases z) (fun _ z=>by rw [d] at z;cases z)),d,r⟩
  have hKb:K.In (EV s₁.heap H):=fun b o e=>base_of (KX b o e) (by
   cases q:H b with
   |none=>rfl
   |some u=>
    have e':=hA b (by rw [q];simp)
    subst e'
    rw [hK (by rw [q];simp)] at e;cases e)
  have hM:Mod K mg (EV s₁.heap H):=⟨hKb,nsK hns,⟨mb,nsK hb,hbb⟩,let ⟨mc,h1,h2⟩:=hlim;⟨mc,nsK h1,h2⟩⟩
  have e0:Jp P w K mg (EV s₁.heap H) callerA [] s₁ H:=⟨rfl,hM,fun b o e=>TF e,Nat.le_of_eq (TB _ _),trivial,fun b hb=>absurd (show b∈([]:List Addr) from hb) (by simp),hok,.of_eq hg⟩
  have hBM:JV mg (EV s₁.heap H):=by
   obtain ⟨bm,o,h1,h2,h3,h4,h5,h6⟩:=hbm
   exact ⟨bm,o,h1,h2,base_of h3 (noA h3 (fun _ _ z=>by rw [h6] at z;cases z) (fun _ z=>by rw [h6] at z;cases z)),h4,h5,h6⟩
  have hsp:Gk K F [.ref a] H (fun v _=>v=.bl true) fun _ _ _=>False:=by
   obtain ⟨h',e⟩:=hF
   refine ⟨[],[.scr ns],[],⟨rfl,by simp,fun l cc b e1 e2=>by simp at e1⟩,.cons (by simp only [DV];exact ⟨a,rfl,hS⟩) .nil,?_⟩
   ·rw [e]
    intro v m' H' _ _ _ r
    simpa [rD,DV] using r
  refine codeAny_mono ((FF _ hKb (nsK hns) hBM).run callerA [] s₁ H ⟨[.ref a],[]⟩ [.ref a] [.ref a] _ _ hr e0 (hbind s₁ (.ref a)) (.cons rfl .nil) hsp) fun r s' h=>?_
  cases r with
  |error e=>
   obtain ⟨_,_,_,_,_,_,_,_,_,_,_,_,q⟩:=h
   exact q.elim
  |ok fl=>
   cases fl with
   |next=>exact False.elim h
   |brk=>exact False.elim h
   |cont=>exact False.elim h
   |ret u=>
    obtain ⟨v,H',os,bare,un,hok',r',q⟩:=h
    have q':v=.bl true:=q
    subst q'
    obtain rfl:u=Value.bool true:=r'
    have keepO:∀b o,s₁.heap.get? b=some o→s'.heap.get? b=some o:=fun b o e=>by
     cases q:H b with
     |none=>exact un.keep b o e q (by intro z;exact absurd (show b∈([]:List Addr) from z) (by simp)) (by simp)
     |some u=>
      rcases hO b with z |⟨ob,xs,z⟩
      ·rw [q] at z;cases z
      ·have z2:=un.frzs b ob _ z
       obtain ⟨e1,_⟩:=hok b _ z
       obtain ⟨e2,_⟩:=hok' b _ z2
       rw [e] at e1;cases e1
       exact e2
    exact ⟨rfl,⟨fun b o e=>.inl (keepO b o e),fun b o e=>⟨o,keepO b o e⟩⟩,os,bare⟩
 cases hk:K.lookup a with
 |some o=>
  have e:=KX a o hk
  rw [ha] at e
  cases e
  exact core (fun b=>none) (fun b=>.inl rfl) (.inr (.inr ⟨_,vs.toArray,_,hk,rfl,rfl,rfl,by rw [Ba,lenV];exact hl,by simpa using rv⟩)) (fun b u z=>by cases z) (fun b z=>absurd rfl z) fun z=>absurd rfl z
 |none=>
  refine core (fun b=>if b=a then some (.frz {cls:=.type "list",data:=.seq vs.toArray} (.lst (ns.map V.int))) else none) (fun b=>?_) (.inl ⟨{cls:=.type "list",data:=.seq vs.toArray},if_pos rfl⟩) (fun b u z=>?_) (fun b z=>?_) fun _=>hk
  ·by_cases hba:b=a
   ·exact .inr ⟨_,_,if_pos hba⟩
   ·exact .inl (if_neg hba)
  ·by_cases hba:b=a
   ·have z':=(if_pos hba).symm.trans z
    cases z'
    subst hba
    exact ⟨ha,by rw [D0];exact hl,vs,_,rv,ha⟩
   ·have z':=(if_neg hba).symm.trans z
    cases z'
  ·by_cases hba:b=a
   ·exact hba
   ·exact absurd (if_neg hba) z
end LS
namespace Tp
open PySem PySem.W PySem.Spec PySem.Calls PyProof.Rows
abbrev RU:=List (Option (FuncData×Bool×Bool))×List (Option Int)×List (Option (Option Value))×Bool
noncomputable def obs0 (W:Want) (s:Shared):RU:=fL (Ly s.heap) fun K=>
 (W.fs.map fun x=>JY K x.1,W.cs.map fun x=>JZ K x.1,W.bs.map (nsIn K mainGlobals),true)
def val0 (W:Want):RU:=(W.fs.map fun x=>some (Lz x.1 x.2,true,true),W.cs.map fun x=>some x.2,W.bs.map fun _=>some none,true)
inductive Has0 (W:Want) (K:Frag):Prop where
 |mk (fs:∀(i:Nat) n st,W.fs[i]?=some (n,st)→LA K n st) (cs:∀(i:Nat) n v,W.cs[i]?=some (n,v)→∃t,nsIn K mainGlobals n=some (some (.int v t))) (bs:∀(i:Nat) n,W.bs[i]?=some n→nsIn K mainGlobals n=some none)
  (et:True):Has0 W K
def Says0 (W:Want) (_:World) (h:Heap):Prop:=∃K:Frag,K.In h∧Has0 W K
theorem Says0.keeps {W:Want} (w:World) (h h':Heap) (x:Says0 W w h) (k:∀b o,h.get? b=some o→h'.get? b=some o):Says0 W w h':=by
 obtain ⟨K,h1,h2⟩:=x
 exact ⟨K,h1.keeps k,h2⟩
theorem says0_of {W:Want} (w:World) (s:Shared) (e:obs0 W s=val0 W):Says0 W w s.heap:=by
 unfold obs0 val0 at e
 rw [JX] at e
 obtain ⟨e1,e⟩:=Prod.mk.inj e
 obtain ⟨e2,e⟩:=Prod.mk.inj e
 obtain ⟨e3,e4⟩:=Prod.mk.inj e
 exact ⟨_,Y4 _,fun i n st h=>Y5 (NA e1 h),fun i n v h=>Y6 (NA e2 h),fun i n h=>NA e3 h,trivial⟩
end Tp
namespace LS
open PySem PySem.W PySem.Spec PySem.Calls PyProof.Rows L2
theorem walk_hd0 {l:OpenLaw} {n k:Nat} {q:Program} {loose:List Str} {XP:(Str→Option Value)→Heap→Prop} {W:Tp.Want} {d:DefRec} {x:Str} {F:List D→HD→Out D}
 (hn:l.most=some n) (hn2:n≤sizeLine) (hdf:d.params.defaults=[]) (hr:Room k callerA)
 (Fn:∀(w:World) (K:Frag) (mg:Str→Option Value) (fa:Addr) (h:Heap),Tp.Has0 W K→K.In h→h.Ns mainGlobals mg→mg d.name=some (.ref fa)→
  ∃fd:FuncData,(∀(s:Shared) (u:Value),BindsTo s fd ⟨[u],[]⟩ [(x,u)])∧
   ∀base:Heap,K.In base→base.Ns mainGlobals mg→JV mg base→FnOk l.prog w K mg base (Aw l.prog w K) k fa fd [x] (Gk K F))
 (hF:∀ns:List Int,ns.length≤n→(∀i∈ns,Builtin.Int.intBits i≤2^20)→∃h',F [.scr ns] []=.ok (.bl true) h'):
 WalkO q loose XP (Tp.Says0 W) l.row.toRowW d [] (fun f vs=>PySem.call f vs):=by
 refine Att.attach_bits hn hdf fun w s₀ s₁ mg mb fa o pm cd doc a vs ns hbits G Y ho hd hcd' hmg hobj hints hlen hg=>?_
 obtain ⟨K,KX,HS⟩:=Y
 obtain ⟨fd,hb,hF'⟩:=Fn w K mg fa _ HS KX G.T.g hmg
 obtain ⟨bm,ob,b1,b2,b3,b4,b5,b6⟩:=G.T.bmain
 exact Zb KX G.T.g G.T.b G.T.builtins G.T.nolimit hg ⟨bm,ob,b1,b2,b3,b4,b5,b6⟩ hobj hints (B8 hlen hn2) hr hF' hb (hF ns hlen hbits)
end LS
namespace LS
open PySem PySem.Spec PyProof.Rows L2
def LD:D→HD→Out D:=fun x h=>match x with
 |.loc l=>(match h[l]? with
  |some (.lst ds)=>CF ds.reverse h
  |_=>.stuck)
 |_=>.stuck
def J0 (f:ME):ME:=fun ρ h=>(f ρ h).bind LD
section
variable {X:Cx} {E:XK} {e:Expr} {f:ME}
theorem Zc {j:Nat} {p1 p2 p3 pos:Pos} (he:Ev X E e f):Ev X E (.Subscript e (.Slice none none (some (.UnaryOp .USub (.Constant (.int 1) j p1) p2)) p3) pos) (J0 f):=by
 rintro pins s σ H Q I ⟨m,ρ,h,hr,er,p⟩
 have p':tD X.K E f σ H fun v H1=>∃t xs,v=.ref t∧SqL X.K H1 t xs∧∀q,H1 q=none→Q (.ref q) (Az H1 q (.lst xs.reverse)):=⟨m,ρ,h,hr,er,Post.bind p fun x h1 v m1 H1 eo p1 k1 hr1 r1 q1=>by
  clear eo
  unfold LD at q1
  split at q1
  ·simp only [rD,DV] at r1
   obtain ⟨t,rfl,ht⟩:=r1
   split at q1
   ·rename_i ds e1
    obtain ⟨vs,h1',d1⟩:=hr1.cells _ _ t e1 ht
    exact ⟨t,vs,rfl,SqL.of h1',(GG (X:=X) hr1 (DVs.rev d1) q1).2⟩
   ·exact q1.elim
  ·exact q1.elim⟩
 refine Subscript_ (Au (he pins s σ H _ I p') fun v s1 z1_=>?_)
 obtain ⟨x,H1,I1,r1,t,xs,ex,hq,q1⟩:=z1_
 subst ex
 cases r1
 refine wpAny_Slice ?_
 rw [evalPart_none,evalPart_some]
 refine wpAny_pure (wpAny_pure ?_)
 have st:PE X (.UnaryOp .USub (.Constant (.int 1) j p1) p2) (O9 (rU fun i=>.int (-i)) (tC (.int 1))):=Pa Pd O1
 refine Au (st pins s1 σ H1 (fun v H3=>v=.int (-1)∧H3=H1) I1 ⟨1,rfl,rfl,rfl⟩) fun sv s3 z2_=>?_
 obtain ⟨x,H3,I3,r3,ex,eH⟩:=z2_
 subst ex eH
 obtain ⟨tk,rfl⟩:=r3
 obtain ⟨its,rv,pl,hz⟩:=I3.list hq
 have I4:Inv X pins σ H3 {s3 with heap:=s3.heap.push {cls:=.type "slice",data:=.fields #[.none,.none,.int (-1) tk]}}:=I3.kept (t':=s3.toks) fun b ob q=>AY _ q
 have hsl:(s3.heap.push {cls:=.type "slice",data:=.fields #[.none,.none,.int (-1) tk]}).IsSliceOf s3.heap.objs.size .none .none (.int (-1) tk):=Heap.IsSliceOf.new ..
 obtain ⟨o,n,ho,hc,hd,hs⟩:=pl
 have pl4:(s3.heap.push {cls:=.type "slice",data:=.fields #[.none,.none,.int (-1) tk]}).IsList t its.toArray:=⟨o,AY _ ho,hc,n,hs⟩
 have ty:({s3 with heap:=s3.heap.push {cls:=.type "slice",data:=.fields #[.none,.none,.int (-1) tk]}}:Shared).TypeIs (.ref t) "list":=⟨o,AY _ ho,hc⟩
 show wpAny (model X.prog X.w) X.A (subscriptTail e (.Slice none none (some (.UnaryOp .USub (.Constant (.int 1) j p1) p2)) p3) (.ref t) (.ref s3.heap.objs.size)) (EP X pins σ Q) X.xe {s3 with heap:=s3.heap.push {cls:=.type "slice",data:=.fields #[.none,.none,.int (-1) tk]}}
 refine tail_any (ops:=[.ref t,.ref s3.heap.objs.size]) (T:="list") ty PySem.slot_list_getitem.lookup (wpAny_getItem_list_slice (s:={s3 with heap:=s3.heap.push {cls:=.type "slice",data:=.fields #[.none,.none,.int (-1) tk]}}) (lo:=none) (hi:=none) (st:=some (-1)) pl4 hsl ?_ ?_ ?_ (by decide) ?_ (by rw [Ba,←rv.length];exact hz)) (by with_unfolding_all rfl)
 ·exact .none
 ·exact .none
 ·exact .int _ _
 ·rw [PySem.W.krv_pick]
  exact ⟨.ref _,_,Inv.lnew (t':=s3.toks) I4 (YA rv) (by rw [List.length_reverse];exact hz),rfl,q1 _ (I4.hok.fresh (AV _))⟩
end
def CS:D→D→HD→Out D:=fun x y h=>match x with
 |.exc _ _=>.stuck
 |.edic=>.stuck
 |_=>CI x y h
theorem GX {X:Cx}:De X (.builtin "isinstance") (BY CS):=by
 obtain ⟨r,hr,i⟩:=Wv (X:=X)
 refine ⟨r,hr,fun m H h E ds vs Q hr rd q=>i m H h E ds vs Q hr rd ?_⟩
 match ds,q with
 |[],q=>exact q
 |[_],q=>exact q
 |x::_::_::_,q=>exact q
 |[x,y],q=>
  cases x with
  |exc _ _=>exact q.elim
  |edic=>exact q.elim
  |_=>exact q
section
variable {h:HD} {y:D} {i:Int} {b:Bool} {x:Str} {ds:List D} {l:Nat}
@[simp] theorem Zfn:CS (.int i) y h=CI (.int i) y h:=rfl
@[simp] theorem Zfo:CS (.bl b) y h=CI (.bl b) y h:=rfl
@[simp] theorem Zfp:CS .non y h=CI .non y h:=rfl
@[simp] theorem Zfq:CS (.str x) y h=CI (.str x) y h:=rfl
@[simp] theorem Zfr:CS (.tup ds) y h=CI (.tup ds) y h:=rfl
@[simp] theorem Zfs:CS (.loc l) y h=CI (.loc l) y h:=rfl
end
end LS
set_option maxHeartbeats 0
namespace LK
open PySem PySem.Spec PyProof.Rows L2 LS
def AU (i:Nat):Stmt:=PySem.Challenge.pw_lineswitch_k44_whole_bounds.main.body.getD i (.Pass ⟨0,0,0,0⟩)
structure Bl (mg:Str→Option Value):Prop where
 n_all:mg "all"=none
 n_any:mg "any"=none
 n_bool:mg "bool"=none
 n_divmod:mg "divmod"=none
 n_enumerate:mg "enumerate"=none
 n_int:mg "int"=none
 n_isinstance:mg "isinstance"=none
 n_len:mg "len"=none
 n_list:mg "list"=none
 n_max:mg "max"=none
 n_min:mg "min"=none
 n_range:mg "range"=none
 n_sum:mg "sum"=none
 n_tuple:mg "tuple"=none
 n_zip:mg "zip"=none
theorem NC:bootBuiltins "all"=some (.builtin "all"):=by decide +kernel
theorem Zd:bootBuiltins "any"=some (.builtin "any"):=by decide +kernel
theorem Ze:bootBuiltins "bool"=some (.type "bool"):=by decide +kernel
theorem Zf:bootBuiltins "divmod"=some (.builtin "divmod"):=by decide +kernel
theorem RV:bootBuiltins "int"=some (.type "int"):=by decide +kernel
theorem GY:bootBuiltins "isinstance"=some (.builtin "isinstance"):=by decide +kernel
theorem BI:bootBuiltins "len"=some (.builtin "len"):=by decide +kernel
theorem RW:bootBuiltins "list"=some (.type "list"):=by decide +kernel
theorem Zg:bootBuiltins "max"=some (.builtin "max"):=by decide +kernel
theorem J1:bootBuiltins "min"=some (.builtin "min"):=by decide +kernel
theorem J2:bootBuiltins "sum"=some (.builtin "sum"):=by decide +kernel
theorem CT:bootBuiltins "tuple"=some (.type "tuple"):=by decide +kernel
abbrev GZ:Stmt:=AU 8
theorem Zh:AJ ["thing"] ["thing"] (defScope GZ):=⟨rfl,rfl,rfl,by decide +kernel,rfl,by decide +kernel,by decide +kernel⟩
noncomputable abbrev ND:MS:=Av (E2 (Ag (BY CS) (Ab (Aa 0) (Ab (mC (.ty "int")) (Ae)))) (Jt (Ag (BY CS) (Ab (Aa 0) (Ab (mC (.ty "bool")) (Ae))))))
abbrev G0:Stmt:=AU 11
theorem Zi:AJ ["thing"] ["thing"] (defScope G0):=⟨rfl,rfl,rfl,by decide +kernel,rfl,by decide +kernel,by decide +kernel⟩
noncomputable abbrev NF:MS:=Av (E2 (Ag (BY CS) (Ab (Aa 0) (Ab (mC (.ty "tuple")) (Ae)))) (F8 Jv Jv (mC (.int 1)) (Ag (Am A9) (Ab (Aa 0) (Ae))) (mC (.int 8))))
abbrev G1:Stmt:=AU 23
theorem Zj:AJ ["row","columns","is_turned"] ["row","columns","is_turned"] (defScope G1):=⟨rfl,rfl,rfl,by decide +kernel,rfl,by decide +kernel,by decide +kernel⟩
noncomputable abbrev NG:MS:=Av (Ag (Am BN) (Ab (A3 [none,none,some 1,some 2] (Ed (Ab (Aa 0) (Ae))) (BQ 0 1) (Bc) (Ju (A7 (Ah CQ (Ah (DF false) (Aa 0) (Aa 2)) (Aa 3))) (Aa 1) (Ah E3 (mC (.int 1)) (Aa 1)))) (Ae)))
abbrev G2:Stmt:=AU 27
theorem Zk:AJ ["counts","row"] ["counts","row"] (defScope G2):=⟨rfl,rfl,rfl,by decide +kernel,rfl,by decide +kernel,by decide +kernel⟩
noncomputable abbrev NH:MS:=Av (Ag (Am BN) (Ab (A3 [none,none] (JS (Ab (Aa 0) (Ab (Aa 1) (Ae)))) (BQ 0 1) (Bc) (Ah E3 (Ah Bf (Aa 0) (mC (.int 1))) (Ah Bx (mC (.int 2)) (Aa 1)))) (Ae)))
abbrev G3:Stmt:=AU 29
theorem Zl:AJ ["counts","high"] ["counts","high"] (defScope G3):=⟨rfl,rfl,rfl,by decide +kernel,rfl,by decide +kernel,by decide +kernel⟩
noncomputable abbrev NI:MS:=Av (Ag (Am CG) (Ab (A3 [none,some 1] (By (Aa 0)) (Bb 0) (Bc) (Ag (BY GI) (Ab (Aa 0) (Ab (Ah E3 (Aa 1) (Aa 0)) (Ae))))) (Ae)))
abbrev G4:Stmt:=AU 30
theorem Zm:AJ ["counts","high"] ["counts","high"] (defScope G4):=⟨rfl,rfl,rfl,by decide +kernel,rfl,by decide +kernel,by decide +kernel⟩
noncomputable abbrev NJ:MS:=Av (Ag (Am BN) (Ab (A3 [none,none,some 1] (Ed (Ab (Aa 0) (Ae))) (BQ 0 1) (A7 (Ah Ea (Ah Bx (mC (.int 2)) (Aa 1)) (Aa 2))) (Aa 0)) (Ae)))
abbrev G5:Stmt:=AU 35
theorem sc_ways_with_column:AJ ["ways","count","high","more","lit","many"] ["ways","count","high"] (defScope G5):=⟨rfl,rfl,rfl,by decide +kernel,rfl,by decide +kernel,by decide +kernel⟩
noncomputable abbrev NK:MS:=Aj (AH 3 (Ah Bx (CN (Ab (mC (.int 0)) (Ae))) (Ah Bf (Ag (Am A9) (Ab (Aa 0) (Ae))) (Aa 2)))) (Aj (Cq (Ed (Ab (Aa 0) (Ae))) (BQ 4 5) (Aj (JQ (Aa 3) (Ah Bf (Aa 4) (Aa 1)) (Aa 5)) (JQ (Aa 3) (Ah E3 (Ah Bf (Aa 4) (Aa 2)) (Aa 1)) (Aa 5)))) (Av (Aa 3)))
abbrev G6:Stmt:=AU 38
theorem sc_fraction:AJ ["top","bottom","divisor","rest"] ["top","bottom"] (defScope G6):=⟨rfl,rfl,rfl,by decide +kernel,rfl,by decide +kernel,by decide +kernel⟩
noncomputable abbrev NL:MS:=Aj (Ep 2 3 (Ab (Aa 1) (Ab (Aa 0) (Ae)))) (Aj (JT (A7 (Ah Ea (Aa 3) (mC (.int 0)))) (Ep 2 3 (Ab (Aa 3) (Ab (Ah E4 (Aa 2) (Aa 3)) (Ae))))) (Av (BM (Ab (Ah GH (Aa 0) (Aa 2)) (Ab (Ah GH (Aa 1) (Aa 2)) (Ae))))))
abbrev G7:Stmt:=AU 43
theorem Zn:AJ ["counts","lights"] ["counts","lights"] (defScope G7):=⟨rfl,rfl,rfl,by decide +kernel,rfl,by decide +kernel,by decide +kernel⟩
noncomputable abbrev NM:MS:=Av (Ag (Am BN) (Ab (A3 [none,none] (JS (Ab (Aa 0) (Ab (Aa 1) (Ae)))) (BQ 0 1) (Bc) (Ah Bf (Aa 0) (Aa 1))) (Ae)))
abbrev G8:Stmt:=AU 47
theorem sc_all_fours:AJ ["board","high","wide"] ["board"] (defScope G8):=⟨rfl,rfl,rfl,by decide +kernel,rfl,by decide +kernel,by decide +kernel⟩
noncomputable abbrev NO:MS:=Aj (AH 1 (Ag (Am A9) (Ab (Aa 0) (Ae)))) (Aj (AH 2 (Ag (Am A9) (Ab (Ah Ax (Aa 0) (mC (.int 0))) (Ae)))) (Av (FW [none,none,none,none,some 1,some 2] (Dg (Ab (Aa 1) (Ae))) (Bb 0) (Bc) (Eh (FN (Ab (Ah Bf (Aa 0) (mC (.int 1))) (Ab (Aa 4) (Ae)))) (Bb 1) (Bc) (Eh (Dg (Ab (Aa 5) (Ae))) (Bb 2) (Bc) (Eh (FN (Ab (Ah Bf (Aa 2) (mC (.int 1))) (Ab (Aa 5) (Ae)))) (Bb 3) (Bc) (Fc (BM (Ab (Aa 0) (Ab (Aa 1) (Ab (Aa 2) (Ab (Aa 3) (Ae)))))))))))))
abbrev G9:Stmt:=AU 48
theorem sc_is_odd_four:AJ ["board","four","a","b","c","e"] ["board","four"] (defScope G9):=⟨rfl,rfl,rfl,by decide +kernel,rfl,by decide +kernel,by decide +kernel⟩
noncomputable abbrev NP:MS:=Aj (Gd (IY [2,3,4,5]) (Aa 1)) (Av (Ah CQ (Ah E4 (Ah Bf (Ah Bf (Ah Bf (Ah Ax (Ah Ax (Aa 0) (Aa 2)) (Aa 4)) (Ah Ax (Ah Ax (Aa 0) (Aa 2)) (Aa 5))) (Ah Ax (Ah Ax (Aa 0) (Aa 3)) (Aa 4))) (Ah Ax (Ah Ax (Aa 0) (Aa 3)) (Aa 5))) (mC (.int 2))) (mC (.int 1))))
abbrev Ha:Stmt:=AU 52
theorem Zo:AJ ["one","other"] ["one","other"] (defScope Ha):=⟨rfl,rfl,rfl,by decide +kernel,rfl,by decide +kernel,by decide +kernel⟩
noncomputable abbrev NQ:MS:=Av (E2 (Js (Ah (DF false) (Ah Ax (Aa 0) (mC (.int 0))) (FV (Aa 1) (Gm) (FT (mC (.int 2))))) (Ah (DF false) (Ah Ax (Aa 0) (mC (.int 1))) (FV (Aa 1) (Gm) (FT (mC (.int 2)))))) (Js (Ah (DF false) (Ah Ax (Aa 0) (mC (.int 2))) (FV (Aa 1) (FT (mC (.int 2))) (Gm))) (Ah (DF false) (Ah Ax (Aa 0) (mC (.int 3))) (FV (Aa 1) (FT (mC (.int 2))) (Gm)))))
abbrev Hb:Stmt:=AU 57
theorem Zp:AJ ["_law_script","_law_k"] ["_law_script","_law_k"] (defScope Hb):=⟨rfl,rfl,rfl,by decide +kernel,rfl,by decide +kernel,by decide +kernel⟩
noncomputable abbrev LF:MS:=Aj (Bp (A7 (Ah Ga (Aa 1) (Ag (Am A9) (Ab (Aa 0) (Ae))))) (Av (Ah Ax (Aa 0) (Aa 1))) (Bs)) (Av (Ah Bf (Ah Bx (mC (.int 6151)) (Aa 1)) (mC (.int 29))))
abbrev Hc:Stmt:=AU 58
theorem sc__law_mix:AJ ["_law_cell_here","_law_k","_law_number"] ["_law_cell_here","_law_k"] (defScope Hc):=⟨rfl,rfl,rfl,by decide +kernel,rfl,by decide +kernel,by decide +kernel⟩
noncomputable abbrev NR:MS:=Aj (AH 2 (Ah Bf (Ah Bx (Ah Bf (Aa 0) (mC (.int 1))) (mC (.int 40692))) (Ah Bx (mC (.int 104729)) (Aa 1)))) (Aj (AH 2 (Ah Bf (Ah E4 (Ah Bx (Aa 2) (Aa 2)) (mC (.int 2147483399))) (Aa 1))) (Av (Ah E4 (Ah Bx (Aa 2) (Ah Bf (Aa 2) (mC (.int 31)))) (mC (.int 2147483563)))))
abbrev Hd:Stmt:=AU 60
theorem sc__law_take:AJ ["_law_box_here","_law_many","_law_left","_law_digit"] ["_law_box_here","_law_many"] (defScope Hd):=⟨rfl,rfl,rfl,by decide +kernel,rfl,by decide +kernel,by decide +kernel⟩
noncomputable abbrev NS:MS:=Aj (Gd (BQ 2 3) (Ag (BY Jz) (Ab (Ah Ax (Aa 0) (mC (.int 0))) (Ab (Aa 1) (Ae))))) (Aj (K6 (Aa 0) (mC (.int 0)) (Aa 2)) (Av (Aa 3)))
abbrev He:Stmt:=AU 9
theorem Zq:AJ ["thing","least","most"] ["thing","least","most"] (defScope He):=⟨rfl,rfl,rfl,by decide +kernel,rfl,by decide +kernel,by decide +kernel⟩
noncomputable abbrev LG (B0:List D→HD→Out D):MS:=Av (E2 (Ag B0 (Ab (Aa 0) (Ae))) (F8 Jv Jv (Aa 1) (Aa 0) (Aa 2)))
abbrev Hf:Stmt:=AU 20
theorem sc_is_lot:AJ ["thing","size","last","number"] ["thing","size"] (defScope Hf):=⟨rfl,rfl,rfl,by decide +kernel,rfl,by decide +kernel,by decide +kernel⟩
noncomputable abbrev NT (B0:List D→HD→Out D):MS:=Aj (Bp (Ca (B2 (Ag (BY CS) (Ab (Aa 0) (Ab (mC (.ty "tuple")) (Ae)))))) (Av (mC (.bl false))) (Bs)) (Aj (AH 2 (My (mC (.int 1)))) (Aj (Cq (By (Aa 0)) (Bb 3) (Aj (Bp (B3 (Ca (B2 (Ag B0 (Ab (Aa 3) (Ae))))) (Ca (A7 (F8 Ga Ga (Aa 2) (Aa 3) (Aa 1))))) (Av (mC (.bl false))) (Bs)) (AH 2 (Aa 3)))) (Av (mC (.bl true)))))
abbrev Hg:Stmt:=AU 36
theorem sc_ways_of_counts:AJ ["counts","high","ways","count"] ["counts","high"] (defScope Hg):=⟨rfl,rfl,rfl,by decide +kernel,rfl,by decide +kernel,by decide +kernel⟩
noncomputable abbrev NU (EA:List D→HD→Out D):MS:=Aj (AH 2 (CN (Ab (mC (.int 1)) (Ae)))) (Aj (Cq (By (Aa 0)) (Bb 3) (AH 2 (Ag EA (Ab (Aa 2) (Ab (Aa 3) (Ab (Aa 1) (Ae))))))) (Av (Aa 2)))
abbrev Hh:Stmt:=AU 53
theorem Zr:AJ ["four","others"] ["four","others"] (defScope Hh):=⟨rfl,rfl,rfl,by decide +kernel,rfl,by decide +kernel,by decide +kernel⟩
noncomputable abbrev NV (Fi:List D→HD→Out D):MS:=Av (Jt (Ag (Am IW) (Ab (A3 [none,some 0] (By (Aa 1)) (Bb 0) (Bc) (Ag Fi (Ab (Aa 1) (Ab (Aa 0) (Ae))))) (Ae))))
abbrev Hi:Stmt:=AU 59
theorem sc__law_box:AJ ["_law_script","_law_k","_law_here","_law_number","_law_j"] ["_law_script","_law_k"] (defScope Hi):=⟨rfl,rfl,rfl,by decide +kernel,rfl,by decide +kernel,by decide +kernel⟩
noncomputable abbrev NW (Fj:List D→HD→Out D) (Fm:List D→HD→Out D):MS:=Aj (AH 2 (Ag Fj (Ab (Aa 0) (Ab (Aa 1) (Ae))))) (Aj (Bp (A7 (Ah CQ (Ah E4 (Aa 2) (mC (.int 2))) (mC (.int 0)))) (Av (CN (Ab (Ah GH (Aa 2) (mC (.int 2))) (Ae)))) (Bs)) (Aj (AH 3 (mC (.int 0))) (Aj (Cq (Dg (Ab (mC (.int 24)) (Ae))) (Bb 4) (AH 3 (Ah Bf (Ah Bx (Aa 3) (mC (.int 2147483647))) (Ag Fm (Ab (Aa 2) (Ab (Aa 4) (Ae))))))) (Av (CN (Ab (Aa 3) (Ae)))))))
abbrev Hj:Stmt:=AU 61
theorem sc__law_wide_box:AJ ["_law_box_here","_law_number","_law_many","_law_j"] ["_law_box_here"] (defScope Hj):=⟨rfl,rfl,rfl,by decide +kernel,rfl,by decide +kernel,by decide +kernel⟩
noncomputable abbrev NX (Bh:List D→HD→Out D):MS:=Aj (Ep 1 2 (Ab (Ag Bh (Ab (Aa 0) (Ab (mC (.int 2147483647)) (Ae)))) (Ab (mC (.int 0)) (Ae)))) (Aj (Cq (Dg (Ab (mC (.int 24)) (Ae))) (Bb 3) (Aj (AH 1 (Ah E4 (Ah Bf (Ah Bf (Ah Bx (Aa 1) (mC (.int 48271))) (mC (.int 11))) (Aa 3)) (mC (.int 2147483647)))) (AH 2 (Ah Bf (Ah Bx (Aa 2) (mC (.int 2147483647))) (Aa 1))))) (Av (CN (Ab (Aa 2) (Ae)))))
abbrev Hk:Stmt:=AU 63
theorem Zs:AJ ["_law_box_here","_law_size"] ["_law_box_here","_law_size"] (defScope Hk):=⟨rfl,rfl,rfl,by decide +kernel,rfl,by decide +kernel,by decide +kernel⟩
noncomputable abbrev NY (Bh:List D→HD→Out D):MS:=Av (Ag (Am BN) (Ab (A3 [none,some 0] (Dg (Ab (Aa 1) (Ae))) (Bb 0) (A7 (Ah CQ (Ag Bh (Ab (Aa 1) (Ab (mC (.int 2)) (Ae)))) (mC (.int 1)))) (Aa 0)) (Ae)))
abbrev Hl:Stmt:=AU 10
theorem Zt:AJ ["thing"] ["thing"] (defScope Hl):=⟨rfl,rfl,rfl,by decide +kernel,rfl,by decide +kernel,by decide +kernel⟩
noncomputable abbrev NZ (Cn:List D→HD→Out D):MS:=Av (Ag Cn (Ab (Aa 0) (Ab (mC (.int 0)) (Ab (mC (.int 1)) (Ae)))))
abbrev Hm:Stmt:=AU 15
theorem Zu:AJ ["thing","least","most"] ["thing","least","most"] (defScope Hm):=⟨rfl,rfl,rfl,by decide +kernel,rfl,by decide +kernel,by decide +kernel⟩
noncomputable abbrev N0 (Cn:List D→HD→Out D):MS:=Bp (Ca (B2 (Ag Cn (Ab (Aa 0) (Ab (Aa 1) (Ab (Aa 2) (Ae))))))) (JC) (Bs)
abbrev Ho:Stmt:=AU 39
theorem sc_sum_of_column:AJ ["lit","free","high","ways"] ["lit","free","high"] (defScope Ho):=⟨rfl,rfl,rfl,by decide +kernel,rfl,by decide +kernel,by decide +kernel⟩
noncomputable abbrev N1 (ED:List D→HD→Out D):MS:=Aj (AH 3 (Ag ED (Ab (Ah Bx (BM (Ab (mC (.int 0)) (Ae))) (Aa 1)) (Ab (mC (.int 1)) (Ae))))) (Av (Ag (Am CG) (Ab (A3 [none,none,some 0,some 2] (Ed (Ab (Aa 3) (Ae))) (BQ 0 1) (Bc) (Ah Bx (Aa 1) (Ag (BY GI) (Ab (Ah Bf (Aa 2) (Aa 0)) (Ab (Ah E3 (Ah E3 (Aa 3) (Aa 2)) (Aa 0)) (Ae)))))) (Ae))))
abbrev Hq:Stmt:=AU 51
theorem Zv:AJ ["board","thing"] ["board","thing"] (defScope Hq):=⟨rfl,rfl,rfl,by decide +kernel,rfl,by decide +kernel,by decide +kernel⟩
noncomputable abbrev N2 (Bt:List D→HD→Out D):MS:=Aj (Bp (B3 (Ca (B2 (Ag (BY CS) (Ab (Aa 1) (Ab (mC (.ty "tuple")) (Ae)))))) (A7 (Ah BZ (Ag (Am A9) (Ab (Aa 1) (Ae))) (mC (.int 4))))) (Av (mC (.bl false))) (Bs)) (Av (E2 (Ag Bt (Ab (FV (Aa 1) (Gm) (FT (mC (.int 2)))) (Ab (Ag (Am A9) (Ab (Aa 0) (Ae))) (Ae)))) (Ag Bt (Ab (FV (Aa 1) (FT (mC (.int 2))) (Gm)) (Ab (Ag (Am A9) (Ab (Ah Ax (Aa 0) (mC (.int 0))) (Ae))) (Ae))))))
abbrev Hr:Stmt:=AU 62
theorem sc__law_board:AJ ["_law_box_here","_law_high","_law_wide","_law_way","_law_digits","_law_dense","_law_rows","_law_number"] ["_law_box_here","_law_high","_law_wide"] (defScope Hr):=⟨rfl,rfl,rfl,by decide +kernel,rfl,by decide +kernel,by decide +kernel⟩
noncomputable abbrev N3 (Bh:List D→HD→Out D) (Fo:List D→HD→Out D):MS:=Aj (AH 3 (Ag Bh (Ab (Aa 0) (Ab (mC (.int 5)) (Ae))))) (Aj (AH 4 (Ag Fo (Ab (Aa 0) (Ae)))) (Aj (AH 5 (Ah Ax (CN (Ab (mC (.int 3)) (Ab (mC (.int 1)) (Ab (mC (.int 5)) (Ab (mC (.int 3)) (Ab (mC (.int 2)) (Ae))))))) (Aa 3))) (Aj (AH 6 (CN (Ae))) (Aj (Cq (Dg (Ab (Aa 1) (Ae))) (Bb 7) (Cb (Gg (Aa 6) (Ag (Am BN) (Ab (A3 [none,some 4,some 5] (Dg (Ab (Aa 2) (Ae))) (Bb 0) (Bc) (Ag (Am JB) (Ab (Ah Ga (Ag Bh (Ab (Aa 1) (Ab (mC (.int 6)) (Ae)))) (Aa 2)) (Ae)))) (Ae)))))) (Aj (Bp (A7 (Ah CQ (Aa 3) (mC (.int 3)))) (AH 6 (Ah Bx (CN (Ab (Ah Ax (Aa 6) (mC (.int 0))) (Ae))) (Aa 1))) (Bs)) (Av (Ag (Am BN) (Ab (Aa 6) (Ae)))))))))
abbrev Hs:Stmt:=AU 12
theorem Zw:AJ ["thing"] ["thing"] (defScope Hs):=⟨rfl,rfl,rfl,by decide +kernel,rfl,by decide +kernel,by decide +kernel⟩
noncomputable abbrev N4 (Cr:List D→HD→Out D) (Fp:List D→HD→Out D):MS:=Av (E2 (Ag Cr (Ab (Aa 0) (Ae))) (Ag (Am Es) (Ab (A3 [none] (By (Aa 0)) (Bb 0) (Bc) (Ag Fp (Ab (Aa 0) (Ae)))) (Ae))))
abbrev Ht:Stmt:=AU 16
theorem Zx:AJ ["high","wide"] ["high","wide"] (defScope Ht):=⟨rfl,rfl,rfl,by decide +kernel,rfl,by decide +kernel,by decide +kernel⟩
noncomputable abbrev N5 (EF:List D→HD→Out D):MS:=Aj (Cb (Ag EF (Ab (Aa 0) (Ab (mC (.int 1)) (Ab (mC (.int 8)) (Ae)))))) (Cb (Ag EF (Ab (Aa 1) (Ab (mC (.int 1)) (Ab (mC (.int 8)) (Ae))))))
abbrev Hu:Stmt:=AU 40
theorem Zy:AJ ["counts","free","high"] ["counts","free","high"] (defScope Hu):=⟨rfl,rfl,rfl,by decide +kernel,rfl,by decide +kernel,by decide +kernel⟩
noncomputable abbrev N6 (Fq:List D→HD→Out D):MS:=Av (Ag (Am CG) (Ab (A3 [none,some 1,some 2] (By (Aa 0)) (Bb 0) (Bc) (Ag Fq (Ab (Aa 0) (Ab (Aa 1) (Ab (Aa 2) (Ae)))))) (Ae)))
abbrev Hv:Stmt:=AU 13
theorem Zz:AJ ["thing"] ["thing"] (defScope Hv):=⟨rfl,rfl,rfl,by decide +kernel,rfl,by decide +kernel,by decide +kernel⟩
noncomputable abbrev N7 (Cr:List D→HD→Out D) (Ft:List D→HD→Out D):MS:=Aj (Bp (B3 (Ca (B2 (Ag Cr (Ab (Aa 0) (Ae))))) (Ca (B2 (Ag (Am Es) (Ab (A3 [none] (By (Aa 0)) (Bb 0) (Bc) (Ag Ft (Ab (Aa 0) (Ae)))) (Ae)))))) (Av (mC (.bl false))) (Bs)) (Av (Ag (Am Es) (Ab (A3 [none,some 0] (By (Aa 0)) (Bb 0) (Bc) (Ah CQ (Ag (Am A9) (Ab (Aa 0) (Ae))) (Ag (Am A9) (Ab (Ah Ax (Aa 1) (mC (.int 0))) (Ae))))) (Ae))))
abbrev Hw:Stmt:=AU 41
theorem ZA:AJ ["high","wide"] ["high","wide"] (defScope Hw):=⟨rfl,rfl,rfl,by decide +kernel,rfl,by decide +kernel,by decide +kernel⟩
noncomputable abbrev N8 (Fu:List D→HD→Out D) (Cw:List D→HD→Out D) (Cm:List D→HD→Out D):MS:=Aj (Cb (Ag Fu (Ab (Aa 0) (Ab (Aa 1) (Ae))))) (Av (Ag Cm (Ab (Ag Cw (Ab (Ah Bx (BM (Ab (mC (.int 0)) (Ae))) (Aa 1)) (Ab (Aa 0) (Ab (Aa 0) (Ae))))) (Ab (Ah Jw (mC (.int 1)) (Aa 0)) (Ae)))))
abbrev Hx:Stmt:=AU 14
theorem ZC:AJ ["thing"] ["thing"] (defScope Hx):=⟨rfl,rfl,rfl,by decide +kernel,rfl,by decide +kernel,by decide +kernel⟩
noncomputable abbrev N9 (Fv:List D→HD→Out D):MS:=Bp (Ca (B2 (Ag Fv (Ab (Aa 0) (Ae))))) (JC) (Bs)
abbrev Hz:Stmt:=AU 42
theorem ZD:AJ ["high","wide"] ["high","wide"] (defScope Hz):=⟨rfl,rfl,rfl,by decide +kernel,rfl,by decide +kernel,by decide +kernel⟩
noncomputable abbrev Oa (Cd:List D→HD→Out D):MS:=Av (Ag (Am (Gn GP)) (Ab (A3 [none,none] (By (BM (Ab (Ag Cd (Ab (Aa 0) (Ab (Aa 1) (Ae)))) (Ab (Ag Cd (Ab (Aa 1) (Ab (Aa 0) (Ae)))) (Ae))))) (BQ 0 1) (Bc) (Ah GH (Aa 0) (Aa 1))) (Ae)))
abbrev HA:Stmt:=AU 18
theorem ZE:AJ ["board"] ["board"] (defScope HA):=⟨rfl,rfl,rfl,by decide +kernel,rfl,by decide +kernel,by decide +kernel⟩
noncomputable abbrev Ob (AI:List D→HD→Out D):MS:=Aj (Cb (Ag AI (Ab (Aa 0) (Ae)))) (Av (Ag (Am BN) (Ab (A3 [none] (By (Aa 0)) (Bb 0) (Bc) (Ag (Am CG) (Ab (Aa 0) (Ae)))) (Ae))))
abbrev HB:Stmt:=AU 21
theorem ZF:AJ ["board","thing"] ["board","thing"] (defScope HB):=⟨rfl,rfl,rfl,by decide +kernel,rfl,by decide +kernel,by decide +kernel⟩
noncomputable abbrev Oc (AI:List D→HD→Out D) (Bt:List D→HD→Out D):MS:=Aj (Cb (Ag AI (Ab (Aa 0) (Ae)))) (Aj (Bp (B3 (Ca (B2 (Ag (BY CS) (Ab (Aa 1) (Ab (mC (.ty "tuple")) (Ae)))))) (A7 (Ah BZ (Ag (Am A9) (Ab (Aa 1) (Ae))) (mC (.int 2))))) (Av (mC (.bl false))) (Bs)) (Av (E2 (Ag Bt (Ab (Ah Ax (Aa 1) (mC (.int 0))) (Ab (Ag (Am A9) (Ab (Aa 0) (Ae))) (Ae)))) (Ag Bt (Ab (Ah Ax (Aa 1) (mC (.int 1))) (Ab (Ag (Am A9) (Ab (Ah Ax (Aa 0) (mC (.int 0))) (Ae))) (Ae)))))))
abbrev HC:Stmt:=AU 25
theorem ZG:AJ ["board"] ["board"] (defScope HC):=⟨rfl,rfl,rfl,by decide +kernel,rfl,by decide +kernel,by decide +kernel⟩
noncomputable abbrev Od (AI:List D→HD→Out D):MS:=Aj (Cb (Ag AI (Ab (Aa 0) (Ae)))) (Av (Ag (Am BN) (Ab (A3 [none,some 0] (Dg (Ab (Ag (Am A9) (Ab (Ah Ax (Aa 0) (mC (.int 0))) (Ae))) (Ae))) (Bb 0) (Bc) (Ag (Am BN) (Ab (A3 [none,some 0] (By (Aa 1)) (Bb 0) (Bc) (Ah Ax (Aa 0) (Aa 1))) (Ae)))) (Ae))))
abbrev HE:Stmt:=AU 44
theorem sc_road_of:AJ ["board","high","counts","road","number","row","free","choices","sums","turn"] ["board"] (defScope HE):=⟨rfl,rfl,rfl,by decide +kernel,rfl,by decide +kernel,by decide +kernel⟩
noncomputable abbrev Oe (AI:List D→HD→Out D) (EB:List D→HD→Out D) (Cw:List D→HD→Out D) (Cm:List D→HD→Out D):MS:=Aj (Cb (Ag AI (Ab (Aa 0) (Ae)))) (Aj (AH 1 (Ag (Am A9) (Ab (Aa 0) (Ae)))) (Aj (AH 2 (Ah Bx (BM (Ab (mC (.int 0)) (Ae))) (Ag (Am A9) (Ab (Ah Ax (Aa 0) (mC (.int 0))) (Ae))))) (Aj (AH 3 (CN (Ae))) (Aj (Cq (Ed (Ab (Aa 0) (Ae))) (BQ 4 5) (Aj (AH 6 (Ah E3 (Ah E3 (Aa 1) (Aa 4)) (mC (.int 1)))) (Aj (AH 7 (CN (Ab (Ag EB (Ab (Aa 2) (Ab (Aa 5) (Ae)))) (Ab (Ag EB (Ab (Aa 2) (Ab (A3 [none] (By (Aa 5)) (Bb 0) (Bc) (Ah E3 (mC (.int 1)) (Aa 0))) (Ae)))) (Ae))))) (Aj (AH 8 (A3 [none,some 6,some 1] (By (Aa 7)) (Bb 0) (Bc) (Ag Cw (Ab (Aa 0) (Ab (Aa 1) (Ab (Aa 2) (Ae))))))) (Aj (AH 9 (Ju (A7 (Ah Ga (Ah Ax (Aa 8) (mC (.int 1))) (Ah Ax (Aa 8) (mC (.int 0))))) (mC (.int 1)) (mC (.int 0)))) (Aj (AH 2 (Ah Ax (Aa 7) (Aa 9))) (Cb (Gg (Aa 3) (BM (Ab (Aa 9) (Ab (Ag Cm (Ab (Ah Ax (Aa 8) (Aa 9)) (Ab (Ah Jw (mC (.int 1)) (Aa 6)) (Ae)))) (Ae)))))))))))) (Av (Aa 3))))))
abbrev HF:Stmt:=AU 49
theorem ZH:AJ ["board"] ["board"] (defScope HF):=⟨rfl,rfl,rfl,by decide +kernel,rfl,by decide +kernel,by decide +kernel⟩
noncomputable abbrev Of (AI:List D→HD→Out D) (Fh:List D→HD→Out D) (Cu:List D→HD→Out D):MS:=Aj (Cb (Ag AI (Ab (Aa 0) (Ae)))) (Av (A3 [none,some 0] (By (Ag Fh (Ab (Aa 0) (Ae)))) (Bb 0) (B2 (Ag Cu (Ab (Aa 1) (Ab (Aa 0) (Ae))))) (Aa 0)))
abbrev HG:Stmt:=AU 54
theorem sc_floor_shown:AJ ["board","thing","taken","four"] ["board","thing"] (defScope HG):=⟨rfl,rfl,rfl,by decide +kernel,rfl,by decide +kernel,by decide +kernel⟩
noncomputable abbrev Og (AI:List D→HD→Out D) (Fs:List D→HD→Out D) (Cu:List D→HD→Out D) (Cv:List D→HD→Out D):MS:=Aj (Cb (Ag AI (Ab (Aa 0) (Ae)))) (Aj (Bp (Ca (B2 (Ag (BY CS) (Ab (Aa 1) (Ab (mC (.ty "list")) (Ae)))))) (Av (mC .non)) (Bs)) (Aj (AH 2 (CN (Ae))) (Aj (Cq (By (Aa 1)) (Bb 3) (Aj (Bp (B3 (Ca (B2 (Ag Fs (Ab (Aa 0) (Ab (Aa 3) (Ae)))))) (B3 (Ca (B2 (Ag Cu (Ab (Aa 0) (Ab (Aa 3) (Ae)))))) (Ca (B2 (Ag Cv (Ab (Aa 3) (Ab (Aa 2) (Ae)))))))) (Av (mC .non)) (Bs)) (Cb (Gg (Aa 2) (Aa 3))))) (Av (Ag (Am A9) (Ab (Aa 2) (Ae)))))))
abbrev HH:Stmt:=AU 17
theorem ZI:AJ ["board"] ["board"] (defScope HH):=⟨rfl,rfl,rfl,by decide +kernel,rfl,by decide +kernel,by decide +kernel⟩
noncomputable abbrev Oh (Cy:List D→HD→Out D):MS:=Av (Ag (Am CG) (Ab (Ag Cy (Ab (Aa 0) (Ae))) (Ae)))
abbrev HI:Stmt:=AU 19
theorem ZJ:AJ ["board"] ["board"] (defScope HI):=⟨rfl,rfl,rfl,by decide +kernel,rfl,by decide +kernel,by decide +kernel⟩
noncomputable abbrev Oi (Fx:List D→HD→Out D) (Cy:List D→HD→Out D):MS:=Av (Ag Cy (Ab (Ag Fx (Ab (Aa 0) (Ae))) (Ae)))
abbrev HJ:Stmt:=AU 22
theorem ZK:AJ ["board","thing"] ["board","thing"] (defScope HJ):=⟨rfl,rfl,rfl,by decide +kernel,rfl,by decide +kernel,by decide +kernel⟩
noncomputable abbrev Oj (Fw:List D→HD→Out D):MS:=Bp (Ca (B2 (Ag Fw (Ab (Aa 0) (Ab (Aa 1) (Ae)))))) (JC) (Bs)
abbrev HK:Stmt:=AU 55
theorem sc_floor_fours:AJ ["board","taken","four"] ["board"] (defScope HK):=⟨rfl,rfl,rfl,by decide +kernel,rfl,by decide +kernel,by decide +kernel⟩
noncomputable abbrev Ol (Fy:List D→HD→Out D) (Cv:List D→HD→Out D):MS:=Aj (AH 1 (CN (Ae))) (Aj (Cq (By (Ag Fy (Ab (Aa 0) (Ae)))) (Bb 2) (Bp (B2 (Ag Cv (Ab (Aa 2) (Ab (Aa 1) (Ae))))) (Cb (Gg (Aa 1) (Aa 2))) (Bs))) (Av (Aa 1)))
abbrev HL:Stmt:=AU 24
theorem sc_switched:AJ ["board","switching","rows","columns"] ["board","switching"] (defScope HL):=⟨rfl,rfl,rfl,by decide +kernel,rfl,by decide +kernel,by decide +kernel⟩
noncomputable abbrev Om (Fz:List D→HD→Out D) (Ff:List D→HD→Out D):MS:=Aj (Cb (Ag Fz (Ab (Aa 0) (Ab (Aa 1) (Ae))))) (Aj (Gd (BQ 2 3) (Aa 1)) (Av (Ag (Am BN) (Ab (A3 [none,none,some 3,some 2] (Ed (Ab (Aa 0) (Ae))) (BQ 0 1) (Bc) (Ag Ff (Ab (Aa 1) (Ab (Aa 2) (Ab (Ah (DF false) (Aa 0) (Aa 3)) (Ae)))))) (Ae)))))
abbrev HM:Stmt:=AU 28
theorem sc_lots_with_counts:AJ ["board","found","number"] ["board"] (defScope HM):=⟨rfl,rfl,rfl,by decide +kernel,rfl,by decide +kernel,by decide +kernel⟩
noncomputable abbrev On (Cz:List D→HD→Out D) (Cs:List D→HD→Out D):MS:=Aj (AH 1 (CN (Ab (BM (Ab (BM (Ae)) (Ab (Ag Cz (Ab (Aa 0) (Ae))) (Ae)))) (Ae)))) (Aj (Cq (FN (Ab (mC (.int 1)) (Ab (Ag (Am A9) (Ab (Aa 0) (Ae))) (Ae)))) (Bb 2) (AH 1 (Ah Bf (Aa 1) (A3 [none,none,some 2,some 0] (By (Aa 1)) (BQ 0 1) (Bc) (BM (Ab (Ah Bf (Aa 0) (BM (Ab (Aa 2) (Ae)))) (Ab (Ag Cs (Ab (Aa 1) (Ab (Ah Ax (Aa 3) (Aa 2)) (Ae)))) (Ae)))))))) (Av (Aa 1)))
abbrev HN:Stmt:=AU 32
theorem sc_counts_by:AJ ["board","rows","counts","number"] ["board","rows"] (defScope HN):=⟨rfl,rfl,rfl,by decide +kernel,rfl,by decide +kernel,by decide +kernel⟩
noncomputable abbrev Oo (AI:List D→HD→Out D) (Bt:List D→HD→Out D) (Cz:List D→HD→Out D) (Cs:List D→HD→Out D):MS:=Aj (Cb (Ag AI (Ab (Aa 0) (Ae)))) (Aj (Bp (Ca (B2 (Ag Bt (Ab (Aa 1) (Ab (Ag (Am A9) (Ab (Aa 0) (Ae))) (Ae)))))) (JC) (Bs)) (Aj (AH 2 (Ag Cz (Ab (Aa 0) (Ae)))) (Aj (Cq (By (Aa 1)) (Bb 3) (AH 2 (Ag Cs (Ab (Aa 2) (Ab (Ah Ax (Aa 0) (Aa 3)) (Ae)))))) (Av (Aa 2)))))
abbrev HP:Stmt:=AU 31
theorem ZL:AJ ["board"] ["board"] (defScope HP):=⟨rfl,rfl,rfl,by decide +kernel,rfl,by decide +kernel,by decide +kernel⟩
noncomputable abbrev Oq (Dk:List D→HD→Out D) (Ct:List D→HD→Out D):MS:=Av (Ag (Am (Gn GP)) (Ab (A3 [none,none,some 0] (By (Ag Dk (Ab (Aa 0) (Ae)))) (BQ 0 1) (Bc) (Ag Ct (Ab (Aa 1) (Ab (Ag (Am A9) (Ab (Aa 2) (Ae))) (Ae))))) (Ae)))
abbrev HQ:Stmt:=AU 33
theorem ZM:AJ ["board","rows"] ["board","rows"] (defScope HQ):=⟨rfl,rfl,rfl,by decide +kernel,rfl,by decide +kernel,by decide +kernel⟩
noncomputable abbrev Ot (CA:List D→HD→Out D) (Fg:List D→HD→Out D):MS:=Av (Ag Fg (Ab (Ag CA (Ab (Aa 0) (Ab (Aa 1) (Ae)))) (Ab (Ag (Am A9) (Ab (Aa 0) (Ae))) (Ae))))
abbrev HU:Stmt:=AU 34
theorem ZN:AJ ["board","rows"] ["board","rows"] (defScope HU):=⟨rfl,rfl,rfl,by decide +kernel,rfl,by decide +kernel,by decide +kernel⟩
noncomputable abbrev Ou (CA:List D→HD→Out D) (Ct:List D→HD→Out D):MS:=Av (Ag Ct (Ab (Ag CA (Ab (Aa 0) (Ab (Aa 1) (Ae)))) (Ab (Ag (Am A9) (Ab (Aa 0) (Ae))) (Ae))))
abbrev HV:Stmt:=AU 45
theorem sc_road_switching:AJ ["board","road","rows"] ["board"] (defScope HV):=⟨rfl,rfl,rfl,by decide +kernel,rfl,by decide +kernel,by decide +kernel⟩
noncomputable abbrev Ov (Co:List D→HD→Out D) (FA:List D→HD→Out D):MS:=Aj (AH 1 (Ag Co (Ab (Aa 0) (Ae)))) (Aj (AH 2 (Ag (Am BN) (Ab (A3 [none,none,none] (Ed (Ab (Aa 1) (Ae))) (Nk 0 1 2) (A7 (Ah CQ (Aa 1) (mC (.int 1)))) (Aa 0)) (Ae)))) (Av (BM (Ab (Aa 2) (Ab (Ag FA (Ab (Aa 0) (Ab (Aa 2) (Ae)))) (Ae))))))
abbrev s_law:Stmt:=AU 64
theorem sc_law:AJ ["_law_script","_law_k","_law_box_here","_law_high","_law_wide","_law_board_here","_law_many","_law_mean","_law_last","_law_road","_law_turn","_law_here","_law_rows","_law_columns","_law_end","_law_fours","_law_other"] ["_law_script"] (defScope s_law):=⟨rfl,rfl,rfl,by decide +kernel,rfl,by decide +kernel,by decide +kernel⟩
noncomputable abbrev LH (EE:List D→HD→Out D) (Bh:List D→HD→Out D) (EG:List D→HD→Out D) (Cd:List D→HD→Out D) (EJ:List D→HD→Out D) (EH:List D→HD→Out D) (Co:List D→HD→Out D) (EL:List D→HD→Out D) (DR:List D→HD→Out D) (EI:List D→HD→Out D) (EK:List D→HD→Out D) (DQ:List D→HD→Out D) (DO:List D→HD→Out D) (DP:List D→HD→Out D):MS:=Aj (Cq (Dg (Ab (Ag (BY JA) (Ab (mC (.int 1)) (Ab (Ag (BY GI) (Ab (Ag (Am A9) (Ab (Aa 0) (Ae))) (Ab (mC (.int 4)) (Ae)))) (Ae)))) (Ae))) (Bb 1) (Aj (AH 2 (Ag EE (Ab (Aa 0) (Ab (Aa 1) (Ae))))) (Aj (Ep 3 4 (Ab (Ah Bf (mC (.int 1)) (Ag Bh (Ab (Aa 2) (Ab (mC (.int 8)) (Ae))))) (Ab (Ah Bf (mC (.int 1)) (Ag Bh (Ab (Aa 2) (Ab (mC (.int 8)) (Ae))))) (Ae)))) (Aj (AH 5 (Ag EG (Ab (Aa 2) (Ab (Aa 3) (Ab (Aa 4) (Ae)))))) (Aj (Ep 6 7 (Ab (Ag EJ (Ab (Aa 5) (Ae))) (Ab (Ag Cd (Ab (Aa 3) (Ab (Aa 4) (Ae)))) (Ae)))) (Aj (Bp (B3 (A7 (Ah Ea (Aa 6) (Ag EH (Ab (Aa 3) (Ab (Aa 4) (Ae)))))) (A7 (Ah Ea (Ah Bx (Aa 6) (Ah Ax (Aa 7) (mC (.int 1)))) (Ah Ax (Aa 7) (mC (.int 0)))))) (Av (mC (.bl false))) (Bs)) (Aj (AH 8 (Aa 7)) (Aj (AH 9 (Ag Co (Ab (Aa 5) (Ae)))) (Aj (Cq (By (Aa 9)) (BQ 10 11) (Aj (Bp (A7 (Ah Ea (Ah Bx (Ah Ax (Aa 11) (mC (.int 0))) (Ah Ax (Aa 8) (mC (.int 1)))) (Ah Bx (Ah Ax (Aa 8) (mC (.int 0))) (Ah Ax (Aa 11) (mC (.int 1)))))) (Av (mC (.bl false))) (Bs)) (AH 8 (Aa 11)))) (Aj (Gd (BQ 12 13) (Ag EL (Ab (Aa 5) (Ae)))) (Aj (AH 14 (Ag EI (Ab (Ag DR (Ab (Aa 5) (Ab (BM (Ab (Aa 12) (Ab (Aa 13) (Ae)))) (Ae)))) (Ae)))) (Aj (Bp (B3 (A7 (Ah BZ (Aa 8) (BM (Ab (Aa 14) (Ab (mC (.int 1)) (Ae)))))) (B3 (A7 (Ah BZ (Ag EK (Ab (Aa 5) (Ab (Aa 12) (Ae)))) (Aa 14))) (A7 (Ah Ga (Aa 14) (Aa 6))))) (Av (mC (.bl false))) (Bs)) (Aj (Bp (A7 (Ah BZ (A3 [none,none] (Ed (Ab (Aa 9) (Ae))) (BQ 0 1) (A7 (Ah CQ (Ah Ax (Aa 1) (mC (.int 0))) (mC (.int 1)))) (Aa 0)) (Ag (Am JW) (Ab (Aa 12) (Ae))))) (Av (mC (.bl false))) (Bs)) (Aj (AH 15 (Ag DQ (Ab (Aa 5) (Ae)))) (Aj (AH 16 (Ag DR (Ab (Aa 5) (Ab (BM (Ab (Ag DO (Ab (Aa 2) (Ab (Aa 3) (Ae)))) (Ab (Ag DO (Ab (Aa 2) (Ab (Aa 4) (Ae)))) (Ae)))) (Ae))))) (Aj (Bp (B3 (A7 (Ah BZ (Ag DP (Ab (Aa 5) (Ab (Aa 15) (Ae)))) (Ag (Am A9) (Ab (Aa 15) (Ae))))) (A7 (Ah Ea (Ag (Am A9) (Ab (Aa 15) (Ae))) (Aa 6)))) (Av (mC (.bl false))) (Bs)) (Bp (B3 (A7 (Ah BZ (Ag DP (Ab (Aa 16) (Ab (J0 (Aa 15)) (Ae)))) (Ag (Am A9) (Ab (Aa 15) (Ae))))) (A7 (Ah BZ (Ag DQ (Ab (Aa 16) (Ae))) (Aa 15)))) (Av (mC (.bl false))) (Bs)))))))))))))))))) (Av (mC (.bl true)))
section
variable {P:Program} {w:World} {K:PySem.W.Frag} {mg:Str→Option Value} {base:Heap} (B:Bl mg) (et:True)
include B et
theorem ZO (f:Addr) (cdv:Value) (A:Around) (outer:List Env) (s:Shared) (H:Hp) (E:XK) (hr:Room 0 (A.deeper (envOfC "is_whole" (defScope GZ) s.heap.objs.size f cdv))):
 AE (AB (Aw P w K) P w K mg base ["thing"] "is_whole" (defScope GZ) f cdv A outer s H E) E (defBody GZ) (ND):=
 An (AD (GF (AZ GX rfl B.n_isinstance GY (Ad (Ac (pv 0)) (Ad (GK rfl B.n_int RV) (Af)))) (FL (PQ (AZ GX rfl B.n_isinstance GY (Ad (Ac (pv 0)) (Ad (GK rfl B.n_bool Ze) (Af))))))))
theorem ZP {t_MOST_LINES:Tok} (m_MOST_LINES:mg "MOST_LINES"=some (.int 8 t_MOST_LINES)) (f:Addr) (cdv:Value) (A:Around) (outer:List Env) (s:Shared) (H:Hp) (E:XK) (hr:Room 0 (A.deeper (envOfC "is_line_tuple" (defScope G0) s.heap.objs.size f cdv))):
 AE (AB (Aw P w K) P w K mg base ["thing"] "is_line_tuple" (defScope G0) f cdv A outer s H E) E (defBody G0) (NF):=
 An (AD (GF (AZ GX rfl B.n_isinstance GY (Ad (Ac (pv 0)) (Ad (GK rfl B.n_tuple CT) (Af)))) (FL (PV KY KY (Al) (AZ BF rfl B.n_len BI (Ad (Ac (pv 0)) (Af))) (Mj rfl m_MOST_LINES)))))
theorem ZQ (f:Addr) (cdv:Value) (A:Around) (outer:List Env) (s:Shared) (H:Hp) (E:XK) (hr:Room 0 (A.deeper (envOfC "row_switched" (defScope G1) s.heap.objs.size f cdv))):
 AE (AB (Aw P w K) P w K mg base ["row","columns","is_turned"] "row_switched" (defScope G1) f cdv A outer s H E) E (defBody G1) (NG):=
 An (AD (Dr Eb rfl B.n_tuple CT (Ad (BS (Nc:=["number","light","columns","is_turned"]) (cs:=[none,none,some 1,some 2]) rfl (CSc.ok ⟨rfl,by decide +kernel,by kernel_rfl,by decide +kernel,rfl,by kernel_rfl⟩) (Gp rfl B.n_enumerate (Ad (Ac (pv 0)) (Af))) (E8 rfl rfl) (fun C D cells fp s₀ H₀ pins=>⟨CO rfl (Ay (i:=0) (show (["number","light","columns","is_turned"]:List Str).Nodup from by decide +kernel) rfl (by first|exact .inl rfl|exact .inr rfl) (by first|exact .inl rfl|exact .inr rfl)) (Ay (i:=1) (show (["number","light","columns","is_turned"]:List Str).Nodup from by decide +kernel) rfl (by first|exact .inl rfl|exact .inr rfl) (by first|exact .inl rfl|exact .inr rfl)),BR,PR (BW (Gs hr.units) (FI Iz (Ac (pv 0)) (Ac (pv 2)) (by with_unfolding_all rfl)) (Ac (pv 3)) (BC _)) (Ac (pv 1)) (AC FM (Al) (Ac (pv 1)))⟩)) (Af))))
theorem ZR (f:Addr) (cdv:Value) (A:Around) (outer:List Env) (s:Shared) (H:Hp) (E:XK) (hr:Room 0 (A.deeper (envOfC "counts_with_row" (defScope G2) s.heap.objs.size f cdv))):
 AE (AB (Aw P w K) P w K mg base ["counts","row"] "counts_with_row" (defScope G2) f cdv A outer s H E) E (defBody G2) (NH):=
 An (AD (Dr Eb rfl B.n_tuple CT (Ad (BS (Nc:=["count","light"]) (cs:=[none,none]) rfl (CSc.ok ⟨rfl,by decide +kernel,by kernel_rfl,by decide +kernel,rfl,by kernel_rfl⟩) (Q6 rfl B.n_zip (Ad (Ac (pv 0)) (Ad (Ac (pv 1)) (Af)))) (E8 rfl rfl) (fun C D cells fp s₀ H₀ pins=>⟨CO rfl (Ay (i:=0) (show (["count","light"]:List Str).Nodup from by decide +kernel) rfl (by first|exact .inl rfl|exact .inr rfl) (by first|exact .inl rfl|exact .inr rfl)) (Ay (i:=1) (show (["count","light"]:List Str).Nodup from by decide +kernel) rfl (by first|exact .inl rfl|exact .inr rfl) (by first|exact .inl rfl|exact .inr rfl)),BR,AC FM (AC BP (Ac (pv 0)) (Al)) (AC Cj (Al) (Ac (pv 1)))⟩)) (Af))))
theorem ZS (f:Addr) (cdv:Value) (A:Around) (outer:List Env) (s:Shared) (H:Hp) (E:XK) (hr:Room 0 (A.deeper (envOfC "fewest_lit" (defScope G3) s.heap.objs.size f cdv))):
 AE (AB (Aw P w K) P w K mg base ["counts","high"] "fewest_lit" (defScope G3) f cdv A outer s H E) E (defBody G3) (NI):=
 An (AD (AZ (JI rfl) rfl B.n_sum J2 (Ad (BS (Nc:=["count","high"]) (cs:=[none,some 1]) rfl (CSc.ok ⟨rfl,by decide +kernel,by kernel_rfl,by decide +kernel,rfl,by kernel_rfl⟩) (Cc (Ac (pv 0))) (Dt rfl) (fun C D cells fp s₀ H₀ pins=>⟨Ay (i:=0) (show (["count","high"]:List Str).Nodup from by decide +kernel) rfl (by first|exact .inl rfl|exact .inr rfl) (by first|exact .inl rfl|exact .inr rfl),BR,AZ (Mn rfl) rfl B.n_min J1 (Ad (Ac (pv 0)) (Ad (AC FM (Ac (pv 1)) (Ac (pv 0))) (Af)))⟩)) (Af))))
theorem ZT (f:Addr) (cdv:Value) (A:Around) (outer:List Env) (s:Shared) (H:Hp) (E:XK) (hr:Room 0 (A.deeper (envOfC "fuller_columns" (defScope G4) s.heap.objs.size f cdv))):
 AE (AB (Aw P w K) P w K mg base ["counts","high"] "fuller_columns" (defScope G4) f cdv A outer s H E) E (defBody G4) (NJ):=
 An (AD (Dr Eb rfl B.n_tuple CT (Ad (BS (Nc:=["number","count","high"]) (cs:=[none,none,some 1]) rfl (CSc.ok ⟨rfl,by decide +kernel,by kernel_rfl,by decide +kernel,rfl,by kernel_rfl⟩) (Gp rfl B.n_enumerate (Ad (Ac (pv 0)) (Af))) (E8 rfl rfl) (fun C D cells fp s₀ H₀ pins=>⟨CO rfl (Ay (i:=0) (show (["number","count","high"]:List Str).Nodup from by decide +kernel) rfl (by first|exact .inl rfl|exact .inr rfl) (by first|exact .inl rfl|exact .inr rfl)) (Ay (i:=1) (show (["number","count","high"]:List Str).Nodup from by decide +kernel) rfl (by first|exact .inl rfl|exact .inr rfl) (by first|exact .inl rfl|exact .inr rfl)),JG (BW Iv (AC Cj (Al) (Ac (pv 1))) (Ac (pv 2)) (BC _)),Ac (pv 0)⟩)) (Af))))
theorem ZU (f:Addr) (cdv:Value) (A:Around) (outer:List Env) (s:Shared) (H:Hp) (E:XK) (hr:Room 0 (A.deeper (envOfC "ways_with_column" (defScope G5) s.heap.objs.size f cdv))):
 AE (AB (Aw P w K) P w K mg base ["ways","count","high","more","lit","many"] "ways_with_column" (defScope G5) f cdv A outer s H E) E (defBody G5) (NK):=
 Ap (A8 (i:=3) sc_ways_with_column.nd rfl (by first|exact .inl rfl|exact .inr rfl) (AC Cj (DD (Ad (Al) (Af))) (AC BP (AZ BF rfl B.n_len BI (Ad (Ac (pv 0)) (Af))) (Ac (pv 2))))) (Ap (DI Dv rfl (Gp rfl B.n_enumerate (Ad (Ac (pv 0)) (Af))) (IA (CO rfl (Ay (i:=4) (sc_ways_with_column.nd) rfl (by first|exact .inl rfl|exact .inr rfl) (by first|exact .inl rfl|exact .inr rfl)) (Ay (i:=5) (sc_ways_with_column.nd) rfl (by first|exact .inl rfl|exact .inr rfl) (by first|exact .inl rfl|exact .inr rfl)))) (Ap (QV (Ac (pv 3)) (AC BP (Ac (pv 4)) (Ac (pv 1))) (Ac (pv 5))) (An (QV (Ac (pv 3)) (AC FM (AC BP (Ac (pv 4)) (Ac (pv 2))) (Ac (pv 1))) (Ac (pv 5)))))) (An (AD (Ac (pv 3)))))
theorem ZV (f:Addr) (cdv:Value) (A:Around) (outer:List Env) (s:Shared) (H:Hp) (E:XK) (hr:Room 0 (A.deeper (envOfC "fraction" (defScope G6) s.heap.objs.size f cdv))):
 AE (AB (Aw P w K) P w K mg base ["top","bottom","divisor","rest"] "fraction" (defScope G6) f cdv A outer s H E) E (defBody G6) (NL):=
 Ap (JD (i:=2) (j:=3) rfl sc_fraction.nd rfl rfl (by decide) rfl rfl (Ad (Ac (pv 1)) (Ad (Ac (pv 0)) (Af))) (by first |rfl |with_unfolding_all rfl)) (Ap (XJ Dv (BW Iv (Ac (pv 3)) (Al) (BC _)) (An (JD (i:=2) (j:=3) rfl sc_fraction.nd rfl rfl (by decide) rfl rfl (Ad (Ac (pv 3)) (Ad (AC Iw (Ac (pv 2)) (Ac (pv 3))) (Af))) (by first |rfl |with_unfolding_all rfl)))) (An (AD (Dc (Ad (AC K0 (Ac (pv 0)) (Ac (pv 2))) (Ad (AC K0 (Ac (pv 1)) (Ac (pv 2))) (Af)))))))
theorem ZW (f:Addr) (cdv:Value) (A:Around) (outer:List Env) (s:Shared) (H:Hp) (E:XK) (hr:Room 0 (A.deeper (envOfC "with_lights" (defScope G7) s.heap.objs.size f cdv))):
 AE (AB (Aw P w K) P w K mg base ["counts","lights"] "with_lights" (defScope G7) f cdv A outer s H E) E (defBody G7) (NM):=
 An (AD (Dr Eb rfl B.n_tuple CT (Ad (BS (Nc:=["count","light"]) (cs:=[none,none]) rfl (CSc.ok ⟨rfl,by decide +kernel,by kernel_rfl,by decide +kernel,rfl,by kernel_rfl⟩) (Q6 rfl B.n_zip (Ad (Ac (pv 0)) (Ad (Ac (pv 1)) (Af)))) (E8 rfl rfl) (fun C D cells fp s₀ H₀ pins=>⟨CO rfl (Ay (i:=0) (show (["count","light"]:List Str).Nodup from by decide +kernel) rfl (by first|exact .inl rfl|exact .inr rfl) (by first|exact .inl rfl|exact .inr rfl)) (Ay (i:=1) (show (["count","light"]:List Str).Nodup from by decide +kernel) rfl (by first|exact .inl rfl|exact .inr rfl) (by first|exact .inl rfl|exact .inr rfl)),BR,AC BP (Ac (pv 0)) (Ac (pv 1))⟩)) (Af))))
theorem ZX (f:Addr) (cdv:Value) (A:Around) (outer:List Env) (s:Shared) (H:Hp) (E:XK) (hr:Room 0 (A.deeper (envOfC "all_fours" (defScope G8) s.heap.objs.size f cdv))):
 AE (AB (Aw P w K) P w K mg base ["board","high","wide"] "all_fours" (defScope G8) f cdv A outer s H E) E (defBody G8) (NO):=
 Ap (A8 (i:=1) sc_all_fours.nd rfl (by first|exact .inl rfl|exact .inr rfl) (AZ BF rfl B.n_len BI (Ad (Ac (pv 0)) (Af)))) (Ap (A8 (i:=2) sc_all_fours.nd rfl (by first|exact .inl rfl|exact .inr rfl) (AZ BF rfl B.n_len BI (Ad (Bj (Ac (pv 0)) (Al) (fun _ _=>rfl)) (Af)))) (An (AD (YQ (Nc:=["a","b","c","e","high","wide"]) (cs:=[none,none,none,none,some 1,some 2]) (is:=[0]) (js:=[1,2,3]) rfl (CSc.ok ⟨rfl,by decide +kernel,by kernel_rfl,by decide +kernel,rfl,by kernel_rfl⟩) (FO rfl B.n_range (Ad (Ac (pv 1)) (Af))) (fun g e=>by cases e<;>rfl) (by decide) (Lq (i:=0) (js:=[1,2,3]) (by decide)) (fun C D cells fp s₀ H₀ pins ao=>⟨Ay (i:=0) (show (["a","b","c","e","high","wide"]:List Str).Nodup from by decide +kernel) rfl (by first|exact .inl rfl|exact .inr rfl) (by first|exact .inl rfl|exact .inr rfl),BR,Nn (is:=[1]) (js:=[2,3]) rfl rfl rfl (fun g e=>by cases e<;>rfl) (Mo rfl B.n_range (Ad (AC BP (Ac (pv 0)) (Al)) (Ad (Ac (pv 4)) (Af)))) (Ay (i:=1) (show (["a","b","c","e","high","wide"]:List Str).Nodup from by decide +kernel) rfl (by first|exact .inl rfl|exact .inr rfl) (by first|exact .inl rfl|exact .inr rfl)) (Lq (i:=1) (js:=[2,3]) (by decide)) (BR) (Nn (is:=[2]) (js:=[3]) rfl rfl rfl (fun g e=>by cases e<;>rfl) (FO rfl B.n_range (Ad (Ac (pv 5)) (Af))) (Ay (i:=2) (show (["a","b","c","e","high","wide"]:List Str).Nodup from by decide +kernel) rfl (by first|exact .inl rfl|exact .inr rfl) (by first|exact .inl rfl|exact .inr rfl)) (Lq (i:=2) (js:=[3]) (by decide)) (BR) (Nn (is:=[3]) (js:=[]) rfl rfl rfl (fun g e=>by cases e<;>rfl) (Mo rfl B.n_range (Ad (AC BP (Ac (pv 2)) (Al)) (Ad (Ac (pv 5)) (Af)))) (Ay (i:=3) (show (["a","b","c","e","high","wide"]:List Str).Nodup from by decide +kernel) rfl (by first|exact .inl rfl|exact .inr rfl) (by first|exact .inl rfl|exact .inr rfl)) (Lq (i:=3) (js:=[]) (by decide)) (BR) (YN ao rfl rfl (Dc (Ad (Ac (pv 0)) (Ad (Ac (pv 1)) (Ad (Ac (pv 2)) (Ad (Ac (pv 3)) (Af)))))))))⟩)))))
theorem ZY (f:Addr) (cdv:Value) (A:Around) (outer:List Env) (s:Shared) (H:Hp) (E:XK) (hr:Room 0 (A.deeper (envOfC "is_odd_four" (defScope G9) s.heap.objs.size f cdv))):
 AE (AB (Aw P w K) P w K mg base ["board","four","a","b","c","e"] "is_odd_four" (defScope G9) f cdv A outer s H E) E (defBody G9) (NP):=
 Ap (K2 (Ac (pv 1)) (Yi (is:=[2,3,4,5]) (KI rfl (EW (Ay (i:=2) (sc_is_odd_four.nd) rfl (by first|exact .inl rfl|exact .inr rfl) (by first|exact .inl rfl|exact .inr rfl)) (EW (Ay (i:=3) (sc_is_odd_four.nd) rfl (by first|exact .inl rfl|exact .inr rfl) (by first|exact .inl rfl|exact .inr rfl)) (EW (Ay (i:=4) (sc_is_odd_four.nd) rfl (by first|exact .inl rfl|exact .inr rfl) (by first|exact .inl rfl|exact .inr rfl)) (EW (Ay (i:=5) (sc_is_odd_four.nd) rfl (by first|exact .inl rfl|exact .inr rfl) (by first|exact .inl rfl|exact .inr rfl)) (KH)))))))) (An (AD (FI (Gs hr.units) (AC Iw (AC BP (AC BP (AC BP (Bj (Bj (Ac (pv 0)) (Ac (pv 2)) (fun _ _=>rfl)) (Ac (pv 4)) (fun _ _=>rfl)) (Bj (Bj (Ac (pv 0)) (Ac (pv 2)) (fun _ _=>rfl)) (Ac (pv 5)) (fun _ _=>rfl))) (Bj (Bj (Ac (pv 0)) (Ac (pv 3)) (fun _ _=>rfl)) (Ac (pv 4)) (fun _ _=>rfl))) (Bj (Bj (Ac (pv 0)) (Ac (pv 3)) (fun _ _=>rfl)) (Ac (pv 5)) (fun _ _=>rfl))) (Al)) (Al) (BC _))))
theorem ZZ (f:Addr) (cdv:Value) (A:Around) (outer:List Env) (s:Shared) (H:Hp) (E:XK) (hr:Room 0 (A.deeper (envOfC "have_common_light" (defScope Ha) s.heap.objs.size f cdv))):
 AE (AB (Aw P w K) P w K mg base ["one","other"] "have_common_light" (defScope Ha) f cdv A outer s H E) E (defBody Ha) (NQ):=
 An (AD (GF (PP (FI Iz (Bj (Ac (pv 0)) (Al) (fun _ _=>rfl)) (IZ (Ac (pv 1)) (IP) (IQ (Al))) (by with_unfolding_all rfl)) (FL (FI Iz (Bj (Ac (pv 0)) (Al) (fun _ _=>rfl)) (IZ (Ac (pv 1)) (IP) (IQ (Al))) (by with_unfolding_all rfl)))) (FL (PP (FI Iz (Bj (Ac (pv 0)) (Al) (fun _ _=>rfl)) (IZ (Ac (pv 1)) (IQ (Al)) (IP)) (by with_unfolding_all rfl)) (FL (FI Iz (Bj (Ac (pv 0)) (Al) (fun _ _=>rfl)) (IZ (Ac (pv 1)) (IQ (Al)) (IP)) (by with_unfolding_all rfl)))))))
theorem Z0 (f:Addr) (cdv:Value) (A:Around) (outer:List Env) (s:Shared) (H:Hp) (E:XK) (hr:Room 0 (A.deeper (envOfC "_law_cell" (defScope Hb) s.heap.objs.size f cdv))):
 AE (AB (Aw P w K) P w K mg base ["_law_script","_law_k"] "_law_cell" (defScope Hb) f cdv A outer s H E) E (defBody Hb) (LF):=
 Ap (B5 (BW Iu (Ac (pv 1)) (AZ BF rfl B.n_len BI (Ad (Ac (pv 0)) (Af))) (BC _)) (An (AD (Bj (Ac (pv 0)) (Ac (pv 1)) (fun _ _=>rfl)))) (B4)) (An (AD (AC BP (AC Cj (Al) (Ac (pv 1))) (Al))))
theorem Z1 (f:Addr) (cdv:Value) (A:Around) (outer:List Env) (s:Shared) (H:Hp) (E:XK) (hr:Room 0 (A.deeper (envOfC "_law_mix" (defScope Hc) s.heap.objs.size f cdv))):
 AE (AB (Aw P w K) P w K mg base ["_law_cell_here","_law_k","_law_number"] "_law_mix" (defScope Hc) f cdv A outer s H E) E (defBody Hc) (NR):=
 Ap (A8 (i:=2) sc__law_mix.nd rfl (by first|exact .inl rfl|exact .inr rfl) (AC BP (AC Cj (AC BP (Ac (pv 0)) (Al)) (Al)) (AC Cj (Al) (Ac (pv 1))))) (Ap (A8 (i:=2) sc__law_mix.nd rfl (by first|exact .inl rfl|exact .inr rfl) (AC BP (AC Iw (AC Cj (Ac (pv 2)) (Ac (pv 2))) (Al)) (Ac (pv 1)))) (An (AD (AC Iw (AC Cj (Ac (pv 2)) (AC BP (Ac (pv 2)) (Al))) (Al)))))
theorem Z2 (f:Addr) (cdv:Value) (A:Around) (outer:List Env) (s:Shared) (H:Hp) (E:XK) (hr:Room 0 (A.deeper (envOfC "_law_take" (defScope Hd) s.heap.objs.size f cdv))):
 AE (AB (Aw P w K) P w K mg base ["_law_box_here","_law_many","_law_left","_law_digit"] "_law_take" (defScope Hd) f cdv A outer s H E) E (defBody Hd) (NS):=
 Ap (K2 (AZ Wc rfl B.n_divmod Zf (Ad (Bj (Ac (pv 0)) (Al) (fun _ _=>rfl)) (Ad (Ac (pv 1)) (Af)))) (IA (CO rfl (Ay (i:=2) (sc__law_take.nd) rfl (by first|exact .inl rfl|exact .inr rfl) (by first|exact .inl rfl|exact .inr rfl)) (Ay (i:=3) (sc__law_take.nd) rfl (by first|exact .inl rfl|exact .inr rfl) (by first|exact .inl rfl|exact .inr rfl))))) (Ap (Wy (Ac (pv 0)) (Al) (Ac (pv 2))) (An (AD (Ac (pv 3)))))
theorem Z3 {B0:List D→HD→Out D} (c_is_whole:CaE P w K mg base "is_whole" 1 B0) (f:Addr) (cdv:Value) (A:Around) (outer:List Env) (s:Shared) (H:Hp) (E:XK) (hr:Room 1 (A.deeper (envOfC "is_between" (defScope He) s.heap.objs.size f cdv))):
 AE (AB (Aw P w K) P w K mg base ["thing","least","most"] "is_between" (defScope He) f cdv A outer s H E) E (defBody He) (LG B0):=
 An (AD (GF (Ao c_is_whole hr As (Ad (Ac (pv 0)) (Af))) (FL (PV KY KY (Ac (pv 1)) (Ac (pv 0)) (Ac (pv 2))))))
theorem Z4 {B0:List D→HD→Out D} (c_is_whole:CaE P w K mg base "is_whole" 1 B0) (f:Addr) (cdv:Value) (A:Around) (outer:List Env) (s:Shared) (H:Hp) (E:XK) (hr:Room 1 (A.deeper (envOfC "is_lot" (defScope Hf) s.heap.objs.size f cdv))):
 AE (AB (Aw P w K) P w K mg base ["thing","size","last","number"] "is_lot" (defScope Hf) f cdv A outer s H E) E (defBody Hf) (NT B0):=
 Ap (B5 (CZ (CM (AZ GX rfl B.n_isinstance GY (Ad (Ac (pv 0)) (Ad (GK rfl B.n_tuple CT) (Af)))))) (An (AD (DB))) (B4)) (Ap (A8 (i:=2) sc_is_lot.nd rfl (by first|exact .inl rfl|exact .inr rfl) (WE (Al))) (Ap (DI Dv rfl (Cc (Ac (pv 0))) (E5 (Ay (i:=3) (sc_is_lot.nd) rfl (by first|exact .inl rfl|exact .inr rfl) (by first|exact .inl rfl|exact .inr rfl))) (Ap (B5 (FK (Eo (CZ (CM (Ao c_is_whole hr As (Ad (Ac (pv 3)) (Af))))) (FJ (CZ (V3 Iu Iu (Ac (pv 2)) (Ac (pv 3)) (Ac (pv 1))))))) (An (AD (DB))) (B4)) (An (A8 (i:=2) sc_is_lot.nd rfl (by first|exact .inl rfl|exact .inr rfl) (Ac (pv 3)))))) (An (AD (DB)))))
theorem Z5 {EA:List D→HD→Out D} (c_ways_with_column:CaE P w K mg base "ways_with_column" 1 EA) (f:Addr) (cdv:Value) (A:Around) (outer:List Env) (s:Shared) (H:Hp) (E:XK) (hr:Room 1 (A.deeper (envOfC "ways_of_counts" (defScope Hg) s.heap.objs.size f cdv))):
 AE (AB (Aw P w K) P w K mg base ["counts","high","ways","count"] "ways_of_counts" (defScope Hg) f cdv A outer s H E) E (defBody Hg) (NU EA):=
 Ap (A8 (i:=2) sc_ways_of_counts.nd rfl (by first|exact .inl rfl|exact .inr rfl) (DD (Ad (Al) (Af)))) (Ap (DI Dv rfl (Cc (Ac (pv 0))) (E5 (Ay (i:=3) (sc_ways_of_counts.nd) rfl (by first|exact .inl rfl|exact .inr rfl) (by first|exact .inl rfl|exact .inr rfl))) (An (A8 (i:=2) sc_ways_of_counts.nd rfl (by first|exact .inl rfl|exact .inr rfl) (Ao c_ways_with_column hr As (Ad (Ac (pv 2)) (Ad (Ac (pv 3)) (Ad (Ac (pv 1)) (Af)))))))) (An (AD (Ac (pv 2)))))
theorem Z6 {Fi:List D→HD→Out D} (c_have_common_light:CaE P w K mg base "have_common_light" 1 Fi) (f:Addr) (cdv:Value) (A:Around) (outer:List Env) (s:Shared) (H:Hp) (E:XK) (hr:Room 1 (A.deeper (envOfC "is_apart" (defScope Hh) s.heap.objs.size f cdv))):
 AE (AB (Aw P w K) P w K mg base ["four","others"] "is_apart" (defScope Hh) f cdv A outer s H E) E (defBody Hh) (NV Fi):=
 An (AD (PQ (AZ (XO rfl) rfl B.n_any Zd (Ad (BS (Nc:=["other","four"]) (cs:=[none,some 0]) rfl (CSc.ok ⟨rfl,by decide +kernel,by kernel_rfl,by decide +kernel,rfl,by kernel_rfl⟩) (Cc (Ac (pv 1))) (Dt rfl) (fun C D cells fp s₀ H₀ pins=>⟨Ay (i:=0) (show (["other","four"]:List Str).Nodup from by decide +kernel) rfl (by first|exact .inl rfl|exact .inr rfl) (by first|exact .inl rfl|exact .inr rfl),BR,Ao c_have_common_light hr Ey (Ad (Ac (pv 1)) (Ad (Ac (pv 0)) (Af)))⟩)) (Af)))))
theorem Z7 {Fj:List D→HD→Out D} {Fm:List D→HD→Out D} (c__law_cell:CaE P w K mg base "_law_cell" 1 Fj) (c__law_mix:CaE P w K mg base "_law_mix" 1 Fm) (f:Addr) (cdv:Value) (A:Around) (outer:List Env) (s:Shared) (H:Hp) (E:XK) (hr:Room 1 (A.deeper (envOfC "_law_box" (defScope Hi) s.heap.objs.size f cdv))):
 AE (AB (Aw P w K) P w K mg base ["_law_script","_law_k","_law_here","_law_number","_law_j"] "_law_box" (defScope Hi) f cdv A outer s H E) E (defBody Hi) (NW Fj Fm):=
 Ap (A8 (i:=2) sc__law_box.nd rfl (by first|exact .inl rfl|exact .inr rfl) (Ao c__law_cell hr As (Ad (Ac (pv 0)) (Ad (Ac (pv 1)) (Af))))) (Ap (B5 (BW (Gs hr.units) (AC Iw (Ac (pv 2)) (Al)) (Al) (BC _)) (An (AD (DD (Ad (AC K0 (Ac (pv 2)) (Al)) (Af))))) (B4)) (Ap (A8 (i:=3) sc__law_box.nd rfl (by first|exact .inl rfl|exact .inr rfl) (Al)) (Ap (DI Dv rfl (FO rfl B.n_range (Ad (Al) (Af))) (E5 (Ay (i:=4) (sc__law_box.nd) rfl (by first|exact .inl rfl|exact .inr rfl) (by first|exact .inl rfl|exact .inr rfl))) (An (A8 (i:=3) sc__law_box.nd rfl (by first|exact .inl rfl|exact .inr rfl) (AC BP (AC Cj (Ac (pv 3)) (Al)) (Ao c__law_mix hr As (Ad (Ac (pv 2)) (Ad (Ac (pv 4)) (Af)))))))) (An (AD (DD (Ad (Ac (pv 3)) (Af))))))))
theorem Z8 {Bh:List D→HD→Out D} (c__law_take:CaE P w K mg base "_law_take" 1 Bh) (f:Addr) (cdv:Value) (A:Around) (outer:List Env) (s:Shared) (H:Hp) (E:XK) (hr:Room 1 (A.deeper (envOfC "_law_wide_box" (defScope Hj) s.heap.objs.size f cdv))):
 AE (AB (Aw P w K) P w K mg base ["_law_box_here","_law_number","_law_many","_law_j"] "_law_wide_box" (defScope Hj) f cdv A outer s H E) E (defBody Hj) (NX Bh):=
 Ap (JD (i:=1) (j:=2) rfl sc__law_wide_box.nd rfl rfl (by decide) rfl rfl (Ad (Ao c__law_take hr As (Ad (Ac (pv 0)) (Ad (Al) (Af)))) (Ad (Al) (Af))) (by first |rfl |with_unfolding_all rfl)) (Ap (DI Dv rfl (FO rfl B.n_range (Ad (Al) (Af))) (E5 (Ay (i:=3) (sc__law_wide_box.nd) rfl (by first|exact .inl rfl|exact .inr rfl) (by first|exact .inl rfl|exact .inr rfl))) (Ap (A8 (i:=1) sc__law_wide_box.nd rfl (by first|exact .inl rfl|exact .inr rfl) (AC Iw (AC BP (AC BP (AC Cj (Ac (pv 1)) (Al)) (Al)) (Ac (pv 3))) (Al))) (An (A8 (i:=2) sc__law_wide_box.nd rfl (by first|exact .inl rfl|exact .inr rfl) (AC BP (AC Cj (Ac (pv 2)) (Al)) (Ac (pv 1))))))) (An (AD (DD (Ad (Ac (pv 2)) (Af))))))
theorem Z9 {Bh:List D→HD→Out D} (c__law_take:CaE P w K mg base "_law_take" 1 Bh) (f:Addr) (cdv:Value) (A:Around) (outer:List Env) (s:Shared) (H:Hp) (E:XK) (hr:Room 1 (A.deeper (envOfC "_law_lot" (defScope Hk) s.heap.objs.size f cdv))):
 AE (AB (Aw P w K) P w K mg base ["_law_box_here","_law_size"] "_law_lot" (defScope Hk) f cdv A outer s H E) E (defBody Hk) (NY Bh):=
 An (AD (Dr Eb rfl B.n_tuple CT (Ad (BS (Nc:=["_law_number","_law_box_here"]) (cs:=[none,some 0]) rfl (CSc.ok ⟨rfl,by decide +kernel,by kernel_rfl,by decide +kernel,rfl,by kernel_rfl⟩) (FO rfl B.n_range (Ad (Ac (pv 1)) (Af))) (Dt rfl) (fun C D cells fp s₀ H₀ pins=>⟨Ay (i:=0) (show (["_law_number","_law_box_here"]:List Str).Nodup from by decide +kernel) rfl (by first|exact .inl rfl|exact .inr rfl) (by first|exact .inl rfl|exact .inr rfl),JG (BW (Gs hr.units) (Ao c__law_take hr Ey (Ad (Ac (pv 1)) (Ad (Al) (Af)))) (Al) (BC _)),Ac (pv 0)⟩)) (Af))))
theorem Zaa {Cn:List D→HD→Out D} (c_is_between:CaE P w K mg base "is_between" 2 Cn) (f:Addr) (cdv:Value) (A:Around) (outer:List Env) (s:Shared) (H:Hp) (E:XK) (hr:Room 2 (A.deeper (envOfC "is_light" (defScope Hl) s.heap.objs.size f cdv))):
 AE (AB (Aw P w K) P w K mg base ["thing"] "is_light" (defScope Hl) f cdv A outer s H E) E (defBody Hl) (NZ Cn):=
 An (AD (Ao c_is_between hr As (Ad (Ac (pv 0)) (Ad (Al) (Ad (Al) (Af))))))
theorem Zab {Cn:List D→HD→Out D} (c_is_between:CaE P w K mg base "is_between" 2 Cn) (f:Addr) (cdv:Value) (A:Around) (outer:List Env) (s:Shared) (H:Hp) (E:XK) (hr:Room 2 (A.deeper (envOfC "need_number" (defScope Hm) s.heap.objs.size f cdv))):
 AE (AB (Aw P w K) P w K mg base ["thing","least","most"] "need_number" (defScope Hm) f cdv A outer s H E) E (defBody Hm) (N0 Cn):=
 An (B5 (CZ (CM (Ao c_is_between hr As (Ad (Ac (pv 0)) (Ad (Ac (pv 1)) (Ad (Ac (pv 2)) (Af))))))) (An (K1)) (B4))
theorem Zac {ED:List D→HD→Out D} (c_ways_of_counts:CaE P w K mg base "ways_of_counts" 2 ED) (f:Addr) (cdv:Value) (A:Around) (outer:List Env) (s:Shared) (H:Hp) (E:XK) (hr:Room 2 (A.deeper (envOfC "sum_of_column" (defScope Ho) s.heap.objs.size f cdv))):
 AE (AB (Aw P w K) P w K mg base ["lit","free","high","ways"] "sum_of_column" (defScope Ho) f cdv A outer s H E) E (defBody Ho) (N1 ED):=
 Ap (A8 (i:=3) sc_sum_of_column.nd rfl (by first|exact .inl rfl|exact .inr rfl) (Ao c_ways_of_counts hr As (Ad (AC Cj (Dc (Ad (Al) (Af))) (Ac (pv 1))) (Ad (Al) (Af))))) (An (AD (AZ (JI rfl) rfl B.n_sum J2 (Ad (BS (Nc:=["more","many","lit","high"]) (cs:=[none,none,some 0,some 2]) rfl (CSc.ok ⟨rfl,by decide +kernel,by kernel_rfl,by decide +kernel,rfl,by kernel_rfl⟩) (Gp rfl B.n_enumerate (Ad (Ac (pv 3)) (Af))) (E8 rfl rfl) (fun C D cells fp s₀ H₀ pins=>⟨CO rfl (Ay (i:=0) (show (["more","many","lit","high"]:List Str).Nodup from by decide +kernel) rfl (by first|exact .inl rfl|exact .inr rfl) (by first|exact .inl rfl|exact .inr rfl)) (Ay (i:=1) (show (["more","many","lit","high"]:List Str).Nodup from by decide +kernel) rfl (by first|exact .inl rfl|exact .inr rfl) (by first|exact .inl rfl|exact .inr rfl)),BR,AC Cj (Ac (pv 1)) (AZ (Mn rfl) rfl B.n_min J1 (Ad (AC BP (Ac (pv 2)) (Ac (pv 0))) (Ad (AC FM (AC FM (Ac (pv 3)) (Ac (pv 2))) (Ac (pv 0))) (Af))))⟩)) (Af)))))
theorem Zad {Bt:List D→HD→Out D} (c_is_lot:CaE P w K mg base "is_lot" 2 Bt) (f:Addr) (cdv:Value) (A:Around) (outer:List Env) (s:Shared) (H:Hp) (E:XK) (hr:Room 2 (A.deeper (envOfC "is_four" (defScope Hq) s.heap.objs.size f cdv))):
 AE (AB (Aw P w K) P w K mg base ["board","thing"] "is_four" (defScope Hq) f cdv A outer s H E) E (defBody Hq) (N2 Bt):=
 Ap (B5 (FK (Eo (CZ (CM (AZ GX rfl B.n_isinstance GY (Ad (Ac (pv 1)) (Ad (GK rfl B.n_tuple CT) (Af)))))) (FJ (BW (Gu hr.units) (AZ BF rfl B.n_len BI (Ad (Ac (pv 1)) (Af))) (Al) (BC _))))) (An (AD (DB))) (B4)) (An (AD (GF (Ao c_is_lot hr As (Ad (IZ (Ac (pv 1)) (IP) (IQ (Al))) (Ad (AZ BF rfl B.n_len BI (Ad (Ac (pv 0)) (Af))) (Af)))) (FL (Ao c_is_lot hr As (Ad (IZ (Ac (pv 1)) (IQ (Al)) (IP)) (Ad (AZ BF rfl B.n_len BI (Ad (Bj (Ac (pv 0)) (Al) (fun _ _=>rfl)) (Af))) (Af))))))))
theorem Zae {Bh:List D→HD→Out D} {Fo:List D→HD→Out D} (c__law_take:CaE P w K mg base "_law_take" 1 Bh) (c__law_wide_box:CaE P w K mg base "_law_wide_box" 2 Fo) (f:Addr) (cdv:Value) (A:Around) (outer:List Env) (s:Shared) (H:Hp) (E:XK) (hr:Room 2 (A.deeper (envOfC "_law_board" (defScope Hr) s.heap.objs.size f cdv))):
 AE (AB (Aw P w K) P w K mg base ["_law_box_here","_law_high","_law_wide","_law_way","_law_digits","_law_dense","_law_rows","_law_number"] "_law_board" (defScope Hr) f cdv A outer s H E) E (defBody Hr) (N3 Bh Fo):=
 Ap (A8 (i:=3) sc__law_board.nd rfl (by first|exact .inl rfl|exact .inr rfl) (Ao c__law_take hr As (Ad (Ac (pv 0)) (Ad (Al) (Af))))) (Ap (A8 (i:=4) sc__law_board.nd rfl (by first|exact .inl rfl|exact .inr rfl) (Ao c__law_wide_box hr As (Ad (Ac (pv 0)) (Af)))) (Ap (A8 (i:=5) sc__law_board.nd rfl (by first|exact .inl rfl|exact .inr rfl) (Bj (DD (Ad (Al) (Ad (Al) (Ad (Al) (Ad (Al) (Ad (Al) (Af))))))) (Ac (pv 3)) (fun _ _=>rfl))) (Ap (A8 (i:=6) sc__law_board.nd rfl (by first|exact .inl rfl|exact .inr rfl) (DD (Af))) (Ap (DI Dv rfl (FO rfl B.n_range (Ad (Ac (pv 1)) (Af))) (E5 (Ay (i:=7) (sc__law_board.nd) rfl (by first|exact .inl rfl|exact .inr rfl) (by first|exact .inl rfl|exact .inr rfl))) (An (Df (K5 (Ac (pv 6)) (Dr Eb rfl B.n_tuple CT (Ad (BS (Nc:=["_law_place","_law_digits","_law_dense"]) (cs:=[none,some 4,some 5]) rfl (CSc.ok ⟨rfl,by decide +kernel,by kernel_rfl,by decide +kernel,rfl,by kernel_rfl⟩) (FO rfl B.n_range (Ad (Ac (pv 2)) (Af))) (Dt rfl) (fun C D cells fp s₀ H₀ pins=>⟨Ay (i:=0) (show (["_law_place","_law_digits","_law_dense"]:List Str).Nodup from by decide +kernel) rfl (by first|exact .inl rfl|exact .inr rfl) (by first|exact .inl rfl|exact .inr rfl),BR,Dr Wg rfl B.n_int RV (Ad (FI Iu (Ao c__law_take hr Ey (Ad (Ac (pv 1)) (Ad (Al) (Af)))) (Ac (pv 2)) (BC _)) (Af))⟩)) (Af))))))) (Ap (B5 (BW (Gs hr.units) (Ac (pv 3)) (Al) (BC _)) (An (A8 (i:=6) sc__law_board.nd rfl (by first|exact .inl rfl|exact .inr rfl) (AC Cj (DD (Ad (Bj (Ac (pv 6)) (Al) (fun _ _=>rfl)) (Af))) (Ac (pv 1))))) (B4)) (An (AD (Dr Eb rfl B.n_tuple CT (Ad (Ac (pv 6)) (Af))))))))))
theorem Zaf {Cr:List D→HD→Out D} {Fp:List D→HD→Out D} (c_is_line_tuple:CaE P w K mg base "is_line_tuple" 1 Cr) (c_is_light:CaE P w K mg base "is_light" 3 Fp) (f:Addr) (cdv:Value) (A:Around) (outer:List Env) (s:Shared) (H:Hp) (E:XK) (hr:Room 3 (A.deeper (envOfC "is_row" (defScope Hs) s.heap.objs.size f cdv))):
 AE (AB (Aw P w K) P w K mg base ["thing"] "is_row" (defScope Hs) f cdv A outer s H E) E (defBody Hs) (N4 Cr Fp):=
 An (AD (GF (Ao c_is_line_tuple hr As (Ad (Ac (pv 0)) (Af))) (FL (AZ (Mv rfl) rfl B.n_all NC (Ad (BS (Nc:=["light"]) (cs:=[none]) rfl (CSc.ok ⟨rfl,by decide +kernel,by kernel_rfl,by decide +kernel,rfl,by kernel_rfl⟩) (Cc (Ac (pv 0))) (Dt rfl) (fun C D cells fp s₀ H₀ pins=>⟨Ay (i:=0) (show (["light"]:List Str).Nodup from by decide +kernel) rfl (by first|exact .inl rfl|exact .inr rfl) (by first|exact .inl rfl|exact .inr rfl),BR,Ao c_is_light hr Ey (Ad (Ac (pv 0)) (Af))⟩)) (Af))))))
theorem Zag {EF:List D→HD→Out D} (c_need_number:CaE P w K mg base "need_number" 3 EF) {t_MOST_LINES:Tok} (m_MOST_LINES:mg "MOST_LINES"=some (.int 8 t_MOST_LINES)) (f:Addr) (cdv:Value) (A:Around) (outer:List Env) (s:Shared) (H:Hp) (E:XK) (hr:Room 3 (A.deeper (envOfC "need_size" (defScope Ht) s.heap.objs.size f cdv))):
 AE (AB (Aw P w K) P w K mg base ["high","wide"] "need_size" (defScope Ht) f cdv A outer s H E) E (defBody Ht) (N5 EF):=
 Ap (Df (Ao c_need_number hr As (Ad (Ac (pv 0)) (Ad (Al) (Ad (Mj rfl m_MOST_LINES) (Af)))))) (An (Df (Ao c_need_number hr As (Ad (Ac (pv 1)) (Ad (Al) (Ad (Mj rfl m_MOST_LINES) (Af)))))))
theorem Zah {Fq:List D→HD→Out D} (c_sum_of_column:CaE P w K mg base "sum_of_column" 3 Fq) (f:Addr) (cdv:Value) (A:Around) (outer:List Env) (s:Shared) (H:Hp) (E:XK) (hr:Room 3 (A.deeper (envOfC "sum_of_columns" (defScope Hu) s.heap.objs.size f cdv))):
 AE (AB (Aw P w K) P w K mg base ["counts","free","high"] "sum_of_columns" (defScope Hu) f cdv A outer s H E) E (defBody Hu) (N6 Fq):=
 An (AD (AZ (JI rfl) rfl B.n_sum J2 (Ad (BS (Nc:=["lit","free","high"]) (cs:=[none,some 1,some 2]) rfl (CSc.ok ⟨rfl,by decide +kernel,by kernel_rfl,by decide +kernel,rfl,by kernel_rfl⟩) (Cc (Ac (pv 0))) (Dt rfl) (fun C D cells fp s₀ H₀ pins=>⟨Ay (i:=0) (show (["lit","free","high"]:List Str).Nodup from by decide +kernel) rfl (by first|exact .inl rfl|exact .inr rfl) (by first|exact .inl rfl|exact .inr rfl),BR,Ao c_sum_of_column hr Ey (Ad (Ac (pv 0)) (Ad (Ac (pv 1)) (Ad (Ac (pv 2)) (Af))))⟩)) (Af))))
theorem Zai {Cr:List D→HD→Out D} {Ft:List D→HD→Out D} (c_is_line_tuple:CaE P w K mg base "is_line_tuple" 1 Cr) (c_is_row:CaE P w K mg base "is_row" 4 Ft) (f:Addr) (cdv:Value) (A:Around) (outer:List Env) (s:Shared) (H:Hp) (E:XK) (hr:Room 4 (A.deeper (envOfC "is_board" (defScope Hv) s.heap.objs.size f cdv))):
 AE (AB (Aw P w K) P w K mg base ["thing"] "is_board" (defScope Hv) f cdv A outer s H E) E (defBody Hv) (N7 Cr Ft):=
 Ap (B5 (FK (Eo (CZ (CM (Ao c_is_line_tuple hr As (Ad (Ac (pv 0)) (Af))))) (FJ (CZ (CM (AZ (Mv rfl) rfl B.n_all NC (Ad (BS (Nc:=["row"]) (cs:=[none]) rfl (CSc.ok ⟨rfl,by decide +kernel,by kernel_rfl,by decide +kernel,rfl,by kernel_rfl⟩) (Cc (Ac (pv 0))) (Dt rfl) (fun C D cells fp s₀ H₀ pins=>⟨Ay (i:=0) (show (["row"]:List Str).Nodup from by decide +kernel) rfl (by first|exact .inl rfl|exact .inr rfl) (by first|exact .inl rfl|exact .inr rfl),BR,Ao c_is_row hr Ey (Ad (Ac (pv 0)) (Af))⟩)) (Af)))))))) (An (AD (DB))) (B4)) (An (AD (AZ (Mv rfl) rfl B.n_all NC (Ad (BS (Nc:=["row","thing"]) (cs:=[none,some 0]) rfl (CSc.ok ⟨rfl,by decide +kernel,by kernel_rfl,by decide +kernel,rfl,by kernel_rfl⟩) (Cc (Ac (pv 0))) (Dt rfl) (fun C D cells fp s₀ H₀ pins=>⟨Ay (i:=0) (show (["row","thing"]:List Str).Nodup from by decide +kernel) rfl (by first|exact .inl rfl|exact .inr rfl) (by first|exact .inl rfl|exact .inr rfl),BR,FI (Gs hr.units) (AZ BF rfl B.n_len BI (Ad (Ac (pv 0)) (Af))) (AZ BF rfl B.n_len BI (Ad (Bj (Ac (pv 1)) (Al) (fun _ _=>rfl)) (Af))) (BC _)⟩)) (Af)))))
theorem Zaj {Fu:List D→HD→Out D} {Cw:List D→HD→Out D} {Cm:List D→HD→Out D} (c_need_size:CaE P w K mg base "need_size" 4 Fu) (c_sum_of_columns:CaE P w K mg base "sum_of_columns" 4 Cw) (c_fraction:CaE P w K mg base "fraction" 1 Cm) (f:Addr) (cdv:Value) (A:Around) (outer:List Env) (s:Shared) (H:Hp) (E:XK) (hr:Room 4 (A.deeper (envOfC "mean_left" (defScope Hw) s.heap.objs.size f cdv))):
 AE (AB (Aw P w K) P w K mg base ["high","wide"] "mean_left" (defScope Hw) f cdv A outer s H E) E (defBody Hw) (N8 Fu Cw Cm):=
 Ap (Df (Ao c_need_size hr As (Ad (Ac (pv 0)) (Ad (Ac (pv 1)) (Af))))) (An (AD (Ao c_fraction hr As (Ad (Ao c_sum_of_columns hr As (Ad (AC Cj (Dc (Ad (Al) (Af))) (Ac (pv 1))) (Ad (Ac (pv 0)) (Ad (Ac (pv 0)) (Af))))) (Ad (AC PX (Al) (Ac (pv 0))) (Af))))))
theorem Zak {Fv:List D→HD→Out D} (c_is_board:CaE P w K mg base "is_board" 5 Fv) (f:Addr) (cdv:Value) (A:Around) (outer:List Env) (s:Shared) (H:Hp) (E:XK) (hr:Room 5 (A.deeper (envOfC "need_board" (defScope Hx) s.heap.objs.size f cdv))):
 AE (AB (Aw P w K) P w K mg base ["thing"] "need_board" (defScope Hx) f cdv A outer s H E) E (defBody Hx) (N9 Fv):=
 An (B5 (CZ (CM (Ao c_is_board hr As (Ad (Ac (pv 0)) (Af))))) (An (K1)) (B4))
theorem Zal {Cd:List D→HD→Out D} (c_mean_left:CaE P w K mg base "mean_left" 5 Cd) (f:Addr) (cdv:Value) (A:Around) (outer:List Env) (s:Shared) (H:Hp) (E:XK) (hr:Room 5 (A.deeper (envOfC "bound_of" (defScope Hz) s.heap.objs.size f cdv))):
 AE (AB (Aw P w K) P w K mg base ["high","wide"] "bound_of" (defScope Hz) f cdv A outer s H E) E (defBody Hz) (Oa Cd):=
 An (AD (AZ (QY rfl) rfl B.n_min J1 (Ad (BS (Nc:=["top","bottom"]) (cs:=[none,none]) rfl (CSc.ok ⟨rfl,by decide +kernel,by kernel_rfl,by decide +kernel,rfl,by kernel_rfl⟩) (Cc (Dc (Ad (Ao c_mean_left hr As (Ad (Ac (pv 0)) (Ad (Ac (pv 1)) (Af)))) (Ad (Ao c_mean_left hr As (Ad (Ac (pv 1)) (Ad (Ac (pv 0)) (Af)))) (Af))))) (E8 rfl rfl) (fun C D cells fp s₀ H₀ pins=>⟨CO rfl (Ay (i:=0) (show (["top","bottom"]:List Str).Nodup from by decide +kernel) rfl (by first|exact .inl rfl|exact .inr rfl) (by first|exact .inl rfl|exact .inr rfl)) (Ay (i:=1) (show (["top","bottom"]:List Str).Nodup from by decide +kernel) rfl (by first|exact .inl rfl|exact .inr rfl) (by first|exact .inl rfl|exact .inr rfl)),BR,AC K0 (Ac (pv 0)) (Ac (pv 1))⟩)) (Af))))
theorem Zam {AI:List D→HD→Out D} (c_need_board:CaE P w K mg base "need_board" 6 AI) (f:Addr) (cdv:Value) (A:Around) (outer:List Env) (s:Shared) (H:Hp) (E:XK) (hr:Room 6 (A.deeper (envOfC "row_counts" (defScope HA) s.heap.objs.size f cdv))):
 AE (AB (Aw P w K) P w K mg base ["board"] "row_counts" (defScope HA) f cdv A outer s H E) E (defBody HA) (Ob AI):=
 Ap (Df (Ao c_need_board hr As (Ad (Ac (pv 0)) (Af)))) (An (AD (Dr Eb rfl B.n_tuple CT (Ad (BS (Nc:=["row"]) (cs:=[none]) rfl (CSc.ok ⟨rfl,by decide +kernel,by kernel_rfl,by decide +kernel,rfl,by kernel_rfl⟩) (Cc (Ac (pv 0))) (Dt rfl) (fun C D cells fp s₀ H₀ pins=>⟨Ay (i:=0) (show (["row"]:List Str).Nodup from by decide +kernel) rfl (by first|exact .inl rfl|exact .inr rfl) (by first|exact .inl rfl|exact .inr rfl),BR,AZ (JI rfl) rfl B.n_sum J2 (Ad (Ac (pv 0)) (Af))⟩)) (Af)))))
theorem Zan {AI:List D→HD→Out D} {Bt:List D→HD→Out D} (c_need_board:CaE P w K mg base "need_board" 6 AI) (c_is_lot:CaE P w K mg base "is_lot" 2 Bt) (f:Addr) (cdv:Value) (A:Around) (outer:List Env) (s:Shared) (H:Hp) (E:XK) (hr:Room 6 (A.deeper (envOfC "is_switching" (defScope HB) s.heap.objs.size f cdv))):
 AE (AB (Aw P w K) P w K mg base ["board","thing"] "is_switching" (defScope HB) f cdv A outer s H E) E (defBody HB) (Oc AI Bt):=
 Ap (Df (Ao c_need_board hr As (Ad (Ac (pv 0)) (Af)))) (Ap (B5 (FK (Eo (CZ (CM (AZ GX rfl B.n_isinstance GY (Ad (Ac (pv 1)) (Ad (GK rfl B.n_tuple CT) (Af)))))) (FJ (BW (Gu hr.units) (AZ BF rfl B.n_len BI (Ad (Ac (pv 1)) (Af))) (Al) (BC _))))) (An (AD (DB))) (B4)) (An (AD (GF (Ao c_is_lot hr As (Ad (Bj (Ac (pv 1)) (Al) (fun _ _=>rfl)) (Ad (AZ BF rfl B.n_len BI (Ad (Ac (pv 0)) (Af))) (Af)))) (FL (Ao c_is_lot hr As (Ad (Bj (Ac (pv 1)) (Al) (fun _ _=>rfl)) (Ad (AZ BF rfl B.n_len BI (Ad (Bj (Ac (pv 0)) (Al) (fun _ _=>rfl)) (Af))) (Af)))))))))
theorem Zao {AI:List D→HD→Out D} (c_need_board:CaE P w K mg base "need_board" 6 AI) (f:Addr) (cdv:Value) (A:Around) (outer:List Env) (s:Shared) (H:Hp) (E:XK) (hr:Room 6 (A.deeper (envOfC "turned" (defScope HC) s.heap.objs.size f cdv))):
 AE (AB (Aw P w K) P w K mg base ["board"] "turned" (defScope HC) f cdv A outer s H E) E (defBody HC) (Od AI):=
 Ap (Df (Ao c_need_board hr As (Ad (Ac (pv 0)) (Af)))) (An (AD (Dr Eb rfl B.n_tuple CT (Ad (BS (Nc:=["number","board"]) (cs:=[none,some 0]) rfl (CSc.ok ⟨rfl,by decide +kernel,by kernel_rfl,by decide +kernel,rfl,by kernel_rfl⟩) (FO rfl B.n_range (Ad (AZ BF rfl B.n_len BI (Ad (Bj (Ac (pv 0)) (Al) (fun _ _=>rfl)) (Af))) (Af))) (Dt rfl) (fun C D cells fp s₀ H₀ pins=>⟨Ay (i:=0) (show (["number","board"]:List Str).Nodup from by decide +kernel) rfl (by first|exact .inl rfl|exact .inr rfl) (by first|exact .inl rfl|exact .inr rfl),BR,Dr Eb rfl B.n_tuple CT (Ad (BS (Nc:=["row","number"]) (cs:=[none,some 0]) rfl (CSc.ok ⟨rfl,by decide +kernel,by kernel_rfl,by decide +kernel,rfl,by kernel_rfl⟩) (Cc (Ac (pv 1))) (Dt rfl) (fun C D cells fp s₀ H₀ pins=>⟨Ay (i:=0) (show (["row","number"]:List Str).Nodup from by decide +kernel) rfl (by first|exact .inl rfl|exact .inr rfl) (by first|exact .inl rfl|exact .inr rfl),BR,Bj (Ac (pv 0)) (Ac (pv 1)) (fun _ _=>rfl)⟩)) (Af))⟩)) (Af)))))
theorem Zap {AI:List D→HD→Out D} {EB:List D→HD→Out D} {Cw:List D→HD→Out D} {Cm:List D→HD→Out D} (c_need_board:CaE P w K mg base "need_board" 6 AI) (c_with_lights:CaE P w K mg base "with_lights" 1 EB) (c_sum_of_columns:CaE P w K mg base "sum_of_columns" 4 Cw) (c_fraction:CaE P w K mg base "fraction" 1 Cm) (f:Addr) (cdv:Value) (A:Around) (outer:List Env) (s:Shared) (H:Hp) (E:XK) (hr:Room 6 (A.deeper (envOfC "road_of" (defScope HE) s.heap.objs.size f cdv))):
 AE (AB (Aw P w K) P w K mg base ["board","high","counts","road","number","row","free","choices","sums","turn"] "road_of" (defScope HE) f cdv A outer s H E) E (defBody HE) (Oe AI EB Cw Cm):=
 Ap (Df (Ao c_need_board hr As (Ad (Ac (pv 0)) (Af)))) (Ap (A8 (i:=1) sc_road_of.nd rfl (by first|exact .inl rfl|exact .inr rfl) (AZ BF rfl B.n_len BI (Ad (Ac (pv 0)) (Af)))) (Ap (A8 (i:=2) sc_road_of.nd rfl (by first|exact .inl rfl|exact .inr rfl) (AC Cj (Dc (Ad (Al) (Af))) (AZ BF rfl B.n_len BI (Ad (Bj (Ac (pv 0)) (Al) (fun _ _=>rfl)) (Af))))) (Ap (A8 (i:=3) sc_road_of.nd rfl (by first|exact .inl rfl|exact .inr rfl) (DD (Af))) (Ap (DI Dv rfl (Gp rfl B.n_enumerate (Ad (Ac (pv 0)) (Af))) (IA (CO rfl (Ay (i:=4) (sc_road_of.nd) rfl (by first|exact .inl rfl|exact .inr rfl) (by first|exact .inl rfl|exact .inr rfl)) (Ay (i:=5) (sc_road_of.nd) rfl (by first|exact .inl rfl|exact .inr rfl) (by first|exact .inl rfl|exact .inr rfl)))) (Ap (A8 (i:=6) sc_road_of.nd rfl (by first|exact .inl rfl|exact .inr rfl) (AC FM (AC FM (Ac (pv 1)) (Ac (pv 4))) (Al))) (Ap (A8 (i:=7) sc_road_of.nd rfl (by first|exact .inl rfl|exact .inr rfl) (DD (Ad (Ao c_with_lights hr As (Ad (Ac (pv 2)) (Ad (Ac (pv 5)) (Af)))) (Ad (Ao c_with_lights hr As (Ad (Ac (pv 2)) (Ad (BS (Nc:=["light"]) (cs:=[none]) rfl (CSc.ok ⟨rfl,by decide +kernel,by kernel_rfl,by decide +kernel,rfl,by kernel_rfl⟩) (Cc (Ac (pv 5))) (Dt rfl) (fun C D cells fp s₀ H₀ pins=>⟨Ay (i:=0) (show (["light"]:List Str).Nodup from by decide +kernel) rfl (by first|exact .inl rfl|exact .inr rfl) (by first|exact .inl rfl|exact .inr rfl),BR,AC FM (Al) (Ac (pv 0))⟩)) (Af)))) (Af))))) (Ap (Wq (i:=8) (Nc:=["choice","free","high"]) (cs:=[none,some 6,some 1]) rfl sc_road_of.nd rfl (by first|exact .inl rfl|exact .inr rfl) (CSc.ok ⟨rfl,by decide +kernel,by kernel_rfl,by decide +kernel,rfl,by kernel_rfl⟩) (Cc (Ac (pv 7))) (Dt rfl) (fun C D cells fp s₀ H₀ pins=>⟨Ay (i:=0) (show (["choice","free","high"]:List Str).Nodup from by decide +kernel) rfl (by first|exact .inl rfl|exact .inr rfl) (by first|exact .inl rfl|exact .inr rfl),BR,Ao c_sum_of_columns hr Ey (Ad (Ac (pv 0)) (Ad (Ac (pv 1)) (Ad (Ac (pv 2)) (Af))))⟩)) (Ap (A8 (i:=9) sc_road_of.nd rfl (by first|exact .inl rfl|exact .inr rfl) (PR (BW Iu (Bj (Ac (pv 8)) (Al) (fun _ _=>rfl)) (Bj (Ac (pv 8)) (Al) (fun _ _=>rfl)) (BC _)) (Al) (Al))) (Ap (A8 (i:=2) sc_road_of.nd rfl (by first|exact .inl rfl|exact .inr rfl) (Bj (Ac (pv 7)) (Ac (pv 9)) (fun _ _=>rfl))) (An (Df (K5 (Ac (pv 3)) (Dc (Ad (Ac (pv 9)) (Ad (Ao c_fraction hr As (Ad (Bj (Ac (pv 8)) (Ac (pv 9)) (fun _ _=>rfl)) (Ad (AC PX (Al) (Ac (pv 6))) (Af)))) (Af))))))))))))) (An (AD (Ac (pv 3))))))))
theorem Zaq {AI:List D→HD→Out D} {Fh:List D→HD→Out D} {Cu:List D→HD→Out D} (c_need_board:CaE P w K mg base "need_board" 6 AI) (c_all_fours:CaE P w K mg base "all_fours" 1 Fh) (c_is_odd_four:CaE P w K mg base "is_odd_four" 1 Cu) (f:Addr) (cdv:Value) (A:Around) (outer:List Env) (s:Shared) (H:Hp) (E:XK) (hr:Room 6 (A.deeper (envOfC "odd_fours" (defScope HF) s.heap.objs.size f cdv))):
 AE (AB (Aw P w K) P w K mg base ["board"] "odd_fours" (defScope HF) f cdv A outer s H E) E (defBody HF) (Of AI Fh Cu):=
 Ap (Df (Ao c_need_board hr As (Ad (Ac (pv 0)) (Af)))) (An (AD (BS (Nc:=["four","board"]) (cs:=[none,some 0]) rfl (CSc.ok ⟨rfl,by decide +kernel,by kernel_rfl,by decide +kernel,rfl,by kernel_rfl⟩) (Cc (Ao c_all_fours hr As (Ad (Ac (pv 0)) (Af)))) (Dt rfl) (fun C D cells fp s₀ H₀ pins=>⟨Ay (i:=0) (show (["four","board"]:List Str).Nodup from by decide +kernel) rfl (by first|exact .inl rfl|exact .inr rfl) (by first|exact .inl rfl|exact .inr rfl),JG (CM (Ao c_is_odd_four hr Ey (Ad (Ac (pv 1)) (Ad (Ac (pv 0)) (Af))))),Ac (pv 0)⟩))))
theorem Zar {AI:List D→HD→Out D} {Fs:List D→HD→Out D} {Cu:List D→HD→Out D} {Cv:List D→HD→Out D} (c_need_board:CaE P w K mg base "need_board" 6 AI) (c_is_four:CaE P w K mg base "is_four" 3 Fs) (c_is_odd_four:CaE P w K mg base "is_odd_four" 1 Cu) (c_is_apart:CaE P w K mg base "is_apart" 2 Cv) (f:Addr) (cdv:Value) (A:Around) (outer:List Env) (s:Shared) (H:Hp) (E:XK) (hr:Room 6 (A.deeper (envOfC "floor_shown" (defScope HG) s.heap.objs.size f cdv))):
 AE (AB (Aw P w K) P w K mg base ["board","thing","taken","four"] "floor_shown" (defScope HG) f cdv A outer s H E) E (defBody HG) (Og AI Fs Cu Cv):=
 Ap (Df (Ao c_need_board hr As (Ad (Ac (pv 0)) (Af)))) (Ap (B5 (CZ (CM (AZ GX rfl B.n_isinstance GY (Ad (Ac (pv 1)) (Ad (GK rfl B.n_list RW) (Af)))))) (An (AD (PL))) (B4)) (Ap (A8 (i:=2) sc_floor_shown.nd rfl (by first|exact .inl rfl|exact .inr rfl) (DD (Af))) (Ap (DI Dv rfl (Cc (Ac (pv 1))) (E5 (Ay (i:=3) (sc_floor_shown.nd) rfl (by first|exact .inl rfl|exact .inr rfl) (by first|exact .inl rfl|exact .inr rfl))) (Ap (B5 (FK (Eo (CZ (CM (Ao c_is_four hr As (Ad (Ac (pv 0)) (Ad (Ac (pv 3)) (Af)))))) (Eo (CZ (CM (Ao c_is_odd_four hr As (Ad (Ac (pv 0)) (Ad (Ac (pv 3)) (Af)))))) (FJ (CZ (CM (Ao c_is_apart hr As (Ad (Ac (pv 3)) (Ad (Ac (pv 2)) (Af)))))))))) (An (AD (PL))) (B4)) (An (Df (K5 (Ac (pv 2)) (Ac (pv 3))))))) (An (AD (AZ BF rfl B.n_len BI (Ad (Ac (pv 2)) (Af))))))))
theorem Zas {Cy:List D→HD→Out D} (c_row_counts:CaE P w K mg base "row_counts" 7 Cy) (f:Addr) (cdv:Value) (A:Around) (outer:List Env) (s:Shared) (H:Hp) (E:XK) (hr:Room 7 (A.deeper (envOfC "lit_many" (defScope HH) s.heap.objs.size f cdv))):
 AE (AB (Aw P w K) P w K mg base ["board"] "lit_many" (defScope HH) f cdv A outer s H E) E (defBody HH) (Oh Cy):=
 An (AD (AZ (JI rfl) rfl B.n_sum J2 (Ad (Ao c_row_counts hr As (Ad (Ac (pv 0)) (Af))) (Af))))
theorem Zat {Fx:List D→HD→Out D} {Cy:List D→HD→Out D} (c_turned:CaE P w K mg base "turned" 7 Fx) (c_row_counts:CaE P w K mg base "row_counts" 7 Cy) (f:Addr) (cdv:Value) (A:Around) (outer:List Env) (s:Shared) (H:Hp) (E:XK) (hr:Room 7 (A.deeper (envOfC "column_counts" (defScope HI) s.heap.objs.size f cdv))):
 AE (AB (Aw P w K) P w K mg base ["board"] "column_counts" (defScope HI) f cdv A outer s H E) E (defBody HI) (Oi Fx Cy):=
 An (AD (Ao c_row_counts hr As (Ad (Ao c_turned hr As (Ad (Ac (pv 0)) (Af))) (Af))))
theorem Zau {Fw:List D→HD→Out D} (c_is_switching:CaE P w K mg base "is_switching" 7 Fw) (f:Addr) (cdv:Value) (A:Around) (outer:List Env) (s:Shared) (H:Hp) (E:XK) (hr:Room 7 (A.deeper (envOfC "need_switching" (defScope HJ) s.heap.objs.size f cdv))):
 AE (AB (Aw P w K) P w K mg base ["board","thing"] "need_switching" (defScope HJ) f cdv A outer s H E) E (defBody HJ) (Oj Fw):=
 An (B5 (CZ (CM (Ao c_is_switching hr As (Ad (Ac (pv 0)) (Ad (Ac (pv 1)) (Af)))))) (An (K1)) (B4))
theorem Zav {Fy:List D→HD→Out D} {Cv:List D→HD→Out D} (c_odd_fours:CaE P w K mg base "odd_fours" 7 Fy) (c_is_apart:CaE P w K mg base "is_apart" 2 Cv) (f:Addr) (cdv:Value) (A:Around) (outer:List Env) (s:Shared) (H:Hp) (E:XK) (hr:Room 7 (A.deeper (envOfC "floor_fours" (defScope HK) s.heap.objs.size f cdv))):
 AE (AB (Aw P w K) P w K mg base ["board","taken","four"] "floor_fours" (defScope HK) f cdv A outer s H E) E (defBody HK) (Ol Fy Cv):=
 Ap (A8 (i:=1) sc_floor_fours.nd rfl (by first|exact .inl rfl|exact .inr rfl) (DD (Af))) (Ap (DI Dv rfl (Cc (Ao c_odd_fours hr As (Ad (Ac (pv 0)) (Af)))) (E5 (Ay (i:=2) (sc_floor_fours.nd) rfl (by first|exact .inl rfl|exact .inr rfl) (by first|exact .inl rfl|exact .inr rfl))) (An (B5 (CM (Ao c_is_apart hr As (Ad (Ac (pv 2)) (Ad (Ac (pv 1)) (Af))))) (An (Df (K5 (Ac (pv 1)) (Ac (pv 2))))) (B4)))) (An (AD (Ac (pv 1)))))
theorem Zaw {Fz:List D→HD→Out D} {Ff:List D→HD→Out D} (c_need_switching:CaE P w K mg base "need_switching" 8 Fz) (c_row_switched:CaE P w K mg base "row_switched" 1 Ff) (f:Addr) (cdv:Value) (A:Around) (outer:List Env) (s:Shared) (H:Hp) (E:XK) (hr:Room 8 (A.deeper (envOfC "switched" (defScope HL) s.heap.objs.size f cdv))):
 AE (AB (Aw P w K) P w K mg base ["board","switching","rows","columns"] "switched" (defScope HL) f cdv A outer s H E) E (defBody HL) (Om Fz Ff):=
 Ap (Df (Ao c_need_switching hr As (Ad (Ac (pv 0)) (Ad (Ac (pv 1)) (Af))))) (Ap (K2 (Ac (pv 1)) (IA (CO rfl (Ay (i:=2) (sc_switched.nd) rfl (by first|exact .inl rfl|exact .inr rfl) (by first|exact .inl rfl|exact .inr rfl)) (Ay (i:=3) (sc_switched.nd) rfl (by first|exact .inl rfl|exact .inr rfl) (by first|exact .inl rfl|exact .inr rfl))))) (An (AD (Dr Eb rfl B.n_tuple CT (Ad (BS (Nc:=["number","row","columns","rows"]) (cs:=[none,none,some 3,some 2]) rfl (CSc.ok ⟨rfl,by decide +kernel,by kernel_rfl,by decide +kernel,rfl,by kernel_rfl⟩) (Gp rfl B.n_enumerate (Ad (Ac (pv 0)) (Af))) (E8 rfl rfl) (fun C D cells fp s₀ H₀ pins=>⟨CO rfl (Ay (i:=0) (show (["number","row","columns","rows"]:List Str).Nodup from by decide +kernel) rfl (by first|exact .inl rfl|exact .inr rfl) (by first|exact .inl rfl|exact .inr rfl)) (Ay (i:=1) (show (["number","row","columns","rows"]:List Str).Nodup from by decide +kernel) rfl (by first|exact .inl rfl|exact .inr rfl) (by first|exact .inl rfl|exact .inr rfl)),BR,Ao c_row_switched hr Ey (Ad (Ac (pv 1)) (Ad (Ac (pv 2)) (Ad (FI Iz (Ac (pv 0)) (Ac (pv 3)) (by with_unfolding_all rfl)) (Af))))⟩)) (Af))))))
theorem Zax {Cz:List D→HD→Out D} {Cs:List D→HD→Out D} (c_column_counts:CaE P w K mg base "column_counts" 8 Cz) (c_counts_with_row:CaE P w K mg base "counts_with_row" 1 Cs) (f:Addr) (cdv:Value) (A:Around) (outer:List Env) (s:Shared) (H:Hp) (E:XK) (hr:Room 8 (A.deeper (envOfC "lots_with_counts" (defScope HM) s.heap.objs.size f cdv))):
 AE (AB (Aw P w K) P w K mg base ["board","found","number"] "lots_with_counts" (defScope HM) f cdv A outer s H E) E (defBody HM) (On Cz Cs):=
 Ap (A8 (i:=1) sc_lots_with_counts.nd rfl (by first|exact .inl rfl|exact .inr rfl) (DD (Ad (Dc (Ad (Dc (Af)) (Ad (Ao c_column_counts hr As (Ad (Ac (pv 0)) (Af))) (Af)))) (Af)))) (Ap (DI Dv rfl (Mo rfl B.n_range (Ad (Al) (Ad (AZ BF rfl B.n_len BI (Ad (Ac (pv 0)) (Af))) (Af)))) (E5 (Ay (i:=2) (sc_lots_with_counts.nd) rfl (by first|exact .inl rfl|exact .inr rfl) (by first|exact .inl rfl|exact .inr rfl))) (An (A8 (i:=1) sc_lots_with_counts.nd rfl (by first|exact .inl rfl|exact .inr rfl) (AC BP (Ac (pv 1)) (BS (Nc:=["lot","counts","number","board"]) (cs:=[none,none,some 2,some 0]) rfl (CSc.ok ⟨rfl,by decide +kernel,by kernel_rfl,by decide +kernel,rfl,by kernel_rfl⟩) (Cc (Ac (pv 1))) (E8 rfl rfl) (fun C D cells fp s₀ H₀ pins=>⟨CO rfl (Ay (i:=0) (show (["lot","counts","number","board"]:List Str).Nodup from by decide +kernel) rfl (by first|exact .inl rfl|exact .inr rfl) (by first|exact .inl rfl|exact .inr rfl)) (Ay (i:=1) (show (["lot","counts","number","board"]:List Str).Nodup from by decide +kernel) rfl (by first|exact .inl rfl|exact .inr rfl) (by first|exact .inl rfl|exact .inr rfl)),BR,Dc (Ad (AC BP (Ac (pv 0)) (Dc (Ad (Ac (pv 2)) (Af)))) (Ad (Ao c_counts_with_row hr Ey (Ad (Ac (pv 1)) (Ad (Bj (Ac (pv 3)) (Ac (pv 2)) (fun _ _=>rfl)) (Af)))) (Af)))⟩)))))) (An (AD (Ac (pv 1)))))
theorem Zay {AI:List D→HD→Out D} {Bt:List D→HD→Out D} {Cz:List D→HD→Out D} {Cs:List D→HD→Out D} (c_need_board:CaE P w K mg base "need_board" 6 AI) (c_is_lot:CaE P w K mg base "is_lot" 2 Bt) (c_column_counts:CaE P w K mg base "column_counts" 8 Cz) (c_counts_with_row:CaE P w K mg base "counts_with_row" 1 Cs) (f:Addr) (cdv:Value) (A:Around) (outer:List Env) (s:Shared) (H:Hp) (E:XK) (hr:Room 8 (A.deeper (envOfC "counts_by" (defScope HN) s.heap.objs.size f cdv))):
 AE (AB (Aw P w K) P w K mg base ["board","rows","counts","number"] "counts_by" (defScope HN) f cdv A outer s H E) E (defBody HN) (Oo AI Bt Cz Cs):=
 Ap (Df (Ao c_need_board hr As (Ad (Ac (pv 0)) (Af)))) (Ap (B5 (CZ (CM (Ao c_is_lot hr As (Ad (Ac (pv 1)) (Ad (AZ BF rfl B.n_len BI (Ad (Ac (pv 0)) (Af))) (Af)))))) (An (K1)) (B4)) (Ap (A8 (i:=2) sc_counts_by.nd rfl (by first|exact .inl rfl|exact .inr rfl) (Ao c_column_counts hr As (Ad (Ac (pv 0)) (Af)))) (Ap (DI Dv rfl (Cc (Ac (pv 1))) (E5 (Ay (i:=3) (sc_counts_by.nd) rfl (by first|exact .inl rfl|exact .inr rfl) (by first|exact .inl rfl|exact .inr rfl))) (An (A8 (i:=2) sc_counts_by.nd rfl (by first|exact .inl rfl|exact .inr rfl) (Ao c_counts_with_row hr As (Ad (Ac (pv 2)) (Ad (Bj (Ac (pv 0)) (Ac (pv 3)) (fun _ _=>rfl)) (Af))))))) (An (AD (Ac (pv 2)))))))
theorem Zaz {Dk:List D→HD→Out D} {Ct:List D→HD→Out D} (c_lots_with_counts:CaE P w K mg base "lots_with_counts" 9 Dk) (c_fewest_lit:CaE P w K mg base "fewest_lit" 1 Ct) (f:Addr) (cdv:Value) (A:Around) (outer:List Env) (s:Shared) (H:Hp) (E:XK) (hr:Room 9 (A.deeper (envOfC "left_many" (defScope HP) s.heap.objs.size f cdv))):
 AE (AB (Aw P w K) P w K mg base ["board"] "left_many" (defScope HP) f cdv A outer s H E) E (defBody HP) (Oq Dk Ct):=
 An (AD (AZ (QY rfl) rfl B.n_min J1 (Ad (BS (Nc:=["lot","counts","board"]) (cs:=[none,none,some 0]) rfl (CSc.ok ⟨rfl,by decide +kernel,by kernel_rfl,by decide +kernel,rfl,by kernel_rfl⟩) (Cc (Ao c_lots_with_counts hr As (Ad (Ac (pv 0)) (Af)))) (E8 rfl rfl) (fun C D cells fp s₀ H₀ pins=>⟨CO rfl (Ay (i:=0) (show (["lot","counts","board"]:List Str).Nodup from by decide +kernel) rfl (by first|exact .inl rfl|exact .inr rfl) (by first|exact .inl rfl|exact .inr rfl)) (Ay (i:=1) (show (["lot","counts","board"]:List Str).Nodup from by decide +kernel) rfl (by first|exact .inl rfl|exact .inr rfl) (by first|exact .inl rfl|exact .inr rfl)),BR,Ao c_fewest_lit hr Ey (Ad (Ac (pv 1)) (Ad (AZ BF rfl B.n_len BI (Ad (Ac (pv 2)) (Af))) (Af)))⟩)) (Af))))
theorem ZaA {CA:List D→HD→Out D} {Fg:List D→HD→Out D} (c_counts_by:CaE P w K mg base "counts_by" 9 CA) (c_fuller_columns:CaE P w K mg base "fuller_columns" 1 Fg) (f:Addr) (cdv:Value) (A:Around) (outer:List Env) (s:Shared) (H:Hp) (E:XK) (hr:Room 9 (A.deeper (envOfC "best_columns" (defScope HQ) s.heap.objs.size f cdv))):
 AE (AB (Aw P w K) P w K mg base ["board","rows"] "best_columns" (defScope HQ) f cdv A outer s H E) E (defBody HQ) (Ot CA Fg):=
 An (AD (Ao c_fuller_columns hr As (Ad (Ao c_counts_by hr As (Ad (Ac (pv 0)) (Ad (Ac (pv 1)) (Af)))) (Ad (AZ BF rfl B.n_len BI (Ad (Ac (pv 0)) (Af))) (Af)))))
theorem ZaB {CA:List D→HD→Out D} {Ct:List D→HD→Out D} (c_counts_by:CaE P w K mg base "counts_by" 9 CA) (c_fewest_lit:CaE P w K mg base "fewest_lit" 1 Ct) (f:Addr) (cdv:Value) (A:Around) (outer:List Env) (s:Shared) (H:Hp) (E:XK) (hr:Room 9 (A.deeper (envOfC "left_by" (defScope HU) s.heap.objs.size f cdv))):
 AE (AB (Aw P w K) P w K mg base ["board","rows"] "left_by" (defScope HU) f cdv A outer s H E) E (defBody HU) (Ou CA Ct):=
 An (AD (Ao c_fewest_lit hr As (Ad (Ao c_counts_by hr As (Ad (Ac (pv 0)) (Ad (Ac (pv 1)) (Af)))) (Ad (AZ BF rfl B.n_len BI (Ad (Ac (pv 0)) (Af))) (Af)))))
theorem ZaC {Co:List D→HD→Out D} {FA:List D→HD→Out D} (c_road_of:CaE P w K mg base "road_of" 7 Co) (c_best_columns:CaE P w K mg base "best_columns" 10 FA) (f:Addr) (cdv:Value) (A:Around) (outer:List Env) (s:Shared) (H:Hp) (E:XK) (hr:Room 10 (A.deeper (envOfC "road_switching" (defScope HV) s.heap.objs.size f cdv))):
 AE (AB (Aw P w K) P w K mg base ["board","road","rows"] "road_switching" (defScope HV) f cdv A outer s H E) E (defBody HV) (Ov Co FA):=
 Ap (A8 (i:=1) sc_road_switching.nd rfl (by first|exact .inl rfl|exact .inr rfl) (Ao c_road_of hr As (Ad (Ac (pv 0)) (Af)))) (Ap (A8 (i:=2) sc_road_switching.nd rfl (by first|exact .inl rfl|exact .inr rfl) (Dr Eb rfl B.n_tuple CT (Ad (BS (Nc:=["number","turn","mean"]) (cs:=[none,none,none]) rfl (CSc.ok ⟨rfl,by decide +kernel,by kernel_rfl,by decide +kernel,rfl,by kernel_rfl⟩) (Gp rfl B.n_enumerate (Ad (Ac (pv 1)) (Af))) (YC rfl rfl rfl) (fun C D cells fp s₀ H₀ pins=>⟨KI rfl (EW (Ay (i:=0) (show (["number","turn","mean"]:List Str).Nodup from by decide +kernel) rfl (by first|exact .inl rfl|exact .inr rfl) (by first|exact .inl rfl|exact .inr rfl)) (EW (KI rfl (EW (Ay (i:=1) (show (["number","turn","mean"]:List Str).Nodup from by decide +kernel) rfl (by first|exact .inl rfl|exact .inr rfl) (by first|exact .inl rfl|exact .inr rfl)) (EW (Ay (i:=2) (show (["number","turn","mean"]:List Str).Nodup from by decide +kernel) rfl (by first|exact .inl rfl|exact .inr rfl) (by first|exact .inl rfl|exact .inr rfl)) (KH)))) (KH))),JG (BW (Gs hr.units) (Ac (pv 1)) (Al) (BC _)),Ac (pv 0)⟩)) (Af)))) (An (AD (Dc (Ad (Ac (pv 2)) (Ad (Ao c_best_columns hr As (Ad (Ac (pv 0)) (Ad (Ac (pv 2)) (Af)))) (Af)))))))
theorem ZaD {EE:List D→HD→Out D} {Bh:List D→HD→Out D} {EG:List D→HD→Out D} {Cd:List D→HD→Out D} {EJ:List D→HD→Out D} {EH:List D→HD→Out D} {Co:List D→HD→Out D} {EL:List D→HD→Out D} {DR:List D→HD→Out D} {EI:List D→HD→Out D} {EK:List D→HD→Out D} {DQ:List D→HD→Out D} {DO:List D→HD→Out D} {DP:List D→HD→Out D} (c__law_box:CaE P w K mg base "_law_box" 2 EE) (c__law_take:CaE P w K mg base "_law_take" 1 Bh) (c__law_board:CaE P w K mg base "_law_board" 3 EG) (c_mean_left:CaE P w K mg base "mean_left" 5 Cd) (c_left_many:CaE P w K mg base "left_many" 10 EJ) (c_bound_of:CaE P w K mg base "bound_of" 6 EH) (c_road_of:CaE P w K mg base "road_of" 7 Co) (c_road_switching:CaE P w K mg base "road_switching" 11 EL) (c_switched:CaE P w K mg base "switched" 9 DR) (c_lit_many:CaE P w K mg base "lit_many" 8 EI) (c_left_by:CaE P w K mg base "left_by" 10 EK) (c_floor_fours:CaE P w K mg base "floor_fours" 8 DQ) (c__law_lot:CaE P w K mg base "_law_lot" 2 DO) (c_floor_shown:CaE P w K mg base "floor_shown" 7 DP) (f:Addr) (cdv:Value) (A:Around) (outer:List Env) (s:Shared) (H:Hp) (E:XK) (hr:Room 11 (A.deeper (envOfC "law" (defScope s_law) s.heap.objs.size f cdv))):
 AE (AB (Aw P w K) P w K mg base ["_law_script","_law_k","_law_box_here","_law_high","_law_wide","_law_board_here","_law_many","_law_mean","_law_last","_law_road","_law_turn","_law_here","_law_rows","_law_columns","_law_end","_law_fours","_law_other"] "law" (defScope s_law) f cdv A outer s H E) E (defBody s_law) (LH EE Bh EG Cd EJ EH Co EL DR EI EK DQ DO DP):=
 Ap (DI Dv rfl (FO rfl B.n_range (Ad (AZ (Wf rfl) rfl B.n_max Zg (Ad (Al) (Ad (AZ (Mn rfl) rfl B.n_min J1 (Ad (AZ BF rfl B.n_len BI (Ad (Ac (pv 0)) (Af))) (Ad (Al) (Af)))) (Af)))) (Af))) (E5 (Ay (i:=1) (sc_law.nd) rfl (by first|exact .inl rfl|exact .inr rfl) (by first|exact .inl rfl|exact .inr rfl))) (Ap (A8 (i:=2) sc_law.nd rfl (by first|exact .inl rfl|exact .inr rfl) (Ao c__law_box hr As (Ad (Ac (pv 0)) (Ad (Ac (pv 1)) (Af))))) (Ap (JD (i:=3) (j:=4) rfl sc_law.nd rfl rfl (by decide) rfl rfl (Ad (AC BP (Al) (Ao c__law_take hr As (Ad (Ac (pv 2)) (Ad (Al) (Af))))) (Ad (AC BP (Al) (Ao c__law_take hr As (Ad (Ac (pv 2)) (Ad (Al) (Af))))) (Af))) (by first |rfl |with_unfolding_all rfl)) (Ap (A8 (i:=5) sc_law.nd rfl (by first|exact .inl rfl|exact .inr rfl) (Ao c__law_board hr As (Ad (Ac (pv 2)) (Ad (Ac (pv 3)) (Ad (Ac (pv 4)) (Af)))))) (Ap (JD (i:=6) (j:=7) rfl sc_law.nd rfl rfl (by decide) rfl rfl (Ad (Ao c_left_many hr As (Ad (Ac (pv 5)) (Af))) (Ad (Ao c_mean_left hr As (Ad (Ac (pv 3)) (Ad (Ac (pv 4)) (Af)))) (Af))) (by first |rfl |with_unfolding_all rfl)) (Ap (B5 (FK (Eo (BW Iv (Ac (pv 6)) (Ao c_bound_of hr As (Ad (Ac (pv 3)) (Ad (Ac (pv 4)) (Af)))) (BC _)) (FJ (BW Iv (AC Cj (Ac (pv 6)) (Bj (Ac (pv 7)) (Al) (fun _ _=>rfl))) (Bj (Ac (pv 7)) (Al) (fun _ _=>rfl)) (BC _))))) (An (AD (DB))) (B4)) (Ap (A8 (i:=8) sc_law.nd rfl (by first|exact .inl rfl|exact .inr rfl) (Ac (pv 7))) (Ap (A8 (i:=9) sc_law.nd rfl (by first|exact .inl rfl|exact .inr rfl) (Ao c_road_of hr As (Ad (Ac (pv 5)) (Af)))) (Ap (DI Dv rfl (Cc (Ac (pv 9))) (IA (CO rfl (Ay (i:=10) (sc_law.nd) rfl (by first|exact .inl rfl|exact .inr rfl) (by first|exact .inl rfl|exact .inr rfl)) (Ay (i:=11) (sc_law.nd) rfl (by first|exact .inl rfl|exact .inr rfl) (by first|exact .inl rfl|exact .inr rfl)))) (Ap (B5 (BW Iv (AC Cj (Bj (Ac (pv 11)) (Al) (fun _ _=>rfl)) (Bj (Ac (pv 8)) (Al) (fun _ _=>rfl))) (AC Cj (Bj (Ac (pv 8)) (Al) (fun _ _=>rfl)) (Bj (Ac (pv 11)) (Al) (fun _ _=>rfl))) (BC _)) (An (AD (DB))) (B4)) (An (A8 (i:=8) sc_law.nd rfl (by first|exact .inl rfl|exact .inr rfl) (Ac (pv 11)))))) (Ap (K2 (Ao c_road_switching hr As (Ad (Ac (pv 5)) (Af))) (IA (CO rfl (Ay (i:=12) (sc_law.nd) rfl (by first|exact .inl rfl|exact .inr rfl) (by first|exact .inl rfl|exact .inr rfl)) (Ay (i:=13) (sc_law.nd) rfl (by first|exact .inl rfl|exact .inr rfl) (by first|exact .inl rfl|exact .inr rfl))))) (Ap (A8 (i:=14) sc_law.nd rfl (by first|exact .inl rfl|exact .inr rfl) (Ao c_lit_many hr As (Ad (Ao c_switched hr As (Ad (Ac (pv 5)) (Ad (Dc (Ad (Ac (pv 12)) (Ad (Ac (pv 13)) (Af)))) (Af)))) (Af)))) (Ap (B5 (FK (Eo (BW (Gu hr.units) (Ac (pv 8)) (Dc (Ad (Ac (pv 14)) (Ad (Al) (Af)))) (BC _)) (Eo (BW (Gu hr.units) (Ao c_left_by hr As (Ad (Ac (pv 5)) (Ad (Ac (pv 12)) (Af)))) (Ac (pv 14)) (BC _)) (FJ (BW Iu (Ac (pv 14)) (Ac (pv 6)) (BC _)))))) (An (AD (DB))) (B4)) (Ap (B5 (BW (Gu hr.units) (BS (Nc:=["_law_number","_law_step"]) (cs:=[none,none]) rfl (CSc.ok ⟨rfl,by decide +kernel,by kernel_rfl,by decide +kernel,rfl,by kernel_rfl⟩) (Gp rfl B.n_enumerate (Ad (Ac (pv 9)) (Af))) (E8 rfl rfl) (fun C D cells fp s₀ H₀ pins=>⟨CO rfl (Ay (i:=0) (show (["_law_number","_law_step"]:List Str).Nodup from by decide +kernel) rfl (by first|exact .inl rfl|exact .inr rfl) (by first|exact .inl rfl|exact .inr rfl)) (Ay (i:=1) (show (["_law_number","_law_step"]:List Str).Nodup from by decide +kernel) rfl (by first|exact .inl rfl|exact .inr rfl) (by first|exact .inl rfl|exact .inr rfl)),JG (BW (Gs hr.units) (Bj (Ac (pv 1)) (Al) (fun _ _=>rfl)) (Al) (BC _)),Ac (pv 0)⟩)) (Dr Yo rfl B.n_list RW (Ad (Ac (pv 12)) (Af))) (BC _)) (An (AD (DB))) (B4)) (Ap (A8 (i:=15) sc_law.nd rfl (by first|exact .inl rfl|exact .inr rfl) (Ao c_floor_fours hr As (Ad (Ac (pv 5)) (Af)))) (Ap (A8 (i:=16) sc_law.nd rfl (by first|exact .inl rfl|exact .inr rfl) (Ao c_switched hr As (Ad (Ac (pv 5)) (Ad (Dc (Ad (Ao c__law_lot hr As (Ad (Ac (pv 2)) (Ad (Ac (pv 3)) (Af)))) (Ad (Ao c__law_lot hr As (Ad (Ac (pv 2)) (Ad (Ac (pv 4)) (Af)))) (Af)))) (Af))))) (Ap (B5 (FK (Eo (BW (Gu hr.units) (Ao c_floor_shown hr As (Ad (Ac (pv 5)) (Ad (Ac (pv 15)) (Af)))) (AZ BF rfl B.n_len BI (Ad (Ac (pv 15)) (Af))) (BC _)) (FJ (BW Iv (AZ BF rfl B.n_len BI (Ad (Ac (pv 15)) (Af))) (Ac (pv 6)) (BC _))))) (An (AD (DB))) (B4)) (An (B5 (FK (Eo (BW (Gu hr.units) (Ao c_floor_shown hr As (Ad (Ac (pv 16)) (Ad (Zc (Ac (pv 15))) (Af)))) (AZ BF rfl B.n_len BI (Ad (Ac (pv 15)) (Af))) (BC _)) (FJ (BW (Gu hr.units) (Ao c_floor_fours hr As (Ad (Ac (pv 16)) (Af))) (Ac (pv 15)) (BC _))))) (An (AD (DB))) (B4))))))))))))))))))) (An (AD (DB)))
noncomputable def B0:List D→HD→Out D:=fun ds h=>if ds.length=1 then Ak 1 (ND) ds h else .stuck
theorem ZaE {f:Addr} {fd:FuncData} (D:Dn K mg "is_whole" ["thing"] GZ f fd):CaE P w K mg base "is_whole" 1 B0:=
 ⟨f,fd,_,AR D.fn Zh (fun ds h e=>if_neg e) (fun ds h e=>if_pos e) (fun cdv A outer s H E hr=>ZO B et f cdv A outer s H E hr),D.bd,D.mg,D.fn.kp⟩
noncomputable def Cr:List D→HD→Out D:=fun ds h=>if ds.length=1 then Ak 1 (NF) ds h else .stuck
theorem ZaF {t_MOST_LINES:Tok} (m_MOST_LINES:mg "MOST_LINES"=some (.int 8 t_MOST_LINES)) {f:Addr} {fd:FuncData} (D:Dn K mg "is_line_tuple" ["thing"] G0 f fd):CaE P w K mg base "is_line_tuple" 1 Cr:=
 ⟨f,fd,_,AR D.fn Zi (fun ds h e=>if_neg e) (fun ds h e=>if_pos e) (fun cdv A outer s H E hr=>ZP B et m_MOST_LINES f cdv A outer s H E hr),D.bd,D.mg,D.fn.kp⟩
noncomputable def Ff:List D→HD→Out D:=fun ds h=>if ds.length=3 then Ak 3 (NG) ds h else .stuck
theorem ZaG {f:Addr} {fd:FuncData} (D:Dn K mg "row_switched" ["row","columns","is_turned"] G1 f fd):CaE P w K mg base "row_switched" 1 Ff:=
 ⟨f,fd,_,AR D.fn Zj (fun ds h e=>if_neg e) (fun ds h e=>if_pos e) (fun cdv A outer s H E hr=>ZQ B et f cdv A outer s H E hr),D.bd,D.mg,D.fn.kp⟩
noncomputable def Cs:List D→HD→Out D:=fun ds h=>if ds.length=2 then Ak 2 (NH) ds h else .stuck
theorem ZaH {f:Addr} {fd:FuncData} (D:Dn K mg "counts_with_row" ["counts","row"] G2 f fd):CaE P w K mg base "counts_with_row" 1 Cs:=
 ⟨f,fd,_,AR D.fn Zk (fun ds h e=>if_neg e) (fun ds h e=>if_pos e) (fun cdv A outer s H E hr=>ZR B et f cdv A outer s H E hr),D.bd,D.mg,D.fn.kp⟩
noncomputable def Ct:List D→HD→Out D:=fun ds h=>if ds.length=2 then Ak 2 (NI) ds h else .stuck
theorem ZaI {f:Addr} {fd:FuncData} (D:Dn K mg "fewest_lit" ["counts","high"] G3 f fd):CaE P w K mg base "fewest_lit" 1 Ct:=
 ⟨f,fd,_,AR D.fn Zl (fun ds h e=>if_neg e) (fun ds h e=>if_pos e) (fun cdv A outer s H E hr=>ZS B et f cdv A outer s H E hr),D.bd,D.mg,D.fn.kp⟩
noncomputable def Fg:List D→HD→Out D:=fun ds h=>if ds.length=2 then Ak 2 (NJ) ds h else .stuck
theorem ZaJ {f:Addr} {fd:FuncData} (D:Dn K mg "fuller_columns" ["counts","high"] G4 f fd):CaE P w K mg base "fuller_columns" 1 Fg:=
 ⟨f,fd,_,AR D.fn Zm (fun ds h e=>if_neg e) (fun ds h e=>if_pos e) (fun cdv A outer s H E hr=>ZT B et f cdv A outer s H E hr),D.bd,D.mg,D.fn.kp⟩
noncomputable def EA:List D→HD→Out D:=fun ds h=>if ds.length=3 then Ak 6 (NK) ds h else .stuck
theorem ZaK {f:Addr} {fd:FuncData} (D:Dn K mg "ways_with_column" ["ways","count","high"] G5 f fd):CaE P w K mg base "ways_with_column" 1 EA:=
 ⟨f,fd,_,AR D.fn sc_ways_with_column (fun ds h e=>if_neg e) (fun ds h e=>if_pos e) (fun cdv A outer s H E hr=>ZU B et f cdv A outer s H E hr),D.bd,D.mg,D.fn.kp⟩
noncomputable def Cm:List D→HD→Out D:=fun ds h=>if ds.length=2 then Ak 4 (NL) ds h else .stuck
theorem ZaL {f:Addr} {fd:FuncData} (D:Dn K mg "fraction" ["top","bottom"] G6 f fd):CaE P w K mg base "fraction" 1 Cm:=
 ⟨f,fd,_,AR D.fn sc_fraction (fun ds h e=>if_neg e) (fun ds h e=>if_pos e) (fun cdv A outer s H E hr=>ZV B et f cdv A outer s H E hr),D.bd,D.mg,D.fn.kp⟩
noncomputable def EB:List D→HD→Out D:=fun ds h=>if ds.length=2 then Ak 2 (NM) ds h else .stuck
theorem ZaM {f:Addr} {fd:FuncData} (D:Dn K mg "with_lights" ["counts","lights"] G7 f fd):CaE P w K mg base "with_lights" 1 EB:=
 ⟨f,fd,_,AR D.fn Zn (fun ds h e=>if_neg e) (fun ds h e=>if_pos e) (fun cdv A outer s H E hr=>ZW B et f cdv A outer s H E hr),D.bd,D.mg,D.fn.kp⟩
noncomputable def Fh:List D→HD→Out D:=fun ds h=>if ds.length=1 then Ak 3 (NO) ds h else .stuck
theorem ZaN {f:Addr} {fd:FuncData} (D:Dn K mg "all_fours" ["board"] G8 f fd):CaE P w K mg base "all_fours" 1 Fh:=
 ⟨f,fd,_,AR D.fn sc_all_fours (fun ds h e=>if_neg e) (fun ds h e=>if_pos e) (fun cdv A outer s H E hr=>ZX B et f cdv A outer s H E hr),D.bd,D.mg,D.fn.kp⟩
noncomputable def Cu:List D→HD→Out D:=fun ds h=>if ds.length=2 then Ak 6 (NP) ds h else .stuck
theorem ZaO {f:Addr} {fd:FuncData} (D:Dn K mg "is_odd_four" ["board","four"] G9 f fd):CaE P w K mg base "is_odd_four" 1 Cu:=
 ⟨f,fd,_,AR D.fn sc_is_odd_four (fun ds h e=>if_neg e) (fun ds h e=>if_pos e) (fun cdv A outer s H E hr=>ZY B et f cdv A outer s H E hr),D.bd,D.mg,D.fn.kp⟩
noncomputable def Fi:List D→HD→Out D:=fun ds h=>if ds.length=2 then Ak 2 (NQ) ds h else .stuck
theorem ZaP {f:Addr} {fd:FuncData} (D:Dn K mg "have_common_light" ["one","other"] Ha f fd):CaE P w K mg base "have_common_light" 1 Fi:=
 ⟨f,fd,_,AR D.fn Zo (fun ds h e=>if_neg e) (fun ds h e=>if_pos e) (fun cdv A outer s H E hr=>ZZ B et f cdv A outer s H E hr),D.bd,D.mg,D.fn.kp⟩
noncomputable def Fj:List D→HD→Out D:=fun ds h=>if ds.length=2 then Ak 2 (LF) ds h else .stuck
theorem ZaQ {f:Addr} {fd:FuncData} (D:Dn K mg "_law_cell" ["_law_script","_law_k"] Hb f fd):CaE P w K mg base "_law_cell" 1 Fj:=
 ⟨f,fd,_,AR D.fn Zp (fun ds h e=>if_neg e) (fun ds h e=>if_pos e) (fun cdv A outer s H E hr=>Z0 B et f cdv A outer s H E hr),D.bd,D.mg,D.fn.kp⟩
noncomputable def Fm:List D→HD→Out D:=fun ds h=>if ds.length=2 then Ak 3 (NR) ds h else .stuck
theorem ZaR {f:Addr} {fd:FuncData} (D:Dn K mg "_law_mix" ["_law_cell_here","_law_k"] Hc f fd):CaE P w K mg base "_law_mix" 1 Fm:=
 ⟨f,fd,_,AR D.fn sc__law_mix (fun ds h e=>if_neg e) (fun ds h e=>if_pos e) (fun cdv A outer s H E hr=>Z1 B et f cdv A outer s H E hr),D.bd,D.mg,D.fn.kp⟩
noncomputable def Bh:List D→HD→Out D:=fun ds h=>if ds.length=2 then Ak 4 (NS) ds h else .stuck
theorem ZaS {f:Addr} {fd:FuncData} (D:Dn K mg "_law_take" ["_law_box_here","_law_many"] Hd f fd):CaE P w K mg base "_law_take" 1 Bh:=
 ⟨f,fd,_,AR D.fn sc__law_take (fun ds h e=>if_neg e) (fun ds h e=>if_pos e) (fun cdv A outer s H E hr=>Z2 B et f cdv A outer s H E hr),D.bd,D.mg,D.fn.kp⟩
noncomputable def Cn:List D→HD→Out D:=fun ds h=>if ds.length=3 then Ak 3 (LG B0) ds h else .stuck
theorem ZaT (c_is_whole:CaE P w K mg base "is_whole" 1 B0) {f:Addr} {fd:FuncData} (D:Dn K mg "is_between" ["thing","least","most"] He f fd):CaE P w K mg base "is_between" 2 Cn:=
 ⟨f,fd,_,AR D.fn Zq (fun ds h e=>if_neg e) (fun ds h e=>if_pos e) (fun cdv A outer s H E hr=>Z3 B et c_is_whole f cdv A outer s H E hr),D.bd,D.mg,D.fn.kp⟩
noncomputable def Bt:List D→HD→Out D:=fun ds h=>if ds.length=2 then Ak 4 (NT B0) ds h else .stuck
theorem ZaU (c_is_whole:CaE P w K mg base "is_whole" 1 B0) {f:Addr} {fd:FuncData} (D:Dn K mg "is_lot" ["thing","size"] Hf f fd):CaE P w K mg base "is_lot" 2 Bt:=
 ⟨f,fd,_,AR D.fn sc_is_lot (fun ds h e=>if_neg e) (fun ds h e=>if_pos e) (fun cdv A outer s H E hr=>Z4 B et c_is_whole f cdv A outer s H E hr),D.bd,D.mg,D.fn.kp⟩
noncomputable def ED:List D→HD→Out D:=fun ds h=>if ds.length=2 then Ak 4 (NU EA) ds h else .stuck
theorem ZaV (c_ways_with_column:CaE P w K mg base "ways_with_column" 1 EA) {f:Addr} {fd:FuncData} (D:Dn K mg "ways_of_counts" ["counts","high"] Hg f fd):CaE P w K mg base "ways_of_counts" 2 ED:=
 ⟨f,fd,_,AR D.fn sc_ways_of_counts (fun ds h e=>if_neg e) (fun ds h e=>if_pos e) (fun cdv A outer s H E hr=>Z5 B et c_ways_with_column f cdv A outer s H E hr),D.bd,D.mg,D.fn.kp⟩
noncomputable def Cv:List D→HD→Out D:=fun ds h=>if ds.length=2 then Ak 2 (NV Fi) ds h else .stuck
theorem ZaW (c_have_common_light:CaE P w K mg base "have_common_light" 1 Fi) {f:Addr} {fd:FuncData} (D:Dn K mg "is_apart" ["four","others"] Hh f fd):CaE P w K mg base "is_apart" 2 Cv:=
 ⟨f,fd,_,AR D.fn Zr (fun ds h e=>if_neg e) (fun ds h e=>if_pos e) (fun cdv A outer s H E hr=>Z6 B et c_have_common_light f cdv A outer s H E hr),D.bd,D.mg,D.fn.kp⟩
noncomputable def EE:List D→HD→Out D:=fun ds h=>if ds.length=2 then Ak 5 (NW Fj Fm) ds h else .stuck
theorem ZaX (c__law_cell:CaE P w K mg base "_law_cell" 1 Fj) (c__law_mix:CaE P w K mg base "_law_mix" 1 Fm) {f:Addr} {fd:FuncData} (D:Dn K mg "_law_box" ["_law_script","_law_k"] Hi f fd):CaE P w K mg base "_law_box" 2 EE:=
 ⟨f,fd,_,AR D.fn sc__law_box (fun ds h e=>if_neg e) (fun ds h e=>if_pos e) (fun cdv A outer s H E hr=>Z7 B et c__law_cell c__law_mix f cdv A outer s H E hr),D.bd,D.mg,D.fn.kp⟩
noncomputable def Fo:List D→HD→Out D:=fun ds h=>if ds.length=1 then Ak 4 (NX Bh) ds h else .stuck
theorem ZaY (c__law_take:CaE P w K mg base "_law_take" 1 Bh) {f:Addr} {fd:FuncData} (D:Dn K mg "_law_wide_box" ["_law_box_here"] Hj f fd):CaE P w K mg base "_law_wide_box" 2 Fo:=
 ⟨f,fd,_,AR D.fn sc__law_wide_box (fun ds h e=>if_neg e) (fun ds h e=>if_pos e) (fun cdv A outer s H E hr=>Z8 B et c__law_take f cdv A outer s H E hr),D.bd,D.mg,D.fn.kp⟩
noncomputable def DO:List D→HD→Out D:=fun ds h=>if ds.length=2 then Ak 2 (NY Bh) ds h else .stuck
theorem ZaZ (c__law_take:CaE P w K mg base "_law_take" 1 Bh) {f:Addr} {fd:FuncData} (D:Dn K mg "_law_lot" ["_law_box_here","_law_size"] Hk f fd):CaE P w K mg base "_law_lot" 2 DO:=
 ⟨f,fd,_,AR D.fn Zs (fun ds h e=>if_neg e) (fun ds h e=>if_pos e) (fun cdv A outer s H E hr=>Z9 B et c__law_take f cdv A outer s H E hr),D.bd,D.mg,D.fn.kp⟩
noncomputable def Fp:List D→HD→Out D:=fun ds h=>if ds.length=1 then Ak 1 (NZ Cn) ds h else .stuck
theorem Za0 (c_is_between:CaE P w K mg base "is_between" 2 Cn) {f:Addr} {fd:FuncData} (D:Dn K mg "is_light" ["thing"] Hl f fd):CaE P w K mg base "is_light" 3 Fp:=
 ⟨f,fd,_,AR D.fn Zt (fun ds h e=>if_neg e) (fun ds h e=>if_pos e) (fun cdv A outer s H E hr=>Zaa B et c_is_between f cdv A outer s H E hr),D.bd,D.mg,D.fn.kp⟩
noncomputable def EF:List D→HD→Out D:=fun ds h=>if ds.length=3 then Ak 3 (N0 Cn) ds h else .stuck
theorem Za1 (c_is_between:CaE P w K mg base "is_between" 2 Cn) {f:Addr} {fd:FuncData} (D:Dn K mg "need_number" ["thing","least","most"] Hm f fd):CaE P w K mg base "need_number" 3 EF:=
 ⟨f,fd,_,AR D.fn Zu (fun ds h e=>if_neg e) (fun ds h e=>if_pos e) (fun cdv A outer s H E hr=>Zab B et c_is_between f cdv A outer s H E hr),D.bd,D.mg,D.fn.kp⟩
noncomputable def Fq:List D→HD→Out D:=fun ds h=>if ds.length=3 then Ak 4 (N1 ED) ds h else .stuck
theorem Za2 (c_ways_of_counts:CaE P w K mg base "ways_of_counts" 2 ED) {f:Addr} {fd:FuncData} (D:Dn K mg "sum_of_column" ["lit","free","high"] Ho f fd):CaE P w K mg base "sum_of_column" 3 Fq:=
 ⟨f,fd,_,AR D.fn sc_sum_of_column (fun ds h e=>if_neg e) (fun ds h e=>if_pos e) (fun cdv A outer s H E hr=>Zac B et c_ways_of_counts f cdv A outer s H E hr),D.bd,D.mg,D.fn.kp⟩
noncomputable def Fs:List D→HD→Out D:=fun ds h=>if ds.length=2 then Ak 2 (N2 Bt) ds h else .stuck
theorem Za3 (c_is_lot:CaE P w K mg base "is_lot" 2 Bt) {f:Addr} {fd:FuncData} (D:Dn K mg "is_four" ["board","thing"] Hq f fd):CaE P w K mg base "is_four" 3 Fs:=
 ⟨f,fd,_,AR D.fn Zv (fun ds h e=>if_neg e) (fun ds h e=>if_pos e) (fun cdv A outer s H E hr=>Zad B et c_is_lot f cdv A outer s H E hr),D.bd,D.mg,D.fn.kp⟩
noncomputable def EG:List D→HD→Out D:=fun ds h=>if ds.length=3 then Ak 8 (N3 Bh Fo) ds h else .stuck
theorem Za4 (c__law_take:CaE P w K mg base "_law_take" 1 Bh) (c__law_wide_box:CaE P w K mg base "_law_wide_box" 2 Fo) {f:Addr} {fd:FuncData} (D:Dn K mg "_law_board" ["_law_box_here","_law_high","_law_wide"] Hr f fd):CaE P w K mg base "_law_board" 3 EG:=
 ⟨f,fd,_,AR D.fn sc__law_board (fun ds h e=>if_neg e) (fun ds h e=>if_pos e) (fun cdv A outer s H E hr=>Zae B et c__law_take c__law_wide_box f cdv A outer s H E hr),D.bd,D.mg,D.fn.kp⟩
noncomputable def Ft:List D→HD→Out D:=fun ds h=>if ds.length=1 then Ak 1 (N4 Cr Fp) ds h else .stuck
theorem Za5 (c_is_line_tuple:CaE P w K mg base "is_line_tuple" 1 Cr) (c_is_light:CaE P w K mg base "is_light" 3 Fp) {f:Addr} {fd:FuncData} (D:Dn K mg "is_row" ["thing"] Hs f fd):CaE P w K mg base "is_row" 4 Ft:=
 ⟨f,fd,_,AR D.fn Zw (fun ds h e=>if_neg e) (fun ds h e=>if_pos e) (fun cdv A outer s H E hr=>Zaf B et c_is_line_tuple c_is_light f cdv A outer s H E hr),D.bd,D.mg,D.fn.kp⟩
noncomputable def Fu:List D→HD→Out D:=fun ds h=>if ds.length=2 then Ak 2 (N5 EF) ds h else .stuck
theorem Za6 (c_need_number:CaE P w K mg base "need_number" 3 EF) {t_MOST_LINES:Tok} (m_MOST_LINES:mg "MOST_LINES"=some (.int 8 t_MOST_LINES)) {f:Addr} {fd:FuncData} (D:Dn K mg "need_size" ["high","wide"] Ht f fd):CaE P w K mg base "need_size" 4 Fu:=
 ⟨f,fd,_,AR D.fn Zx (fun ds h e=>if_neg e) (fun ds h e=>if_pos e) (fun cdv A outer s H E hr=>Zag B et c_need_number m_MOST_LINES f cdv A outer s H E hr),D.bd,D.mg,D.fn.kp⟩
noncomputable def Cw:List D→HD→Out D:=fun ds h=>if ds.length=3 then Ak 3 (N6 Fq) ds h else .stuck
theorem Za7 (c_sum_of_column:CaE P w K mg base "sum_of_column" 3 Fq) {f:Addr} {fd:FuncData} (D:Dn K mg "sum_of_columns" ["counts","free","high"] Hu f fd):CaE P w K mg base "sum_of_columns" 4 Cw:=
 ⟨f,fd,_,AR D.fn Zy (fun ds h e=>if_neg e) (fun ds h e=>if_pos e) (fun cdv A outer s H E hr=>Zah B et c_sum_of_column f cdv A outer s H E hr),D.bd,D.mg,D.fn.kp⟩
noncomputable def Fv:List D→HD→Out D:=fun ds h=>if ds.length=1 then Ak 1 (N7 Cr Ft) ds h else .stuck
theorem Za8 (c_is_line_tuple:CaE P w K mg base "is_line_tuple" 1 Cr) (c_is_row:CaE P w K mg base "is_row" 4 Ft) {f:Addr} {fd:FuncData} (D:Dn K mg "is_board" ["thing"] Hv f fd):CaE P w K mg base "is_board" 5 Fv:=
 ⟨f,fd,_,AR D.fn Zz (fun ds h e=>if_neg e) (fun ds h e=>if_pos e) (fun cdv A outer s H E hr=>Zai B et c_is_line_tuple c_is_row f cdv A outer s H E hr),D.bd,D.mg,D.fn.kp⟩
noncomputable def Cd:List D→HD→Out D:=fun ds h=>if ds.length=2 then Ak 2 (N8 Fu Cw Cm) ds h else .stuck
theorem Za9 (c_need_size:CaE P w K mg base "need_size" 4 Fu) (c_sum_of_columns:CaE P w K mg base "sum_of_columns" 4 Cw) (c_fraction:CaE P w K mg base "fraction" 1 Cm) {f:Addr} {fd:FuncData} (D:Dn K mg "mean_left" ["high","wide"] Hw f fd):CaE P w K mg base "mean_left" 5 Cd:=
 ⟨f,fd,_,AR D.fn ZA (fun ds h e=>if_neg e) (fun ds h e=>if_pos e) (fun cdv A outer s H E hr=>Zaj B et c_need_size c_sum_of_columns c_fraction f cdv A outer s H E hr),D.bd,D.mg,D.fn.kp⟩
noncomputable def AI:List D→HD→Out D:=fun ds h=>if ds.length=1 then Ak 1 (N9 Fv) ds h else .stuck
theorem Zba (c_is_board:CaE P w K mg base "is_board" 5 Fv) {f:Addr} {fd:FuncData} (D:Dn K mg "need_board" ["thing"] Hx f fd):CaE P w K mg base "need_board" 6 AI:=
 ⟨f,fd,_,AR D.fn ZC (fun ds h e=>if_neg e) (fun ds h e=>if_pos e) (fun cdv A outer s H E hr=>Zak B et c_is_board f cdv A outer s H E hr),D.bd,D.mg,D.fn.kp⟩
noncomputable def EH:List D→HD→Out D:=fun ds h=>if ds.length=2 then Ak 2 (Oa Cd) ds h else .stuck
theorem Zbb (c_mean_left:CaE P w K mg base "mean_left" 5 Cd) {f:Addr} {fd:FuncData} (D:Dn K mg "bound_of" ["high","wide"] Hz f fd):CaE P w K mg base "bound_of" 6 EH:=
 ⟨f,fd,_,AR D.fn ZD (fun ds h e=>if_neg e) (fun ds h e=>if_pos e) (fun cdv A outer s H E hr=>Zal B et c_mean_left f cdv A outer s H E hr),D.bd,D.mg,D.fn.kp⟩
noncomputable def Cy:List D→HD→Out D:=fun ds h=>if ds.length=1 then Ak 1 (Ob AI) ds h else .stuck
theorem Zbc (c_need_board:CaE P w K mg base "need_board" 6 AI) {f:Addr} {fd:FuncData} (D:Dn K mg "row_counts" ["board"] HA f fd):CaE P w K mg base "row_counts" 7 Cy:=
 ⟨f,fd,_,AR D.fn ZE (fun ds h e=>if_neg e) (fun ds h e=>if_pos e) (fun cdv A outer s H E hr=>Zam B et c_need_board f cdv A outer s H E hr),D.bd,D.mg,D.fn.kp⟩
noncomputable def Fw:List D→HD→Out D:=fun ds h=>if ds.length=2 then Ak 2 (Oc AI Bt) ds h else .stuck
theorem Zbd (c_need_board:CaE P w K mg base "need_board" 6 AI) (c_is_lot:CaE P w K mg base "is_lot" 2 Bt) {f:Addr} {fd:FuncData} (D:Dn K mg "is_switching" ["board","thing"] HB f fd):CaE P w K mg base "is_switching" 7 Fw:=
 ⟨f,fd,_,AR D.fn ZF (fun ds h e=>if_neg e) (fun ds h e=>if_pos e) (fun cdv A outer s H E hr=>Zan B et c_need_board c_is_lot f cdv A outer s H E hr),D.bd,D.mg,D.fn.kp⟩
noncomputable def Fx:List D→HD→Out D:=fun ds h=>if ds.length=1 then Ak 1 (Od AI) ds h else .stuck
theorem Zbe (c_need_board:CaE P w K mg base "need_board" 6 AI) {f:Addr} {fd:FuncData} (D:Dn K mg "turned" ["board"] HC f fd):CaE P w K mg base "turned" 7 Fx:=
 ⟨f,fd,_,AR D.fn ZG (fun ds h e=>if_neg e) (fun ds h e=>if_pos e) (fun cdv A outer s H E hr=>Zao B et c_need_board f cdv A outer s H E hr),D.bd,D.mg,D.fn.kp⟩
noncomputable def Co:List D→HD→Out D:=fun ds h=>if ds.length=1 then Ak 10 (Oe AI EB Cw Cm) ds h else .stuck
theorem Zbf (c_need_board:CaE P w K mg base "need_board" 6 AI) (c_with_lights:CaE P w K mg base "with_lights" 1 EB) (c_sum_of_columns:CaE P w K mg base "sum_of_columns" 4 Cw) (c_fraction:CaE P w K mg base "fraction" 1 Cm) {f:Addr} {fd:FuncData} (D:Dn K mg "road_of" ["board"] HE f fd):CaE P w K mg base "road_of" 7 Co:=
 ⟨f,fd,_,AR D.fn sc_road_of (fun ds h e=>if_neg e) (fun ds h e=>if_pos e) (fun cdv A outer s H E hr=>Zap B et c_need_board c_with_lights c_sum_of_columns c_fraction f cdv A outer s H E hr),D.bd,D.mg,D.fn.kp⟩
noncomputable def Fy:List D→HD→Out D:=fun ds h=>if ds.length=1 then Ak 1 (Of AI Fh Cu) ds h else .stuck
theorem Zbg (c_need_board:CaE P w K mg base "need_board" 6 AI) (c_all_fours:CaE P w K mg base "all_fours" 1 Fh) (c_is_odd_four:CaE P w K mg base "is_odd_four" 1 Cu) {f:Addr} {fd:FuncData} (D:Dn K mg "odd_fours" ["board"] HF f fd):CaE P w K mg base "odd_fours" 7 Fy:=
 ⟨f,fd,_,AR D.fn ZH (fun ds h e=>if_neg e) (fun ds h e=>if_pos e) (fun cdv A outer s H E hr=>Zaq B et c_need_board c_all_fours c_is_odd_four f cdv A outer s H E hr),D.bd,D.mg,D.fn.kp⟩
noncomputable def DP:List D→HD→Out D:=fun ds h=>if ds.length=2 then Ak 4 (Og AI Fs Cu Cv) ds h else .stuck
theorem Zbh (c_need_board:CaE P w K mg base "need_board" 6 AI) (c_is_four:CaE P w K mg base "is_four" 3 Fs) (c_is_odd_four:CaE P w K mg base "is_odd_four" 1 Cu) (c_is_apart:CaE P w K mg base "is_apart" 2 Cv) {f:Addr} {fd:FuncData} (D:Dn K mg "floor_shown" ["board","thing"] HG f fd):CaE P w K mg base "floor_shown" 7 DP:=
 ⟨f,fd,_,AR D.fn sc_floor_shown (fun ds h e=>if_neg e) (fun ds h e=>if_pos e) (fun cdv A outer s H E hr=>Zar B et c_need_board c_is_four c_is_odd_four c_is_apart f cdv A outer s H E hr),D.bd,D.mg,D.fn.kp⟩
noncomputable def EI:List D→HD→Out D:=fun ds h=>if ds.length=1 then Ak 1 (Oh Cy) ds h else .stuck
theorem Zbi (c_row_counts:CaE P w K mg base "row_counts" 7 Cy) {f:Addr} {fd:FuncData} (D:Dn K mg "lit_many" ["board"] HH f fd):CaE P w K mg base "lit_many" 8 EI:=
 ⟨f,fd,_,AR D.fn ZI (fun ds h e=>if_neg e) (fun ds h e=>if_pos e) (fun cdv A outer s H E hr=>Zas B et c_row_counts f cdv A outer s H E hr),D.bd,D.mg,D.fn.kp⟩
noncomputable def Cz:List D→HD→Out D:=fun ds h=>if ds.length=1 then Ak 1 (Oi Fx Cy) ds h else .stuck
theorem Zbj (c_turned:CaE P w K mg base "turned" 7 Fx) (c_row_counts:CaE P w K mg base "row_counts" 7 Cy) {f:Addr} {fd:FuncData} (D:Dn K mg "column_counts" ["board"] HI f fd):CaE P w K mg base "column_counts" 8 Cz:=
 ⟨f,fd,_,AR D.fn ZJ (fun ds h e=>if_neg e) (fun ds h e=>if_pos e) (fun cdv A outer s H E hr=>Zat B et c_turned c_row_counts f cdv A outer s H E hr),D.bd,D.mg,D.fn.kp⟩
noncomputable def Fz:List D→HD→Out D:=fun ds h=>if ds.length=2 then Ak 2 (Oj Fw) ds h else .stuck
theorem Zbk (c_is_switching:CaE P w K mg base "is_switching" 7 Fw) {f:Addr} {fd:FuncData} (D:Dn K mg "need_switching" ["board","thing"] HJ f fd):CaE P w K mg base "need_switching" 8 Fz:=
 ⟨f,fd,_,AR D.fn ZK (fun ds h e=>if_neg e) (fun ds h e=>if_pos e) (fun cdv A outer s H E hr=>Zau B et c_is_switching f cdv A outer s H E hr),D.bd,D.mg,D.fn.kp⟩
noncomputable def DQ:List D→HD→Out D:=fun ds h=>if ds.length=1 then Ak 3 (Ol Fy Cv) ds h else .stuck
theorem Zbl (c_odd_fours:CaE P w K mg base "odd_fours" 7 Fy) (c_is_apart:CaE P w K mg base "is_apart" 2 Cv) {f:Addr} {fd:FuncData} (D:Dn K mg "floor_fours" ["board"] HK f fd):CaE P w K mg base "floor_fours" 8 DQ:=
 ⟨f,fd,_,AR D.fn sc_floor_fours (fun ds h e=>if_neg e) (fun ds h e=>if_pos e) (fun cdv A outer s H E hr=>Zav B et c_odd_fours c_is_apart f cdv A outer s H E hr),D.bd,D.mg,D.fn.kp⟩
noncomputable def DR:List D→HD→Out D:=fun ds h=>if ds.length=2 then Ak 4 (Om Fz Ff) ds h else .stuck
theorem Zbm (c_need_switching:CaE P w K mg base "need_switching" 8 Fz) (c_row_switched:CaE P w K mg base "row_switched" 1 Ff) {f:Addr} {fd:FuncData} (D:Dn K mg "switched" ["board","switching"] HL f fd):CaE P w K mg base "switched" 9 DR:=
 ⟨f,fd,_,AR D.fn sc_switched (fun ds h e=>if_neg e) (fun ds h e=>if_pos e) (fun cdv A outer s H E hr=>Zaw B et c_need_switching c_row_switched f cdv A outer s H E hr),D.bd,D.mg,D.fn.kp⟩
noncomputable def Dk:List D→HD→Out D:=fun ds h=>if ds.length=1 then Ak 3 (On Cz Cs) ds h else .stuck
theorem Zbn (c_column_counts:CaE P w K mg base "column_counts" 8 Cz) (c_counts_with_row:CaE P w K mg base "counts_with_row" 1 Cs) {f:Addr} {fd:FuncData} (D:Dn K mg "lots_with_counts" ["board"] HM f fd):CaE P w K mg base "lots_with_counts" 9 Dk:=
 ⟨f,fd,_,AR D.fn sc_lots_with_counts (fun ds h e=>if_neg e) (fun ds h e=>if_pos e) (fun cdv A outer s H E hr=>Zax B et c_column_counts c_counts_with_row f cdv A outer s H E hr),D.bd,D.mg,D.fn.kp⟩
noncomputable def CA:List D→HD→Out D:=fun ds h=>if ds.length=2 then Ak 4 (Oo AI Bt Cz Cs) ds h else .stuck
theorem Zbo (c_need_board:CaE P w K mg base "need_board" 6 AI) (c_is_lot:CaE P w K mg base "is_lot" 2 Bt) (c_column_counts:CaE P w K mg base "column_counts" 8 Cz) (c_counts_with_row:CaE P w K mg base "counts_with_row" 1 Cs) {f:Addr} {fd:FuncData} (D:Dn K mg "counts_by" ["board","rows"] HN f fd):CaE P w K mg base "counts_by" 9 CA:=
 ⟨f,fd,_,AR D.fn sc_counts_by (fun ds h e=>if_neg e) (fun ds h e=>if_pos e) (fun cdv A outer s H E hr=>Zay B et c_need_board c_is_lot c_column_counts c_counts_with_row f cdv A outer s H E hr),D.bd,D.mg,D.fn.kp⟩
noncomputable def EJ:List D→HD→Out D:=fun ds h=>if ds.length=1 then Ak 1 (Oq Dk Ct) ds h else .stuck
theorem Zbp (c_lots_with_counts:CaE P w K mg base "lots_with_counts" 9 Dk) (c_fewest_lit:CaE P w K mg base "fewest_lit" 1 Ct) {f:Addr} {fd:FuncData} (D:Dn K mg "left_many" ["board"] HP f fd):CaE P w K mg base "left_many" 10 EJ:=
 ⟨f,fd,_,AR D.fn ZL (fun ds h e=>if_neg e) (fun ds h e=>if_pos e) (fun cdv A outer s H E hr=>Zaz B et c_lots_with_counts c_fewest_lit f cdv A outer s H E hr),D.bd,D.mg,D.fn.kp⟩
noncomputable def FA:List D→HD→Out D:=fun ds h=>if ds.length=2 then Ak 2 (Ot CA Fg) ds h else .stuck
theorem Zbq (c_counts_by:CaE P w K mg base "counts_by" 9 CA) (c_fuller_columns:CaE P w K mg base "fuller_columns" 1 Fg) {f:Addr} {fd:FuncData} (D:Dn K mg "best_columns" ["board","rows"] HQ f fd):CaE P w K mg base "best_columns" 10 FA:=
 ⟨f,fd,_,AR D.fn ZM (fun ds h e=>if_neg e) (fun ds h e=>if_pos e) (fun cdv A outer s H E hr=>ZaA B et c_counts_by c_fuller_columns f cdv A outer s H E hr),D.bd,D.mg,D.fn.kp⟩
noncomputable def EK:List D→HD→Out D:=fun ds h=>if ds.length=2 then Ak 2 (Ou CA Ct) ds h else .stuck
theorem Zbr (c_counts_by:CaE P w K mg base "counts_by" 9 CA) (c_fewest_lit:CaE P w K mg base "fewest_lit" 1 Ct) {f:Addr} {fd:FuncData} (D:Dn K mg "left_by" ["board","rows"] HU f fd):CaE P w K mg base "left_by" 10 EK:=
 ⟨f,fd,_,AR D.fn ZN (fun ds h e=>if_neg e) (fun ds h e=>if_pos e) (fun cdv A outer s H E hr=>ZaB B et c_counts_by c_fewest_lit f cdv A outer s H E hr),D.bd,D.mg,D.fn.kp⟩
noncomputable def EL:List D→HD→Out D:=fun ds h=>if ds.length=1 then Ak 3 (Ov Co FA) ds h else .stuck
theorem Zbs (c_road_of:CaE P w K mg base "road_of" 7 Co) (c_best_columns:CaE P w K mg base "best_columns" 10 FA) {f:Addr} {fd:FuncData} (D:Dn K mg "road_switching" ["board"] HV f fd):CaE P w K mg base "road_switching" 11 EL:=
 ⟨f,fd,_,AR D.fn sc_road_switching (fun ds h e=>if_neg e) (fun ds h e=>if_pos e) (fun cdv A outer s H E hr=>ZaC B et c_road_of c_best_columns f cdv A outer s H E hr),D.bd,D.mg,D.fn.kp⟩
noncomputable def F_law:List D→HD→Out D:=fun ds h=>if ds.length=1 then Ak 17 (LH EE Bh EG Cd EJ EH Co EL DR EI EK DQ DO DP) ds h else .stuck
end
theorem _root_.LS.Sm.len {h h':HD} (s:Sm h h'):h.length≤h'.length:=by
 cases e:h.length with
 |zero=>exact FD _
 |succ n=>
  have hn:n<h.length:=by omega
  have:=s n h[n] (Bi hn)
  have:=(qa5.mp this).1
  omega
theorem sz {n:Nat} (hn:n≤8):(List.range n).length≤sizeLine:=by
 rw [List.length_range];unfold sizeLine;omega
theorem Zbt {ns:List Int} {k:Nat} (hb:∀i∈ns,Builtin.Int.intBits i≤2^20) (hk:k≤1000):∃c:Int,Builtin.Int.intBits c≤2^20∧∀h,Pu (Fj [.scr ns,.int (k:Nat)] h) h (.int c):=by
 by_cases hl:k<ns.length
 ·refine ⟨ns[k],hb _ (Je hl),fun h=>?_⟩
  change Wp (Ak 2 LF [.scr ns,.int (k:Nat)] h) _
  refine Eq.mpr (AN) ?_
  have:(k:Int)<ns.length:=by omega
  simp [this]
  refine A6 (WW (Bi hl)) ?_
  simp [Sm.refl]
 ·refine ⟨6151*(k:Int)+29,?_,fun h=>?_⟩
  ·rw [intBits_le_iff]
   have h1:(6151*(k:Int)+29).natAbs<2^30:=by omega
   exact Bq h1 (Kr (by decide) (by omega))
  ·change Wp (Ak 2 LF [.scr ns,.int (k:Nat)] h) _
   refine Eq.mpr (AN) ?_
   have:¬(k:Int)<ns.length:=by omega
   simp [this]
   rw [Gi (by decide) (by decide)]
   simp [Sm.refl]
def RX (c:Int) (k:Nat):Int:=(((c+1)*40692+104729*(k:Int))*((c+1)*40692+104729*(k:Int))) % 2147483399+(k:Int)
theorem RY {h:HD}:IB [.int 24] h=.ok ((List.range 24).map fun k=>D.int ((k:Nat):Int),[]) h:=Gh (n:=24) (by decide)
theorem Zbu {c:Int} {k:Nat} (hc:Builtin.Int.intBits c≤2^20) (hk:k≤1000):∃r:Int,∀h,Pu (Fm [.int c,.int (k:Nat)] h) h (.int r):=by
 refine ⟨RX c k*(RX c k+31) % 2147483563,fun h=>?_⟩
 change Wp (Ak 3 NR [.int c,.int (k:Nat)] h) _
 refine Eq.mpr (AN) ?_
 have bX:Builtin.Int.intBits ((c+1)*40692+104729*(k:Int))≤16777216:=by
  have hk':Builtin.Int.intBits ((k:Nat):Int)≤10:=PySem.intBits_le_iff.mpr (by omega)
  have:=PySem.intBits_add_le (PySem.intBits_mul_le (PySem.intBits_add_le hc (show Builtin.Int.intBits 1≤1 by decide)) (show Builtin.Int.intBits 40692≤16 by decide)) (PySem.intBits_mul_le (show Builtin.Int.intBits 104729≤17 by decide) hk')
  exact B8 this (by decide)
 have h1:=Int.emod_nonneg (((c+1)*40692+104729*(k:Int))*((c+1)*40692+104729*(k:Int))) (show (2147483399:Int)≠0 by decide)
 have h2:=Int.emod_lt_of_pos (((c+1)*40692+104729*(k:Int))*((c+1)*40692+104729*(k:Int))) (show (0:Int)<2147483399 by decide)
 simp
 rw [JN (by decide) (by decide)]
 simp
 rw [Gi (by decide) (by decide)]
 simp
 rw [WY bX bX]
 simp
 rw [IK (by decide)]
 simp
 rw [Gi (by omega) (by omega)]
 simp
 rw [IK (by decide)]
 simp
 exact ⟨rfl,.refl _⟩
def BoxAt (h:HD) (b:Nat):Prop:=∃n:Int,h[b]?=some (.lst [.int n])
inductive RZ (ns:List Int) (k:Nat) (c:Int) (h:HD) (xs:List Nat) (ρ:Ai) (h':HD):Prop where
 |mk (N:Int) (x:Option D) (f0:ρ=[some (.scr ns),some (.int (k:Nat)),some (.int c),some (.int N),x]) (f1:Sm h h') (f2:∀j∈xs,j<24):RZ ns k c h xs ρ h'
theorem Zbv {ns:List Int} {k:Nat} {h:HD} {Q:D→HD→Prop} (hb:∀i∈ns,Builtin.Int.intBits i≤2^20) (hk:k≤1000) (q:∀l h',BoxAt h' l→h.length≤l→Sm h h'→Q (.loc l) h'):Wp (EE [.scr ns,.int (k:Nat)] h) Q:=by
 change Wp (Ak 5 (NW Fj Fm) [.scr ns,.int (k:Nat)] h) _
 refine Eq.mpr (AN) ?_
 obtain ⟨c,bc,pc⟩:=Zbt (k:=k) hb hk
 simp
 refine (pc h).wp fun h1 s1=>?_
 rw [IK (by decide)]
 simp
 by_cases hz:c % 2=0
 ·simp [hz]
  rw [Lc (by decide) (by decide)]
  simp
  exact B7 (by simp) fun l h' s e el _=>q l h' ⟨_,e⟩ (by have:=s1.len;omega) (s1.trans s)
 ·simp [hz]
  refine DN (src:=[]) (xs:=List.range 24) (fun i=>.int ((i:Nat):Int)) (RZ ns k c h) ?_ (fun ys ρ h' _=>DG) ?_ ?_
  ·simp [RY]
   exact ⟨_,_,rfl,s1,fun j hj=>qb4.mp hj⟩
  ·rintro x xs ρ h' ⟨N,y,rfl,sh,hx⟩
   refine ⟨_,rfl,?_⟩
   obtain ⟨m,pm⟩:=Zbu (k:=x) bc (by have:=hx x AW;omega)
   simp
   rw [JN (by decide) (by decide)]
   simp
   refine (pm h').wp fun h2 s2=>?_
   simp [Ci]
   exact ⟨_,_,rfl,sh.trans s2,fun j hj=>hx j (A1 _ hj)⟩
  ·rintro ρ h' ⟨N,y,rfl,sh,_⟩
   simp
   exact B7 (by simp) fun l h' s e el _=>q l h' ⟨_,e⟩ (by have:=sh.len;omega) (sh.trans s)
def Smx (b:Nat) (h h':HD):Prop:=∀(l:Nat) (c:Cell),l≠b→h[l]?=some c→h'[l]?=some c
theorem Smx.refl (b:Nat) (h:HD):Smx b h h:=fun _ _ _ e=>e
theorem Smx.trans {b:Nat} {h h1 h2:HD} (a:Smx b h h1) (c:Smx b h1 h2):Smx b h h2:=fun l x n e=>c l x n (a l x n e)
theorem Jb {b:Nat} {h h':HD} (s:Sm h h'):Smx b h h':=fun l c _ e=>s l c e
theorem J3 {b:Nat} {m:Int} {h:HD} {Q:D→HD→Prop} (hx:BoxAt h b) (h1:0<m) (h2:m<18446744073709551616) (q:∀d h',0≤d→d<m→BoxAt h' b→Smx b h h'→Q (.int d) h'):Wp (Bh [.loc b,.int m] h) Q:=by
 change Wp (Ak 4 NS [.loc b,.int m] h) _
 refine Eq.mpr (AN) ?_
 obtain ⟨N,e⟩:=hx
 simp
 rw [show (0:Int)=((0:Nat):Int) from rfl]
 refine A6 (GN e (k:=0) rfl) ?_
 simp
 refine A6 (WZ h1 h2) ?_
 simp
 rw [show (0:Int)=((0:Nat):Int) from rfl]
 refine A6 (Qz e (by simp)) ?_
 simp
 have hl:b<h.length:=(qa5.mp e).1
 refine q _ _ (Int.emod_nonneg _ (by omega)) (Int.emod_lt_of_pos _ h1) ⟨_,by rw [DX hl]⟩ fun l c ne el=>?_
 rw [CU (Ne.symm ne)]
 exact el
theorem BoxAt.sm {b:Nat} {h h':HD} (x:BoxAt h b) (s:Sm h h'):BoxAt h' b:=let ⟨n,e⟩:=x;⟨n,s _ _ e⟩
theorem BoxAt.smx {a b:Nat} {h h':HD} (x:BoxAt h b) (s:Smx a h h') (ne:b≠a):BoxAt h' b:=let ⟨n,e⟩:=x;⟨n,s _ _ ne e⟩
theorem BoxAt.new {b:Nat} {h:HD} {c:Cell} (x:BoxAt h b):BoxAt (h++[c]) b:=x.sm (.app _ _)
def Plain (h:HD):D→Prop
 |.int _=>True
 |.bl _=>True
 |.non=>True
 |.str _=>True
 |.tup _=>True
 |.loc l=>∃ds,h[l]?=some (.lst ds)
 |_=>False
theorem Plain.sm {h h':HD} {d:D} (p:Plain h d) (s:Sm h h'):Plain h' d:=by
 cases d with
 |loc l=>obtain ⟨ds,e⟩:=p;exact ⟨ds,s _ _ e⟩
 |_=>exact p
def CK:D→List D
 |.tup ds=>ds
 |_=>[]
def Plain2 (h:HD) (d:D):Prop:=Plain h d∧∀x∈CK d,Plain h x
def Plain3 (h:HD) (d:D):Prop:=Plain h d∧∀x∈CK d,Plain2 h x
theorem Plain2.sm {h h':HD} {d:D} (p:Plain2 h d) (s:Sm h h'):Plain2 h' d:=⟨p.1.sm s,fun x hx=>(p.2 x hx).sm s⟩
theorem Plain3.sm {h h':HD} {d:D} (p:Plain3 h d) (s:Sm h h'):Plain3 h' d:=⟨p.1.sm s,fun x hx=>(p.2 x hx).sm s⟩
def J4:D→Bool
 |.int i=>decide (0≤i)&&decide (i≤1)
 |_=>false
def Dl:D→Bool
 |.tup ds=>decide (1≤ds.length)&&decide (ds.length≤8)
 |_=>false
def DS (d:D):Bool:=Dl d&&(CK d).all J4
def FX (d:D):Nat:=(CK d).length
def Gv (d:D):Bool:=Dl d&&(CK d).all DS&&(CK d).all fun x=>FX x==FX ((CK d).getD 0 .non)
theorem p_is_between_int {i a b:Int} {h:HD}:Pu (Cn [.int i,.int a,.int b] h) h (.bl (decide (a≤i)&&decide (i≤b))):=by
 change Wp (Ak 3 (LG B0) [.int i,.int a,.int b] h) _
 refine Eq.mpr (AN) ?_
 have e:B0 [.int i] h=.ok (.bl true) h:=rfl
 simp [e]
 by_cases h1:a≤i<;>simp [h1,AG,Sm.refl]
theorem Zbw {d:D} {a b:Int} {h:HD} (e:B0 [d] h=.ok (.bl false) h):Pu (Cn [d,.int a,.int b] h) h (.bl false):=by
 change Wp (Ak 3 (LG B0) [d,.int a,.int b] h) _
 refine Eq.mpr (AN) ?_
 simp [e,Sm.refl]
def J5:D→Bool
 |.int _=>true
 |_=>false
theorem R0 {d:D} {h:HD} (p:Plain h d):B0 [d] h=.ok (.bl (J5 d)) h:=by
 cases d with
 |loc l=>
  obtain ⟨ds,e⟩:=p
  have i1:CI (.loc l) (.ty "int") h=.ok (.bl false) h:=Ym e
  have w:Wp (Ak 1 ND [.loc l] h) fun d h'=>d=.bl false∧h'=h:=by
   refine Eq.mpr AN ?_
   simp [-Rr,i1]
  obtain ⟨a,h',e',rfl,rfl⟩:=Wp.ex w
  exact e'
 |tup ds=>rfl
 |int i=>rfl
 |bl b=>rfl
 |non=>rfl
 |str x=>rfl
 |_=>exact p.elim
theorem R1 {d:D} (h:J5 d=true):∃i,d=.int i:=by cases d<;>first |exact ⟨_,rfl⟩ |cases h
theorem Zbx {d:D} {h:HD} (p:Plain h d):Pu (Fp [d] h) h (.bl (J4 d)):=by
 change Wp (Ak 1 (NZ Cn) [d] h) _
 refine Eq.mpr AN ?_
 simp
 cases hw:J5 d with
 |true=>
  obtain ⟨i,rfl⟩:=R1 hw
  exact p_is_between_int.wp fun h' s=>⟨rfl,s⟩
 |false=>
  have e:=R0 p
  rw [hw] at e
  have e2:J4 d=false:=by cases d<;>first |rfl |cases hw
  exact (Zbw e).wp fun h' s=>⟨by rw [e2],s⟩
def LI:D→Bool
 |.tup _=>true
 |_=>false
theorem R3 {d:D} {h:HD} (p:Plain h d):CS d (.ty "tuple") h=.ok (.bl (LI d)) h:=by
 cases d with
 |loc l=>obtain ⟨ds,e⟩:=p;exact Yn e
 |tup ds=>rfl
 |int i=>rfl
 |bl b=>rfl
 |non=>rfl
 |str x=>rfl
 |_=>exact p.elim
theorem R4 {d:D} (h:LI d=true):∃ds,d=.tup ds:=by cases d<;>first |exact ⟨_,rfl⟩ |cases h
theorem R5 {d:D} {h:HD} (p:Plain h d):Pu (Cr [d] h) h (.bl (Dl d)):=by
 change Wp (Ak 1 NF [d] h) _
 refine Eq.mpr AN ?_
 cases hT:LI d with
 |true=>
  obtain ⟨ds,rfl⟩:=R4 hT
  have a1:(1:Int)≤ds.length↔1≤ds.length:=by omega
  have a2:(ds.length:Int)≤8↔ds.length≤8:=by omega
  by_cases h1:1≤ds.length
  ·by_cases h2:ds.length≤8
   ·simp [a1.mpr h1,a2.mpr h2,AG,Sm.refl,Dl,h1,h2]
   ·have b2:¬(ds.length:Int)≤8:=by omega
    simp [a1.mpr h1,b2,AG,Sm.refl,Dl,h1,h2]
  ·have b1:¬(1:Int)≤ds.length:=by omega
   simp [b1,AG,Sm.refl,Dl,h1]
 |false=>
  have:Dl d=false:=by cases d<;>first |rfl |cases hT
  simp [R3 p,hT,this,Sm.refl]
theorem Ow {d:D} (h:Dl d=true):∃ds,d=.tup ds∧1≤ds.length∧ds.length≤8:=by
 cases d with
 |tup ds=>exact ⟨ds,rfl,by simpa [Dl] using h⟩
 |_=>cases h
theorem Zby {d:D} {h:HD} (p:Plain2 h d):Pu (Ft [d] h) h (.bl (DS d)):=by
 change Wp (Ak 1 (N4 Cr Fp) [d] h) _
 refine Eq.mpr (AN) ?_
 simp
 refine (R5 p.1).wp fun h1 s1=>?_
 cases hl:Dl d with
 |false=>simp [DS,hl,s1]
 |true=>
  obtain ⟨ds,rfl,l1,l2⟩:=Ow hl
  simp
  refine Pu.wp (ML (src:=[]) (xs:=ds) (φ:=fun x=>x) J4 (fun x=>[some x]) (by rw [List.map_id'];exact JM) (fun x _=>rfl) (fun x hx h' s'=>?_) (by unfold sizeLine;omega)) fun h2 s2=>?_
  ·simp [Pu]
   exact Zbx ((p.2 x hx).sm (s1.trans s'))
  ·simp [DS,hl,CK,s1.trans s2]
theorem R6 {d:D} {h:HD} (hl:Dl d=true):A9 d h=.ok (.int (FX d:Nat)) h:=by
 obtain ⟨ds,rfl,_,_⟩:=Ow hl
 simp [FX,CK]
theorem R7 {d:D} (h:DS d=true):Dl d=true:=by unfold DS at h;exact (Bool.and_eq_true_iff.mp h).1
theorem Zbz {d:D} {h:HD} (p:Plain3 h d):Pu (Fv [d] h) h (.bl (Gv d)):=by
 change Wp (Ak 1 (N7 Cr Ft) [d] h) _
 refine Eq.mpr (AN) ?_
 simp
 refine (R5 p.1).wp fun h1 s1=>?_
 cases hl:Dl d with
 |false=>simp [Gv,hl,s1]
 |true=>
  obtain ⟨ds,rfl,l1,l2⟩:=Ow hl
  simp
  refine Pu.wp (ML (src:=[]) (xs:=ds) (φ:=fun x=>x) DS (fun x=>[some x]) (by rw [List.map_id'];exact JM) (fun x _=>rfl) (fun x hx h' s'=>?_) (by unfold sizeLine;omega)) fun h2 s2=>?_
  ·simp [Pu]
   exact Zby ((p.2 x hx).sm (s1.trans s'))
  ·cases ha:ds.all DS with
   |false=>simp [Gv,hl,CK,ha,s1.trans s2]
   |true=>
    simp
    have hr:∀x∈ds,DS x=true:=fun x hx=>qb2.mp ha x hx
    obtain ⟨d0,rest,rfl⟩:∃d0 rest,ds=d0::rest:=by
     cases ds with
     |nil=>simp at l1
     |cons a r=>exact ⟨a,r,rfl⟩
    refine Pu.wp (ML (src:=[]) (xs:=d0::rest) (φ:=fun x=>x) (fun x=>FX x==FX d0) (fun x=>[some x,some (.tup (d0::rest))]) (by rw [List.map_id'];exact JM) (fun x _=>rfl) (fun x hx h' s'=>?_) (by unfold sizeLine;omega)) fun h3 s3=>?_
    ·simp [Pu]
     rw [R6 (R7 (hr x hx))]
     simp
     rw [show (0:Int)=((0:Nat):Int) from rfl]
     refine A6 (ix_tup (k:=0) rfl) ?_
     simp
     rw [R6 (R7 (hr d0 AW))]
     simp [Sm.refl]
     rw [qb1]
     simp
     omega
    ·have:(d0::rest).all DS=true:=ha
     simp only [Gv,hl,CK,this,Bool.true_and]
     refine ⟨?_,(s1.trans s2).trans s3⟩
     simp
theorem ZbA {d:D} {h:HD} (p:Plain3 h d) (hb:Gv d=true):Pu (AI [d] h) h .non:=by
 change Wp (Ak 1 (N9 Fv) [d] h) _
 refine Eq.mpr (AN) ?_
 simp
 refine (Zbz p).wp fun h1 s1=>?_
 simp [hb,s1]
def lit (x:Bool):D:=.int (if x then 1 else 0)
def A5 (w:Nat) (f:Nat→Bool):D:=.tup ((List.range w).map fun j=>lit (f j))
def bD (h w:Nat) (f:Nat→Nat→Bool):D:=.tup ((List.range h).map fun i=>A5 w (f i))
section
variable {H W:Nat} {h:HD} {f:Nat→Nat→Bool} {r:Nat→Bool}
theorem ZbB {x:Bool}:J4 (lit x)=true:=by cases x<;>rfl
theorem ZbC:Plain2 h (A5 W r):=⟨trivial,fun x hx=>by
 simp only [A5,CK,qb0] at hx
 obtain ⟨j,_,rfl⟩:=hx
 exact trivial⟩
theorem ZbD:Plain3 h (bD H W f):=⟨trivial,fun x hx=>by
 simp only [bD,CK,qb0] at hx
 obtain ⟨j,_,rfl⟩:=hx
 exact ZbC⟩
theorem R8 {ds:List D} (h1:1≤ds.length) (h2:ds.length≤8):Dl (.tup ds)=true:=by simp [Dl,h1,h2]
theorem ZbE (hw:1≤W∧W≤8):DS (A5 W r)=true:=by
 unfold DS
 rw [Ek]
 refine ⟨R8 (by simp;omega) (by simp;omega),qb2.mpr fun x hx=>?_⟩
 simp only [A5,CK,qb0] at hx
 obtain ⟨j,_,rfl⟩:=hx
 exact ZbB
theorem R9:FX (A5 W r)=W:=by simp [FX,A5,CK]
theorem ZbF (hh:1≤H∧H≤8) (hw:1≤W∧W≤8):Gv (bD H W f)=true:=by
 unfold Gv
 rw [Ek,Ek]
 refine ⟨⟨R8 (by simp;omega) (by simp;omega),qb2.mpr fun x hx=>?_⟩,qb2.mpr fun x hx=>?_⟩
 ·simp only [bD,CK,qb0] at hx
  obtain ⟨j,_,rfl⟩:=hx
  exact ZbE hw
 ·simp only [bD,CK,qb0] at hx ⊢
  obtain ⟨j,_,rfl⟩:=hx
  have:((List.range H).map fun i=>A5 W (f i)).getD 0 .non=A5 W (f 0):=by
   rw [DW,Dy,Ks (by omega)];rfl
  rw [this,R9,R9]
  simp
theorem HW (hh:1≤H∧H≤8) (hw:1≤W∧W≤8):Pu (AI [bD H W f] h) h .non:=ZbA ZbD (ZbF hh hw)
end
section
variable {h:HD}
variable {H W:Nat} {f:Nat→Nat→Bool} {r:Nat→Bool}
theorem Gw:A9 (bD H W f) h=.ok (.int (H:Nat)) h:=by simp [bD]
theorem LJ:A9 (A5 W r) h=.ok (.int (W:Nat)) h:=by simp [A5]
theorem Sa {k:Nat} (hk:k<H):Ax (bD H W f) (.int (k:Nat)) h=.ok (A5 W (f k)) h:=IJ hk
theorem LM (hk:1≤H):Ax (bD H W f) (.int 0) h=.ok (A5 W (f 0)) h:=MK (by omega)
def Zft (h:HD) (H W:Nat) (x:D):Prop:=Plain2 h x∧(DS x=false∨(1<H∧FX x≠W))
def Zfu (H W:Nat) (f:Nat→Nat→Bool) (A:Nat) (x:D):D:=.tup (((List.range H).map fun i=>A5 W (f i)).take A++[x]++((List.range H).map fun i=>A5 W (f i)).drop (A+1))
def NoB (h:HD) (d:D):Prop:=Plain3 h d∧Gv d=false
theorem NoB.sm {h':HD} {d:D} (n:NoB h d) (s:Sm h h'):NoB h' d:=⟨n.1.sm s,n.2⟩
end
theorem Plain.smx {b:Nat} {h h':HD} {d:D} (p:Plain h d) (s:Smx b h h') (x:BoxAt h' b):Plain h' d:=by
 cases d with
 |loc l=>
  obtain ⟨ds,e⟩:=p
  by_cases hl:l=b
  ·obtain ⟨n,e'⟩:=x
   exact ⟨_,hl ▸ e'⟩
  ·exact ⟨ds,s _ _ hl e⟩
 |_=>exact p
theorem Plain2.smx {b:Nat} {h h':HD} {d:D} (p:Plain2 h d) (s:Smx b h h') (x:BoxAt h' b):Plain2 h' d:=⟨p.1.smx s x,fun y hy=>(p.2 y hy).smx s x⟩
theorem Plain3.smx {b:Nat} {h h':HD} {d:D} (p:Plain3 h d) (s:Smx b h h') (x:BoxAt h' b):Plain3 h' d:=⟨p.1.smx s x,fun y hy=>(p.2 y hy).smx s x⟩
theorem NoB.smx {b:Nat} {h h':HD} {d:D} (n:NoB h d) (s:Smx b h h') (x:BoxAt h' b):NoB h' d:=⟨n.1.smx s x,n.2⟩
def TabAt (h:HD):Prop:=h[0]?=some .tab
theorem TabAt.sm {h h':HD} (t:TabAt h) (s:Sm h h'):TabAt h':=s _ _ t
theorem TabAt.smx {b:Nat} {h h':HD} (t:TabAt h) (s:Smx b h h') (hb:0<b):TabAt h':=s _ _ (by omega) t
theorem TabAt.pos {h:HD} (t:TabAt h):0<h.length:=(qa5.mp t).1
theorem BoxAt.lt {b:Nat} {h:HD} (x:BoxAt h b):b<h.length:=let ⟨_,e⟩:=x;(qa5.mp e).1
@[simp] theorem Zfv {ρ:Ai} {a b:D} {i j:Nat}:IY [i,j] (.tup [a,b]) ρ=some ((ρ.set i (some a)).set j (some b)):=id rfl
theorem Ox {P:D→Prop}:∀d∈([]:List D),P d:=fun d hd=>by cases hd
theorem all_cons {P:D→Prop} {a:D} {l:List D} (h:P a) (t:∀d∈l,P d):∀d∈a::l,P d:=fun d hd=>by
 rcases qa7.mp hd with rfl |hd
 ·exact h
 ·exact t d hd
theorem ZbG (P:D→Prop) {l o:Nat} {ds:List D} {h:HD} (e:h[l]?=some (.lst ds)) (ho:o<ds.length) (hp:∀d∈ds,P d):∃y,Ax (.loc l) (.int (o:Nat)) h=.ok y h∧P y:=
 ⟨ds[o],GN e (Bi ho),hp _ (Je ho)⟩
theorem ZbH {R:List D} {h:HD}:JW (.tup R) h=CF R h:=rfl
theorem Smx.over {a b:Nat} {h h1 h2:HD} (s:Smx b h h1) (s2:Smx a h1 h2) (hl:h.length≤a):Smx b h h2:=fun l c n e=>s2 l c (by have:=(qa5.mp e).1;omega) (s l c n e)
theorem Smx.put {a b:Nat} {c:Cell} {h h1:HD} (s:Smx b h h1) (hl:h.length≤a):Smx b h (h1.set a c):=fun l x n e=>by
 rw [CU (by have:=(qa5.mp e).1;omega)]
 exact s l x n e
theorem Smx.new {b:Nat} {c:Cell} {h h1:HD} (s:Smx b h h1):Smx b h (h1++[c]):=s.trans (Jb (.app _ _))
theorem Smx.len {b:Nat} {h h':HD} (s:Smx b h h') (hb:b<h'.length):h.length≤h'.length:=by
 cases e:h.length with
 |zero=>exact FD _
 |succ n=>
  have hn:n<h.length:=by omega
  by_cases hz:n=b
  ·omega
  ·have:=s n h[n] hz (Bi hn)
   have:=(qa5.mp this).1
   omega
inductive Sb (b:Nat) (h1:HD) (xs:List Nat) (ρ:Ai) (h':HD):Prop where
 |mk (N M:Int) (x:Option D) (f0:ρ=[some (.loc b),some (.int N),some (.int M),x]) (f1:h'=h1):Sb b h1 xs ρ h'
theorem ZbI {b:Nat} {h:HD} {Q:D→HD→Prop} (hx:BoxAt h b) (q:∀l h',BoxAt h' b→BoxAt h' l→l≠b→h.length≤l→Smx b h h'→Q (.loc l) h'):Wp (Fo [.loc b] h) Q:=by
 change Wp (Ak 4 (NX Bh) [.loc b] h) _
 refine Eq.mpr (AN) ?_
 simp
 refine J3 hx (by decide) (by decide) fun d h1 d0 d1 x1 s1=>?_
 refine DN (src:=[]) (xs:=List.range 24) (fun i=>.int ((i:Nat):Int)) (Sb b h1) ?_ (fun ys ρ h' _=>DG) ?_ ?_
 ·simp [RY]
  exact ⟨_,_,_,rfl,rfl⟩
 ·rintro x xs ρ h' ⟨N,M,y,rfl,rfl⟩
  refine ⟨_,rfl,?_⟩
  simp
  rw [JN (by decide) (by decide)]
  simp
  rw [IK (by decide)]
  simp
  rw [JN (by decide) (by decide)]
  simp [Ci]
  exact ⟨_,_,_,rfl,rfl⟩
 ·rintro ρ h' ⟨N,M,y,rfl,rfl⟩
  simp
  refine B7 (by simp) fun l h2 s e el _=>?_
  exact q l h2 (x1.sm s) ⟨_,e⟩ (by have:=x1.lt;omega) (by have:=s1.len x1.lt;omega) (s1.trans (Jb s))
theorem ZbJ {W:Nat} {rows:List (Nat→Bool)} {H:Nat} (e:rows.length=H):D.tup (rows.map (A5 W))=bD H W fun i=>rows.getD i fun _=>false:=by
 unfold bD
 congr 1
 apply Ih
 ·simp [e]
 ·intro i h1 h2
  simp at h1 h2
  simp [DW,Bi h1]
inductive Sd (b H W:Nat) (way dense:Int) (l2 l3:Nat) (h:HD) (xs:List Nat) (ρ:Ai) (h':HD):Prop where
 |mk (x:Option D) (rows:List (Nat→Bool)) (f0:ρ=[some (.loc b),some (.int (H:Nat)),some (.int (W:Nat)),some (.int way),some (.loc l2),some (.int dense),some (.loc l3),x]) (f1:BoxAt h' b) (f2:BoxAt h' l2) (f3:h'[l3]?=some (.lst (rows.map (A5 W)))) (f4:rows.length+xs.length=H) (f5:Smx b h h'):Sd b H W way dense l2 l3 h xs ρ h'
inductive Se (b W l2 l3:Nat) (rows:List (Nat→Bool)) (h h':HD):Prop where
 |mk (f1:BoxAt h' b) (f2:BoxAt h' l2) (f3:h'[l3]?=some (.lst (rows.map (A5 W)))) (f4:Smx b h h'):Se b W l2 l3 rows h h'
theorem ZbK {b H W:Nat} {h:HD} {Q:D→HD→Prop} (hx:BoxAt h b) (hh:1≤H∧H≤8) (hw:1≤W∧W≤8) (q:∀f h',BoxAt h' b→Smx b h h'→Q (bD H W f) h'):Wp (EG [.loc b,.int (H:Nat),.int (W:Nat)] h) Q:=by
 change Wp (Ak 8 (N3 Bh Fo) [.loc b,.int (H:Nat),.int (W:Nat)] h) _
 refine Eq.mpr (AN) ?_
 simp [-Aq]
 refine J3 hx (by decide) (by decide) fun way h1 d0 d1 x1 z1=>?_
 simp [-Aq,Aq (g:=Aj (AH 4 _) _)]
 refine ZbI x1 fun l2 h2 x2 y2 n2 k2 z2=>?_
 have kl2:h.length≤l2:=by have:=z1.len x1.lt;omega
 refine Eq.mpr (Aq) ?_
 simp [-Aq]
 refine B7 (by simp) fun l h3 s3 e3 el3 _=>?_
 obtain ⟨dense,ed⟩:∃dense:Int,Ax (.loc l) (.int way) h3=.ok (.int dense) h3:=by
  obtain ⟨w,rfl⟩:∃w:Nat,way=(w:Int):=⟨way.toNat,by omega⟩
  obtain ⟨y,ey,z,rfl⟩:=ZbG (fun y=>∃i,y=.int i) (o:=w) e3 (by simp;omega) <| all_cons ⟨_,rfl⟩ <| all_cons ⟨_,rfl⟩ <| all_cons ⟨_,rfl⟩ <| all_cons ⟨_,rfl⟩ <| all_cons ⟨_,rfl⟩ Ox
  exact ⟨z,ey⟩
 refine A6 (ed) ?_
 rw [BU]
 refine Eq.mpr (Aq) ?_
 simp [-Aq]
 refine B7 (by simp) fun l3 h4 s4 e4 el4 _=>?_
 have x4:BoxAt h4 b:=(x2.sm s3).sm s4
 have y4:BoxAt h4 l2:=(y2.sm s3).sm s4
 have z4:Smx b h h4:=((z1.trans z2).trans (Jb s3)).trans (Jb s4)
 have kl3:h.length≤l3:=by have:=(z1.trans z2).len x2.lt;have:=s3.len;omega
 have n3:l3≠b:=by
  obtain ⟨n,e⟩:=x2.sm s3
  have:=(qa5.mp e).1
  omega
 have n4:l3≠l2:=by
  obtain ⟨n,e⟩:=y2.sm s3
  have:=(qa5.mp e).1
  omega
 refine Eq.mpr (Aq) ?_
 simp [-Aq]
 refine DN (src:=[]) (xs:=List.range H) (fun i=>.int ((i:Nat):Int)) (Sd b H W way dense l2 l3 h) ?_ (fun ys ρ h' _=>DG) ?_ ?_
 ·simp [Gh (show H≤1000 by omega)]
  exact ⟨_,[],rfl,x4,y4,e4,by simp,z4⟩
 ·rintro x xs ρ h' ⟨y,rows,rfl,x5,y5,e5,hl,z5⟩
  refine ⟨_,rfl,?_⟩
  simp [La e5]
  refine QH (src:=[]) (xs:=List.range W) (fun i=>.int ((i:Nat):Int)) (Se b W l2 l3 rows h) (fun _ b=>b=true) (fun i d=>∃r:Bool,d=lit r) (fun i=>[some (.int ((i:Nat):Int)),some (.loc l2),some (.int dense)]) ?_ (fun _ _=>DG) (fun h c x=>by obtain ⟨a1,a2,a3,a4⟩:=x;exact ⟨a1.new,a2.new,Sm.app _ _ _ _ a3,a4.new⟩) List.nodup_range (sz hw.2) (fun x _=>rfl) ?_ ?_
  ·simp [Gh (show W≤1000 by omega)]
   exact ⟨x5,y5,e5,z5⟩
  ·intro x hx h i
   simp
   obtain ⟨a1,a2,a3,a4⟩:=i
   refine J3 a2 (by decide) (by decide) fun d h1 d0 d1 x1 s1=>?_
   simp only [BU,Fb,E9,Qx,DL,K8,JK,WV]
   exact ⟨⟨a1.smx s1 (Ne.symm n2),x1,s1 _ _ n4 a3,a4.over s1 kl2⟩,by cases decide (d<dense)<;>simp [lit]⟩
  ·intro h6 g e x6 hr tr
   obtain ⟨x61,x62,x63,x64⟩:=x6
   have hr':∃r:Nat→Bool,∀x∈List.range W,e x=lit (r x):=by
    refine ⟨fun x=>if h:x∈List.range W then (hr x h (tr x h)).choose else false,fun x hx=>?_⟩
    simp only [dif_pos hx]
    exact (hr x hx (tr x hx)).choose_spec
   obtain ⟨r,er⟩:=hr'
   have ef:(List.range W).filter g=List.range W:=List.filter_eq_self.mpr tr
   have em:D.tup (((List.range W).filter g).map e)=A5 W r:=by
    rw [ef];unfold A5;congr 1;exact CB er
   rw [em]
   simp [Lb x63 (show (rows.map (A5 W)).length<sizeLine by simp;unfold sizeLine;omega),Ci]
   have hl3:l3<h6.length:=(qa5.mp x63).1
   refine ⟨_,rows++[r],rfl,?_,?_,?_,?_,x64.put kl3⟩
   ·obtain ⟨n,e⟩:=x61
    exact ⟨n,by rw [CU n3];exact e⟩
   ·obtain ⟨n,e⟩:=x62
    exact ⟨n,by rw [CU n4];exact e⟩
   ·rw [DX hl3]
    simp
   ·simp at hl ⊢
    omega
 ·rintro ρ h' ⟨y,rows,rfl,x5,y5,e5,hl,z5⟩
  simp at hl
  simp
  by_cases h3:way=3
  ·simp [h3]
   obtain ⟨r0,rest,rfl⟩:∃r0 rest,rows=r0::rest:=by
    cases rows with
    |nil=>simp at hl;omega
    |cons a r=>exact ⟨a,r,rfl⟩
   rw [show (0:Int)=((0:Nat):Int) from rfl]
   refine A6 (GN e5 (k:=0) (a:=A5 W r0) rfl) ?_
   simp
   refine B7 (by simp) fun l5 h5 s5 e6 _ _=>?_
   refine A6 (Yl) ?_
   refine A6 (Rb e6 (by omega)) ?_
   refine B7 (by simp;unfold sizeLine;omega) fun l6 h6 s6 e7 _ _=>?_
   simp [Qy e7]
   have:D.tup (List.replicate H (A5 W r0))=bD H W fun _=>r0:=by
    unfold bD
    congr 1
    apply Ih
    ·simp
    ·intro i h1 h2;simp
   rw [this]
   exact q _ _ ((x5.sm s5).sm s6) ((z5.trans (Jb s5)).trans (Jb s6))
  ·simp [h3,Qy e5]
   rw [ZbJ hl]
   exact q _ _ x5 z5
theorem Oy {i:Int} {h:HD}:B0 [.int i] h=.ok (.bl true) h:=rfl
def Dx (n:Nat):Int→List D→Bool
 |_,[]=>true
 |last,.int i::ds=>decide (last<i∧i<(n:Int))&&Dx n i ds
 |_,_::_=>false
def EN (n:Nat) (d:D):Bool:=match d with
 |.tup ds=>Dx n (-1) ds
 |_=>false
theorem ZbL {n:Nat} {last:Int} {x:D} {xs:List D} (h:J5 x=false):Dx n last (x::xs)=false:=by
 cases x<;>first |rfl |(cases h)
inductive Sf (ds:List D) (n:Nat) (h:HD) (xs:List D) (ρ:Ai) (h':HD):Prop where
 |mk (last:Int) (x:Option D) (f0:ρ=[some (.tup ds),some (.int (n:Nat)),some (.int last),x]) (f1:h'=h) (f2:Dx n last xs=Dx n (-1) ds) (f3:∀y∈xs,Plain h y):Sf ds n h xs ρ h'
theorem Oz {d:D} {n:Nat} {h:HD} (p:Plain2 h d):Pu (Bt [d,.int (n:Nat)] h) h (.bl (EN n d)):=by
 change Wp (Ak 4 (NT B0) [d,.int (n:Nat)] h) _
 refine Eq.mpr AN ?_
 cases hT:LI d with
 |true=>
  obtain ⟨ds,rfl⟩:=R4 hT
  simp
  refine DN (src:=[]) (xs:=ds) (fun x=>x) (Sf ds n h) ?_ (fun ys ρ h' _=>DG) ?_ ?_
  ·simp
   exact ⟨-1,_,rfl,rfl,rfl,p.2⟩
  ·rintro x xs ρ h' ⟨last,y,rfl,rfl,e,pl⟩
   refine ⟨_,rfl,?_⟩
   have px:=pl x AW
   cases hx:J5 x with
   |false=>
    simp [R0 px,hx,Ci,Sm.refl]
    rw [ZbL hx] at e
    simp [EN,←e]
   |true=>
    obtain ⟨i,rfl⟩:=R1 hx
    by_cases h1:last<i
    ·by_cases h2:i<(n:Int)
     ·simp [Oy,h1,h2,AG,Ci]
      exact ⟨i,_,rfl,rfl,by rw [←e];simp [Dx,h1,h2],fun y hy=>pl y (A1 _ hy)⟩
     ·simp [Oy,h1,h2,AG,Ci,Sm.refl]
      simp [EN,←e,Dx,h1,h2]
    ·simp [Oy,h1,AG,Ci,Sm.refl]
     simp [EN,←e,Dx,h1]
  ·rintro ρ h' ⟨last,y,rfl,rfl,e,_⟩
   simp [Sm.refl,EN,←e,Dx]
 |false=>
  have e:EN n d=false:=by cases d<;>first |rfl |cases hT
  simp [R3 p.1,hT,e,Sm.refl]
def AK (n:Nat) (p:Nat→Bool):D:=.tup (((List.range n).filter p).map fun i=>.int ((i:Nat):Int))
section
variable {n:Nat} {p:Nat→Bool} {h:HD}
theorem Sg:∀{ks:List Nat} {last:Int},ks.Pairwise (·< ·)→(∀k∈ks,last<(k:Int)∧k<n)→Dx n last (ks.map fun i=>.int ((i:Nat):Int))=true
 |[],_,_,_=>rfl
 |k::ks,last,hp,hb=>by
  rw [List.pairwise_cons] at hp
  have h0:=hb k AW
  rw [BV,Dx,Sg hp.2 fun j hj=>⟨Int.ofNat_lt.mpr (hp.1 j hj),(hb j (A1 _ hj)).2⟩,decide_eq_true ⟨h0.1,Int.ofNat_lt.mpr h0.2⟩]
  rfl
theorem ZbM:EN n (AK n p)=true:=Sg (List.Pairwise.filter _ List.pairwise_lt_range) fun k hk=>⟨by omega,qb4.mp (qb9.mp hk).1⟩
theorem ZbN:Plain2 h (AK n p):=⟨trivial,fun x hx=>by
 obtain ⟨k,_,rfl⟩:=qb0.mp hx
 exact trivial⟩
theorem ZbO {k:Nat} (hk:k<n):((List.range n).filter p).contains k=p k:=by
 rw [qb1]
 simp [hk]
theorem Sh {neg:Bool} {k:Nat} (hk:k<n):DF neg (.int (k:Nat)) (AK n p) h=.ok (.bl (if neg then !p k else p k)) h:=by
 unfold AK
 rw [QC,ZbO hk]
end
def Gx (h w:Nat) (p q:Nat→Bool):D:=.tup [AK h p,AK w q]
def sw (f:Nat→Nat→Bool) (p q:Nat→Bool) (i j:Nat):Bool:=Bool.xor (f i j) (Bool.xor (p i) (q j))
theorem p_is_lot {n:Nat} {p:Nat→Bool} {h:HD}:Pu (Bt [AK n p,.int (n:Nat)] h) h (.bl true):=ZbM (n:=n) (p:=p) ▸ Oz ZbN
section
variable {H W n:Nat} {h:HD} {f:Nat→Nat→Bool} {r p q p' q':Nat→Bool}
theorem ZbP (hh:1≤H∧H≤8) (hw:1≤W∧W≤8):Pu (Fw [bD H W f,Gx H W p q] h) h (.bl true):=by
 change Wp (Ak 2 (Oc AI Bt) [bD H W f,Gx H W p q] h) _
 refine Eq.mpr (AN) ?_
 simp
 refine (HW hh hw).wp fun h1 s1=>?_
 simp [Gx]
 simp [bD]
 refine p_is_lot.wp fun h2 s2=>?_
 simp
 refine A6 (MK (by omega)) ?_
 simp [A5]
 refine p_is_lot.wp fun h3 s3=>?_
 simp [(s1.trans s2).trans s3]
theorem ZbQ (hh:1≤H∧H≤8) (hw:1≤W∧W≤8):Pu (Fz [bD H W f,Gx H W p q] h) h .non:=by
 change Wp (Ak 2 (Oj Fw) [bD H W f,Gx H W p q] h) _
 refine Eq.mpr (AN) ?_
 simp
 refine (ZbP hh hw).wp fun h1 s1=>?_
 simp [s1]
theorem ZbR {b:Bool} (hw:W≤8):Pu (Ff [A5 W r,AK W q,.bl b] h) h (A5 W fun j=>Bool.xor (r j) (Bool.xor b (q j))):=by
 change Wp (Ak 3 NG [A5 W r,AK W q,.bl b] h) _
 refine Eq.mpr (AN) ?_
 simp
 refine Pu.wp (GO (src:=[]) (xs:=List.range W) (φ:=fun j=>.tup [.int ((j:Nat):Int),lit (r j)]) (fun j=>lit (Bool.xor (r j) (Bool.xor b (q j)))) (fun j=>[some (.int ((j:Nat):Int)),some (lit (r j)),some (AK W q),some (.bl b)]) ?_ (fun x _=>rfl) (fun x hx h' s'=>?_) (sz hw)) fun h2 s2=>?_
 ·simp [BB,A5,Lk,Sm.refl,Bn]
 ·simp [Pu,Sh (show x<W by simpa using hx)]
  cases r x<;>cases b<;>cases q x<;>simp [lit,Sm.refl]
 ·exact ⟨rfl,s2⟩
theorem Si (hh:1≤H∧H≤8) (hw:1≤W∧W≤8):Pu (DR [bD H W f,Gx H W p q] h) h (bD H W (sw f p q)):=by
 change Wp (Ak 4 (Om Fz Ff) [bD H W f,Gx H W p q] h) _
 refine Eq.mpr (AN) ?_
 simp
 refine (ZbQ hh hw).wp fun h1 s1=>?_
 simp [Gx]
 refine Pu.wp (GO (src:=[]) (xs:=List.range H) (φ:=fun i=>.tup [.int ((i:Nat):Int),A5 W (f i)]) (fun i=>A5 W fun j=>Bool.xor (f i j) (Bool.xor (p i) (q j))) (fun i=>[some (.int ((i:Nat):Int)),some (A5 W (f i)),some (AK W q),some (AK H p)]) ?_ (fun x _=>rfl) (fun x hx h' s'=>?_) (sz hh.2)) fun h2 s2=>?_
 ·simp [BB,bD,Lk,Sm.refl,Bn]
 ·simp [Pu,Sh (show x<H by simpa using hx)]
  exact ZbR hw.2
 ·exact ⟨rfl,s1.trans s2⟩
end
theorem Sj {b n:Nat} {h:HD} {Q:D→HD→Prop} (hx:BoxAt h b) (hn:n≤8) (q:∀p h',BoxAt h' b→Smx b h h'→Q (AK n p) h'):Wp (DO [.loc b,.int (n:Nat)] h) Q:=by
 change Wp (Ak 2 (NY Bh) [.loc b,.int (n:Nat)] h) _
 refine Eq.mpr (AN) ?_
 simp
 refine QH (src:=[]) (xs:=List.range n) (fun i=>.int ((i:Nat):Int)) (fun h'=>BoxAt h' b∧Smx b h h') (fun _ _=>True) (fun i d=>d=.int ((i:Nat):Int)) (fun i=>[some (.int ((i:Nat):Int)),some (.loc b)]) ?_ (fun _ _=>DG) (fun h c x=>⟨x.1.new,x.2.new⟩) List.nodup_range (sz hn) (fun x _=>rfl) ?_ ?_
 ·simp [Gh (show n≤1000 by omega),hx,Smx.refl]
 ·intro x hx h i
  simp
  refine J3 i.1 (by decide) (by decide) fun d h1 d0 d1 x1 s1=>?_
  simp [x1,i.2.trans s1]
 ·intro h' g e x1 hr _
  have:((List.range n).filter g).map e=((List.range n).filter g).map fun i=>D.int ((i:Nat):Int):=CB fun x hx=>hr x (qb9.mp hx).1 (qb9.mp hx).2
  rw [this]
  exact q g h' x1.1 x1.2
theorem Sk {i a b:Int} {h:HD} (h1:a≤i) (h2:i≤b):Pu (EF [.int i,.int a,.int b] h) h .non:=by
 change Wp (Ak 3 (N0 Cn) [.int i,.int a,.int b] h) _
 rw [AN]
 simp
 refine p_is_between_int.wp fun h' s=>?_
 simp [h1,h2,s]
section
variable {H W:Nat} {h:HD} {f:Nat→Nat→Bool} {r p:Nat→Bool}
theorem ZbS (hh:1≤H∧H≤8) (hw:1≤W∧W≤8):Pu (Fx [bD H W f] h) h (bD W H fun i j=>f j i):=by
 change Wp (Ak 1 (Od AI) [bD H W f] h) _
 refine Eq.mpr AN ?_
 simp
 refine (HW hh hw).wp fun h1 s1=>?_
 refine Pu.wp (GO (src:=[]) (xs:=List.range W) (φ:=fun j=>.int ((j:Nat):Int)) (fun j=>A5 H fun i=>f i j) (fun j=>[some (.int ((j:Nat):Int)),some (bD H W f)]) ?_ (fun x _=>rfl) (fun x hx h' s'=>?_) (sz hw.2)) fun h2 s2=>?_
 ·simp [BB,bD,MK (show 0<H by omega)]
  simp [A5]
  rw [Gh (by omega)]
  simp [Sm.refl,Bn]
 ·simp [Pu]
  refine (GO (src:=[]) (xs:=List.range H) (φ:=fun i=>A5 W (f i)) (fun i=>lit (f i x)) (fun i=>[some (A5 W (f i)),some (.int ((x:Nat):Int))]) ?_ (fun x _=>rfl) (fun y hy h' s'=>?_) (sz hh.2))
  ·simp [BB,bD,Sm.refl,Bn]
  ·simp [Pu,A5]
   rw [IJ (by simpa using hx)]
   simp [Sm.refl]
 ·exact ⟨rfl,s1.trans s2⟩
theorem ZbT:CG (A5 W r) h=.ok (.int (Bo W r)) h:=MN
theorem Sl (hh:1≤H∧H≤8) (hw:1≤W∧W≤8):Pu (Cy [bD H W f] h) h (.tup ((List.range H).map fun i=>.int (Bo W (f i)))):=by
 change Wp (Ak 1 (Ob AI) [bD H W f] h) _
 refine Eq.mpr AN ?_
 simp
 refine (HW hh hw).wp fun h1 s1=>?_
 refine Pu.wp (GO (src:=[]) (xs:=List.range H) (φ:=fun i=>A5 W (f i)) (fun i=>.int (Bo W (f i))) (fun i=>[some (A5 W (f i))]) JM (fun x _=>rfl) (fun x hx h' s'=>?_) (sz hh.2)) fun h2 s2=>?_
 ·simp [Pu,ZbT,Sm.refl]
 ·exact ⟨rfl,s1.trans s2⟩
theorem Sn (hh:1≤H∧H≤8) (hw:1≤W∧W≤8):Pu (Cz [bD H W f] h) h (.tup ((List.range W).map fun j=>.int (Bo H fun i=>f i j))):=by
 change Wp (Ak 1 (Oi Fx Cy) [bD H W f] h) _
 refine Eq.mpr AN ?_
 simp
 refine (ZbS hh hw).wp fun h1 s1=>?_
 refine (Sl hw hh).wp fun h2 s2=>?_
 simp [s1.trans s2]
end
def AQ (W:Nat) (c:Nat→Int):D:=.tup ((List.range W).map fun j=>.int (c j))
theorem HX {W:Nat} {c c':Nat→Int} (h:∀j,j<W→c j=c' j):AQ W c=AQ W c':=by
 unfold AQ
 congr 1
 exact CB fun j hj=>by rw [h j (by simpa using hj)]
theorem So {W:Nat} {c:Nat→Int} {r:Nat→Bool} {h:HD} (hw:W≤8):Pu (Cs [AQ W c,A5 W r] h) h (AQ W fun j=>c j+1 - 2*(if r j then 1 else 0)):=by
 change Wp (Ak 2 NH [AQ W c,A5 W r] h) _
 refine Eq.mpr AN ?_
 simp
 refine Pu.wp (GO (src:=[]) (xs:=List.range W) (φ:=fun j=>.tup [.int (c j),lit (r j)]) (fun j=>.int (c j+1 - 2*(if r j then 1 else 0))) (fun j=>[some (.int (c j)),some (lit (r j))]) ?_ (fun x _=>rfl) (fun x hx h' s'=>?_) (sz hw)) fun h2 s2=>?_
 ·simp [BB,AQ,A5]
  refine A6 (Q8 (e:=fun j=>.int (c j)) (e':=fun j=>lit (r j)) MX MX) ?_
  simp [Sm.refl,Bn]
 ·simp [Pu,lit]
  rw [Gi (by decide) (by decide)]
  simp [Sm.refl]
 ·exact ⟨rfl,s2⟩
theorem ZbU {W H:Nat} {c:Nat→Int} {h:HD} (hw:W≤8):Pu (Fg [AQ W c,.int (H:Nat)] h) h (AK W (Dw H c)):=by
 change Wp (Ak 2 NJ [AQ W c,.int (H:Nat)] h) _
 refine Eq.mpr AN ?_
 simp
 refine Pu.wp (WX (src:=[]) (xs:=List.range W) (φ:=fun j=>.tup [.int ((j:Nat):Int),.int (c j)]) (Dw H c) (fun j=>.int ((j:Nat):Int)) (fun j=>[some (.int ((j:Nat):Int)),some (.int (c j)),some (.int (H:Nat))]) ?_ (fun x _=>rfl) (fun x hx h' s'=>?_) (fun x hx _ h' s'=>?_) (sz hw)) fun h2 s2=>?_
 ·simp [BB,AQ,Lk,Sm.refl,Bn]
 ·simp [Pu]
  rw [Gi (by decide) (by decide)]
  simp [Sm.refl,Dw]
 ·simp [Pu,Sm.refl]
 ·exact ⟨rfl,s2⟩
theorem Sq {n m:Nat} {r r':Nat→Bool} (hm:m<n) (h:∀i,i≠m→r' i=r i) (hn:r' m=!r m):Bo n r'=Bo n r+1 - 2*(if r m then 1 else 0):=by
 have s1:∀k (r:Nat→Bool),Bo (k+1) r=Bo k r+if r k then 1 else 0:=fun k r=>by
  unfold Bo
  rw [Dz,CV,D3]
  simp
 have key:∀k:Nat,(k≤m→Bo k r'=Bo k r)∧(m<k→Bo k r'=Bo k r+1 - 2*(if r m then 1 else 0)):=fun k=>by
  induction k with
  |zero=>exact ⟨fun _=>rfl,fun z=>by omega⟩
  |succ k ih=>
   rw [s1,s1]
   refine ⟨fun hk=>?_,fun hk=>?_⟩
   ·rw [ih.1 (by omega),h k (by omega)]
   ·by_cases hz:k=m
    ·subst hz
     rw [ih.1 (by omega),hn]
     cases r k<;>simp<;>omega
    ·rw [ih.2 (by omega),h k hz]
     omega
 exact (key n).2 hm
theorem Sr {H n:Nat} {f:Nat→Nat→Bool} {R:Nat→Bool} {j:Nat} (hn:n<H) (h0:R n=false):cc H f (ext n R) j=cc H f R j+1 - 2*(if f n j then 1 else 0):=by
 unfold cc
 rw [Sq (r:=fun i=>Bool.xor (f i j) (R i)) hn (fun i hi=>by simp [ext,hi]) (by simp [ext,h0])]
 simp [h0]
section
variable {H W:Nat} {h:HD} {f:Nat→Nat→Bool} {p:Nat→Bool}
inductive Ss (H W:Nat) (f:Nat→Nat→Bool) (p:Nat→Bool) (h:HD) (xs:List Nat) (ρ:Ai) (h':HD):Prop where
 |mk (R:Nat→Bool) (x:Option D) (f0:ρ=[some (bD H W f),some (AK H p),some (AQ W (cc H f R)),x]) (f1:Sm h h') (f2:xs.Nodup) (f3:∀i∈xs,i<H∧R i=false) (f4:∀i,i<H→(p i=true↔(R i=true∨i∈xs))):Ss H W f p h xs ρ h'
theorem Su (hh:1≤H∧H≤8) (hw:1≤W∧W≤8):Pu (CA [bD H W f,AK H p] h) h (AQ W (cc H f p)):=by
 change Wp (Ak 4 (Oo AI Bt Cz Cs) [bD H W f,AK H p] h) _
 refine Eq.mpr AN ?_
 simp [-Aq]
 refine (HW hh hw).wp fun h1 s1=>?_
 refine Eq.mpr Aq ?_
 simp [-Aq,Gw]
 refine p_is_lot.wp fun h2 s2=>?_
 simp [-Aq]
 refine Eq.mpr Aq ?_
 simp [-Aq]
 refine (Sn hh hw).wp fun h3 s3=>?_
 refine Eq.mpr Aq ?_
 refine Eq.mpr BG ?_
 refine DN (src:=[]) (xs:=(List.range H).filter p) (fun i=>.int ((i:Nat):Int)) (Ss H W f p h) ?_ (fun ys ρ h' _=>DG) ?_ ?_
 ·simp only [WK,Fb,E9,AK,WT,BU]
  refine ⟨trivial,fun _=>false,none,?_,(s1.trans s2).trans s3,List.Pairwise.filter _ List.nodup_range,fun i hi=>⟨by simpa using (qb9.mp hi).1,rfl⟩,fun i hi=>?_⟩
  ·have:AQ W (cc H f fun _=>false)=.tup ((List.range W).map fun j=>.int (Bo H fun i=>f i j)):=HX (W:=W) fun j _=>GS fun i _=>by simp
   rw [this]
   rfl
  ·simp [hi]
 ·rintro x xs ρ h' ⟨R,y,rfl,s',nd,hx,hp⟩
  refine ⟨_,rfl,?_⟩
  obtain ⟨x1,x2⟩:=hx x AW
  rw [qbE] at nd
  simp
  unfold bD
  rw [IJ x1]
  simp
  refine (So hw.2).wp fun h4 s4=>?_
  simp only [Ci]
  refine ⟨ext x R,some (.int (x:Nat)),?_,s'.trans s4,nd.2,fun i hi=>⟨(hx i (A1 _ hi)).1,?_⟩,fun i hi=>?_⟩
  ·have:AQ W (cc H f (ext x R))=AQ W fun j=>cc H f R j+1 - 2*(if f x j then 1 else 0):=HX fun j _=>Sr x1 x2
   rw [this]
   rfl
  ·unfold ext
   rw [if_neg]
   ·exact (hx i (A1 _ hi)).2
   ·intro z;subst z;exact nd.1 hi
  ·rw [hp i hi]
   unfold ext
   by_cases hz:i=x
   ·simp [hz]
   ·simp [hz]
 ·rintro ρ h' ⟨R,y,rfl,s',nd,hx,hp⟩
  simp [s']
  refine HX fun j _=>Rf fun i hi=>?_
  have:=hp i hi
  simp at this
  cases e1:p i<;>cases e2:R i<;>simp [e1,e2] at this<;>rfl
theorem ZbV (hh:1≤H∧H≤8) (hw:1≤W∧W≤8):Pu (FA [bD H W f,AK H p] h) h (AK W (Dw H (cc H f p))):=by
 change Wp (Ak 2 (Ot CA Fg) [bD H W f,AK H p] h) _
 refine Eq.mpr AN ?_
 simp
 refine (Su hh hw).wp fun h1 s1=>?_
 simp [Gw]
 refine (ZbU hw.2).wp fun h2 s2=>?_
 simp [s1.trans s2]
end
def EuI (x0 x1:Option D) (a b:Nat) (h:HD) (m:Nat) (ρ:Ai) (h':HD):Prop:=∃a' b':Nat,ρ=[x0,x1,some (.int (a':Nat)),some (.int (b':Nat))]∧h'=h∧Nat.gcd a' b'=Nat.gcd a b∧b'=m
theorem ZbW {x0 x1:Option D} {a b:Nat} {h:HD} {Q:Fl×Ai→HD→Prop} (hb:b<100000) (q:Q (.nx,[x0,x1,some (.int ((Nat.gcd a b:Nat):Int)),some (.int 0)]) h):
 Wp (JT (A7 (Ah Ea (Aa 3) (mC (.int 0)))) (Ep 2 3 (Ab (Aa 3) (Ab (Ah E4 (Aa 2) (Aa 3)) (Ae)))) [x0,x1,some (.int (a:Nat)),some (.int (b:Nat))] h) Q:=by
 refine XM (EuI x0 x1 a b h) b hb ⟨a,b,rfl,rfl,rfl,rfl⟩ ?_
 rintro m ρ h' ⟨a',b',rfl,rfl,hg,rfl⟩
 simp
 by_cases hz:0<b'
 ·have hz':(0:Int)<(b':Int):=by omega
  simp [hz',hz]
  rw [IK hz']
  simp [Ci]
  refine ⟨a' % b',Nat.mod_lt _ hz,b',a' % b',by simp,rfl,?_,rfl⟩
  rw [←hg,Nat.gcd_comm b',←Nat.gcd_rec,Nat.gcd_comm]
 ·have:b'=0:=by omega
  subst this
  rw [Nat.gcd_zero_right] at hg
  simp
  rw [hg]
  exact q
@[irreducible] def Dm (T B:Nat):D:=.tup [.int ((T / Nat.gcd T B:Nat):Int),.int ((B / Nat.gcd T B:Nat):Int)]
theorem ZbX {T B:Nat} {h:HD} (hT:T<100000) (hB:0<B) (hB2:B<100000):Pu (Cm [.int (T:Nat),.int (B:Nat)] h) h (Dm T B):=by
 change Wp (Ak 4 NL [.int (T:Nat),.int (B:Nat)] h) _
 rw [AN]
 simp [-Aq]
 rw [Aq,BG]
 refine ZbW hT ?_
 have hg:0<Nat.gcd B T:=Nat.gcd_pos_of_pos_left _ hB
 have hg2:Nat.gcd B T≤B:=Nat.gcd_le_left _ hB
 rw [Aq]
 simp
 rw [Lc (by omega) (by omega)]
 simp
 rw [Lc (by omega) (by omega)]
 simp [Dm,Sm.refl,Nat.gcd_comm]
def mn (H x:Int):Int:=if H - x<x then H - x else x
def SS (H:Int):Nat→Int→Int
 |0,x=>mn H x
 |n+1,x=>SS H n x+SS H n (x+1)
theorem OA {H:Int} (hH:0≤H):∀(n:Nat) (x:Int),0≤x→x+n≤H→0≤SS H n x∧SS H n x≤2^n*H
 |0,x,h1,h2=>by
  simp only [SS,mn]
  split<;>simp<;>omega
 |n+1,x,h1,h2=>by
  have a:=OA hH n x h1 (by omega)
  have b:=OA hH n (x+1) (by omega) (by omega)
  simp only [SS]
  rw [Int.pow_succ,Int.mul_assoc,Int.mul_comm 2,←Int.mul_assoc]
  omega
theorem OB {α:Type} {f g:α→Int}:∀{l:List α},(l.map fun x=>f x+g x).sum=(l.map f).sum+(l.map g).sum
 |[]=>rfl
 |x::l=>by simp [OB (l:=l)];omega
theorem ZbY {N:Nat} {x:Int} (hx:0≤x∧x<N) (φ:Int→Int):((List.range N).map fun k=>(if x=((k:Nat):Int) then (1:Int) else 0) * φ ((k:Nat):Int)).sum=φ x:=by
 induction N with
 |zero=>omega
 |succ N ih=>
  rw [Dz,CV,D3]
  by_cases e:x=(N:Int)
  ·have z:((List.range N).map fun k=>(if x=((k:Nat):Int) then (1:Int) else 0) * φ ((k:Nat):Int))=(List.range N).map fun _=>(0:Int):=CB fun k hk=>by
    have:=qb4.mp hk
    rw [if_neg (by omega),Int.zero_mul]
   rw [z]
   have:((List.range N).map fun _=>(0:Int)).sum=0:=by
    generalize List.range N=l
    induction l with
    |nil=>rfl
    |cons a l ih=>simpa using ih
   rw [this]
   simp [e]
  ·rw [ih (by omega)]
   simp [e]
theorem ZbZ {L:List Int} {x k:Int}:A4 (x::L) k=(if x=k then 1 else 0)+A4 L k:=by simp [A4]
theorem Sv {N:Nat} (φ:Int→Int):∀{L:List Int},(∀x∈L,0≤x∧x<N)→((List.range N).map fun k=>A4 L ((k:Nat):Int) * φ ((k:Nat):Int)).sum=(L.map φ).sum
 |[],_=>by
  have:((List.range N).map fun k=>A4 [] ((k:Nat):Int) * φ ((k:Nat):Int))=(List.range N).map fun _=>(0:Int):=CB fun k _=>by simp [A4]
  rw [this]
  generalize List.range N=l
  induction l with
  |nil=>rfl
  |cons a l ih=>simpa using ih
 |x::L,h=>by
  have:((List.range N).map fun k=>A4 (x::L) ((k:Nat):Int) * φ ((k:Nat):Int))=(List.range N).map fun k=>(if x=((k:Nat):Int) then (1:Int) else 0) * φ ((k:Nat):Int)+A4 L ((k:Nat):Int) * φ ((k:Nat):Int):=CB fun k _=>by rw [ZbZ,Int.add_mul]
  rw [this,OB,ZbY (h x AW),Sv φ fun y hy=>h y (A1 _ hy)]
  simp
def AS (W:Nat) (H:Int) (n:Nat) (c:Nat→Int):Int:=((List.range W).map fun j=>SS H n (c j)).sum
theorem Zb0 {W:Nat} {H:Int} {n:Nat} {c:Nat→Int} {r:Nat→Bool}:AS W H n (fun j=>c j+if r j then 1 else 0)+AS W H n (fun j=>c j+1 - if r j then 1 else 0)=AS W H (n+1) c:=by
 unfold AS
 rw [←OB]
 congr 1
 refine CB fun j _=>?_
 show _=SS H n (c j)+SS H n (c j+1)
 by_cases e:r j=true<;>simp [e]<;>omega
theorem OC {W:Nat} {H:Int} (hH:0≤H∧H≤8) {n:Nat} (hn:n≤8) {c:Nat→Int} (hc:∀j,0≤c j∧c j+n≤H):0≤AS W H n c∧AS W H n c≤W*2048:=by
 unfold AS
 have key:∀j,0≤SS H n (c j)∧SS H n (c j)≤2048:=fun j=>by
  have a:=OA hH.1 n (c j) (hc j).1 (hc j).2
  have p:(2:Int)^n≤2^8:=by exact_mod_cast Kr (n:=2) (by decide) hn
  have q:(2:Int)^n*H≤2^8*8:=by
   refine Ji (LX p hH.1) (Int.mul_le_mul_of_nonneg_left hH.2 (by decide))
  exact ⟨a.1,Ji a.2 q⟩
 induction W with
 |zero=>simp
 |succ W ih=>
  rw [Dz,CV,D3]
  have:=key W
  simp
  constructor
  ·omega
  ·have:=ih.2;omega
theorem J6 {n k x:Nat} {xs:List Nat} (h:(List.range n).drop k=x::xs):x=k∧k<n∧xs=(List.range n).drop (k+1):=by
 have hk:k<n:=by
  have:=congrArg List.length h
  simp at this
  omega
 rw [Kq (by simpa using hk)] at h
 simp at h
 exact ⟨h.1.symm,hk,h.2.symm⟩
theorem J7 {n k:Nat} (hk:k≤n) (h:(List.range n).drop k=[]):k=n:=by
 have:=congrArg List.length h
 simp at this
 omega
theorem FB {n:Nat} (h:n≤1000):n≤sizeLine:=by unfold sizeLine;omega
def B1 (n:Nat) (m:Nat→Int):List D:=(List.range n).map fun k=>.int (m k)
theorem Sw {n:Nat} {m m':Nat→Int} (h:∀k,k<n→m k=m' k):B1 n m=B1 n m':=CB fun k hk=>by rw [h k (by simpa using hk)]
theorem Sx {n i:Nat} {m:Nat→Int} {v:Int}:(B1 n m).set i (.int v)=B1 n fun k=>if k=i then v else m k:=by
 unfold B1
 apply Ih
 ·simp
 ·intro k h1 h2
  simp at h1 h2
  by_cases hz:i=k
  ·subst hz;simp
  ·rw [List.getElem_set_ne hz]
   simp [show ¬k=i from fun z=>hz z.symm]
theorem Sy {n i:Nat} {m:Nat→Int} (h:i<n):(B1 n m)[i]?=some (.int (m i)):=by simp [B1,Ks,h]
theorem OD {n:Nat} {m:Nat→Int}:(B1 n m).length=n:=by simp [B1]
theorem Sz {h h':HD} {l:Nat} {c:Cell} (s:Sm h h') (e:h[l]?=none):Sm h (h'.set l c):=fun k d ek=>by
 rw [CU]
 ·exact s k d ek
 ·intro z;subst z;rw [e] at ek;cases ek
theorem SA {L:List Int} {c k:Int}:A4 (L.map (·+ c)) k=A4 L (k - c):=by
 unfold A4
 rw [CC]
 refine FU fun x _=>?_
 show (if x+c=k then (1:Int) else 0)=if x=k - c then 1 else 0
 by_cases h:x+c=k
 ·rw [if_pos h,if_pos (by omega)]
 ·rw [if_neg h,if_neg (by omega)]
theorem Zb1 {L M:List Int} {k:Int}:A4 (L++M) k=A4 L k+A4 M k:=by
 unfold A4;rw [CV,D3]
def AA (L:List Int) (c d t k:Nat):Int:=(if c≤k∧k<c+t then A4 L ((k:Int) - c) else 0)+(if d≤k∧k<d+t then A4 L ((k:Int) - d) else 0)
theorem SB {L:List Int} {c t k:Nat}:(if c≤k∧k<c+(t+1) then A4 L ((k:Int) - c) else 0)=(if c≤k∧k<c+t then A4 L ((k:Int) - c) else 0)+if k=t+c then A4 L t else 0:=by
 by_cases h:k=t+c
 ·rw [if_pos (by omega),if_neg (by omega),if_pos h,show ((k:Int) - c)=t from by omega]
  omega
 ·by_cases h2:c≤k∧k<c+t
  ·rw [if_pos (by omega),if_pos h2,if_neg h];omega
  ·rw [if_neg (by omega),if_neg h2,if_neg h];rfl
theorem Zb2 {L:List Int} {c d t k:Nat}:(if k=t+d then (if k=t+c then AA L c d t k+A4 L t else AA L c d t k)+A4 L t else if k=t+c then AA L c d t k+A4 L t else AA L c d t k)=AA L c d (t+1) k:=by
 unfold AA
 rw [SB (c:=c),SB (c:=d)]
 split<;>split<;>omega
theorem Zb3 {L:List Int} {n c d k:Nat} (hL:∀x∈L,0≤x∧x<n):AA L c d n k=A4 (L.map (·+ (c:Int))++L.map (·+ (d:Int))) k:=by
 have z:∀c:Nat,(if c≤k∧k<c+n then A4 L ((k:Int) - c) else 0)=A4 L ((k:Int) - c):=fun c=>by
  by_cases h:c≤k∧k<c+n
  ·rw [if_pos h]
  ·rw [if_neg h,XY]
   intro hm
   have:=hL _ hm
   omega
 unfold AA
 rw [z,z,Zb1,SA,SA]
theorem SC {h:HD} {l k:Nat} {i:Int} {ds:List D} {d:D} (hi:i=(k:Int)) (e:h[l]?=some (.lst ds)) (ek:ds[k]?=some d):IS (.loc l) (.int i) h=.ok d h:=by subst hi;exact XE e ek
theorem SD {h:HD} {ρ:Ai} {l k:Nat} {i:Int} {ds:List D} {a b:Int} (hi:i=(k:Int)) (e:h[l]?=some (.lst ds)) (hk:k<ds.length):IR (.loc l) (.int i) (.int a) (.int b) ρ h=.ok (.nx,ρ) (h.set l (.lst (ds.set k (.int (a+b))))):=by subst hi;exact XF e hk
def WcI (h:HD) (l n c Hn lm:Nat) (L:List Int) (xs:List Nat) (ρ:Ai) (h':HD):Prop:=∃(t:Nat) (x y:Option D),xs=(List.range n).drop t∧t≤n∧ρ=[some (.loc l),some (.int (c:Nat)),some (.int (Hn:Nat)),some (.loc lm),x,y]∧Sm h h'∧h'[lm]?=some (.lst (B1 (n+Hn) (AA L c (Hn - c) t)))
theorem Zb4 {h:HD} {l n c Hn:Nat} {L:List Int} (e:h[l]?=some (.lst (B1 n fun k=>A4 L k))) (hL:∀x∈L,0≤x∧x<n) (hn:n≤200) (hc:c≤Hn) (hH:Hn≤8):
 ∃l2 h2,EA [.loc l,.int (c:Nat),.int (Hn:Nat)] h=.ok (.loc l2) h2∧Sm h h2∧h2[l2]?=some (.lst (B1 (n+Hn) fun k=>A4 (L.map (·+ (c:Int))++L.map (·+ ((Hn - c:Nat):Int))) k)):=by
 suffices hs:Wp (EA [.loc l,.int (c:Nat),.int (Hn:Nat)] h) (fun d h1=>∃l2,d=.loc l2∧Sm h h1∧h1[l2]?=some (.lst (B1 (n+Hn) fun k=>A4 (L.map (·+ (c:Int))++L.map (·+ ((Hn - c:Nat):Int))) k))) by
  obtain ⟨d,h1,e,l2,rfl,q⟩:=hs.ex
  exact ⟨l2,h1,e,q⟩
 change Wp (Ak 6 NK [.loc l,.int (c:Nat),.int (Hn:Nat)] h) _
 rw [AN]
 simp [-Aq]
 refine B7 (by simp) fun l1 h1 s1 e1 _ _=>?_
 rw [Lm (s1 _ _ e),OD]
 simp [-Aq]
 rw [show ((n:Int)+(Hn:Int))=((n+Hn:Nat):Int) from by omega,Rb e1 (by omega)]
 refine B7 (FB (by simp;omega)) fun lm h2 s2 e2 el2 _=>?_
 have hnew:h[lm]?=none:=by
  rw [el2]
  cases q:h[h1.length]? with
  |none=>rfl
  |some c=>
   have:=s1 _ _ q
   simp at this
 rw [Aq,BG]
 refine DN (src:=[(l,B1 n fun k=>A4 L k)]) (xs:=List.range n) (fun k=>.tup [.int ((k:Nat):Int),.int (A4 L k)]) (WcI h l n c Hn lm L) ?_ (fun ys ρ h' i=>?_) ?_ ?_
 ·simp
  rw [Ll (s2 _ _ (s1 _ _ e))]
  refine ⟨rfl,0,none,none,by simp,by omega,rfl,s1.trans s2,?_⟩
  rw [e2]
  congr 2
  unfold B1
  apply Ih
  ·simp
  ·intro k h1 h2
   have z:AA L c (Hn - c) 0 k=0:=by
    unfold AA
    rw [if_neg (by omega),if_neg (by omega)];rfl
   simp [z]
 ·obtain ⟨t,x,y,_,_,_,s',_⟩:=i
  exact DH (s' _ _ e)
 ·rintro x xs ρ h' ⟨t,y,y',ex,ht,rfl,s',e'⟩
  obtain ⟨rfl,ht',rfl⟩:=J6 ex.symm
  refine ⟨_,rfl,?_⟩
  have hlm:lm<h'.length:=(qa5.mp e').1
  simp
  rw [SC (k:=x+c) (by omega) e' (Sy (by omega))]
  simp
  rw [SD (k:=x+c) (by omega) e' (by rw [OD];omega),Sx]
  simp
  have e3:(h'.set lm (.lst (B1 (n+Hn) fun k=>if k=x+c then AA L c (Hn - c) x (x+c)+A4 L x else AA L c (Hn - c) x k)))[lm]?=some (.lst (B1 (n+Hn) fun k=>if k=x+c then AA L c (Hn - c) x (x+c)+A4 L x else AA L c (Hn - c) x k)):=by
   rw [DX hlm]
  rw [SC (k:=x+(Hn - c)) (by omega) e3 (Sy (by omega))]
  simp only [BU,Fb,E9]
  rw [SD (k:=x+(Hn - c)) (by omega) e3 (by rw [OD];omega),Sx]
  simp only [BU,Ci]
  refine ⟨x+1,_,_,rfl,by omega,rfl,Sz (Sz s' hnew) hnew,?_⟩
  rw [DX (by simpa using hlm)]
  congr 2
  refine Sw fun k _=>?_
  rw [←Zb2]
  by_cases z1:k=x+(Hn - c)
  ·rw [if_pos z1,if_pos z1]
   subst z1
   by_cases z2:x+(Hn - c)=x+c
   ·rw [if_pos z2,if_pos z2,z2]
   ·rw [if_neg z2,if_neg z2]
  ·rw [if_neg z1,if_neg z1]
   by_cases z2:k=x+c
   ·rw [if_pos z2,if_pos z2,z2]
   ·rw [if_neg z2,if_neg z2]
 ·rintro ρ h' ⟨t,y,y',ex,ht,rfl,s',e'⟩
  have:t=n:=J7 ht ex.symm
  subst this
  simp [s']
  rw [e']
  congr 2
  exact Sw fun k _=>by rw [Zb3 hL]
theorem SE {j:Nat} {Hn:Int} {c:Nat→Int} {C:Nat→Bool}:CP (j+1) Hn c C=CP j Hn c C+if C j then Hn - c j else c j:=by
 unfold CP
 rw [Dz,CV,D3]
 simp
theorem Zb5 {j:Nat} {Hn:Int} {c:Nat→Int} {C C':Nat→Bool} (h:∀i,i<j→C i=C' i):CP j Hn c C=CP j Hn c C':=FU fun i hi=>by rw [h i (by simpa using hi)]
def wL (j:Nat) (Hn:Int) (c:Nat→Int):List Int:=(LL 0 j).map (CP j Hn c)
theorem OE {j:Nat} {Hn:Int} {c:Nat→Int}:wL (j+1) Hn c=(wL j Hn c).map (·+ c j)++(wL j Hn c).map (·+ (Hn - c j)):=by
 unfold wL
 rw [LL,CV,CC,CC,CC]
 congr 1
 ·exact CB fun C hC=>by
   show CP (j+1) Hn c C=CP j Hn c C+c j
   rw [SE,GT hC j (by omega)]
   rfl
 ·exact CB fun C hC=>by
   show CP (j+1) Hn c (ext (0+j) C)=CP j Hn c C+(Hn - c j)
   rw [SE,Zb5 (C:=ext (0+j) C) (C':=C) fun i hi=>if_neg (by omega)]
   simp [ext]
theorem LN {Hn:Nat} {c:Nat→Int} (hc:∀j,0≤c j∧c j≤Hn):∀(j:Nat) (x:Int),x∈wL j Hn c→0≤x∧x<((1+j*Hn:Nat):Int)
 |0,x,hx=>by
  simp [wL,LL,CP] at hx
  subst hx
  simp
 |j+1,x,hx=>by
  rw [OE] at hx
  have hm:(((j+1)*Hn:Nat):Int)=((j*Hn:Nat):Int)+Hn:=by rw [Nat.succ_mul];omega
  have h1:=hc j
  rcases qaV.mp hx with z |z
  ·obtain ⟨y,hy,rfl⟩:=qb0.mp z
   have:=LN hc j y hy
   omega
  ·obtain ⟨y,hy,rfl⟩:=qb0.mp z
   have:=LN hc j y hy
   omega
def WoI (h:HD) (W Hn:Nat) (c:Nat→Int) (xs:List Nat) (ρ:Ai) (h':HD):Prop:=∃(j l:Nat) (x:Option D),xs=(List.range W).drop j∧j≤W∧ρ=[some (AQ W c),some (.int (Hn:Nat)),some (.loc l),x]∧Sm h h'∧h'[l]?=some (.lst (B1 (1+j*Hn) fun k=>A4 (wL j Hn c) k))
theorem Zb6 {h:HD} {W Hn:Nat} {c:Nat→Int} (hW:W≤8) (hH:Hn≤8) (hc:∀j,0≤c j∧c j≤Hn):
 ∃l2 h2,ED [AQ W c,.int (Hn:Nat)] h=.ok (.loc l2) h2∧Sm h h2∧h2[l2]?=some (.lst (B1 (1+W*Hn) fun k=>A4 (wL W Hn c) k)):=by
 suffices hs:Wp (ED [AQ W c,.int (Hn:Nat)] h) (fun d h1=>∃l2,d=.loc l2∧Sm h h1∧h1[l2]?=some (.lst (B1 (1+W*Hn) fun k=>A4 (wL W Hn c) k))) by
  obtain ⟨d,h1,e,l2,rfl,q⟩:=hs.ex
  exact ⟨l2,h1,e,q⟩
 change Wp (Ak 4 (NU EA) [AQ W c,.int (Hn:Nat)] h) _
 rw [AN]
 simp [-Aq]
 refine B7 (by simp) fun l1 h1 s1 e1 _ _=>?_
 rw [Aq,BG]
 refine DN (src:=[]) (xs:=List.range W) (fun j=>.int (c j)) (WoI h W Hn c) ?_ (fun ys ρ h' i=>DG) ?_ ?_
 ·simp [AQ]
  refine ⟨0,l1,none,by simp,by omega,rfl,s1,?_⟩
  rw [e1]
  simp [B1,wL,LL,A4,CP,Dz]
 ·rintro x xs ρ h' ⟨j,l,y,ex,hj,rfl,s',e'⟩
  obtain ⟨rfl,hj',rfl⟩:=J6 ex.symm
  refine ⟨_,rfl,?_⟩
  obtain ⟨cn,ec⟩:∃cn:Nat,c x=(cn:Int):=⟨(c x).toNat,by have:=hc x;omega⟩
  have hcn:cn≤Hn:=by have:=hc x;omega
  have hm:x*Hn≤64:=B8 (Nat.mul_le_mul (show x≤8 by omega) hH) (by decide)
  obtain ⟨l2,h2,e2,s2,el2⟩:=Zb4 (c:=cn) (Hn:=Hn) e' (LN hc x) (by omega) hcn hH
  simp
  rw [ec,e2]
  simp only [BU,Ci]
  refine ⟨x+1,l2,_,rfl,by omega,rfl,s'.trans s2,?_⟩
  rw [el2]
  have en:1+x*Hn+Hn=1+(x+1)*Hn:=by rw [Nat.succ_mul];omega
  rw [en,OE,ec,show ((Hn - cn:Nat):Int)=(Hn:Int) - (cn:Int) from by omega]
 ·rintro ρ h' ⟨j,l,y,ex,hj,rfl,s',e'⟩
  have:j=W:=J7 hj ex.symm
  subst this
  simp [s']
  exact e'
theorem OF {k:Nat} {ds:List D} {h:HD} (hne:ds≠[]) (hk:k≤1000) (hz:ds.length*k≤1000):Bx (.tup ds) (.int (k:Nat)) h=.ok (.tup (List.replicate k ds).flatten) h:=by
 simp only [Bx]
 rw [if_pos ⟨hne,by omega,by omega,by simpa using FB hz⟩]
 simp
theorem OG {n:Nat}:D.tup (List.replicate n [D.int 0]).flatten=AQ n fun _=>0:=by
 unfold AQ
 congr 1
 induction n with
 |zero=>rfl
 |succ n ih=>rw [List.replicate_succ',List.flatten_append,ih,Dz,CV];rfl
theorem SF {α:Type} {xs:List α} {n:α→Int} {l:Nat} {h:HD} (e:h[l]?=some (.lst (xs.map fun x=>.int (n x)))):CG (.loc l) h=.ok (.int (xs.map n).sum) h:=by
 have:CG (.loc l) h=CG (.tup (xs.map fun x=>.int (n x))) h:=by simp only [CG,BE,e]
 rw [this,MN]
theorem OH {H:Int}:∀(n:Nat) (x:Int),((wL n ((1:Nat):Int) fun _=>0).map fun k=>mn H (x+k)).sum=SS H n x
 |0,x=>by simp [wL,LL,CP,SS]
 |n+1,x=>by
  rw [OE,CV,D3,CC,CC]
  simp only [SS]
  rw [←OH n x,←OH n (x+1)]
  congr 1
  ·congr 1
   exact CB fun k _=>by simp
  ·congr 1
   exact CB fun k _=>by
    show mn H (x+(k+(((1:Nat):Int) - 0)))=mn H (x+1+k)
    congr 1
    omega
@[irreducible] def OI (x:Int) (n Hn:Nat) (h:HD):Prop:=Pu (Fq [.int x,.int (n:Nat),.int (Hn:Nat)] h) h (.int (SS Hn n x))
theorem Zb7 {x:Int} {n Hn:Nat} {h:HD} (hn:n≤8) (hH:Hn≤8) (hx:0≤x∧x≤8):OI x n Hn h:=by
 unfold OI
 change Wp (Ak 4 (N1 ED) [.int x,.int (n:Nat),.int (Hn:Nat)] h) _
 rw [AN]
 simp [-Aq]
 rw [OF (by simp) (by omega) (by simp;omega),OG]
 simp only [BU]
 obtain ⟨l,h2,e,s2,e2⟩:=Zb6 (h:=h) (W:=n) (Hn:=1) (c:=fun _=>0) hn (by decide) (fun j=>⟨by decide,by decide⟩)
 rw [show ((1:Int))=((1:Nat):Int) from rfl,e,BU,Aq]
 rw [MD,Ew,Du]
 refine DM (src:=[(l,B1 (1+n*1) fun k=>A4 (wL n ((1:Nat):Int) fun _=>0) ((k:Nat):Int))]) (xs:=List.range (1+n*1)) (φ:=fun k=>.tup [.int ((k:Nat):Int),.int (A4 (wL n ((1:Nat):Int) fun _=>0) ((k:Nat):Int))]) (fun _=>true)
  (fun k=>.int (A4 (wL n ((1:Nat):Int) fun _=>0) ((k:Nat):Int)*mn Hn (x+(k:Int)))) (fun k=>[some (.int ((k:Nat):Int)),some (.int (A4 (wL n ((1:Nat):Int) fun _=>0) ((k:Nat):Int))),some (.int x),some (.int (Hn:Nat))]) ?_ (by simp;unfold sizeLine;omega) (fun x _=>rfl) (fun x hx h' s'=>.ok) (fun k hk _ h' s'=>?_) fun l3 h3 s3 e3=>?_
 ·simp only [Xy,Du,Fb,E9,DL]
  rw [Ll (n:=1+n*1) (e:=fun k=>.int (A4 (wL n ((1:Nat):Int) fun _=>0) ((k:Nat):Int))) e2]
  exact ⟨rfl,.refl _,fun h3 s3=>DH (s3 _ _ e2)⟩
 ·have hk':k<1+n*1:=by simpa using hk
  have em:(if (Hn:Int) - x - (k:Int)<x+(k:Int) then (Hn:Int) - x - (k:Int) else x+(k:Int))=mn Hn (x+(k:Int)):=by
   unfold mn
   rw [show (Hn:Int) - x - (k:Int)=(Hn:Int) - (x+(k:Int)) by omega]
  simp only [Pu,K8,Fb,E9,Ew,Du,DL,BU,WS,Qx,WR,WU,Yk]
  rw [JN (by split<;>omega) (by split<;>omega),em]
  exact ⟨rfl,.refl _⟩
 ·rw [Cg] at e3
  simp only [DL,JK]
  rw [SF e3,Sv (fun k=>mn Hn (x+k)) (LN (Hn:=1) (fun j=>⟨by decide,by decide⟩) n),OH]
  exact ⟨rfl,s2.trans s3⟩
theorem SG {W n Hn:Nat} {c:Nat→Int} {h:HD} (hw:W≤8) (hn:n≤8) (hH:Hn≤8) (hc:∀j,0≤c j∧c j≤8):Pu (Cw [AQ W c,.int (n:Nat),.int (Hn:Nat)] h) h (.int (AS W Hn n c)):=by
 change Wp (Ak 3 (N6 Fq) [AQ W c,.int (n:Nat),.int (Hn:Nat)] h) _
 rw [AN,MD,Ew,Du]
 refine DM (src:=[]) (xs:=List.range W) (φ:=fun j=>.int (c j)) (fun _=>true) (fun j=>.int (SS Hn n (c j))) (fun j=>[some (.int (c j)),some (.int (n:Nat)),some (.int (Hn:Nat))]) ?_ (by simp;unfold sizeLine;omega) (fun x _=>rfl) (fun x hx h' s'=>.ok) (fun k hk _ h' s'=>?_) fun l3 h3 s3 e3=>?_
 ·simp [AQ,Sm.refl,Bn]
 ·unfold Pu
  rw [Ew,Du,E9,Du,Fb,E9,Du,Fb,Fb,E9,DL]
  have t:=Zb7 (h:=h') hn hH (hc k)
  unfold OI Pu at t
  assumption
 ·rw [Cg] at e3
  simp only [DL,JK]
  rw [SF e3]
  exact ⟨rfl,s3⟩
theorem _root_.LS.Sm.put {h h':HD} {l:Nat} {c:Cell} (s:Sm h h') (hl:h.length≤l):Sm h (h'.set l c):=fun i x e=>by
 rw [CU (by have:=(qa5.mp e).1;omega)]
 exact s i x e
theorem SH {W:Nat} {c e:Nat→Int} {x:D} {s:Bk} {h:HD} (hw:W≤8) (hx:∀h',Sm h h'→CH x h'=some ((List.range W).map fun j=>.int (e j),s)) (hs:∀h',Sm h h'→Bn s [] h'):Pu (EB [AQ W c,x] h) h (AQ W fun j=>c j+e j):=by
 change Wp (Ak 2 NM [AQ W c,x] h) _
 refine Eq.mpr AN ?_
 simp
 refine Pu.wp (GO (src:=[]++s) (xs:=List.range W) (φ:=fun j=>.tup [.int (c j),.int (e j)]) (fun j=>.int (c j+e j)) (fun j=>[some (.int (c j)),some (.int (e j))]) ?_ (fun x _=>rfl) (fun x hx h' s'=>?_) (sz hw)) fun h2 s2=>?_
 ·simp [BB]
  refine A6 (Q8 (n:=W) (e:=fun j=>.int (c j)) (e':=fun j=>.int (e j)) (show CH (AQ W c) h=some (_,[]) from MX) (hx h (.refl _))) ?_
  exact ⟨rfl,.refl _,fun h2 s2=>hs h2 s2⟩
 ·simp [Pu,Sm.refl]
 ·exact ⟨rfl,s2⟩
def nx (c:Nat→Int) (r:Nat→Bool) (t:Bool):Nat→Int:=fun j=>c j+if Bool.xor t (r j) then 1 else 0
def tn (W H n:Nat) (c:Nat→Int) (r:Nat→Bool):Bool:=decide (AS W H n (nx c r true)<AS W H n (nx c r false))
def cR (f:Nat→Nat→Bool) (W H:Nat):Nat→Nat→Int
 |0=>fun _=>0
 |i+1=>nx (cR f W H i) (f i) (tn W H (H - i - 1) (cR f W H i) (f i))
def tR (f:Nat→Nat→Bool) (W H i:Nat):Bool:=tn W H (H - i - 1) (cR f W H i) (f i)
theorem OJ {c:Nat→Int} {r:Nat→Bool} {t:Bool} {k:Nat} (hc:∀j,0≤c j∧c j≤k) (j:Nat):0≤nx c r t j∧nx c r t j≤(k+1:Nat):=by
 have:=hc j
 unfold nx
 split<;>omega
theorem OK {f:Nat→Nat→Bool} {W H:Nat}:∀(i j:Nat),0≤cR f W H i j∧cR f W H i j≤(i:Int)
 |0,j=>by simp [cR]
 |i+1,j=>OJ (OK i) j
def tD (t:Bool):D:=.int (if t then 1 else 0)
def DT (f:Nat→Nat→Bool) (W H i:Nat):D:=.tup [tD (tR f W H i),Dm (AS W H (H - i - 1) (cR f W H (i+1))).toNat (2^(H - i - 1))]
theorem OL {n:Nat} (hn:n≤8):2^n≤256:=B8 (Kr (n:=2) (by decide) hn) (by decide)
theorem SI {i:Int} {n:Nat} {h:HD} (hi:i.natAbs<18446744073709551616) (hn:n≤1000):Jw (.int i) (.int (n:Nat)) h=.ok (.int (i*2^n)) h:=by
 have:Ik i (n:Int):=⟨by omega,by omega,by omega⟩
 simp only [Jw,LS.intD]
 rw [if_pos this]
 simp
theorem SJ {T:Int} {n:Nat} {h:HD} (h1:0≤T) (h2:T<100000) (hn:n≤8):Pu (Cm [.int T,.int (1*2^n)] h) h (Dm T.toNat (2^n)):=by
 obtain ⟨k,rfl⟩:∃k:Nat,T=(k:Int):=⟨T.toNat,by omega⟩
 have:=OL hn
 have e:(1:Int)*2^n=((2^n:Nat):Int):=by simp
 rw [e]
 exact ZbX (by omega) (GB (by decide)) (by omega)
theorem SK {l:Nat} {a b:D} {h:HD} {t:Bool} (e:h[l]?=some (.lst [a,b])):Ax (.loc l) (tD t) h=.ok (if t=true then b else a) h:=by
 cases t
 ·exact GN (k:=0) e rfl
 ·exact GN (k:=1) e rfl
section
variable {f:Nat→Nat→Bool} {W H:Nat} {h:HD}
inductive SL (f:Nat→Nat→Bool) (W H:Nat) (h:HD) (l:Nat) (xs:List Nat) (ρ:Ai) (h':HD):Prop where
 |mk (i:Nat) (d4 d5 d6 d7 d8 d9:Option D) (ex:xs=(List.range H).drop i) (hi:i≤H) (er:ρ=[some (bD H W f),some (.int (H:Nat)),some (AQ W (cR f W H i)),some (.loc l),d4,d5,d6,d7,d8,d9]) (s:Sm h h') (hl:h.length≤l)
  (e:h'[l]?=some (.lst ((List.range i).map (DT f W H)))):SL f W H h l xs ρ h'
theorem SM {Q:D→HD→Prop} (hh:1≤H∧H≤8) (hw:1≤W∧W≤8) (q:∀l h',Sm h h'→h.length≤l→h'[l]?=some (.lst ((List.range H).map (DT f W H)))→Q (.loc l) h'):Wp (Co [bD H W f] h) Q:=by
 change Wp (Ak 10 (Oe AI EB Cw Cm) [bD H W f] h) _
 refine Eq.mpr AN ?_
 simp [-Aq]
 refine (HW hh hw).wp fun h1 s1=>?_
 refine Eq.mpr Aq ?_
 simp [-Aq,Gw]
 refine Eq.mpr Aq ?_
 simp [-Aq]
 refine A6 (LM hh.1) ?_
 simp [-Aq,LJ]
 refine A6 (OF (by simp) (by omega) (by simp;omega)) ?_
 rw [OG]
 simp [-Aq]
 refine Eq.mpr Aq ?_
 simp [-Aq]
 refine B7 (by simp) fun l h2 s2 e2 el _=>?_
 refine Eq.mpr Aq ?_
 refine Eq.mpr BG ?_
 refine DN (src:=[]) (xs:=List.range H) (fun i=>.tup [.int ((i:Nat):Int),A5 W (f i)]) (SL f W H h l) ?_ (fun ys ρ h' _=>DG) ?_ ?_
 ·simp [bD,Lk]
  exact ⟨0,none,none,none,none,none,none,by simp,by omega,rfl,s1.trans s2,by rw [el];exact s1.len,by simpa using e2⟩
 ·rintro x xs ρ h' ⟨i,d4,d5,d6,d7,d8,d9,ex,hi,rfl,s,hl,e⟩
  obtain ⟨rfl,hi',rfl⟩:=J6 ex.symm
  refine ⟨_,rfl,?_⟩
  have cb:=OK (f:=f) (W:=W) (H:=H) x
  have cb8:∀t j,0≤nx (cR f W H x) (f x) t j∧nx (cR f W H x) (f x) t j≤8:=fun t j=>by
   have:=OJ (r:=f x) (t:=t) cb j
   omega
  have ab:∀t,0≤AS W H (H - x - 1) (nx (cR f W H x) (f x) t)∧AS W H (H - x - 1) (nx (cR f W H x) (f x) t)<100000:=fun t=>by
   have:=OC (W:=W) (H:=H) (n:=H - x - 1) ⟨by omega,by omega⟩ (by omega) (c:=nx (cR f W H x) (f x) t) fun j=>by
    have:=OJ (r:=f x) (t:=t) cb j
    omega
   omega
  simp [-Aq]
  rw [show (H:Int) - (x:Int) - 1=((H - x - 1:Nat):Int) by omega]
  refine Eq.mpr Aq ?_
  simp [-Aq]
  refine (SH (c:=cR f W H x) (e:=fun j=>if f x j then 1 else 0) (s:=[]) hw.2 (fun h' _=>rfl) (fun h' _=>DG)).wp fun h3 s3=>?_
  refine DM (src:=[]) (xs:=List.range W) (φ:=fun j=>lit (f x j)) (fun _=>true) (fun j=>.int (1 - if f x j then 1 else 0)) (fun j=>[some (lit (f x j))]) ?_ (sz hw.2) (fun x _=>rfl) (fun x hx h' s'=>.ok) (fun j hj _ h' s'=>?_) fun l4 h4 s4 e4=>?_
  ·simp [A5,Sm.refl,Bn]
  ·simp [Pu,lit,Sm.refl]
  rw [Cg] at e4
  refine (SH (c:=cR f W H x) (e:=fun j=>1 - if f x j then 1 else 0) (s:=[(l4,_)]) hw.2 (fun h' s'=>XA (s' _ _ e4)) (fun h' s'=>DH (s' _ _ e4))).wp fun h5 s5=>?_
  have n0:(AQ W fun j=>cR f W H x j+if f x j then 1 else 0)=AQ W (nx (cR f W H x) (f x) false):=HX fun j _=>by simp [nx]
  have n1:(AQ W fun j=>cR f W H x j+(1 - if f x j then 1 else 0))=AQ W (nx (cR f W H x) (f x) true):=HX fun j _=>by simp [nx];split<;>simp_all
  rw [n0,n1]
  refine B7 (by simp) fun l6 h6 s6 e6 _ _=>?_
  refine Eq.mpr Aq ?_
  refine Eq.mpr BG ?_
  refine Eq.mpr Qu ?_
  refine DM (src:=[(l6,[AQ W (nx (cR f W H x) (f x) false),AQ W (nx (cR f W H x) (f x) true)])]) (xs:=[false,true]) (φ:=fun t=>AQ W (nx (cR f W H x) (f x) t)) (fun _=>true) (fun t=>.int (AS W H (H - x - 1) (nx (cR f W H x) (f x) t)))
   (fun t=>[some (AQ W (nx (cR f W H x) (f x) t)),some (.int ((H - x - 1:Nat):Int)),some (.int (H:Nat))]) ?_ (by simp) (fun x _=>rfl) (fun x hx h' s'=>.ok) (fun t ht _ h' s'=>?_) fun l7 h7 s7 e7=>?_
  ·simp
   refine A6 (Gq e6) ?_
   exact ⟨rfl,.refl _,fun h2 s2=>DH (s2 _ _ e6)⟩
  ·simp [Pu]
   exact (SG hw.2 (by omega) hh.2 (cb8 t)).wp fun h2 s2=>⟨rfl,s2⟩
  rw [Cg] at e7
  have e6':=s7 _ _ e6
  refine Eq.mpr Aq ?_
  simp [-Aq]
  refine A6 (GN (k:=1) e7 rfl) ?_
  simp [-Aq]
  refine A6 (GN (k:=0) e7 rfl) ?_
  simp [-Aq]
  have Lx:∀(Q:D→HD→Prop) (ρ:Ai),Q (tD (tR f W H x)) h7→Wp (if AS W H (H - x - 1) (nx (cR f W H x) (f x) true)<AS W H (H - x - 1) (nx (cR f W H x) (f x) false) then mC (.int 1) ρ h7 else mC (.int 0) ρ h7) Q:=fun Q ρ hq=>by
   unfold tR tn tD at hq
   split
   ·rename_i hc;rw [decide_eq_true hc] at hq;exact hq
   ·rename_i hc;rw [decide_eq_false hc] at hq;exact hq
  refine Lx _ _ ?_
  refine Eq.mpr Aq ?_
  simp [-Aq]
  refine A6 (SK e6') ?_
  have ec:(if tR f W H x=true then AQ W (nx (cR f W H x) (f x) true) else AQ W (nx (cR f W H x) (f x) false))=AQ W (cR f W H (x+1)):=by
   show _=AQ W (nx (cR f W H x) (f x) (tR f W H x))
   split<;>simp_all
  rw [ec]
  try simp [-Aq]
  refine Eq.mpr Aq ?_
  have sA:=(((s3.trans s4).trans s5).trans s6).trans s7
  have eA:=sA _ _ e
  simp
  refine A6 (La eA) ?_
  simp
  refine A6 (SK (a:=.int (AS W H (H - x - 1) (nx (cR f W H x) (f x) false))) (b:=.int (AS W H (H - x - 1) (nx (cR f W H x) (f x) true))) e7) ?_
  have es:(if tR f W H x=true then D.int (AS W H (H - x - 1) (nx (cR f W H x) (f x) true)) else D.int (AS W H (H - x - 1) (nx (cR f W H x) (f x) false)))=.int (AS W H (H - x - 1) (cR f W H (x+1))):=by
   show _=D.int (AS W H (H - x - 1) (nx (cR f W H x) (f x) (tR f W H x)))
   split<;>simp_all
  rw [es]
  simp
  refine A6 (SI (by decide) (by omega)) ?_
  simp only [BU]
  have ab':0≤AS W H (H - x - 1) (cR f W H (x+1))∧AS W H (H - x - 1) (cR f W H (x+1))<100000:=ab (tR f W H x)
  refine (SJ ab'.1 ab'.2 (by omega)).wp fun h8 s8=>?_
  try simp
  refine A6 (Lb (s8 _ _ eA) (by simp;unfold sizeLine;omega)) ?_
  simp only [BU,Ci]
  have hlt:l<h8.length:=(qa5.mp (s8 _ _ eA)).1
  refine ⟨x+1,_,_,_,_,_,_,rfl,by omega,rfl,Sm.put ((s.trans sA).trans s8) hl,hl,?_⟩
  rw [DX hlt,Dz,CV]
  rfl
 ·rintro ρ h' ⟨i,d4,d5,d6,d7,d8,d9,ex,hi,rfl,s,hl,e⟩
  have:i=H:=J7 hi ex.symm
  subst this
  refine Eq.mpr Aq ?_
  simp
  exact q l h' s hl e
end
theorem SO {b:Bool} {h:HD}:CQ (tD b) (.int 1) h=.ok (.bl b) h:=by cases b<;>rfl
section
variable {f:Nat→Nat→Bool} {W H:Nat} {h:HD}
theorem Zb8 (hh:1≤H∧H≤8) (hw:1≤W∧W≤8):Pu (EL [bD H W f] h) h (.tup [AK H (tR f W H),AK W (Dw H (cc H f (tR f W H)))]):=by
 change Wp (Ak 3 (Ov Co FA) [bD H W f] h) _
 refine Eq.mpr AN ?_
 simp [-Aq]
 refine SM hh hw fun l h1 s1 _ e1=>?_
 refine Eq.mpr Aq ?_
 refine Eq.mpr BG ?_
 refine Eq.mpr Qu ?_
 refine Pu.wp (MF (src:=[(l,(List.range H).map (DT f W H))]) (xs:=List.range H) (φ:=fun i=>.tup [.int ((i:Nat):Int),DT f W H i]) (tR f W H) (fun i=>.int ((i:Nat):Int))
  (fun i=>[some (.int ((i:Nat):Int)),some (tD (tR f W H i)),some (Dm (AS W H (H - i - 1) (cR f W H (i+1))).toNat (2^(H - i - 1)))]) ?_ (sz hh.2) (fun x _=>rfl) (fun x hx h' s'=>?_) (fun x hx _ h' s'=>?_)) fun h2 s2=>?_
 ·simp
  refine A6 (Ll e1) ?_
  exact ⟨rfl,.refl _,fun h2 s2=>DH (s2 _ _ e1)⟩
 ·simp [Pu,SO,Sm.refl]
 ·simp [Pu,Sm.refl]
 refine Eq.mpr Aq ?_
 simp
 refine (ZbV (p:=tR f W H) hh hw).wp fun h3 s3=>?_
 simp [(s1.trans s2).trans s3]
 rfl
theorem SQ:∀(i j:Nat),cR f W H i j=cc i f (tR f W H) j
 |0,j=>rfl
 |i+1,j=>by
  have:=SQ i j
  show nx (cR f W H i) (f i) (tR f W H i) j=_
  unfold nx
  rw [this]
  unfold cc Bo
  rw [Dz,CV,D3]
  simp [Bool.xor_comm]
end
theorem SU {a n:Nat} {h:HD} (ha:a≤1000) (hn:n≤1000):IC [.int (a:Int),.int (n:Int)] h=.ok ((List.range (n - a)).map fun k=>D.int ((a:Int)+((k:Nat):Int)),[]) h:=by
 have:((-(2^62):Int)≤(a:Int)∧(a:Int)<2^62)∧(-(2^62):Int)≤(n:Int)∧(n:Int)<2^62:=by omega
 unfold IC
 simp only
 rw [if_pos this]
 have e:((n:Int) - (a:Int)).toNat=n - a:=by omega
 rw [e]
 simp [Gf]
theorem SV {W H:Nat} {c:Nat→Int} {h:HD} (hw:W≤8):Pu (Ct [AQ W c,.int (H:Nat)] h) h (.int (Ef W H c)):=by
 change Wp (Ak 2 NI [AQ W c,.int (H:Nat)] h) _
 rw [AN]
 simp
 refine Pu.wp (XG (src:=[]) (xs:=List.range W) (φ:=fun j=>.int (c j)) (fun j=>if (H:Int) - c j<c j then (H:Int) - c j else c j) (fun j=>[some (.int (c j)),some (.int (H:Nat))]) JM (fun x _=>rfl) (fun x hx h' s'=>?_) (sz hw)) fun h2 s2=>?_
 ·simp [Pu,Sm.refl]
 ·exact ⟨rfl,s2⟩
theorem Zb9 {n:Nat} {R:Nat→Bool}:AK (n+1) (ext n R)=.tup (((List.range n).filter R).map (fun i=>D.int ((i:Nat):Int))++[.int ((n:Nat):Int)]):=by
 unfold AK
 rw [Dz,List.filter_append]
 have e1:(List.range n).filter (ext n R)=(List.range n).filter R:=List.filter_congr fun i hi=>by
  have:i<n:=by simpa using hi
  simp [ext,show i≠n by omega]
 have e2:[n].filter (ext n R)=[n]:=by simp [ext]
 rw [e1,e2]
 simp
theorem Zca {n:Nat} {R:Nat→Bool} (h:R n=false):AK (n+1) R=AK n R:=by
 unfold AK
 rw [Dz,List.filter_append]
 simp [h]
theorem OM {k:Nat} (hk:k≤7):(LL 1 k).length≤128:=by
 rw [M6]
 exact Kr (n:=2) (by decide) hk
def EO (H W k:Nat) (f:Nat→Nat→Bool):List D:=(LL 1 k).map fun R=>.tup [AK (k+1) R,AQ W (cc H f R)]
def LwI (H W:Nat) (f:Nat→Nat→Bool) (h:HD) (xs:List Nat) (ρ:Ai) (h':HD):Prop:=∃(k l:Nat) (x:Option D),xs=(List.range (H - 1)).drop k∧k≤H - 1∧ρ=[some (bD H W f),some (.loc l),x]∧Sm h h'∧h'[l]?=some (.lst (EO H W k f))
theorem Zcb {n k:Nat} {e:Nat→D} {i:Int} {h:HD} (hi:i=(k:Int)) (hk:k<n):Ax (.tup ((List.range n).map e)) (.int i) h=.ok (e k) h:=by
 subst hi;exact IJ hk
theorem Zcc {H W:Nat} {f:Nat→Nat→Bool} {h:HD} (hh:1≤H∧H≤8) (hw:1≤W∧W≤8):∃l h1,Dk [bD H W f] h=.ok (.loc l) h1∧Sm h h1∧h1[l]?=some (.lst (EO H W (H - 1) f)):=by
 suffices hs:Wp (Dk [bD H W f] h) (fun d h1=>∃l,d=.loc l∧Sm h h1∧h1[l]?=some (.lst (EO H W (H - 1) f))) by
  obtain ⟨d,h1,e,l,rfl,q⟩:=hs.ex
  exact ⟨l,h1,e,q⟩
 change Wp (Ak 3 (On Cz Cs) [bD H W f] h) _
 rw [AN]
 simp [-Aq]
 refine (Sn hh hw).wp fun h1 s1=>?_
 refine B7 (by simp) fun l h2 s2 e2 _ _=>?_
 rw [Aq]
 simp [-Aq]
 refine DN (src:=[]) (xs:=List.range (H - 1)) (fun k=>.int (1+(k:Int))) (LwI H W f h) ?_ (fun ys ρ h' _=>DG) ?_ ?_
 ·have eH:A9 (bD H W f) h2=.ok (.int ((H:Nat):Int)) h2:=by simp [bD]
  simp [eH]
  rw [show (1:Int)=((1:Nat):Int) from rfl,SU (by omega) (by omega)]
  simp
  refine ⟨0,l,none,by simp,by omega,rfl,s1.trans s2,?_⟩
  rw [e2]
  simp [EO,LL,AK]
  exact HX (W:=W) fun j _=>GS fun i _=>by simp
 ·rintro x xs ρ h' ⟨k,l',y,ex,hk,rfl,s',e'⟩
  obtain ⟨rfl,hk',rfl⟩:=J6 ex.symm
  refine ⟨_,rfl,?_⟩
  simp
  refine DM (src:=[(l',EO H W x f)]) (xs:=LL 1 x) (φ:=fun R=>.tup [AK (x+1) R,AQ W (cc H f R)]) (fun _=>true) (fun R=>.tup [AK (x+1+1) (ext (1+x) R),AQ W (cc H f (ext (1+x) R))]) (fun R=>[some (AK (x+1) R),some (AQ W (cc H f R)),some (.int (1+(x:Int))),some (bD H W f)]) ?_ (FB (B8 (OM (by omega)) (by decide))) (fun R _=>rfl) (fun R _ h2 s2=>(.ok:Pu (.ok true h2) h2 true)) (fun R hR _ h2 s2=>?_) fun l3 h3 s3 e3=>?_
  ·simp [Gq e',EO]
   exact ⟨.refl _,fun h2 s2=>DH (s2 _ _ e')⟩
  ·have h0:R (1+x)=false:=GT hR _ (by omega)
   simp [Pu]
   unfold AK
   rw [XC (FB (by
    have:=Jc R (List.range (x+1))
    simp at this ⊢
    omega))]
   simp
   unfold bD
   rw [Zcb (k:=1+x) (by omega) (by omega)]
   simp
   refine (So hw.2).wp fun h3 s3=>?_
   simp [s3]
   refine ⟨?_,HX fun j _=>(Sr (by omega) h0).symm⟩
   have e1:AK (x+1+1) (ext (1+x) R)=AK (x+1+1) (ext (x+1) R):=by rw [Nat.add_comm 1 x]
   have e2:=e1.trans (Zb9 (n:=x+1) (R:=R))
   unfold AK at e2
   have e3:=D.tup.inj e2
   rw [e3,show (1+(x:Int))=(((x+1:Nat)):Int) from by omega]
  ·rw [Cg] at e3
   rw [XB (s3 _ _ e') e3]
   have hlen:=OM (k:=x) (by omega)
   refine B7 (FB (by simp [EO];omega)) fun l4 h4 s4 e4 _ _=>?_
   simp only [Ci]
   refine ⟨x+1,l4,_,rfl,by omega,rfl,s'.trans (s3.trans s4),?_⟩
   rw [e4]
   have ea:EO H W x f=(LL 1 x).map fun R=>.tup [AK (x+1+1) R,AQ W (cc H f R)]:=CB fun R hR=>by rw [Zca (n:=x+1) (GT hR _ (by omega))]
   rw [ea]
   show _=some (Cell.lst ((LL 1 (x+1)).map fun R=>.tup [AK (x+1+1) R,AQ W (cc H f R)]))
   rw [LL,CV,CC]
   rfl
 ·rintro ρ h' ⟨k,l',y,ex,hk,rfl,s',e'⟩
  have:k=H - 1:=J7 hk ex.symm
  subst this
  simp
  exact ⟨s',e'⟩
section
variable {H W:Nat} {f:Nat→Nat→Bool} {p q:Nat→Bool} {h:HD}
theorem Zcd {ρ:Ai} {l:Nat} {h1:HD} (e:Dk [bD H W f] h=.ok (.loc l) h1) (s:Sm h h1) (el:h1[l]?=some (.lst (EO H W (H - 1) f))):
 BB (By (Ag Dk (Ab (Aa 0) Ae)) (some (bD H W f)::ρ) h) h ((LL 1 (H - 1)).map fun R=>.tup [AK (H - 1+1) R,AQ W (cc H f R)]) [(l,EO H W (H - 1) f)]:=by
 have:By (Ag Dk (Ab (Aa 0) Ae)) (some (bD H W f)::ρ) h=(Dk [bD H W f] h).bind Ge:=rfl
 rw [this]
 exact XI e s el
theorem LLs (hh:1≤H∧H≤8):(LL 1 (H - 1)).length≤sizeLine:=FB (B8 (OM (by omega)) (by decide))
theorem Zce (hh:1≤H∧H≤8) (hw:1≤W∧W≤8):Pu (EJ [bD H W f] h) h (.int (Bw H W f)):=by
 change Wp (Ak 1 (Oq Dk Ct) [bD H W f] h) _
 rw [AN]
 simp
 obtain ⟨l,h1,e,s1,el⟩:=Zcc (f:=f) (h:=h) hh hw
 refine Pu.wp (XH (src:=[(l,EO H W (H - 1) f)]) (xs:=LL 1 (H - 1)) (φ:=fun R=>.tup [AK (H - 1+1) R,AQ W (cc H f R)]) (fun R=>Ef W H (cc H f R)) (fun R=>[some (AK (H - 1+1) R),some (AQ W (cc H f R)),some (bD H W f)]) (Zcd e s1 el) (fun R _=>rfl) (fun R hR h' s'=>?_) (LLs hh) Ri) fun h2 s2=>?_
 ·simp [Pu,Gw]
  exact SV hw.2
 ·exact ⟨rfl,s2⟩
theorem Zcf (hh:1≤H∧H≤8) (hw:1≤W∧W≤8):Pu (EK [bD H W f,AK H p] h) h (.int (Ef W H (cc H f p))):=by
 change Wp (Ak 2 (Ou CA Ct) [bD H W f,AK H p] h) _
 rw [AN]
 simp
 refine (Su hh hw).wp fun h1 s1=>?_
 simp [Gw]
 refine (SV hw.2).wp fun h2 s2=>?_
 simp [s1.trans s2]
theorem Zcg (hh:1≤H∧H≤8) (hw:1≤W∧W≤8):Pu (EI [bD H W f] h) h (.int ((List.range H).map fun i=>Bo W (f i)).sum):=by
 change Wp (Ak 1 (Oh Cy) [bD H W f] h) _
 rw [AN]
 simp
 refine (Sl hh hw).wp fun h1 s1=>?_
 simp [MN,s1]
end
def MT (H W:Nat):Nat:=(AS W H H fun _=>0).toNat
theorem SW {H W:Nat} (hh:H≤8) (hw:W≤8):0≤AS W H H (fun _=>0)∧AS W H H (fun _=>0)≤8*2048:=by
 have:=OC (W:=W) (H:=H) (n:=H) (by omega) hh (c:=fun _=>0) (fun j=>by omega)
 omega
section
variable {H W:Nat} {h:HD} {f:Nat→Nat→Bool}
theorem Zch (hh:1≤H∧H≤8) (hw:1≤W∧W≤8):Pu (Fu [.int (H:Nat),.int (W:Nat)] h) h .non:=by
 change Wp (Ak 2 (N5 EF) [.int (H:Nat),.int (W:Nat)] h) _
 refine Eq.mpr AN ?_
 simp
 refine (Sk (by omega) (by omega)).wp fun h1 s1=>?_
 refine (Sk (by omega) (by omega)).wp fun h2 s2=>?_
 first |exact ⟨rfl,s1.trans s2⟩ |exact s1.trans s2
theorem ON (hh:1≤H∧H≤8) (hw:1≤W∧W≤8):Pu (Cd [.int (H:Nat),.int (W:Nat)] h) h (Dm (MT H W) (2^H)):=by
 change Wp (Ak 2 (N8 Fu Cw Cm) [.int (H:Nat),.int (W:Nat)] h) _
 refine Eq.mpr AN ?_
 simp
 refine (Zch hh hw).wp fun h1 s1=>?_
 refine A6 (OF (by simp) (by omega) (by simp;omega)) ?_
 rw [OG]
 simp
 refine (SG hw.2 hh.2 hh.2 (fun j=>by omega)).wp fun h2 s2=>?_
 have b:=SW hh.2 hw.2
 refine A6 (SI (by decide) (by omega)) ?_
 rw [BU]
 refine (SJ b.1 (by omega) hh.2).wp fun h3 s3=>?_
 exact ⟨rfl,(s1.trans s2).trans s3⟩
def ES (T B:Nat):Int:=((T / Nat.gcd T B:Nat):Int) / ((B / Nat.gcd T B:Nat):Int)
theorem SX {T B:Nat} (hB:0<B):0<B / Nat.gcd T B:=Nat.div_pos (Nat.gcd_le_right _ hB) (LY _ hB)
theorem Zci {T B:Nat}:B / Nat.gcd T B≤B:=Nat.div_le_self _ _
theorem Zcj (hh:1≤H∧H≤8) (hw:1≤W∧W≤8):Pu (EH [.int (H:Nat),.int (W:Nat)] h) h (.int (min (ES (MT H W) (2^H)) (ES (MT W H) (2^W)))):=by
 change Wp (Ak 2 (Oa Cd) [.int (H:Nat),.int (W:Nat)] h) _
 rw [AN,MD,Ew,Du]
 have hp:=OL hh.2
 have hp0:0<2^H:=GB (by decide)
 have hq:=OL hw.2
 have hq0:0<2^W:=GB (by decide)
 refine DM (src:=[]) (xs:=[(MT H W,2^H),(MT W H,2^W)]) (φ:=fun p:Nat×Nat=>Dm p.1 p.2) (fun _=>true) (fun p=>.int (ES p.1 p.2)) (fun p=>[some (.int ((p.1 / Nat.gcd p.1 p.2:Nat):Int)),some (.int ((p.2 / Nat.gcd p.1 p.2:Nat):Int))]) ?_ (by simp) (fun x _=>by unfold Dm;rfl) (fun x hx h' s'=>.ok) (fun p hp' _ h' s'=>?_) fun l3 h3 s3 e3=>?_
 ·simp
  refine (ON hh hw).wp fun h1 s1=>?_
  refine (ON hw hh).wp fun h2 s2=>?_
  simp
  exact ⟨s1.trans s2,fun h3 s3=>DG⟩
 ·have hb:0<p.2∧p.2≤256:=by
   simp only [qa7,DZ,or_false] at hp'
   rcases hp' with rfl |rfl
   ·exact ⟨hp0,hp⟩
   ·exact ⟨hq0,hq⟩
  have d1:=SX (T:=p.1) hb.1
  have d2:=Zci (T:=p.1) (B:=p.2)
  simp only [Pu,K8,Fb,E9]
  refine A6 (Lc (by omega) (by omega)) ?_
  exact ⟨rfl,.refl _⟩
 ·rw [Cg] at e3
  simp only [DL,JK]
  refine A6 (Q9 (ns:=[ES (MT H W) (2^H),ES (MT W H) (2^W)]) e3 (by simp)) ?_
  exact ⟨rfl,s3⟩
def MM (f:Nat→Nat→Bool) (H W i:Nat):Int:=AS W H (H - i) (cR f W H i)
theorem SY {i:Nat} (hi:i<H):2*MM f H W (i+1)≤MM f H W i:=by
 unfold MM
 have e:H - i=(H - (i+1))+1:=by omega
 have st:=Zb0 (W:=W) (H:=H) (n:=H - (i+1)) (c:=cR f W H i) (r:=f i)
 rw [←e] at st
 have n0:nx (cR f W H i) (f i) false=fun j=>cR f W H i j+if f i j then 1 else 0:=by
  funext j;unfold nx;simp
 have n1:nx (cR f W H i) (f i) true=fun j=>cR f W H i j+1 - if f i j then 1 else 0:=by
  funext j;unfold nx;cases f i j<;>simp
 rw [←n0,←n1] at st
 have ec:cR f W H (i+1)=nx (cR f W H i) (f i) (tn W H (H - i - 1) (cR f W H i) (f i)):=rfl
 rw [ec,show H - i - 1=H - (i+1) by omega]
 cases ht:tn W H (H - (i+1)) (cR f W H i) (f i) with
 |true=>
  unfold tn at ht
  rw [decide_eq_true_eq] at ht
  omega
 |false=>
  unfold tn at ht
  rw [decide_eq_false_iff_not] at ht
  omega
theorem LO {i:Nat} (hh:H≤8) (hw:W≤8) (hi:i≤H):0≤MM f H W i∧MM f H W i<100000:=by
 have:=OC (W:=W) (H:=H) (n:=H - i) (by omega) (by omega) (c:=cR f W H i) (fun j=>by have:=OK (f:=f) (W:=W) (H:=H) i j;omega)
 unfold MM
 omega
theorem SZ:∀{i:Nat},i≤H→MM f H W i*2^i≤MM f H W 0
 |0,_=>by simp
 |i+1,hi=>by
  have h1:=SZ (i:=i) (by omega)
  have h2:=SY (f:=f) (W:=W) (show i<H by omega)
  have h3:MM f H W (i+1)*2^(i+1)=2*MM f H W (i+1)*2^i:=by rw [Int.pow_succ,Int.mul_comm 2,Int.mul_assoc,Int.mul_comm 2]
  rw [h3]
  exact Ji (LX h2 (Int.pow_nonneg (by decide))) h1
theorem OO:MM f H W H=Ef W H (cc H f (tR f W H)):=by
 unfold MM AS Ef
 rw [Nat.sub_self]
 refine FU fun j _=>?_
 rw [SQ]
 rfl
theorem OP (hh:1≤H):Bw H W f≤MM f H W H:=by
 rw [OO,←M5]
 exact M7 hh _ _
theorem Zck (hh:1≤H∧H≤8) (hw:W≤8):Bw H W f*2^H≤(MT H W:Nat):=by
 have h1:=SZ (f:=f) (W:=W) (AV H)
 have h2:=LX (OP (f:=f) (W:=W) hh.1) (Int.pow_nonneg (by decide):(0:Int)≤2^H)
 have b:=SW hh.2 hw
 have e:MM f H W 0=AS W H H fun _=>0:=rfl
 unfold MT
 rw [Ia b.1,←e]
 exact Ji h2 h1
theorem S3 {a A b B:Nat} (hA:0<A) (hB:0<B) (h:a*B≤b*A):(a / Nat.gcd a A)*(B / Nat.gcd b B)≤(b / Nat.gcd b B)*(A / Nat.gcd a A):=by
 have g1:0<Nat.gcd a A:=LY _ hA
 have g2:0<Nat.gcd b B:=LY _ hB
 have e1:Nat.gcd a A*(a / Nat.gcd a A)=a:=Kt (Nat.gcd_dvd_left _ _)
 have e2:Nat.gcd a A*(A / Nat.gcd a A)=A:=Kt (Nat.gcd_dvd_right _ _)
 have e3:Nat.gcd b B*(b / Nat.gcd b B)=b:=Kt (Nat.gcd_dvd_left _ _)
 have e4:Nat.gcd b B*(B / Nat.gcd b B)=B:=Kt (Nat.gcd_dvd_right _ _)
 generalize Nat.gcd a A=x at *
 generalize Nat.gcd b B=y at *
 generalize a / x=p at *
 generalize A / x=q at *
 generalize b / y=r at *
 generalize B / y=s at *
 subst e1 e2 e3 e4
 have:(x*y)*(p*s)≤(x*y)*(r*q):=by
  calc (x*y)*(p*s)=x*p*(y*s):=by simp only [Nat.mul_assoc,Nat.mul_left_comm]
   _≤y*r*(x*q):=h
   _=(x*y)*(r*q):=by simp only [Nat.mul_assoc,Nat.mul_left_comm]
 exact Nat.le_of_mul_le_mul_left this (Nat.mul_pos g1 g2)
theorem S4 {a b B:Nat} (hB:0<B) (h:a*B≤b):a*(B / Nat.gcd b B)≤b / Nat.gcd b B:=by
 have:=S3 (a:=a) (A:=1) (b:=b) (B:=B) (by decide) hB (by omega)
 simpa using this
theorem S5 {a b B:Nat} (hB:0<B) (h:a*B≤b):(a:Int)≤ES b B:=by
 unfold ES
 have:=(Nat.le_div_iff_mul_le (SX (T:=b) hB)).mpr (S4 hB h)
 have e:(((b / Nat.gcd b B:Nat):Int) / ((B / Nat.gcd b B:Nat):Int))=((b / Nat.gcd b B / (B / Nat.gcd b B):Nat):Int):=rfl
 rw [e]
 omega
end
abbrev Be:=Nat×Nat×Nat×Nat
def AO (x:Be):D:=.tup [.int ((x.1:Nat):Int),.int ((x.2.1:Nat):Int),.int ((x.2.2.1:Nat):Int),.int ((x.2.2.2:Nat):Int)]
def Ei (f:Nat→Nat→Bool) (x:Be):Bool:=Bool.xor (Bool.xor (f x.1 x.2.2.1) (f x.1 x.2.2.2)) (Bool.xor (f x.2.1 x.2.2.1) (f x.2.1 x.2.2.2))
def HY (H W:Nat) (x:Be):Prop:=x.1<x.2.1∧x.2.1<H∧x.2.2.1<x.2.2.2∧x.2.2.2<W
def AF (H W:Nat):List Be:=(List.range H).flatMap fun a=>(List.range (H - (a+1))).flatMap fun b=>(List.range W).flatMap fun c=>(List.range (W - (c+1))).map fun e=>(a,a+1+b,c,c+1+e)
theorem S6 {H W:Nat} {x:Be} (h:x∈AF H W):HY H W x:=by
 unfold AF at h
 simp only [List.mem_flatMap,qb0,qb4] at h
 obtain ⟨a,ha,b,hb,c,hc,e,he,rfl⟩:=h
 exact ⟨by simp only;omega,by simp only;omega,by simp only;omega,by simp only;omega⟩
def Zfw (n:Nat):Nat:=n*(n - 1) / 2
theorem OQ {H W:Nat} (hh:H≤8) (hw:W≤8):(AF H W).length≤1000:=by
 have key:∀H<9,∀W<9,(AF H W).length≤1000:=by decide +kernel
 exact key H (by omega) W (by omega)
theorem S7 {a n:Nat} {h:HD} (ha:a≤1000) (hn:n≤1000):IC [.int (a:Int),.int (n:Int)] h=.ok ((List.range (n - a)).map fun k=>D.int ((a+k:Nat):Int),[]) h:=SU ha hn
section
variable {H W:Nat} {h:HD} {f:Nat→Nat→Bool}
theorem Zcl {Q:D→HD→Prop} (hh:1≤H∧H≤8) (hw:1≤W∧W≤8) (q:∀l h',Sm h h'→h'[l]?=some (.lst ((AF H W).map AO))→Q (.loc l) h'):Wp (Fh [bD H W f] h) Q:=by
 change Wp (Ak 3 NO [bD H W f] h) _
 refine Eq.mpr AN ?_
 simp [Gw,LM hh.1,LJ]
 have hl:=OQ hh.2 hw.2
 have em:(List.range H).flatMap (fun a=>(List.range (H - (a+1))).flatMap fun b=>(List.range W).flatMap fun c=>(List.range (W - (c+1))).map fun e=>AO (a,a+1+b,c,c+1+e))=(AF H W).map AO:=by
  unfold AF
  simp only [List.map_flatMap,CC]
  rfl
 refine YT (src:=[]) (xs:=List.range H) (φ:=fun a=>.int ((a:Nat):Int)) (fun _=>true) (fun a=>(List.range (H - (a+1))).flatMap fun b=>(List.range W).flatMap fun c=>(List.range (W - (c+1))).map fun e=>AO (a,a+1+b,c,c+1+e)) (fun a=>[some (.int ((a:Nat):Int)),none,none,none,some (.int (H:Nat)),some (.int (W:Nat))]) ?_ (fun x _=>rfl) (fun x _ h' s'=>(.ok:Pu (.ok true h') h' true)) (fun a ha _ h1 acc s1 z1=>?_) ?_ fun l h' s' e'=>?_
 ·simp [BB,Gh (show H≤1000 by omega),Sm.refl,Bn]
 ·have ha:=qb4.mp ha
  have:=Nr (t:=Bc) (src:=[]) (xs:=List.range (H - (a+1))) (φ:=fun b=>.int ((a+1+b:Nat):Int)) (it:=FN (Ab (Ah Bf (Aa 0) (mC (.int 1))) (Ab (Aa 4) (Ae)))) (sg:=Bb 1) (e:=Eh (Dg (Ab (Aa 5) (Ae))) (Bb 2) (Bc) (Eh (FN (Ab (Ah Bf (Aa 2) (mC (.int 1))) (Ab (Aa 5) (Ae)))) (Bb 3) (Bc) (Fc (BM (Ab (Aa 0) (Ab (Aa 1) (Ab (Aa 2) (Ab (Aa 3) (Ae))))))))) (acc:=acc) (ρ:=[some (.int ((a:Nat):Int)),none,none,none,some (.int (H:Nat)),some (.int (W:Nat))]) (h:=h1)
   (fun _=>true) (fun b=>(List.range W).flatMap fun c=>(List.range (W - (c+1))).map fun e=>AO (a,a+1+b,c,c+1+e)) (fun b=>[some (.int ((a:Nat):Int)),some (.int ((a+1+b:Nat):Int)),none,none,some (.int (H:Nat)),some (.int (W:Nat))]) ?_ (fun x _=>rfl) (fun x _ h' s'=>(.ok:Pu (.ok true h') h' true)) (fun b hb _ h2 acc2 s2 z2=>?_) (by rw [Cg];exact z1)
  ·rwa [Cg] at this
  ·simp [BB]
   rw [show (a:Int)+1=((a+1:Nat):Int) by omega,S7 (by omega) (by omega)]
   simp [Sm.refl,Bn]
  ·have:=Nr (t:=Bc) (src:=[]) (xs:=List.range W) (φ:=fun c=>.int ((c:Nat):Int)) (it:=Dg (Ab (Aa 5) (Ae))) (sg:=Bb 2) (e:=Eh (FN (Ab (Ah Bf (Aa 2) (mC (.int 1))) (Ab (Aa 5) (Ae)))) (Bb 3) (Bc) (Fc (BM (Ab (Aa 0) (Ab (Aa 1) (Ab (Aa 2) (Ab (Aa 3) (Ae)))))))) (acc:=acc2) (ρ:=[some (.int ((a:Nat):Int)),some (.int ((a+1+b:Nat):Int)),none,none,some (.int (H:Nat)),some (.int (W:Nat))]) (h:=h2)
    (fun _=>true) (fun c=>(List.range (W - (c+1))).map fun e=>AO (a,a+1+b,c,c+1+e)) (fun c=>[some (.int ((a:Nat):Int)),some (.int ((a+1+b:Nat):Int)),some (.int ((c:Nat):Int)),none,some (.int (H:Nat)),some (.int (W:Nat))]) ?_ (fun x _=>rfl) (fun x _ h' s'=>(.ok:Pu (.ok true h') h' true)) (fun c hc _ h3 acc3 s3 z3=>?_) (by rw [Cg];exact z2)
   ·rwa [Cg] at this
   ·simp [BB,Gh (show W≤1000 by omega),Sm.refl,Bn]
   ·have hc:=qb4.mp hc
    refine YS (src:=[]) (xs:=List.range (W - (c+1))) (φ:=fun e=>.int ((c+1+e:Nat):Int)) _ (fun e=>[some (.int ((a:Nat):Int)),some (.int ((a+1+b:Nat):Int)),some (.int ((c:Nat):Int)),some (.int ((c+1+e:Nat):Int)),some (.int (H:Nat)),some (.int (W:Nat))]) ?_ (fun x _=>rfl) (fun e _ h4 s4=>?_) z3
    ·simp [BB]
     rw [show (c:Int)+1=((c+1:Nat):Int) by omega,S7 (by omega) (by omega)]
     simp [Sm.refl,Bn]
    ·simp [Pu,AO,Sm.refl]
 ·rw [Cg,em,D0]
  exact FB hl
 ·rw [Cg,em] at e'
  exact q l h' s' e'
theorem S8 {W:Nat} {r:Nat→Bool} {c:Nat} {h:HD} (hc:c<W):Ax (A5 W r) (.int (c:Nat)) h=.ok (lit (r c)) h:=IJ hc
theorem Zcm {a b c d:Bool}:(((if a then (1:Int) else 0)+(if b then 1 else 0)+(if c then 1 else 0)+(if d then 1 else 0)) % 2==1)=Bool.xor (Bool.xor a b) (Bool.xor c d):=by cases a<;>cases b<;>cases c<;>cases d<;>rfl
@[simp] theorem Zfx {ρ:Ai} {a b c d:D} {i j k l:Nat}:IY [i,j,k,l] (.tup [a,b,c,d]) ρ=some ((((ρ.set i (some a)).set j (some b)).set k (some c)).set l (some d)):=id rfl
theorem S9 {x:Be} (ok:HY H W x):Pu (Cu [bD H W f,AO x] h) h (.bl (Ei f x)):=by
 obtain ⟨a,b,c,e⟩:=x
 obtain ⟨h1,h2,h3,h4⟩:=ok
 simp only at h1 h2 h3 h4
 change Wp (Ak 6 NP [bD H W f,AO (a,b,c,e)] h) _
 refine Eq.mpr AN ?_
 unfold AO
 simp [Sa (show a<H by omega),Sa h2,S8 (show c<W by omega),S8 h4]
 refine A6 (show Bf (lit (f a c)) (lit (f a e)) h=.ok (.int ((if f a c then 1 else 0)+(if f a e then 1 else 0))) h from rfl) ?_
 rw [BU]
 refine A6 (show Bf (.int ((if f a c then 1 else 0)+(if f a e then 1 else 0))) (lit (f b c)) h=.ok (.int ((if f a c then 1 else 0)+(if f a e then 1 else 0)+(if f b c then 1 else 0))) h from rfl) ?_
 rw [BU]
 refine A6 (show Bf (.int ((if f a c then 1 else 0)+(if f a e then 1 else 0)+(if f b c then 1 else 0))) (lit (f b e)) h=.ok (.int ((if f a c then 1 else 0)+(if f a e then 1 else 0)+(if f b c then 1 else 0)+(if f b e then 1 else 0))) h from rfl) ?_
 rw [BU]
 refine A6 (IK (by decide)) ?_
 rw [BU]
 refine A6 Yj ?_
 rw [BU,Zcm]
 exact ⟨rfl,.refl _⟩
end
section
variable {H W:Nat} {h:HD} {f:Nat→Nat→Bool}
theorem Zcn {Q:D→HD→Prop} (hh:1≤H∧H≤8) (hw:1≤W∧W≤8) (q:∀l h',Sm h h'→h'[l]?=some (.lst (((AF H W).filter (Ei f)).map AO))→Q (.loc l) h'):Wp (Fy [bD H W f] h) Q:=by
 change Wp (Ak 1 (Of AI Fh Cu) [bD H W f] h) _
 refine Eq.mpr AN ?_
 simp
 refine (HW hh hw).wp fun h1 s1=>?_
 obtain ⟨d,h2,e2,l,rfl,s2,f2⟩:=(Zcl (f:=f) (h:=h1) (Q:=fun d h'=>∃l,d=.loc l∧Sm h1 h'∧h'[l]?=some (.lst ((AF H W).map AO))) hh hw fun l h' s e=>⟨l,rfl,s,e⟩).ex
 refine DM (src:=[(l,(AF H W).map AO)]) (xs:=AF H W) (φ:=AO) (Ei f) AO (fun x=>[some (AO x),some (bD H W f)]) ?_ (FB (OQ hh.2 hw.2)) (fun x _=>rfl) (fun x hx h' s'=>?_) (fun x hx _ h' s'=>?_) fun l3 h3 s3 e3=>?_
 ·simp
  refine A6 e2 ?_
  rw [BU,Gq f2]
  exact ⟨rfl,s2,fun h' s'=>DH (s' _ _ f2)⟩
 ·simp [Pu]
  refine (S9 (S6 hx)).wp fun h4 s4=>?_
  simp [s4]
 ·simp [Pu,Sm.refl]
 ·exact q l3 h3 (s1.trans s3) e3
def DU (a b c:Nat):Bool:=a==b||a==c
def cl (x y:Be):Bool:=(DU x.1 y.1 y.2.1||DU x.2.1 y.1 y.2.1)&&(DU x.2.2.1 y.2.2.1 y.2.2.2||DU x.2.2.2 y.2.2.1 y.2.2.2)
theorem OR {x y:Be}:cl x y=cl y x:=by
 have e:∀a b:Nat,(a==b)=(b==a):=fun a b=>by rw [qb1,beq_iff_eq,beq_iff_eq];exact eq_comm
 unfold cl DU
 rw [e y.1 x.1,e y.1 x.2.1,e y.2.1 x.1,e y.2.1 x.2.1,e y.2.2.1 x.2.2.1,e y.2.2.1 x.2.2.2,e y.2.2.2 x.2.2.1,e y.2.2.2 x.2.2.2]
 generalize (x.1==y.1)=p1
 generalize (x.1==y.2.1)=p2
 generalize (x.2.1==y.1)=p3
 generalize (x.2.1==y.2.1)=p4
 generalize (x.2.2.1==y.2.2.1)=p5
 generalize (x.2.2.1==y.2.2.2)=p6
 generalize (x.2.2.2==y.2.2.1)=p7
 generalize (x.2.2.2==y.2.2.2)=p8
 revert p1 p2 p3 p4 p5 p6 p7 p8
 decide
theorem Ta {a b c:Nat}:DF false (.int (a:Nat)) (.tup [.int (b:Nat),.int (c:Nat)]) h=.ok (.bl (DU a b c)) h:=by
 have:=QC (neg:=false) (k:=a) (ks:=[b,c]) (h:=h)
 have e:([b,c].contains a)=DU a b c:=by
  unfold DU
  rw [qb1]
  simp
 rw [e] at this
 exact this
theorem Tb {a b c d:D}:Ez (.tup [a,b,c,d]) none (some 2) h=.ok (.tup [a,b]) h:=by
 simp only [Ez]
 rfl
theorem Tc {a b c d:D}:Ez (.tup [a,b,c,d]) (some 2) none h=.ok (.tup [c,d]) h:=by
 simp only [Ez]
 rfl
theorem Zco {x y:Be}:Pu (Fi [AO x,AO y] h) h (.bl (cl x y)):=by
 change Wp (Ak 2 NQ [AO x,AO y] h) _
 refine Eq.mpr AN ?_
 have i0:∀h,Ax (AO x) (.int 0) h=.ok (.int ((x.1:Nat):Int)) h:=fun h=>rfl
 have i1:∀h,Ax (AO x) (.int 1) h=.ok (.int ((x.2.1:Nat):Int)) h:=fun h=>rfl
 have i2:∀h,Ax (AO x) (.int 2) h=.ok (.int ((x.2.2.1:Nat):Int)) h:=fun h=>rfl
 have i3:∀h,Ax (AO x) (.int 3) h=.ok (.int ((x.2.2.2:Nat):Int)) h:=fun h=>rfl
 have s2:∀h,Ez (AO y) none (some 2) h=.ok (.tup [.int ((y.1:Nat):Int),.int ((y.2.1:Nat):Int)]) h:=fun h=>Tb
 have s3:∀h,Ez (AO y) (some 2) none h=.ok (.tup [.int ((y.2.2.1:Nat):Int),.int ((y.2.2.2:Nat):Int)]) h:=fun h=>Tc
 obtain ⟨p1,e1⟩:∃b,DU x.1 y.1 y.2.1=b:=⟨_,rfl⟩
 obtain ⟨p2,e2⟩:∃b,DU x.2.1 y.1 y.2.1=b:=⟨_,rfl⟩
 obtain ⟨p3,e3⟩:∃b,DU x.2.2.1 y.2.2.1 y.2.2.2=b:=⟨_,rfl⟩
 obtain ⟨p4,e4⟩:∃b,DU x.2.2.2 y.2.2.1 y.2.2.2=b:=⟨_,rfl⟩
 unfold cl
 rw [e1,e2,e3,e4]
 simp [i0,s2,Ta,e1]
 cases p1<;>cases p2<;>cases p3<;>cases p4<;>simp [i0,i1,i2,i3,s2,s3,Ta,e1,e2,e3,e4,Sm.refl]
def Ej (x:Be) (ts:List Be):Bool:=!ts.any (cl x)
theorem Td {x:Be} {ts:List Be} {l:Nat} (hz:ts.length≤1000) (e:h[l]?=some (.lst (ts.map AO))):Pu (Cv [AO x,.loc l] h) h (.bl (Ej x ts)):=by
 change Wp (Ak 2 (NV Fi) [AO x,.loc l] h) _
 refine Eq.mpr AN ?_
 simp
 refine Pu.wp (XQ (src:=[(l,ts.map AO)]) (xs:=ts) (φ:=AO) (cl x) (fun y=>[some (AO y),some (AO x)]) ?_ (fun y _=>rfl) (fun y _ h' s'=>?_) (FB hz)) fun h2 s2=>?_
 ·simp [BB,Gq e]
  exact ⟨.refl _,fun h' s'=>DH (s' _ _ e)⟩
 ·simp [Pu]
  exact Zco
 ·simp [Ej]
  exact s2
def Ce (L:List Be):List Be:=L.foldl (fun t x=>if Ej x t then t++[x] else t) []
inductive FfI (H W:Nat) (f:Nat→Nat→Bool) (L:List Be) (l:Nat) (h:HD) (xs:List Be) (ρ:Ai) (h':HD):Prop where
 |mk (dn:List Be) (y:Option D) (ex:dn++xs=L) (er:ρ=[some (bD H W f),some (.loc l),y]) (s:Sm h h') (e:h'[l]?=some (.lst ((Ce dn).map AO))):FfI H W f L l h xs ρ h'
theorem Zcp {L:List Be} {x:Be}:Ce (L++[x])=if Ej x (Ce L) then Ce L++[x] else Ce L:=by
 unfold Ce
 rw [List.foldl_append]
 rfl
theorem Te:∀{L:List Be},(Ce L).length≤L.length:=by
 have key:∀(L t:List Be),(L.foldl (fun t x=>if Ej x t then t++[x] else t) t).length≤t.length+L.length:=fun L=>by
  induction L with
  |nil=>intro t;simp
  |cons x L ih=>
   intro t
   rw [Kw,Ie]
   refine B8 (ih _) ?_
   split
   ·simp;omega
   ·omega
 intro L
 have:=key L []
 unfold Ce
 simpa using this
end
theorem OT {f:Nat→Nat→Bool} {p q:Nat→Bool} {x:Be}:Ei (sw f p q) x=Ei f x:=by
 unfold Ei sw
 generalize f x.1 x.2.2.1=a1
 generalize f x.1 x.2.2.2=a2
 generalize f x.2.1 x.2.2.1=a3
 generalize f x.2.1 x.2.2.2=a4
 generalize p x.1=a5
 generalize p x.2.1=a6
 generalize q x.2.2.1=a7
 generalize q x.2.2.2=a8
 revert a1 a2 a3 a4 a5 a6 a7 a8
 decide
def Tf (g:Nat→Nat→Bool) (x:Be):Prop:=∃i j,(i=x.1∨i=x.2.1)∧(j=x.2.2.1∨j=x.2.2.2)∧g i j=true
theorem Zcq {g:Nat→Nat→Bool} {x:Be} (h:Ei g x=true):Tf g x:=by
 cases h1:g x.1 x.2.2.1 with
 |true=>exact ⟨_,_,.inl rfl,.inl rfl,h1⟩
 |false=>
  cases h2:g x.1 x.2.2.2 with
  |true=>exact ⟨_,_,.inl rfl,.inr rfl,h2⟩
  |false=>
   cases h3:g x.2.1 x.2.2.1 with
   |true=>exact ⟨_,_,.inr rfl,.inl rfl,h3⟩
   |false=>
    cases h4:g x.2.1 x.2.2.2 with
    |true=>exact ⟨_,_,.inr rfl,.inr rfl,h4⟩
    |false=>unfold Ei at h;rw [h1,h2,h3,h4] at h;cases h
theorem Tg {F G:Nat→Int} {i:Nat}:∀{n:Nat},i<n→G i=F i - 1→(∀a,a≠i→G a=F a)→((List.range n).map G).sum=((List.range n).map F).sum - 1
 |0,h,_,_=>by omega
 |n+1,h,h1,h2=>by
  rw [Dz,CV,CV,D3,D3]
  by_cases z:i=n
  ·subst z
   have:(List.range i).map G=(List.range i).map F:=CB fun a ha=>h2 a (by have:=qb4.mp ha;omega)
   rw [this]
   simp [h1]
   omega
  ·rw [Tg (n:=n) (by omega) h1 h2]
   simp [h2 n (by omega)]
   omega
theorem Th {H W:Nat}:∀(ts:List Be) (g:Nat→Nat→Bool),(∀x∈ts,HY H W x)→(∀x∈ts,Tf g x)→ts.Pairwise (fun x y=>cl x y=false)→(ts.length:Int)≤((List.range H).map fun i=>Bo W (g i)).sum
 |[],g,_,_,_=>by
  simp
  rw [←JU (xs:=List.range H)]
  exact Ln fun i _=>(Re (n:=W) (r:=g i)).1
 |x::ts,g,ok,lt,pw=>by
  obtain ⟨i,j,hi,hj,hg⟩:=lt x AW
  obtain ⟨o1,o2,o3,o4⟩:=ok x AW
  have iH:i<H:=by omega
  have jW:j<W:=by omega
  rw [List.pairwise_cons] at pw
  obtain ⟨p1,p2⟩:=pw
  have ih:=Th ts (fun a b=>if a=i∧b=j then false else g a b) (fun y hy=>ok y (A1 _ hy)) (fun y hy=>by
   obtain ⟨i',j',hi',hj',hg'⟩:=lt y (A1 _ hy)
   refine ⟨i',j',hi',hj',?_⟩
   have hne:¬(i'=i∧j'=j):=fun ⟨e1,e2⟩=>by
    subst e1 e2
    have hc:=p1 y hy
    have:cl x y=true:=by
     unfold cl DU
     rw [Ek]
     constructor
     ·rcases hi with z |z<;>rcases hi' with z' |z'<;>simp [←z,←z']
     ·rcases hj with z |z<;>rcases hj' with z' |z'<;>simp [←z,←z']
    rw [this] at hc
    cases hc
   show (if i'=i∧j'=j then false else g i' j')=true
   rw [if_neg hne]
   exact hg') p2
  have st:((List.range H).map fun a=>Bo W fun b=>if a=i∧b=j then false else g a b).sum=((List.range H).map fun a=>Bo W (g a)).sum - 1:=Tg iH (by
   have:=Sq (n:=W) (m:=j) (r:=g i) (r':=fun b=>if i=i∧b=j then false else g i b) jW (fun b hb=>by simp [hb]) (by simp [hg])
   rw [this]
   simp [hg]
   omega) (fun a ha=>GS fun b _=>by simp [ha])
  rw [st] at ih
  simp
  omega
theorem Zcr {H W:Nat} {f:Nat→Nat→Bool} {ts:List Be} (ok:∀x∈ts,HY H W x) (od:∀x∈ts,Ei f x=true) (pw:ts.Pairwise (fun x y=>cl x y=false)):(ts.length:Int)≤Bw H W f:=by
 obtain ⟨R,C,e⟩:=M8 (H:=H) (W:=W) f
 rw [←e,←M4]
 exact Th ts (fun i j=>Bool.xor (f i j) (Bool.xor (R i) (C j))) ok (fun x hx=>Zcq (by
  have:=OT (f:=f) (p:=R) (q:=C) (x:=x)
  rw [od x hx] at this
  exact this)) pw
theorem LP {L:List Be}:(∀x∈Ce L,x∈L)∧(Ce L).Pairwise (fun x y=>cl x y=false):=by
 have key:∀(L t:List Be),t.Pairwise (fun x y=>cl x y=false)→(∀x∈L.foldl (fun t x=>if Ej x t then t++[x] else t) t,x∈t∨x∈L)∧(L.foldl (fun t x=>if Ej x t then t++[x] else t) t).Pairwise (fun x y=>cl x y=false):=fun L=>by
  induction L with
  |nil=>intro t ht;exact ⟨fun x hx=>.inl hx,ht⟩
  |cons y L ih=>
   intro t ht
   rw [Kw]
   by_cases z:Ej y t=true
   ·rw [if_pos z]
    have hp:(t++[y]).Pairwise (fun x y=>cl x y=false):=by
     rw [List.pairwise_append]
     refine ⟨ht,List.pairwise_singleton _ _,fun a ha b hb=>?_⟩
     rw [qaE] at hb
     subst hb
     unfold Ej at z
     rw [Bool.not_eq_true',List.any_eq_false] at z
     have:=z a ha
     rw [OR]
     simpa using this
    obtain ⟨h1,h2⟩:=ih _ hp
    refine ⟨fun x hx=>?_,h2⟩
    rcases h1 x hx with z |z
    ·rcases qaV.mp z with z |z
     ·exact .inl z
     ·rw [qaE] at z;subst z;exact .inr AW
    ·exact .inr (A1 _ z)
   ·rw [if_neg z]
    obtain ⟨h1,h2⟩:=ih t ht
    refine ⟨fun x hx=>?_,h2⟩
    rcases h1 x hx with z |z
    ·exact .inl z
    ·exact .inr (A1 _ z)
 obtain ⟨h1,h2⟩:=key L [] List.Pairwise.nil
 refine ⟨fun x hx=>?_,h2⟩
 rcases h1 x hx with z |z
 ·cases z
 ·exact z
section
variable {H W:Nat} {h:HD} {f:Nat→Nat→Bool}
inductive Ti (H W:Nat) (f:Nat→Nat→Bool) (L:List Be) (l lo:Nat) (h:HD) (xs:List Be) (ρ:Ai) (h':HD):Prop where
 |mk (dn:List Be) (y:Option D) (ex:dn++xs=L) (er:ρ=[some (bD H W f),some (.loc l),y]) (s:Sm h h') (e:h'[l]?=some (.lst ((Ce dn).map AO))) (eo:h'[lo]?=some (.lst (L.map AO))):Ti H W f L l lo h xs ρ h'
def Cf (H W:Nat) (f:Nat→Nat→Bool):List Be:=(AF H W).filter (Ei f)
theorem Tj (hh:H≤8) (hw:W≤8):(Cf H W f).length≤1000:=B8 (Jc _ _) (OQ hh hw)
theorem Tn {Q:D→HD→Prop} (hh:1≤H∧H≤8) (hw:1≤W∧W≤8) (q:∀l h',Sm h h'→h'[l]?=some (.lst ((Ce (Cf H W f)).map AO))→Q (.loc l) h'):Wp (DQ [bD H W f] h) Q:=by
 change Wp (Ak 3 (Ol Fy Cv) [bD H W f] h) _
 refine Eq.mpr AN ?_
 simp [-Aq]
 refine B7 (by simp) fun l h1 s1 e1 el _=>?_
 refine Eq.mpr Aq ?_
 refine Eq.mpr BG ?_
 obtain ⟨d,h2,e2,lo,rfl,s2,f2⟩:=(Zcn (f:=f) (h:=h1) (Q:=fun d h'=>∃l,d=.loc l∧Sm h1 h'∧h'[l]?=some (.lst ((Cf H W f).map AO))) hh hw fun l h' s e=>⟨l,rfl,s,e⟩).ex
 have hlen:=Tj (f:=f) hh.2 hw.2
 have nlo:l≠lo∨Cf H W f=[]:=by
  by_cases z:l=lo
  ·subst z
   have:=s2 _ _ e1
   rw [f2] at this
   have:=Option.some.inj this
   have:=Cell.lst.inj this
   exact .inr (List.map_eq_nil_iff.mp this)
  ·exact .inl z
 refine DN (src:=[(lo,(Cf H W f).map AO)]) (xs:=Cf H W f) AO (Ti H W f (Cf H W f) l lo h) ?_ (fun ys ρ h' i=>by obtain ⟨_,_,_,_,_,_,eo⟩:=i;exact DH eo) ?_ ?_
 ·simp
  refine A6 e2 ?_
  rw [BU,Gq f2]
  exact ⟨rfl,⟨[],_,rfl,rfl,s1.trans s2,s2 _ _ e1,f2⟩⟩
 ·rintro x xs ρ h3 ⟨dn,y,ex,rfl,s3,e3,eo⟩
  refine ⟨_,rfl,?_⟩
  have hd:(Ce dn).length≤1000:=by
   have h1:=Te (L:=dn)
   have h2:=congrArg List.length ex
   simp at h2
   omega
  have hne:l≠lo:=by
   rcases nlo with z |z
   ·exact z
   ·rw [z] at ex;simp at ex
  simp
  refine (Td hd e3).wp fun h4 s4=>?_
  have gs:=Zcp (L:=dn) (x:=x)
  cases z:Ej x (Ce dn) with
  |true=>
   rw [z] at gs
   have e4:=s4 _ _ e3
   simp [La e4]
   refine A6 (Lb e4 (by simp;unfold sizeLine;omega)) ?_
   rw [BU]
   have hl4:l<h4.length:=(qa5.mp e4).1
   refine ⟨dn++[x],_,by simpa using ex,rfl,LS.Sm.put (s3.trans s4) (by omega),?_,?_⟩
   ·rw [DX hl4,gs]
    simp
   ·rw [CU hne]
    exact s4 _ _ eo
  |false=>
   rw [z] at gs
   simp [Ci]
   exact ⟨dn++[x],_,by simpa using ex,rfl,s3.trans s4,by rw [gs];simpa using s4 _ _ e3,s4 _ _ eo⟩
 ·rintro ρ h3 ⟨dn,y,ex,rfl,s3,e3,eo⟩
  rw [Jf] at ex
  subst ex
  simp
  exact q _ _ s3 e3
theorem To {n:Nat} {i j:Int}:EN n (.tup [.int i,.int j])=(decide (-1<i∧i<(n:Int))&&decide (i<j∧j<(n:Int))):=by
 unfold EN Dx Dx Dx
 simp
theorem Zcs {x:Be} (hh:1≤H) (ok:HY H W x):Pu (Fs [bD H W f,AO x] h) h (.bl true):=by
 obtain ⟨o1,o2,o3,o4⟩:=ok
 change Wp (Ak 2 (N2 Bt) [bD H W f,AO x] h) _
 refine Eq.mpr AN ?_
 have i0:∀h,CS (AO x) (.ty "tuple") h=.ok (.bl true) h:=fun h=>rfl
 have l0:∀h,A9 (AO x) h=.ok (.int 4) h:=fun h=>rfl
 have s2:∀h,Ez (AO x) none (some 2) h=.ok (.tup [.int ((x.1:Nat):Int),.int ((x.2.1:Nat):Int)]) h:=fun h=>Tb
 have s3:∀h,Ez (AO x) (some 2) none h=.ok (.tup [.int ((x.2.2.1:Nat):Int),.int ((x.2.2.2:Nat):Int)]) h:=fun h=>Tc
 simp [i0,l0,s2,Gw,LM hh,LJ]
 refine (Oz (d:=.tup [.int ((x.1:Nat):Int),.int ((x.2.1:Nat):Int)]) ⟨trivial,all_cons trivial (all_cons trivial Ox)⟩).wp fun h1 s1=>?_
 have b1:EN H (.tup [.int ((x.1:Nat):Int),.int ((x.2.1:Nat):Int)])=true:=by
  rw [To]
  simp
  omega
 rw [b1]
 simp [s3,Gw,LM hh,LJ]
 refine (Oz (d:=.tup [.int ((x.2.2.1:Nat):Int),.int ((x.2.2.2:Nat):Int)]) ⟨trivial,all_cons trivial (all_cons trivial Ox)⟩).wp fun h2 s2=>?_
 have b2:EN W (.tup [.int ((x.2.2.1:Nat):Int),.int ((x.2.2.2:Nat):Int)])=true:=by
  rw [To]
  simp
  omega
 rw [b2]
 exact ⟨rfl,s1.trans s2⟩
inductive Tq (H W:Nat) (f:Nat→Nat→Bool) (ts:List Be) (l lt:Nat) (h:HD) (xs:List Be) (ρ:Ai) (h':HD):Prop where
 |mk (dn:List Be) (y:Option D) (ex:dn++xs=ts) (er:ρ=[some (bD H W f),some (.loc lt),some (.loc l),y]) (s:Sm h h') (e:h'[l]?=some (.lst (dn.map AO))):Tq H W f ts l lt h xs ρ h'
theorem Tr {ts:List Be} {lt:Nat} (hh:1≤H∧H≤8) (hw:1≤W∧W≤8) (hz:ts.length≤1000) (et:h[lt]?=some (.lst (ts.map AO))) (ok:∀x∈ts,HY H W x) (od:∀x∈ts,Ei f x=true) (pw:ts.Pairwise (fun x y=>cl x y=false)):Pu (DP [bD H W f,.loc lt] h) h (.int (ts.length:Nat)):=by
 change Wp (Ak 4 (Og AI Fs Cu Cv) [bD H W f,.loc lt] h) _
 refine Eq.mpr AN ?_
 simp [-Aq]
 refine (HW hh hw).wp fun h1 s1=>?_
 refine Eq.mpr Aq ?_
 have i0:CI (.loc lt) (.ty "list") h1=.ok (.bl true) h1:=by
  show BA (.loc lt) (.ty "list") h1=_
  simp only [BA,Ec,s1 _ _ et]
  rfl
 simp [-Aq,-Rr,i0]
 refine Eq.mpr Aq ?_
 simp [-Aq]
 refine B7 (by simp) fun l h2 s2 e2 el _=>?_
 refine Eq.mpr Aq ?_
 refine Eq.mpr BG ?_
 have et2:=s2 _ _ (s1 _ _ et)
 refine DN (src:=[(lt,ts.map AO)]) (xs:=ts) AO (Tq H W f ts l lt h) ?_ (fun ys ρ h' i=>by obtain ⟨_,_,_,_,s,_⟩:=i;exact DH (s _ _ et)) ?_ ?_
 ·simp
  refine A6 (Gq et2) ?_
  exact ⟨rfl,⟨[],_,rfl,rfl,s1.trans s2,e2⟩⟩
 ·rintro x xs ρ h3 ⟨dn,y,ex,rfl,s3,e3⟩
  refine ⟨_,rfl,?_⟩
  have hx:x∈ts:=by rw [←ex];simp
  have hd:dn.length≤1000:=by
   have h2:=congrArg List.length ex
   simp at h2
   omega
  have ha:Ej x dn=true:=by
   rw [←ex,List.pairwise_append] at pw
   unfold Ej
   rw [Bool.not_eq_true',List.any_eq_false]
   intro a ha
   have:=pw.2.2 a ha x AW
   rw [OR,this]
   simp
  simp [-Aq]
  refine (Zcs hh.1 (ok x hx)).wp fun h4 s4=>?_
  simp [-Aq]
  refine (S9 (ok x hx)).wp fun h5 s5=>?_
  simp [-Aq,od x hx]
  refine (Td hd (s5 _ _ (s4 _ _ e3))).wp fun h6 s6=>?_
  simp [-Aq,ha]
  refine Eq.mpr Aq ?_
  have e6:=s6 _ _ (s5 _ _ (s4 _ _ e3))
  simp [La e6]
  refine A6 (Lb e6 (by simp;unfold sizeLine;omega)) ?_
  rw [BU]
  have hl6:l<h6.length:=(qa5.mp e6).1
  have hl0:h.length≤l:=by have:=s1.len;omega
  refine ⟨dn++[x],_,by simpa using ex,rfl,LS.Sm.put (((s3.trans s4).trans s5).trans s6) hl0,?_⟩
  rw [DX hl6]
  simp
 ·rintro ρ h3 ⟨dn,y,ex,rfl,s3,e3⟩
  rw [Jf] at ex
  subst ex
  simp
  refine A6 (Lm e3) ?_
  rw [BU]
  exact ⟨by simp,s3⟩
end
@[irreducible] noncomputable def LQ:ME:=Ah Ea (Ah Bx (Aa 6) (Ah Ax (Aa 7) (mC (.int 1)))) (Ah Ax (Aa 7) (mC (.int 0)))
@[irreducible] noncomputable def LR:ME:=Ah Ea (Ah Bx (Ah Ax (Aa 11) (mC (.int 0))) (Ah Ax (Aa 8) (mC (.int 1)))) (Ah Bx (Ah Ax (Aa 8) (mC (.int 0))) (Ah Ax (Aa 11) (mC (.int 1))))
@[irreducible] noncomputable def J8:MS:=AH 2 (Ag EE (Ab (Aa 0) (Ab (Aa 1) (Ae))))
@[irreducible] noncomputable def J9:MS:=Ep 3 4 (Ab (Ah Bf (mC (.int 1)) (Ag Bh (Ab (Aa 2) (Ab (mC (.int 8)) (Ae))))) (Ab (Ah Bf (mC (.int 1)) (Ag Bh (Ab (Aa 2) (Ab (mC (.int 8)) (Ae))))) (Ae)))
@[irreducible] noncomputable def Ka:MS:=AH 5 (Ag EG (Ab (Aa 2) (Ab (Aa 3) (Ab (Aa 4) (Ae)))))
@[irreducible] noncomputable def Kb:MS:=Ep 6 7 (Ab (Ag EJ (Ab (Aa 5) (Ae))) (Ab (Ag Cd (Ab (Aa 3) (Ab (Aa 4) (Ae)))) (Ae)))
@[irreducible] noncomputable def Kc:MS:=Bp (B3 (A7 (Ah Ea (Aa 6) (Ag EH (Ab (Aa 3) (Ab (Aa 4) (Ae)))))) (A7 LQ)) (Av (mC (.bl false))) (Bs)
@[irreducible] noncomputable def Kd:MS:=AH 8 (Aa 7)
@[irreducible] noncomputable def Ke:MS:=AH 9 (Ag Co (Ab (Aa 5) (Ae)))
@[irreducible] noncomputable def Kf:MS:=Cq (By (Aa 9)) (BQ 10 11) (Aj (Bp (A7 LR) (Av (mC (.bl false))) (Bs)) (AH 8 (Aa 11)))
@[irreducible] noncomputable def Kg:MS:=Gd (BQ 12 13) (Ag EL (Ab (Aa 5) (Ae)))
@[irreducible] noncomputable def Kh:MS:=AH 14 (Ag EI (Ab (Ag DR (Ab (Aa 5) (Ab (BM (Ab (Aa 12) (Ab (Aa 13) (Ae)))) (Ae)))) (Ae)))
@[irreducible] noncomputable def Ki:MS:=Bp (B3 (A7 (Ah BZ (Aa 8) (BM (Ab (Aa 14) (Ab (mC (.int 1)) (Ae)))))) (B3 (A7 (Ah BZ (Ag EK (Ab (Aa 5) (Ab (Aa 12) (Ae)))) (Aa 14))) (A7 (Ah Ga (Aa 14) (Aa 6))))) (Av (mC (.bl false))) (Bs)
@[irreducible] noncomputable def Kj:MS:=Bp (A7 (Ah BZ (A3 [none,none] (Ed (Ab (Aa 9) (Ae))) (BQ 0 1) (A7 (Ah CQ (Ah Ax (Aa 1) (mC (.int 0))) (mC (.int 1)))) (Aa 0)) (Ag (Am JW) (Ab (Aa 12) (Ae))))) (Av (mC (.bl false))) (Bs)
@[irreducible] noncomputable def Kk:MS:=AH 15 (Ag DQ (Ab (Aa 5) (Ae)))
@[irreducible] noncomputable def Kl:MS:=AH 16 (Ag DR (Ab (Aa 5) (Ab (BM (Ab (Ag DO (Ab (Aa 2) (Ab (Aa 3) (Ae)))) (Ab (Ag DO (Ab (Aa 2) (Ab (Aa 4) (Ae)))) (Ae)))) (Ae))))
@[irreducible] noncomputable def Km:MS:=Bp (B3 (A7 (Ah BZ (Ag DP (Ab (Aa 5) (Ab (Aa 15) (Ae)))) (Ag (Am A9) (Ab (Aa 15) (Ae))))) (A7 (Ah Ea (Ag (Am A9) (Ab (Aa 15) (Ae))) (Aa 6)))) (Av (mC (.bl false))) (Bs)
@[irreducible] noncomputable def Kn:MS:=Bp (B3 (A7 (Ah BZ (Ag DP (Ab (Aa 16) (Ab (J0 (Aa 15)) (Ae)))) (Ag (Am A9) (Ab (Aa 15) (Ae))))) (A7 (Ah BZ (Ag DQ (Ab (Aa 16) (Ae))) (Aa 15)))) (Av (mC (.bl false))) (Bs)
theorem LU {T B:Nat}:Dm T B=.tup [.int ((T / Nat.gcd T B:Nat):Int),.int ((B / Nat.gcd T B:Nat):Int)]:=by unfold Dm;rfl
theorem Zct {x:Nat}:Dm x 1=.tup [.int (x:Nat),.int 1]:=by rw [LU];simp
theorem Ts {a g:Nat} (h:a<100000):0≤((a / g:Nat):Int)∧((a / g:Nat):Int)<100000:=⟨Int.natCast_nonneg _,by have:=Nat.div_le_self a g;generalize a / g=z at *;omega⟩
theorem Tt {b:Nat} {m:Int} {h:HD} {Q:D→HD→Prop} (hx:BoxAt h b) (h1:0<m) (h2:m≤1000) (q:∀(d:Nat) h',(d:Int)<m→BoxAt h' b→Smx b h h'→Q (.int (d:Nat)) h'):Wp (Bh [.loc b,.int m] h) Q:=
 J3 hx h1 (by omega) fun d h' d0 d1 x s=>by
  obtain ⟨k,rfl⟩:∃k:Nat,d=(k:Int):=⟨d.toNat,by omega⟩
  exact q k h' d1 x s
theorem Zcu {ρ:Ai} {h:HD} {v t d:Int} {Q:D→HD→Prop} (e6:Aa 6 ρ h=.ok (.int v) h) (e7:Aa 7 ρ h=.ok (.tup [.int t,.int d]) h) (hv:0≤v∧v<100000) (hle:v*d≤t) (q:Q (.bl false) h):Wp (LQ ρ h) Q:=by
 unfold LQ
 simp [e6,e7]
 rw [Gi (by omega) (by omega)]
 simp [e7]
 rw [show decide (t<v*d)=false from decide_eq_false (by omega)]
 exact q
theorem Zcv {ρ:Ai} {h:HD} {a b c d:Int} {Q:D→HD→Prop} (e11:Aa 11 ρ h=.ok (.tup [.int a,.int b]) h) (e8:Aa 8 ρ h=.ok (.tup [.int c,.int d]) h) (ha:0≤a∧a<100000) (hc:0≤c∧c<100000) (hle:a*d≤c*b) (q:Q (.bl false) h):Wp (LR ρ h) Q:=by
 unfold LR
 simp [e11,e8]
 rw [Gi (by omega) (by omega)]
 simp [e11,e8]
 rw [Gi (by omega) (by omega)]
 simp
 rw [show decide (c*b<a*d)=false from decide_eq_false (by omega)]
 exact q
theorem Zcw {l k:Nat} {ds:List D} {ps:List PyData} {h:HD} (e1:h[l]?=some (.lst ds)) (e2:h[k]?=some (.lst ds)) (hp:Bd (ds.map (A0 h 7))=some ps) (hs:SeqAt.shaped (.list ps)=true):BZ (.loc l) (.loc k) h=.ok (.bl false) h:=by
 have a:∀j,h[j]?=some (.lst ds)→A0 h 8 (.loc j)=some (.list ps):=fun j e=>by
  simp only [A0,e,hp,Ii]
 change Ds (.loc l) (.loc k) h=_
 simp only [Ds,Gb,a l e1,a k e2]
 rw [if_pos ⟨hs,hs⟩,SeqAt.eqv_refl _ (SeqAt.canLay_of_shaped hs)]
 rfl
theorem Tu {α:Type} {l k n:Nat} {xs:List α} {e:α→D} {g:α→PyData} {h:HD} (e1:h[l]?=some (.lst (xs.map e))) (e2:h[k]?=some (.lst (xs.map e))) (hn:n≤6) (hx:∀x∈xs,PyN n (e x) (g x)):BZ (.loc l) (.loc k) h=.ok (.bl false) h:=by
 refine Zcw (ps:=xs.map g) e1 e2 ?_ ?_
 ·rw [CC]
  exact FS fun x hx'=>K9 ((hx x hx').rd 7 (by omega))
 ·unfold SeqAt.shaped
  have l0:(PyData.list (xs.map g)).canLay0=true:=by
   rw [PyData.canLay0];exact MP fun x h=>(hx x h).ly
  have d0:(PyData.list (xs.map g)).depth≤n+1:=by
   rw [PyData.depth]
   exact Nat.succ_le_succ (MQ fun x h=>(hx x h).dp)
  rw [l0]
  simp
  omega
theorem Zcx {x:Be}:PyN 1 (AO x) (.tuple [.int ((x.1:Nat):Int),.int ((x.2.1:Nat):Int),.int ((x.2.2.1:Nat):Int),.int ((x.2.2.2:Nat):Int)]):=
 QJ (n:=0) (xs:=[((x.1:Nat):Int),((x.2.1:Nat):Int),((x.2.2.1:Nat):Int),((x.2.2.2:Nat):Int)]) (e:=D.int) (g:=PyData.int) fun _ _=>Ld
theorem Zcy {fe:ME} {ρ:Ai} {h:HD} {Q:D→HD→Prop}:Wp (J0 fe ρ h) Q=Wp (fe ρ h) fun x h1=>Wp (LD x h1) Q:=by unfold J0;rw [AG]
def A2 (ns:List Int) (k b H W:Nat) (c5 c6 c7 c8 c9 c10 c11 c12 c13 c14 c15 c16:Option D):Ai:=[some (.scr ns),some (.int (k:Nat)),some (.loc b),some (.int (H:Nat)),some (.int (W:Nat)),c5,c6,c7,c8,c9,c10,c11,c12,c13,c14,c15,c16]
section
variable {ns:List Int} {k b H W:Nat} {h:HD} {f:Nat→Nat→Bool} {c2 c3 c4 c5 c6 c7 c8 c9 c10 c11 c12 c13 c14 c15 c16:Option D} {Q:Fl×Ai→HD→Prop}
theorem st0 (hb:∀i∈ns,Builtin.Int.intBits i≤2^20) (hk:k≤1000) (q:∀b h',BoxAt h' b→Q (.nx,[some (.scr ns),some (.int (k:Nat)),some (.loc b),c3,c4,c5,c6,c7,c8,c9,c10,c11,c12,c13,c14,c15,c16]) h'):Wp (J8 [some (.scr ns),some (.int (k:Nat)),c2,c3,c4,c5,c6,c7,c8,c9,c10,c11,c12,c13,c14,c15,c16] h) Q:=by
 unfold J8
 simp
 exact Zbv hb hk fun b h1 x1 lb s1=>q b h1 x1
theorem OU (bx:BoxAt h b) (q:∀H W h',(1≤H∧H≤8)→(1≤W∧W≤8)→BoxAt h' b→Q (.nx,A2 ns k b H W c5 c6 c7 c8 c9 c10 c11 c12 c13 c14 c15 c16) h'):Wp (J9 [some (.scr ns),some (.int (k:Nat)),some (.loc b),c3,c4,c5,c6,c7,c8,c9,c10,c11,c12,c13,c14,c15,c16] h) Q:=by
 unfold J9
 simp
 refine Tt bx (by decide) (by decide) fun d h1 l1 x1 s1=>?_
 simp
 refine Tt x1 (by decide) (by decide) fun d2 h2 l2 x2 s2=>?_
 simp
 have:=q (1+d) (1+d2) h2 (by omega) (by omega) x2
 unfold A2 at this
 rwa [show ((1+d:Nat):Int)=1+(d:Int) by omega,show ((1+d2:Nat):Int)=1+(d2:Int) by omega] at this
theorem Do (hh:1≤H∧H≤8) (hw:1≤W∧W≤8) (bx:BoxAt h b) (q:∀f h',BoxAt h' b→Q (.nx,A2 ns k b H W (some (bD H W f)) c6 c7 c8 c9 c10 c11 c12 c13 c14 c15 c16) h'):Wp (Ka (A2 ns k b H W c5 c6 c7 c8 c9 c10 c11 c12 c13 c14 c15 c16) h) Q:=by
 unfold Ka
 simp [A2]
 exact ZbK bx hh hw fun f h1 x1 s1=>q f h1 x1
theorem LV (hh:1≤H∧H≤8) (hw:1≤W∧W≤8) (q:∀h',Sm h h'→Q (.nx,A2 ns k b H W (some (bD H W f)) (some (.int (Bw H W f))) (some (Dm (MT H W) (2^H))) c8 c9 c10 c11 c12 c13 c14 c15 c16) h'):Wp (Kb (A2 ns k b H W (some (bD H W f)) c6 c7 c8 c9 c10 c11 c12 c13 c14 c15 c16) h) Q:=by
 unfold Kb
 simp [A2]
 refine (Zce hh hw).wp fun h1 s1=>?_
 refine (ON hh hw).wp fun h2 s2=>?_
 exact q h2 (s1.trans s2)
theorem Tv:0≤Bw H W f:=by
 obtain ⟨R,_,e⟩:=Rj (H:=H) (W:=W) (f:=f)
 rw [←e]
 unfold Ef
 rw [←JU (xs:=List.range W)]
 refine Ln fun j _=>?_
 have:=Re (n:=H) (r:=fun i=>Bool.xor (f i j) (R i))
 have e2:cc H f R j=Bo H (fun i=>Bool.xor (f i j) (R i)):=rfl
 rw [e2]
 split<;>omega
theorem Tw (hh:1≤H∧H≤8) (hw:1≤W∧W≤8):(Bw H W f).toNat*2^H≤MT H W:=by
 have h1:=Zck (f:=f) hh hw.2
 have h2:=Tv (H:=H) (W:=W) (f:=f)
 have e:(((Bw H W f).toNat*2^H:Nat):Int)=Bw H W f*2^H:=by
  rw [Ky,Ia h2,Int.natCast_pow]
  rfl
 omega
theorem Zcz (hh:1≤H∧H≤8) (hw:1≤W∧W≤8):Bw H W f<100000:=by
 have h1:=OP (f:=f) (W:=W) hh.1
 have h2:=LO (f:=f) hh.2 hw.2 (AV H)
 omega
theorem LW (hh:1≤H∧H≤8) (hw:1≤W∧W≤8) (q:∀h',Sm h h'→Q (.nx,A2 ns k b H W c5 (some (.int (Bw H W f))) (some (Dm (MT H W) (2^H))) c8 c9 c10 c11 c12 c13 c14 c15 c16) h'):Wp (Kc (A2 ns k b H W c5 (some (.int (Bw H W f))) (some (Dm (MT H W) (2^H))) c8 c9 c10 c11 c12 c13 c14 c15 c16) h) Q:=by
 unfold Kc
 have n0:=Tv (H:=H) (W:=W) (f:=f)
 have p1:0<2^H:=GB (by decide)
 have p2:0<2^W:=GB (by decide)
 have b1:=Tw (f:=f) hh hw
 have b2:=Tw (f:=fun i j=>f j i) hw hh
 rw [XX hh.1 hw.1] at b2
 have q1:=S5 p1 b1
 have q2:=S5 p2 b2
 rw [Ia n0] at q1 q2
 have hb:Bw H W f≤min (ES (MT H W) (2^H)) (ES (MT W H) (2^W)):=Int.le_min.mpr ⟨q1,q2⟩
 have t1:=S4 p1 b1
 simp [A2]
 refine (Zcj hh hw).wp fun h1 s1=>?_
 have hd:decide (min (ES (MT H W) (2^H)) (ES (MT W H) (2^W))<Bw H W f)=false:=decide_eq_false (by omega)
 simp [hd]
 refine Zcu (v:=Bw H W f) (t:=((MT H W / Nat.gcd (MT H W) (2^H):Nat):Int)) (d:=((2^H / Nat.gcd (MT H W) (2^H):Nat):Int)) rfl (by rw [←LU];rfl) ⟨n0,Zcz hh hw⟩ ?_ ?_
 ·have e:((((Bw H W f).toNat*(2^H / Nat.gcd (MT H W) (2^H)):Nat)):Int)=Bw H W f*((2^H / Nat.gcd (MT H W) (2^H):Nat):Int):=by
   rw [Ky,Ia n0]
  omega
 ·simp
  exact q h1 s1
theorem EU {x7:D} (q:Q (.nx,A2 ns k b H W c5 c6 (some x7) (some x7) c9 c10 c11 c12 c13 c14 c15 c16) h):Wp (Kd (A2 ns k b H W c5 c6 (some x7) c8 c9 c10 c11 c12 c13 c14 c15 c16) h) Q:=by
 unfold Kd
 simp [A2]
 exact q
theorem st6 (hh:1≤H∧H≤8) (hw:1≤W∧W≤8) (q:∀l h',Sm h h'→h'[l]?=some (.lst ((List.range H).map (DT f W H)))→Q (.nx,A2 ns k b H W (some (bD H W f)) c6 c7 c8 (some (.loc l)) c10 c11 c12 c13 c14 c15 c16) h'):Wp (Ke (A2 ns k b H W (some (bD H W f)) c6 c7 c8 c9 c10 c11 c12 c13 c14 c15 c16) h) Q:=by
 unfold Ke
 simp [A2]
 exact SM hh hw fun l h1 s1 _ e1=>q l h1 s1 e1
def ms (f:Nat→Nat→Bool) (H W i:Nat):D:=Dm (MM f H W i).toNat (2^(H - i))
def L7 (ns:List Int) (k b H W l:Nat) (f:Nat→Nat→Bool) (c5 c6 c7 c12 c13 c14 c15 c16:Option D) (h:HD) (xs:List Nat) (ρ:Ai) (h':HD):Prop:=∃(i:Nat) (c10 c11:Option D),xs=(List.range H).drop i∧i≤H∧ρ=A2 ns k b H W c5 c6 c7 (some (ms f H W i)) (some (.loc l)) c10 c11 c12 c13 c14 c15 c16∧Sm h h'
theorem FY {l:Nat} (hh:1≤H∧H≤8) (hw:1≤W∧W≤8) (e:h[l]?=some (.lst ((List.range H).map (DT f W H)))) (q:∀c10 c11 h',Sm h h'→Q (.nx,A2 ns k b H W c5 c6 c7 (some (ms f H W H)) (some (.loc l)) c10 c11 c12 c13 c14 c15 c16) h'):Wp (Kf (A2 ns k b H W c5 c6 c7 (some (ms f H W 0)) (some (.loc l)) c10 c11 c12 c13 c14 c15 c16) h) Q:=by
 unfold Kf
 refine DN (src:=[(l,(List.range H).map (DT f W H))]) (xs:=List.range H) (DT f W H) (L7 ns k b H W l f c5 c6 c7 c12 c13 c14 c15 c16 h) ?_ (fun ys ρ h' i=>by obtain ⟨_,_,_,_,_,_,s⟩:=i;exact DH (s _ _ e)) ?_ ?_
 ·simp [A2]
  refine A6 (Gq e) ?_
  exact ⟨rfl,0,_,_,by simp,by omega,rfl,.refl _⟩
 ·rintro x xs ρ h1 ⟨i,d10,d11,ex,hi,rfl,s1⟩
  obtain ⟨rfl,hk',rfl⟩:=J6 ex.symm
  refine ⟨_,rfl,?_⟩
  have st:=SY (f:=f) (W:=W) hk'
  have m0:=LO (f:=f) (W:=W) hh.2 hw.2 (show x≤H by omega)
  have m1:=LO (f:=f) (W:=W) hh.2 hw.2 (show x+1≤H by omega)
  have eM:AS W H (H - x - 1) (cR f W H (x+1))=MM f H W (x+1):=by unfold MM;rw [show H - x - 1=H - (x+1) by omega]
  have eP:H - x - 1=H - (x+1):=by omega
  have pA:0<2^(H - (x+1)):=GB (by decide)
  have pB:0<2^(H - x):=GB (by decide)
  have hp:2^(H - x)=2*2^(H - (x+1)):=by rw [show H - x=(H - (x+1))+1 by omega,Nat.pow_succ];omega
  have key:=S3 (a:=(MM f H W (x+1)).toNat) (A:=2^(H - (x+1))) (b:=(MM f H W x).toNat) (B:=2^(H - x)) pA pB (by
   rw [hp,←Nat.mul_assoc]
   exact Nat.mul_le_mul_right _ (by omega))
  rw [eM,eP]
  refine Eq.mpr BG ?_
  refine Eq.mpr WI ?_
  refine Eq.mpr Qv ?_
  refine Zcv (a:=(((MM f H W (x+1)).toNat / Nat.gcd (MM f H W (x+1)).toNat (2^(H - (x+1))):Nat):Int)) (b:=((2^(H - (x+1)) / Nat.gcd (MM f H W (x+1)).toNat (2^(H - (x+1))):Nat):Int)) (c:=(((MM f H W x).toNat / Nat.gcd (MM f H W x).toNat (2^(H - x)):Nat):Int)) (d:=((2^(H - x) / Nat.gcd (MM f H W x).toNat (2^(H - x)):Nat):Int)) (by rw [←LU];rfl) (by rw [←LU];rfl) ?_ ?_ ?_ ?_
  ·exact Ts (by omega)
  ·exact Ts (by omega)
  ·rw [←Ky,←Ky]
   exact Int.ofNat_le.mpr key
  ·simp [Ci,A2]
   exact ⟨x+1,_,_,rfl,by omega,rfl,s1⟩
 ·rintro ρ h1 ⟨i,d10,d11,ex,hi,rfl,s1⟩
  have:i=H:=J7 hi ex.symm
  subst this
  exact q _ _ h1 s1
theorem st8 (hh:1≤H∧H≤8) (hw:1≤W∧W≤8) (q:∀h',Sm h h'→Q (.nx,A2 ns k b H W (some (bD H W f)) c6 c7 c8 c9 c10 c11 (some (AK H (tR f W H))) (some (AK W (Dw H (cc H f (tR f W H))))) c14 c15 c16) h'):Wp (Kg (A2 ns k b H W (some (bD H W f)) c6 c7 c8 c9 c10 c11 c12 c13 c14 c15 c16) h) Q:=by
 unfold Kg
 simp [A2]
 exact (Zb8 hh hw).wp fun h1 s1=>q h1 s1
theorem ZcA:((List.range H).map fun i=>Bo W (sw f (tR f W H) (Dw H (cc H f (tR f W H))) i)).sum=MM f H W H:=by
 have:=M4 (H:=H) (W:=W) (f:=f) (R:=tR f W H) (C:=Dw H (cc H f (tR f W H)))
 rw [OO,←M5]
 exact this
theorem st9 (hh:1≤H∧H≤8) (hw:1≤W∧W≤8) (q:∀h',Sm h h'→Q (.nx,A2 ns k b H W (some (bD H W f)) c6 c7 c8 c9 c10 c11 (some (AK H (tR f W H))) (some (AK W (Dw H (cc H f (tR f W H))))) (some (.int (MM f H W H))) c15 c16) h'):Wp (Kh (A2 ns k b H W (some (bD H W f)) c6 c7 c8 c9 c10 c11 (some (AK H (tR f W H))) (some (AK W (Dw H (cc H f (tR f W H))))) c14 c15 c16) h) Q:=by
 unfold Kh
 simp [A2]
 refine (Si (p:=tR f W H) (q:=Dw H (cc H f (tR f W H))) hh hw).wp fun h1 s1=>?_
 refine (Zcg hh hw).wp fun h2 s2=>?_
 rw [ZcA]
 exact q h2 (s1.trans s2)
theorem ZcB (hh:1≤H∧H≤8) (hw:1≤W∧W≤8) (q:∀h',Sm h h'→Q (.nx,A2 ns k b H W (some (bD H W f)) (some (.int (Bw H W f))) c7 (some (ms f H W H)) c9 c10 c11 (some (AK H (tR f W H))) c13 (some (.int (MM f H W H))) c15 c16) h'):Wp (Ki (A2 ns k b H W (some (bD H W f)) (some (.int (Bw H W f))) c7 (some (ms f H W H)) c9 c10 c11 (some (AK H (tR f W H))) c13 (some (.int (MM f H W H))) c15 c16) h) Q:=by
 unfold Ki
 have m0:=LO (f:=f) (W:=W) hh.2 hw.2 (AV H)
 have lm:=OP (f:=f) (W:=W) hh.1
 have em:ms f H W H=.tup [.int (MM f H W H),.int 1]:=by
  unfold ms
  rw [Nat.sub_self,Nat.pow_zero,Zct,Ia m0.1]
 rw [em]
 have ne:∀h,Ds (.tup [.int (MM f H W H),.int 1]) (.tup [.int (MM f H W H),.int 1]) h=.ok (.bl false) h:=fun h=>WQ ((W0 (n:=0) Ld Ld).py (by decide))
 simp [A2,ne]
 refine (Zcf hh hw).wp fun h1 s1=>?_
 rw [←OO]
 simp
 rw [if_neg (by omega)]
 simp
 have:=q h1 s1
 rw [em] at this
 exact this
theorem ZcC {l:Nat} (hh:1≤H∧H≤8) (e:h[l]?=some (.lst ((List.range H).map (DT f W H)))) (q:∀h',Sm h h'→Q (.nx,A2 ns k b H W c5 c6 c7 c8 (some (.loc l)) c10 c11 (some (AK H (tR f W H))) c13 c14 c15 c16) h'):Wp (Kj (A2 ns k b H W c5 c6 c7 c8 (some (.loc l)) c10 c11 (some (AK H (tR f W H))) c13 c14 c15 c16) h) Q:=by
 unfold Kj
 simp [A2]
 refine DM (src:=[(l,(List.range H).map (DT f W H))]) (xs:=List.range H) (φ:=fun i=>.tup [.int ((i:Nat):Int),DT f W H i]) (tR f W H) (fun i=>.int ((i:Nat):Int)) (fun i=>[some (.int ((i:Nat):Int)),some (DT f W H i)]) ?_ (sz hh.2) (fun x _=>rfl) (fun x hx h' s'=>?_) (fun x hx _ h' s'=>?_) fun l3 h3 s3 e3=>?_
 ·simp
  refine A6 (Ll e) ?_
  exact ⟨rfl,.refl _,fun h2 s2=>DH (s2 _ _ e)⟩
 ·simp only [Pu,Qv,K8,Fb,E9,WJ]
  refine A6 (show Ax (DT f W H x) (.int 0) h'=.ok (tD (tR f W H x)) h' from rfl) ?_
  rw [BU]
  refine A6 SO ?_
  simp [Sm.refl]
 ·simp [Pu,Sm.refl]
 ·unfold AK
  rw [ZbH]
  refine B7 (by
   have:=Jc (tR f W H) (List.range H)
   simp at this ⊢
   unfold sizeLine
   omega) fun l4 h4 s4 e4 _ _=>?_
  refine A6 (Tu (n:=0) (g:=fun i=>.int ((i:Nat):Int)) (s4 _ _ e3) e4 (by decide) (fun _ _=>Ld)) ?_
  simp
  exact q h4 (s3.trans s4)
theorem ZcD (hh:1≤H∧H≤8) (hw:1≤W∧W≤8) (q:∀l h',Sm h h'→h'[l]?=some (.lst ((Ce (Cf H W f)).map AO))→Q (.nx,A2 ns k b H W (some (bD H W f)) c6 c7 c8 c9 c10 c11 c12 c13 c14 (some (.loc l)) c16) h'):Wp (Kk (A2 ns k b H W (some (bD H W f)) c6 c7 c8 c9 c10 c11 c12 c13 c14 c15 c16) h) Q:=by
 unfold Kk
 simp [A2]
 exact Tn hh hw fun l h1 s1 e1=>q l h1 s1 e1
theorem ZcE {l:Nat} {ds:List D} (hh:1≤H∧H≤8) (hw:1≤W∧W≤8) (bx:BoxAt h b) (nl:l≠b) (e:h[l]?=some (.lst ds)) (q:∀p p' h',h'[l]?=some (.lst ds)→Q (.nx,A2 ns k b H W (some (bD H W f)) c6 c7 c8 c9 c10 c11 c12 c13 c14 (some (.loc l)) (some (bD H W (sw f p p')))) h'):Wp (Kl (A2 ns k b H W (some (bD H W f)) c6 c7 c8 c9 c10 c11 c12 c13 c14 (some (.loc l)) c16) h) Q:=by
 unfold Kl
 simp [A2]
 refine Sj bx hh.2 fun p h1 x1 s1=>?_
 refine Sj x1 hw.2 fun p' h2 x2 s2=>?_
 refine (Si (p:=p) (q:=p') hh hw).wp fun h3 s3=>?_
 exact q p p' h3 (s3 _ _ (s2 _ _ nl (s1 _ _ nl e)))
theorem gO {x:Be} (h:x∈Ce (Cf H W f)):HY H W x∧Ei f x=true:=by
 have:=qb9.mp ((LP (L:=Cf H W f)).1 x h)
 exact ⟨S6 this.1,this.2⟩
theorem gL (hh:H≤8) (hw:W≤8):(Ce (Cf H W f)).length≤1000:=B8 Te (Tj hh hw)
theorem ZcF {l:Nat} (hh:1≤H∧H≤8) (hw:1≤W∧W≤8) (e:h[l]?=some (.lst ((Ce (Cf H W f)).map AO))) (q:∀h',Sm h h'→Q (.nx,A2 ns k b H W (some (bD H W f)) (some (.int (Bw H W f))) c7 c8 c9 c10 c11 c12 c13 c14 (some (.loc l)) c16) h'):Wp (Km (A2 ns k b H W (some (bD H W f)) (some (.int (Bw H W f))) c7 c8 c9 c10 c11 c12 c13 c14 (some (.loc l)) c16) h) Q:=by
 unfold Km
 have hf:=Zcr (f:=f) (fun x hx=>(gO (f:=f) (H:=H) (W:=W) hx).1) (fun x hx=>(gO hx).2) (LP (L:=Cf H W f)).2
 simp [A2]
 refine (Tr hh hw (gL hh.2 hw.2) e (fun x hx=>(gO hx).1) (fun x hx=>(gO hx).2) (LP (L:=Cf H W f)).2).wp fun h1 s1=>?_
 simp [Lm (s1 _ _ e)]
 rw [if_neg (by omega)]
 simp
 exact q h1 s1
theorem ZcG {l:Nat} {p p':Nat→Bool} (hh:1≤H∧H≤8) (hw:1≤W∧W≤8) (e:h[l]?=some (.lst ((Ce (Cf H W f)).map AO))) (q:∀h',Q (.nx,A2 ns k b H W c5 c6 c7 c8 c9 c10 c11 c12 c13 c14 (some (.loc l)) (some (bD H W (sw f p p')))) h'):Wp (Kn (A2 ns k b H W c5 c6 c7 c8 c9 c10 c11 c12 c13 c14 (some (.loc l)) (some (bD H W (sw f p p')))) h) Q:=by
 unfold Kn
 have eo:Cf H W (sw f p p')=Cf H W f:=by
  unfold Cf
  congr 1
  funext x
  exact OT
 simp [A2,Zcy]
 simp only [LD,e]
 rw [←List.map_reverse]
 refine B7 (by rw [D0,List.length_reverse];exact FB (gL hh.2 hw.2)) fun l2 h2 s2 e2 _ _=>?_
 refine (Tr (f:=sw f p p') hh hw (by rw [List.length_reverse];exact gL hh.2 hw.2) e2 (fun x hx=>(gO (List.mem_reverse.mp hx)).1) (fun x hx=>by rw [OT];exact (gO (List.mem_reverse.mp hx)).2) (by
  rw [List.pairwise_reverse]
  exact (LP (L:=Cf H W f)).2.imp fun h=>by rw [OR];exact h)).wp fun h3 s3=>?_
 simp [Lm (s3 _ _ (s2 _ _ e))]
 refine Tn (f:=sw f p p') hh hw fun l4 h4 s4 e4=>?_
 rw [eo] at e4
 refine A6 (Tu (n:=1) e4 (s4 _ _ (s3 _ _ (s2 _ _ e))) (by decide) (fun _ _=>Zcx)) ?_
 simp
 exact q h4
theorem ZcH {a2 a3 a4 a5 a6 a7 a8 a9 a10 a11 a12 a13 a14 a15 a16:Option D} (hb:∀i∈ns,Builtin.Int.intBits i≤2^20) (hk:k≤1000)
 (q:∀(b2 b3 b4 b5 b6 b7 b8 b9 b10 b11 b12 b13 b14 b15 b16:Option D) h',Q (.nx,[some (.scr ns),some (.int (k:Nat)),b2,b3,b4,b5,b6,b7,b8,b9,b10,b11,b12,b13,b14,b15,b16]) h'):
 Wp (Aj J8 (Aj J9 (Aj Ka (Aj Kb (Aj Kc (Aj Kd (Aj Ke (Aj Kf (Aj Kg (Aj Kh (Aj Ki (Aj Kj (Aj Kk (Aj Kl (Aj Km Kn)))))))))))))) [some (.scr ns),some (.int (k:Nat)),a2,a3,a4,a5,a6,a7,a8,a9,a10,a11,a12,a13,a14,a15,a16] h) Q:=by
 rw [BG]
 refine st0 hb hk fun b h1 x1=>?_
 rw [Aq,BG]
 refine OU x1 fun H W h2 hh hw x2=>?_
 rw [Aq,BG]
 refine Do hh hw x2 fun f h3 x3=>?_
 rw [Aq,BG]
 refine LV hh hw fun h4 s4=>?_
 rw [Aq,BG]
 refine LW hh hw fun h5 s5=>?_
 rw [Aq,BG]
 refine EU ?_
 rw [Aq,BG]
 refine st6 hh hw fun l h6 s6 e6=>?_
 rw [Aq,BG]
 refine FY hh hw e6 fun c10 c11 h7 s7=>?_
 rw [Aq,BG]
 refine st8 hh hw fun h8 s8=>?_
 rw [Aq,BG]
 refine st9 hh hw fun h9 s9=>?_
 rw [Aq,BG]
 refine ZcB hh hw fun h10 s10=>?_
 rw [Aq,BG]
 have sA:=((s7.trans s8).trans s9).trans s10
 refine ZcC hh (sA _ _ e6) fun h11 s11=>?_
 rw [Aq,BG]
 refine ZcD hh hw fun l2 h12 s12 e12=>?_
 rw [Aq,BG]
 have sB:=((((s4.trans s5).trans s6).trans sA).trans s11).trans s12
 have x12:=x3.sm sB
 have nl:l2≠b:=fun z=>by
  subst z
  obtain ⟨n,e⟩:=x12
  rw [e12] at e
  have:=Cell.lst.inj (Option.some.inj e)
  cases hg:Ce (Cf H W f) with
  |nil=>rw [hg] at this;cases this
  |cons x xs=>rw [hg] at this;cases this
 refine ZcE hh hw x12 nl e12 fun p p' h13 e13=>?_
 rw [Aq,BG]
 refine ZcF hh hw e13 fun h14 s14=>?_
 rw [Aq]
 exact ZcG hh hw (s14 _ _ e13) fun h15=>q _ _ _ _ _ _ _ _ _ _ _ _ _ _ _ h15
end
def IL (ns:List Int) (xs:List Nat) (ρ:Ai) (h':HD):Prop:=∃d1 d2 d3 d4 d5 d6 d7 d8 d9 d10 d11 d12 d13 d14 d15 d16,ρ=[some (.scr ns),d1,d2,d3,d4,d5,d6,d7,d8,d9,d10,d11,d12,d13,d14,d15,d16]∧∀k∈xs,k≤1000
theorem ZcI:LH EE Bh EG Cd EJ EH Co EL DR EI EK DQ DO DP=Aj (Cq (Dg (Ab (Ag (BY JA) (Ab (mC (.int 1)) (Ab (Ag (BY GI) (Ab (Ag (Am A9) (Ab (Aa 0) (Ae))) (Ab (mC (.int 4)) (Ae)))) (Ae)))) (Ae))) (Bb 1) (Aj J8 (Aj J9 (Aj Ka (Aj Kb (Aj Kc (Aj Kd (Aj Ke (Aj Kf (Aj Kg (Aj Kh (Aj Ki (Aj Kj (Aj Kk (Aj Kl (Aj Km (Kn))))))))))))))))) (Av (mC (.bl true))):=by
 unfold J8 J9 Ka Kb Kc Kd Ke Kf Kg Kh Ki Kj Kk Kl Km Kn LQ LR
 rfl
theorem law_true (ns:List Int) (hl:ns.length≤63) (hb:∀i∈ns,Builtin.Int.intBits i≤2^20):∃h',F_law [.scr ns] []=.ok (.bl true) h':=by
 have main:Wp (F_law [.scr ns] []) fun d _=>d=.bl true:=by
  change Wp (Ak 17 (LH EE Bh EG Cd EJ EH Co EL DR EI EK DQ DO DP) [.scr ns] []) _
  rw [ZcI,AN,BG]
  obtain ⟨n,en,hn⟩:∃n:Nat,(if (if (4:Int)<(ns.length:Int) then (4:Int) else (ns.length:Int))>1 then (if (4:Int)<(ns.length:Int) then (4:Int) else (ns.length:Int)) else 1)=(n:Int)∧n≤99:=by
   have h0:0≤(if (if (4:Int)<(ns.length:Int) then (4:Int) else (ns.length:Int))>1 then (if (4:Int)<(ns.length:Int) then (4:Int) else (ns.length:Int)) else 1)∧(if (if (4:Int)<(ns.length:Int) then (4:Int) else (ns.length:Int))>1 then (if (4:Int)<(ns.length:Int) then (4:Int) else (ns.length:Int)) else 1)≤99:=by
    constructor<;>(split<;>split<;>omega)
   generalize (if (if (4:Int)<(ns.length:Int) then (4:Int) else (ns.length:Int))>1 then (if (4:Int)<(ns.length:Int) then (4:Int) else (ns.length:Int)) else 1)=E at h0
   exact ⟨E.toNat,by omega,by omega⟩
  refine DN (src:=[]) (xs:=List.range n) (fun i=>.int ((i:Nat):Int)) (IL ns) ?_ (fun ys ρ h' _=>DG) ?_ ?_
  ·simp
   rw [en,Gh (by omega)]
   exact ⟨rfl,_,_,_,_,_,_,_,_,_,_,_,_,_,_,_,_,rfl,fun k hk=>by have:=qb4.mp hk;omega⟩
  ·rintro x xs ρ h' ⟨d1,d2,d3,d4,d5,d6,d7,d8,d9,d10,d11,d12,d13,d14,d15,d16,rfl,hx⟩
   refine ⟨_,rfl,?_⟩
   exact ZcH hb (hx x AW) fun _ _ _ _ _ _ _ _ _ _ _ _ _ _ _ h2=>
    ⟨_,_,_,_,_,_,_,_,_,_,_,_,_,_,_,_,rfl,fun k hk=>hx k (A1 _ hk)⟩
  ·rintro ρ h' ⟨d1,d2,d3,d4,d5,d6,d7,d8,d9,d10,d11,d12,d13,d14,d15,d16,rfl,hx⟩
   simp
 obtain ⟨a,h',e,rfl⟩:=Wp.ex main
 exact ⟨h',e⟩
end LK
set_option maxHeartbeats 0
namespace LK
open PySem PySem.Spec PyProof.Rows L2 LS
def OV:Tp.Want:=⟨[(("is_whole":Str),GZ),(("is_line_tuple":Str),G0),(("row_switched":Str),G1),(("counts_with_row":Str),G2),(("fewest_lit":Str),G3),(("fuller_columns":Str),G4),(("ways_with_column":Str),G5),(("fraction":Str),G6),(("with_lights":Str),G7),(("all_fours":Str),G8),(("is_odd_four":Str),G9),(("have_common_light":Str),Ha),(("_law_cell":Str),Hb),(("_law_mix":Str),Hc),(("_law_take":Str),Hd),(("is_between":Str),He),(("is_lot":Str),Hf),(("ways_of_counts":Str),Hg),(("is_apart":Str),Hh),(("_law_box":Str),Hi),(("_law_wide_box":Str),Hj),(("_law_lot":Str),Hk),(("is_light":Str),Hl),(("need_number":Str),Hm),(("sum_of_column":Str),Ho),(("is_four":Str),Hq),(("_law_board":Str),Hr),(("is_row":Str),Hs),(("need_size":Str),Ht),(("sum_of_columns":Str),Hu),(("is_board":Str),Hv),(("mean_left":Str),Hw),(("need_board":Str),Hx),(("bound_of":Str),Hz),(("row_counts":Str),HA),(("is_switching":Str),HB),(("turned":Str),HC),(("road_of":Str),HE),(("odd_fours":Str),HF),(("floor_shown":Str),HG),(("lit_many":Str),HH),(("column_counts":Str),HI),(("need_switching":Str),HJ),(("floor_fours":Str),HK),(("switched":Str),HL),(("lots_with_counts":Str),HM),(("counts_by":Str),HN),(("left_many":Str),HP),(("best_columns":Str),HQ),(("left_by":Str),HU),(("road_switching":Str),HV),(("law":Str),s_law)],[(("MOST_LINES":Str),(8:Int))],["all","any","bool","divmod","enumerate","int","isinstance","len","list","max","min","range","sum","tuple","zip"]⟩
theorem all_mk {l:PySem.W.OpenLaw} {w:World} {K:PySem.W.Frag} {h:Heap} {mg:Str→Option Value} {fa:Addr} (HS:Tp.Has0 OV K) (X:K.In h) (G:h.Ns mainGlobals mg) (hfa:mg "law"=some (.ref fa)):
 ∃fd:FuncData,(∀(s:Shared) (v:Value),BindsTo s fd ⟨[v],[]⟩ [("_law_script",v)])∧∀base:Heap,K.In base→base.Ns mainGlobals mg→JV mg base→FnOk l.prog w K mg base (Aw l.prog w K) 12 fa fd ["_law_script"] (Gk K F_law):=by
 obtain ⟨fs,cs,bs,et⟩:=HS
 obtain ⟨_,_,_,_,_,_,_,_,_,_,a0,l0,c0,k0⟩:=fs 0 "is_whole" GZ rfl
 obtain ⟨_,_,_,_,_,_,_,_,_,_,a1,l1,c1,k1⟩:=fs 1 "is_line_tuple" G0 rfl
 obtain ⟨_,_,_,_,_,_,_,_,_,_,a2,l2,c2,k2⟩:=fs 2 "row_switched" G1 rfl
 obtain ⟨_,_,_,_,_,_,_,_,_,_,a3,l3,c3,k3⟩:=fs 3 "counts_with_row" G2 rfl
 obtain ⟨_,_,_,_,_,_,_,_,_,_,a4,l4,c4,k4⟩:=fs 4 "fewest_lit" G3 rfl
 obtain ⟨_,_,_,_,_,_,_,_,_,_,a5,l5,c5,k5⟩:=fs 5 "fuller_columns" G4 rfl
 obtain ⟨_,_,_,_,_,_,_,_,_,_,a6,l6,c6,k6⟩:=fs 6 "ways_with_column" G5 rfl
 obtain ⟨_,_,_,_,_,_,_,_,_,_,a7,l7,c7,k7⟩:=fs 7 "fraction" G6 rfl
 obtain ⟨_,_,_,_,_,_,_,_,_,_,a8,l8,c8,k8⟩:=fs 8 "with_lights" G7 rfl
 obtain ⟨_,_,_,_,_,_,_,_,_,_,a9,l9,c9,k9⟩:=fs 9 "all_fours" G8 rfl
 obtain ⟨_,_,_,_,_,_,_,_,_,_,a10,l10,c10,k10⟩:=fs 10 "is_odd_four" G9 rfl
 obtain ⟨_,_,_,_,_,_,_,_,_,_,a11,l11,c11,k11⟩:=fs 11 "have_common_light" Ha rfl
 obtain ⟨_,_,_,_,_,_,_,_,_,_,a12,l12,c12,k12⟩:=fs 12 "_law_cell" Hb rfl
 obtain ⟨_,_,_,_,_,_,_,_,_,_,a13,l13,c13,k13⟩:=fs 13 "_law_mix" Hc rfl
 obtain ⟨_,_,_,_,_,_,_,_,_,_,a14,l14,c14,k14⟩:=fs 14 "_law_take" Hd rfl
 obtain ⟨_,_,_,_,_,_,_,_,_,_,a15,l15,c15,k15⟩:=fs 15 "is_between" He rfl
 obtain ⟨_,_,_,_,_,_,_,_,_,_,a16,l16,c16,k16⟩:=fs 16 "is_lot" Hf rfl
 obtain ⟨_,_,_,_,_,_,_,_,_,_,a17,l17,c17,k17⟩:=fs 17 "ways_of_counts" Hg rfl
 obtain ⟨_,_,_,_,_,_,_,_,_,_,a18,l18,c18,k18⟩:=fs 18 "is_apart" Hh rfl
 obtain ⟨_,_,_,_,_,_,_,_,_,_,a19,l19,c19,k19⟩:=fs 19 "_law_box" Hi rfl
 obtain ⟨_,_,_,_,_,_,_,_,_,_,a20,l20,c20,k20⟩:=fs 20 "_law_wide_box" Hj rfl
 obtain ⟨_,_,_,_,_,_,_,_,_,_,a21,l21,c21,k21⟩:=fs 21 "_law_lot" Hk rfl
 obtain ⟨_,_,_,_,_,_,_,_,_,_,a22,l22,c22,k22⟩:=fs 22 "is_light" Hl rfl
 obtain ⟨_,_,_,_,_,_,_,_,_,_,a23,l23,c23,k23⟩:=fs 23 "need_number" Hm rfl
 obtain ⟨_,_,_,_,_,_,_,_,_,_,a24,l24,c24,k24⟩:=fs 24 "sum_of_column" Ho rfl
 obtain ⟨_,_,_,_,_,_,_,_,_,_,a25,l25,c25,k25⟩:=fs 25 "is_four" Hq rfl
 obtain ⟨_,_,_,_,_,_,_,_,_,_,a26,l26,c26,k26⟩:=fs 26 "_law_board" Hr rfl
 obtain ⟨_,_,_,_,_,_,_,_,_,_,a27,l27,c27,k27⟩:=fs 27 "is_row" Hs rfl
 obtain ⟨_,_,_,_,_,_,_,_,_,_,a28,l28,c28,k28⟩:=fs 28 "need_size" Ht rfl
 obtain ⟨_,_,_,_,_,_,_,_,_,_,a29,l29,c29,k29⟩:=fs 29 "sum_of_columns" Hu rfl
 obtain ⟨_,_,_,_,_,_,_,_,_,_,a30,l30,c30,k30⟩:=fs 30 "is_board" Hv rfl
 obtain ⟨_,_,_,_,_,_,_,_,_,_,a31,l31,c31,k31⟩:=fs 31 "mean_left" Hw rfl
 obtain ⟨_,_,_,_,_,_,_,_,_,_,a32,l32,c32,k32⟩:=fs 32 "need_board" Hx rfl
 obtain ⟨_,_,_,_,_,_,_,_,_,_,a33,l33,c33,k33⟩:=fs 33 "bound_of" Hz rfl
 obtain ⟨_,_,_,_,_,_,_,_,_,_,a34,l34,c34,k34⟩:=fs 34 "row_counts" HA rfl
 obtain ⟨_,_,_,_,_,_,_,_,_,_,a35,l35,c35,k35⟩:=fs 35 "is_switching" HB rfl
 obtain ⟨_,_,_,_,_,_,_,_,_,_,a36,l36,c36,k36⟩:=fs 36 "turned" HC rfl
 obtain ⟨_,_,_,_,_,_,_,_,_,_,a37,l37,c37,k37⟩:=fs 37 "road_of" HE rfl
 obtain ⟨_,_,_,_,_,_,_,_,_,_,a38,l38,c38,k38⟩:=fs 38 "odd_fours" HF rfl
 obtain ⟨_,_,_,_,_,_,_,_,_,_,a39,l39,c39,k39⟩:=fs 39 "floor_shown" HG rfl
 obtain ⟨_,_,_,_,_,_,_,_,_,_,a40,l40,c40,k40⟩:=fs 40 "lit_many" HH rfl
 obtain ⟨_,_,_,_,_,_,_,_,_,_,a41,l41,c41,k41⟩:=fs 41 "column_counts" HI rfl
 obtain ⟨_,_,_,_,_,_,_,_,_,_,a42,l42,c42,k42⟩:=fs 42 "need_switching" HJ rfl
 obtain ⟨_,_,_,_,_,_,_,_,_,_,a43,l43,c43,k43⟩:=fs 43 "floor_fours" HK rfl
 obtain ⟨_,_,_,_,_,_,_,_,_,_,a44,l44,c44,k44⟩:=fs 44 "switched" HL rfl
 obtain ⟨_,_,_,_,_,_,_,_,_,_,a45,l45,c45,k45⟩:=fs 45 "lots_with_counts" HM rfl
 obtain ⟨_,_,_,_,_,_,_,_,_,_,a46,l46,c46,k46⟩:=fs 46 "counts_by" HN rfl
 obtain ⟨_,_,_,_,_,_,_,_,_,_,a47,l47,c47,k47⟩:=fs 47 "left_many" HP rfl
 obtain ⟨_,_,_,_,_,_,_,_,_,_,a48,l48,c48,k48⟩:=fs 48 "best_columns" HQ rfl
 obtain ⟨_,_,_,_,_,_,_,_,_,_,a49,l49,c49,k49⟩:=fs 49 "left_by" HU rfl
 obtain ⟨_,_,_,_,_,_,_,_,_,_,a50,l50,c50,k50⟩:=fs 50 "road_switching" HV rfl
 obtain ⟨f_law,_,an_law,_,_,kV_law,dc_law,pm_law,cd_law,ct_law,a_law,l_law,c_law,k_law⟩:=fs 51 "law" s_law rfl
 have e:=hfa.symm.trans (PySem.W.mg_of X G a_law)
 cases e
 have B:Bl mg:=⟨PySem.W.mg_none_of X G (bs 0 "all" rfl),PySem.W.mg_none_of X G (bs 1 "any" rfl),PySem.W.mg_none_of X G (bs 2 "bool" rfl),PySem.W.mg_none_of X G (bs 3 "divmod" rfl),PySem.W.mg_none_of X G (bs 4 "enumerate" rfl),PySem.W.mg_none_of X G (bs 5 "int" rfl),PySem.W.mg_none_of X G (bs 6 "isinstance" rfl),PySem.W.mg_none_of X G (bs 7 "len" rfl),PySem.W.mg_none_of X G (bs 8 "list" rfl),PySem.W.mg_none_of X G (bs 9 "max" rfl),PySem.W.mg_none_of X G (bs 10 "min" rfl),PySem.W.mg_none_of X G (bs 11 "range" rfl),PySem.W.mg_none_of X G (bs 12 "sum" rfl),PySem.W.mg_none_of X G (bs 13 "tuple" rfl),PySem.W.mg_none_of X G (bs 14 "zip" rfl)⟩
 obtain ⟨t_MOST_LINES,v_MOST_LINES⟩:=cs 0 "MOST_LINES" 8 rfl
 have M_MOST_LINES:=PySem.W.mg_of X G v_MOST_LINES
 refine ⟨PySem.W.fnOf "law" "law" (defArgs s_law) (defBody s_law) (defScope s_law) .none kV_law dc_law pm_law an_law cd_law ct_law,fun s v=>.of_eq rfl,fun base _ _ hbm=>?_⟩
 have C0:=ZaE (P:=l.prog) (w:=w) (base:=base) B et (Ck X G l0 c0 k0 a0 fun _ _ _ _ _ _ _=>rfl)
 have C1:=ZaF (P:=l.prog) (w:=w) (base:=base) B et M_MOST_LINES (Ck X G l1 c1 k1 a1 fun _ _ _ _ _ _ _=>rfl)
 have C2:=ZaG (P:=l.prog) (w:=w) (base:=base) B et (GU X G l2 c2 k2 a2 fun _ _ _ _ _ _ _ _ _=>rfl)
 have C3:=ZaH (P:=l.prog) (w:=w) (base:=base) B et (BH X G l3 c3 k3 a3 fun _ _ _ _ _ _ _ _=>rfl)
 have C4:=ZaI (P:=l.prog) (w:=w) (base:=base) B et (BH X G l4 c4 k4 a4 fun _ _ _ _ _ _ _ _=>rfl)
 have C5:=ZaJ (P:=l.prog) (w:=w) (base:=base) B et (BH X G l5 c5 k5 a5 fun _ _ _ _ _ _ _ _=>rfl)
 have C6:=ZaK (P:=l.prog) (w:=w) (base:=base) B et (GU X G l6 c6 k6 a6 fun _ _ _ _ _ _ _ _ _=>rfl)
 have C7:=ZaL (P:=l.prog) (w:=w) (base:=base) B et (BH X G l7 c7 k7 a7 fun _ _ _ _ _ _ _ _=>rfl)
 have C8:=ZaM (P:=l.prog) (w:=w) (base:=base) B et (BH X G l8 c8 k8 a8 fun _ _ _ _ _ _ _ _=>rfl)
 have C9:=ZaN (P:=l.prog) (w:=w) (base:=base) B et (Ck X G l9 c9 k9 a9 fun _ _ _ _ _ _ _=>rfl)
 have C10:=ZaO (P:=l.prog) (w:=w) (base:=base) B et (BH X G l10 c10 k10 a10 fun _ _ _ _ _ _ _ _=>rfl)
 have C11:=ZaP (P:=l.prog) (w:=w) (base:=base) B et (BH X G l11 c11 k11 a11 fun _ _ _ _ _ _ _ _=>rfl)
 have C12:=ZaQ (P:=l.prog) (w:=w) (base:=base) B et (BH X G l12 c12 k12 a12 fun _ _ _ _ _ _ _ _=>rfl)
 have C13:=ZaR (P:=l.prog) (w:=w) (base:=base) B et (BH X G l13 c13 k13 a13 fun _ _ _ _ _ _ _ _=>rfl)
 have C14:=ZaS (P:=l.prog) (w:=w) (base:=base) B et (BH X G l14 c14 k14 a14 fun _ _ _ _ _ _ _ _=>rfl)
 have C15:=ZaT (P:=l.prog) (w:=w) (base:=base) B et C0 (GU X G l15 c15 k15 a15 fun _ _ _ _ _ _ _ _ _=>rfl)
 have C16:=ZaU (P:=l.prog) (w:=w) (base:=base) B et C0 (BH X G l16 c16 k16 a16 fun _ _ _ _ _ _ _ _=>rfl)
 have C17:=ZaV (P:=l.prog) (w:=w) (base:=base) B et C6 (BH X G l17 c17 k17 a17 fun _ _ _ _ _ _ _ _=>rfl)
 have C18:=ZaW (P:=l.prog) (w:=w) (base:=base) B et C11 (BH X G l18 c18 k18 a18 fun _ _ _ _ _ _ _ _=>rfl)
 have C19:=ZaX (P:=l.prog) (w:=w) (base:=base) B et C12 C13 (BH X G l19 c19 k19 a19 fun _ _ _ _ _ _ _ _=>rfl)
 have C20:=ZaY (P:=l.prog) (w:=w) (base:=base) B et C14 (Ck X G l20 c20 k20 a20 fun _ _ _ _ _ _ _=>rfl)
 have C21:=ZaZ (P:=l.prog) (w:=w) (base:=base) B et C14 (BH X G l21 c21 k21 a21 fun _ _ _ _ _ _ _ _=>rfl)
 have C22:=Za0 (P:=l.prog) (w:=w) (base:=base) B et C15 (Ck X G l22 c22 k22 a22 fun _ _ _ _ _ _ _=>rfl)
 have C23:=Za1 (P:=l.prog) (w:=w) (base:=base) B et C15 (GU X G l23 c23 k23 a23 fun _ _ _ _ _ _ _ _ _=>rfl)
 have C24:=Za2 (P:=l.prog) (w:=w) (base:=base) B et C17 (GU X G l24 c24 k24 a24 fun _ _ _ _ _ _ _ _ _=>rfl)
 have C25:=Za3 (P:=l.prog) (w:=w) (base:=base) B et C16 (BH X G l25 c25 k25 a25 fun _ _ _ _ _ _ _ _=>rfl)
 have C26:=Za4 (P:=l.prog) (w:=w) (base:=base) B et C14 C20 (GU X G l26 c26 k26 a26 fun _ _ _ _ _ _ _ _ _=>rfl)
 have C27:=Za5 (P:=l.prog) (w:=w) (base:=base) B et C1 C22 (Ck X G l27 c27 k27 a27 fun _ _ _ _ _ _ _=>rfl)
 have C28:=Za6 (P:=l.prog) (w:=w) (base:=base) B et C23 M_MOST_LINES (BH X G l28 c28 k28 a28 fun _ _ _ _ _ _ _ _=>rfl)
 have C29:=Za7 (P:=l.prog) (w:=w) (base:=base) B et C24 (GU X G l29 c29 k29 a29 fun _ _ _ _ _ _ _ _ _=>rfl)
 have C30:=Za8 (P:=l.prog) (w:=w) (base:=base) B et C1 C27 (Ck X G l30 c30 k30 a30 fun _ _ _ _ _ _ _=>rfl)
 have C31:=Za9 (P:=l.prog) (w:=w) (base:=base) B et C28 C29 C7 (BH X G l31 c31 k31 a31 fun _ _ _ _ _ _ _ _=>rfl)
 have C32:=Zba (P:=l.prog) (w:=w) (base:=base) B et C30 (Ck X G l32 c32 k32 a32 fun _ _ _ _ _ _ _=>rfl)
 have C33:=Zbb (P:=l.prog) (w:=w) (base:=base) B et C31 (BH X G l33 c33 k33 a33 fun _ _ _ _ _ _ _ _=>rfl)
 have C34:=Zbc (P:=l.prog) (w:=w) (base:=base) B et C32 (Ck X G l34 c34 k34 a34 fun _ _ _ _ _ _ _=>rfl)
 have C35:=Zbd (P:=l.prog) (w:=w) (base:=base) B et C32 C16 (BH X G l35 c35 k35 a35 fun _ _ _ _ _ _ _ _=>rfl)
 have C36:=Zbe (P:=l.prog) (w:=w) (base:=base) B et C32 (Ck X G l36 c36 k36 a36 fun _ _ _ _ _ _ _=>rfl)
 have C37:=Zbf (P:=l.prog) (w:=w) (base:=base) B et C32 C8 C29 C7 (Ck X G l37 c37 k37 a37 fun _ _ _ _ _ _ _=>rfl)
 have C38:=Zbg (P:=l.prog) (w:=w) (base:=base) B et C32 C9 C10 (Ck X G l38 c38 k38 a38 fun _ _ _ _ _ _ _=>rfl)
 have C39:=Zbh (P:=l.prog) (w:=w) (base:=base) B et C32 C25 C10 C18 (BH X G l39 c39 k39 a39 fun _ _ _ _ _ _ _ _=>rfl)
 have C40:=Zbi (P:=l.prog) (w:=w) (base:=base) B et C34 (Ck X G l40 c40 k40 a40 fun _ _ _ _ _ _ _=>rfl)
 have C41:=Zbj (P:=l.prog) (w:=w) (base:=base) B et C36 C34 (Ck X G l41 c41 k41 a41 fun _ _ _ _ _ _ _=>rfl)
 have C42:=Zbk (P:=l.prog) (w:=w) (base:=base) B et C35 (BH X G l42 c42 k42 a42 fun _ _ _ _ _ _ _ _=>rfl)
 have C43:=Zbl (P:=l.prog) (w:=w) (base:=base) B et C38 C18 (Ck X G l43 c43 k43 a43 fun _ _ _ _ _ _ _=>rfl)
 have C44:=Zbm (P:=l.prog) (w:=w) (base:=base) B et C42 C2 (BH X G l44 c44 k44 a44 fun _ _ _ _ _ _ _ _=>rfl)
 have C45:=Zbn (P:=l.prog) (w:=w) (base:=base) B et C41 C3 (Ck X G l45 c45 k45 a45 fun _ _ _ _ _ _ _=>rfl)
 have C46:=Zbo (P:=l.prog) (w:=w) (base:=base) B et C32 C16 C41 C3 (BH X G l46 c46 k46 a46 fun _ _ _ _ _ _ _ _=>rfl)
 have C47:=Zbp (P:=l.prog) (w:=w) (base:=base) B et C45 C4 (Ck X G l47 c47 k47 a47 fun _ _ _ _ _ _ _=>rfl)
 have C48:=Zbq (P:=l.prog) (w:=w) (base:=base) B et C46 C5 (BH X G l48 c48 k48 a48 fun _ _ _ _ _ _ _ _=>rfl)
 have C49:=Zbr (P:=l.prog) (w:=w) (base:=base) B et C46 C4 (BH X G l49 c49 k49 a49 fun _ _ _ _ _ _ _ _=>rfl)
 have C50:=Zbs (P:=l.prog) (w:=w) (base:=base) B et C37 C48 (Ck X G l50 c50 k50 a50 fun _ _ _ _ _ _ _=>rfl)
 exact AR (Ck X G l_law c_law k_law a_law fun _ _ _ _ _ _ _=>rfl).fn sc_law (fun ds h e=>if_neg e) (fun ds h e=>if_pos e) (fun cdv A outer s H E hr=>ZaD B et C19 C14 C26 C31 C47 C33 C37 C50 C44 C40 C49 C43 C21 C39 _ cdv A outer s H E hr)
end LK
namespace LK
open PySem PySem.W
abbrev top_q:Program:=view PySem.Challenge.pw_lineswitch_k44_whole_bounds [64]
abbrev top_loose:List Str:=(PySem.Challenge.pw_lineswitch_k44_whole_bounds.main.scope.names.map (·.1)).filter fun x=>!(x=="law")
set_option maxHeartbeats 0 in
theorem top_left:LeftO PySem.Challenge.pw_lineswitch_k44_whole_bounds top_q top_loose (fun _=>true) (Tp.obs0 OV) (fun _=>Tp.val0 OV) 1000000:=
 Tp.left_of (n:=66) (by kernel_rfl) (fun s=>by kernel_rfl) (fun w=>by kernel_rfl) (fun w os=>by
  rw [PySem.W.Fast.te10156331382660048174,PySem.W.Fast.te11892475500146522536,PySem.W.Fast.te14364793385576792824,PySem.W.Fast.te10110043849684766642,PySem.W.Fast.te6613529449190102663,PySem.W.Fast.te4187177175401517315,PySem.W.Fast.te5923862056798008813]
  kernel_rfl)
end LK
open PySem PySem.W PyProof.Rows
set_option maxRecDepth 100000 in
set_option maxHeartbeats 0 in
theorem PySem.Challenge.cw_lineswitch_k44_whole_bounds_holds : PySem.Challenge.rw_lineswitch_k44_whole_bounds.Holds := by
 w_on;o_law
 refine PySem.W.holds_open (q:=LK.top_q) (loose:=LK.top_loose) (d:=⟨"law",L2.defArgs LK.s_law,L2.defBody LK.s_law,L2.defScope LK.s_law,_⟩) (kwd:=[]) (Xt:=fun _=>true) (XP:=fun _ _=>True) (N:=1000000) LK.top_left Tp.says0_of Tp.Says0.keeps (fun _ _=>trivial) (fun _ _ _ _ _=>trivial) (by rfl) (by kernel_rfl) (by kernel_rfl) (fun s _=>recFacts_nil (by rfl)) (by rfl) (by assumption) (by kernel_rfl) ⟨rfl,rfl,rfl,rfl,rfl,by decide +kernel⟩ ?hw ?hc
 case hw=>w_witness2
 case hc=>exact LS.walk_hd0 (n:=63) (k:=12) (x:="_law_script") (F:=LK.F_law) rfl (by decide) rfl ⟨rfl,by decide,by decide,rfl⟩ (fun w K mg fa h HS X G hfa=>LK.all_mk HS X G hfa) LK.law_true
