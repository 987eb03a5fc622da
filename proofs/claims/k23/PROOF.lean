import PyProof.Rows.All
import Wide.All
import OpenK.AllK
import Wide.FinOn
import Lean
import PyProof.EqAt
import PyProof.EqKinds
import PyProof.TupleCall
import PyProof.ExcBaseAll.ValueError
import PyProof.ZipIter
import KE.KIsAll
import KE.KTryMore
import PyProof.ExcArgsOwn
import PyProof.ExcAttrAll.ValueError
import KE.KLam
import KE.KNestM
import PyProof.NsDelKeeps
import PyProof.Rows.CatchPack
import PyProof.ReprRoads
import PyProof.Rows.FStr
import PyProof.ListRange
import PyProof.CollectIter
import KE.KRevSl
import PyProof.ExcInit
import PyProof.ExcClass2
import PyProof.InstStore
import PyProof.InstStoreFacts
import PyProof.InstLoad
import OpenK.KMore
import PyProof.Rows.StrKeys3
import PyProof.DictItemsLoops
import PyProof.DictTable
import PyProof.MeetsDictList
import PyProof.DictStraight
import PyProof.DictUpdate
import PyProof.DictRoadsH
import PyProof.DictTruth
import PyProof.DictWalks
import PyProof.AttrMissHeap
import PyProof.ListNew
import KE.KDictOf
import PyProof.MinMaxWalk
import PySem.Challenge.RW_lineswitch_k23_odd_fours
set_option Elab.async false
set_option linter.all false
set_option maxRecDepth 100000
abbrev AE:=@PySem.Heap.get?_push_of_some
abbrev AG:=@List.prefix_refl
abbrev A8:=@List.getElem?_eq_getElem
abbrev AO:=@List.mem_cons_self
abbrev qa4:=@List.getElem?_eq_some_iff
abbrev A1:=@List.mem_cons_of_mem
abbrev Av:=@PySem.Heap.lt_size
abbrev AV:=@Nat.lt_of_lt_of_le
abbrev qa8:=@List.mem_cons
abbrev A9:=@List.size_toArray
abbrev AK:=@Nat.le_refl
abbrev Bp:=@PySem.Heap.get?_push_size
abbrev BJ:=@List.mem_append_right
abbrev Bw:=@Bool.false_ne_true
abbrev BV:=@List.getElem?_set_ne
abbrev BP:=@Bool.false_eq_true
abbrev Be:=@Nat.ne_of_lt
abbrev Bn:=@List.map_cons
abbrev qaI:=@List.mem_singleton
abbrev Cu:=@List.getElem?_set_self
abbrev Cb:=@List.getElem?_map
abbrev BK:=@Nat.le_trans
abbrev qaM:=@List.mem_append
abbrev Ej:=@List.getD_eq_getElem?_getD
abbrev qaO:=@List.all_eq_true
abbrev Cw:=@List.not_mem_nil
abbrev B2:=@Nat.ne_of_gt
abbrev CF:=@Bool.and_eq_true
abbrev E3:=@List.getElem?_append_left
abbrev Ek:=@PySem.Heap.get?_update_other
abbrev qaU:=@Option.map_eq_some_iff
abbrev qaV:=@Bool.eq_iff_iff
abbrev CS:=@List.length_map
abbrev CG:=@PySem.Heap.size_push
abbrev Cy:=@Nat.lt_irrefl
abbrev qaZ:=@List.mem_map
abbrev El:=@List.length_append
abbrev Fw:=@List.mem_of_getElem?
abbrev E4:=@List.append_assoc
abbrev Fx:=@List.replicate_succ
abbrev E5:=@List.length_cons
abbrev E6:=@Nat.le_add_right
abbrev qb6:=@List.mem_filter
abbrev Dv:=@Nat.zero_le
abbrev DQ:=@List.map_map
abbrev HZ:=@List.getElem?_append_right
abbrev GZ:=@List.length_filter_le
abbrev G0:=@List.mem_append_left
abbrev Fy:=@List.append_nil
abbrev Fz:=@List.length_nil
abbrev FW:=@List.flatten_cons
abbrev G5:=@List.filterMap_cons
abbrev qbG:=@List.mem_range
abbrev FX:=@List.lookup_cons
abbrev FY:=@List.cons_append
abbrev E7:=@Nat.le_of_lt
abbrev G6:=@List.prefix_append
abbrev H0:=@PySem.Heap.get?_update_self
abbrev JC:=@List.drop_eq_getElem_cons
abbrev qbN:=@Option.isSome_iff_exists
abbrev G7:=@Nat.le_of_not_lt
abbrev Ia:=@List.getElem?_range
abbrev Ib:=@List.map_congr_left
abbrev FZ:=@Bool.not_true
abbrev qbS:=@List.nodup_cons
abbrev G8:=@Option.map_some
abbrev qbU:=@List.pairwise_lt_range
abbrev Ic:=@Nat.lt_succ_of_lt
abbrev Ie:=@List.length_range
abbrev Ig:=@List.all_eq_false
abbrev F0:=@List.map_nil
abbrev Ih:=@List.length_take
abbrev Ii:=@List.getElem_mem
abbrev Ij:=@List.ext_getElem
abbrev JD:=@List.mem_of_mem_take
abbrev Ik:=@List.foldl_cons
abbrev Il:=@List.nil_append
abbrev Lg:=@List.mem_of_find?_eq_some
abbrev Lh:=@List.eq_of_mem_replicate
abbrev Li:=@List.getElem?_replicate
abbrev Lj:=@List.filter_cons_of_neg
abbrev Lk:=@List.filter_cons_of_pos
abbrev Im:=@Nat.add_assoc
abbrev Ll:=@List.pairwise_flatMap
abbrev JE:=@List.of_mem_zip
abbrev Io:=@Nat.succ_mul
abbrev Lm:=@Nat.mul_le_mul_right
abbrev Ln:=@List.mem_of_mem_drop
abbrev JF:=@List.range_succ
namespace L2
open PySem PySem.Spec PyProof.Rows
abbrev Sq:=Sum Int Str
inductive V where
 |non |bl (b:Bool) |int (i:Int) |str (x:Str) |byt (b:Array UInt8) |flt (b:UInt64) |ref (a:Addr) |ty (n:String)
 deriving DecidableEq
def RelV:V→Value→Prop
 |.non,u=>u=Value.none
 |.bl b,u=>u=Value.bool b
 |.int i,u=>∃t,u=Value.int i t
 |.str x,u=>∃t,u=Value.str x t
 |.byt b,u=>∃t,u=Value.bytes b t
 |.flt b,u=>∃t,u=Value.float b t
 |.ref a,u=>u=Value.ref a
 |.ty n,u=>u=Value.type n
abbrev Vals:List V→List Value→Prop:=Paired RelV
theorem Vals.length {xs:List V} {us:List Value} (r:Vals xs us):xs.length=us.length:=Paired.length r
theorem Vals.get:∀{xs:List V} {us:List Value} {i:Nat} {x:V},Vals xs us→xs[i]?=some x→∃u,us[i]?=some u∧RelV x u
 |_,_,_,_,.nil,e=>by simp at e
 |_,_,0,_,.cons r _,e=>by simp at e;subst e;exact ⟨_,rfl,r⟩
 |_,_,i+1,x,.cons _ t,e=>by
  obtain ⟨u,h1,h2⟩:=Vals.get (i:=i) (x:=x) t (by simpa using e)
  exact ⟨u,by simpa using h1,h2⟩
theorem Vals.set {x:V} {u:Value} (r:RelV x u):∀{xs:List V} {us:List Value} (i:Nat),Vals xs us→Vals (xs.set i x) (us.set i u)
 |_,_,_,.nil=>.nil
 |_,_,0,.cons _ t=>.cons r t
 |_,_,i+1,.cons q t=>.cons q (Vals.set r i t)
theorem Vals.append:∀{xs ys:List V} {us ws:List Value},Vals xs us→Vals ys ws→Vals (xs++ys) (us++ws)
 |_,_,_,_,.nil,s=>s
 |_,_,_,_,.cons r t,s=>.cons r (Vals.append t s)
theorem Vals.take:∀{xs:List V} {us:List Value} (n:Nat),Vals xs us→Vals (xs.take n) (us.take n)
 |_,_,0,_=>.nil
 |_,_,_+1,.nil=>.nil
 |_,_,n+1,.cons r t=>.cons r (Vals.take n t)
theorem Vals.drop:∀{xs:List V} {us:List Value} (n:Nat),Vals xs us→Vals (xs.drop n) (us.drop n)
 |_,_,0,r=>r
 |_,_,_+1,.nil=>.nil
 |_,_,n+1,.cons _ t=>Vals.drop n t
def Sr:Option V→Option Value→Prop
 |some v,some u=>RelV v u
 |none,none=>True
 |_,_=>False
def kV:Sq→V
 |.inl i=>.int i
 |.inr x=>.str x
inductive HO where
 |lst (xs:List V)
 |tup (xs:List V)
 |own (x:Addr)
 |xd (fs:List (Str×V))
 |frz (o:Obj) (u:HO)
 |tbl (ps:Array Value)
 |ext (φ:Heap→Prop)
 |mex (φ:Heap→Prop)
 |dct (φ:Heap→Prop)
abbrev Hp:=Addr→Option HO
def An (H:Hp) (a:Addr) (o:HO):Hp:=fun b=>if b=a then some o else H b
theorem B3 {H:Hp} {a:Addr} {o:HO}:An H a o a=some o:=by unfold An;rw [if_pos rfl]
theorem Ao {H:Hp} {a b:Addr} {o:HO} (h:b≠a):An H a o b=H b:=by unfold An;rw [if_neg h]
theorem Bz {H:Hp} {a b:Addr} {o:HO} (h:H a=some o) (h':H b=none):a≠b:=by
 intro e;subst e;rw [h] at h';cases h'
section
variable (P:Program) (w:World)
inductive N8 (h:Heap) (a:Addr) (xs:List V):Prop where
 |mk (f1:xs.length≤sizeLine) (its:List Value) (n:Nat) (f2:Vals xs its) (f3:h.get? a=some {cls:=.type "list",data:=.seq its.toArray n}):N8 h a xs
def NoDict (h:Heap) (a:Addr):Prop:=∀o,h.get? a=some o→o.dict=none
inductive Ip (h:Heap) (a:Addr) (xs:List V):Prop where
 |mk (f1:xs.length≤sizeLine) (its:List Value) (f2:Vals xs its) (f3:IsTup h a its.toArray) (f4:NoDict h a):Ip h a xs
theorem NoDict.new {h:Heap} {o:Obj} (hd:o.dict=none:=by rfl) (hf:o.isFreed=false:=by rfl):NoDict (h.push o) h.objs.size:=fun u e=>by
 rw [Bp _ hf] at e
 cases e
 exact hd
def ObjOk (P:Program) (w:World) (H:Hp) (h:Heap) (a:Addr):HO→Prop
 |.lst xs=>N8 h a xs
 |.tup xs=>Ip h a xs
 |.own _=>∃o,h.get? a=some o
 |.xd fs=>∃mA,h.Ns1 a mA∧∀f,Sr (fs.lookup f) (mA f)
 |.frz o u=>h.get? a=some o∧ObjOk P w H h a u
 |.tbl ps=>h.get? a=some {cls:=.none,data:=.fields ps}
 |.ext φ=>φ h∧(∃o,h.get? a=some o)∧∀h1 h2:Heap,φ h1→(∀o,h1.get? a=some o→h2.get? a=some o)→φ h2
 |.mex φ=>φ h∧(∃o,h.get? a=some o)∧∀h1 h2:Heap,φ h1→(∀o,h1.get? a=some o→h2.get? a=some o)→φ h2
 |.dct φ=>φ h∧(∃o,h.get? a=some o)∧∀h1 h2:Heap,φ h1→(∀o,h1.get? a=some o→h2.get? a=some o)→φ h2
def HOk (H:Hp) (h:Heap):Prop:=∀a o,H a=some o→ObjOk P w H h a o
end
section
variable {P:Program} {w:World} {H H':Hp} {h h':Heap} {a:Addr} {o:HO}
theorem ObjOk.lt (x:ObjOk P w H h a o):a<h.objs.size:=by
 cases o with
 |lst xs=>obtain ⟨_,_,_,_,e⟩:=x;exact Av e
 |tup xs=>obtain ⟨_,_,_,p,_⟩:=x;exact p.lt
 |own y=>obtain ⟨_,e⟩:=x;exact Av e
 |xd fs=>obtain ⟨_,⟨_,_,_,e,_⟩,_⟩:=x;exact Av e
 |frz ob u=>obtain ⟨e,_⟩:=x;exact Av e
 |tbl ps=>exact Av (show h.get? a=some _ from x)
 |ext φ=>obtain ⟨_,⟨_,e⟩,_⟩:=x;exact Av e
 |mex φ=>obtain ⟨_,⟨_,e⟩,_⟩:=x;exact Av e
 |dct φ=>obtain ⟨_,⟨_,e⟩,_⟩:=x;exact Av e
theorem ObjOk.stay (x:ObjOk P w H h a o) (k:∀b u,(b=a∨H b=some (.own a))→h.get? b=some u→h'.get? b=some u)
 (ho:∀b,H b=some (.own a)→H' b=some (.own a)) (ht:∀b xs,H b=some (.tup xs)→H' b=some (.tup xs)):ObjOk P w H' h' a o:=by
 induction o with
 |lst xs=>obtain ⟨z,its,n,r,e⟩:=x;exact ⟨z,its,n,r,k _ _ (.inl rfl) e⟩
 |tup xs=>obtain ⟨z,its,r,⟨ob,e,c⟩,nd⟩:=x;exact ⟨z,its,r,⟨ob,k _ _ (.inl rfl) e,c⟩,fun o e2=>by rw [k _ _ (.inl rfl) e] at e2;cases e2;exact nd _ e⟩
 |own y=>obtain ⟨ob,e⟩:=x;exact ⟨ob,k _ _ (.inl rfl) e⟩
 |xd fs=>obtain ⟨mA,⟨od,es,ep,e,c⟩,r⟩:=x;exact ⟨mA,⟨od,es,ep,k _ _ (.inl rfl) e,c⟩,r⟩
 |frz ob u ih=>obtain ⟨e,q⟩:=x;exact ⟨k _ _ (.inl rfl) e,ih q⟩
 |tbl ps=>
  have e:h.get? a=some {cls:=.none,data:=.fields ps}:=x
  show h'.get? a=some {cls:=.none,data:=.fields ps}
  exact k a _ (.inl rfl) e
 |ext φ=>obtain ⟨p,⟨o,e⟩,st⟩:=x;exact ⟨st _ _ p fun o q=>k _ _ (.inl rfl) q,⟨o,k _ _ (.inl rfl) e⟩,st⟩
 |mex φ=>obtain ⟨p,⟨o,e⟩,st⟩:=x;exact ⟨st _ _ p fun o q=>k _ _ (.inl rfl) q,⟨o,k _ _ (.inl rfl) e⟩,st⟩
 |dct φ=>obtain ⟨p,⟨o,e⟩,st⟩:=x;exact ⟨st _ _ p fun o q=>k _ _ (.inl rfl) q,⟨o,k _ _ (.inl rfl) e⟩,st⟩
theorem HOk.lt (x:HOk P w H h) (e:H a=some o):a<h.objs.size:=(x a o e).lt
theorem HOk.fresh (x:HOk P w H h) (e:h.objs.size≤a):H a=none:=by
 cases q:H a with
 |none=>rfl
 |some u=>exact absurd (AV (x.lt q) e) (Cy _)
theorem HOk.kept (x:HOk P w H h) (k:∀b u,h.get? b=some u→h'.get? b=some u):HOk P w H h':=fun a o e=>
 (x a o e).stay (fun b u _ q=>k b u q) (fun _ q=>q) fun _ _ q=>q
theorem HOk.laid (x:HOk P w H h) (k:∀b u,h.get? b=some u→h'.get? b=some u) (hp:h.objs.size≤a) (new:ObjOk P w (An H a o) h' a o):HOk P w (An H a o) h':=fun b u e=>by
 have hn:=x.fresh hp
 by_cases hb:b=a
 ·subst hb;rw [B3] at e;cases e;exact new
 ·rw [Ao hb] at e
  exact (x b u e).stay (fun c v _ q=>k c v q) (fun c q=>by rw [Ao (Bz q hn)];exact q) fun c xs q=>by rw [Ao (Bz q hn)];exact q
end
def Rd (H:Hp) (a:Addr) (u:HO):Prop:=H a=some u∨∃o,H a=some (.frz o u)
theorem Rd.ok {P:Program} {w:World} {H:Hp} {h:Heap} {a:Addr} {u:HO} (r:Rd H a u) (x:HOk P w H h):ObjOk P w H h a u:=by
 rcases r with r |⟨o,r⟩
 ·exact x a u r
 ·obtain ⟨_,q⟩:=x a _ r
  exact q
def JG:Option HO→Prop
 |some (.lst _)=>True
 |some (.ext _)=>True
 |some (.mex _)=>True
 |some (.dct _)=>True
 |_=>False
section
variable {P:Program} {w:World} {H:Hp} {h h':Heap} {x e:Addr} {o':HO}
theorem HOk.write (ok:HOk P w H h) (mu:JG (H x)) (he:e=x∨H e=some (.own x)) (k:∀b u,b≠e→h.get? b=some u→h'.get? b=some u) (heo:∃u,h'.get? e=some u)
 (new:ObjOk P w (An H x o') h' x o'):HOk P w (An H x o') h':=fun b u q=>by
 have nown:∀c y,H c=some (.own y)→c≠x:=fun c y r z=>by subst z;rw [r] at mu;exact mu
 have ntup:∀c xs,H c=some (.tup xs)→c≠x:=fun c xs r z=>by subst z;rw [r] at mu;exact mu
 by_cases hb:b=x
 ·subst hb;rw [B3] at q;cases q;exact new
 ·rw [Ao hb] at q
  by_cases hbe:b=e
  ·have q':H b=some (.own x):=by
    rcases he with z |z
    ·exact absurd (hbe.trans z) hb
    ·rw [hbe];exact z
   rw [q] at q';cases q'
   obtain ⟨v,hv⟩:=heo
   exact ⟨v,by rw [hbe];exact hv⟩
  ·refine (ok b u q).stay (fun c v hc r=>k c v ?_ r) (fun c r=>by rw [Ao (nown c b r)];exact r) fun c xs r=>by rw [Ao (ntup c xs r)];exact r
   rcases hc with rfl |hc
   ·exact hbe
   ·rintro rfl
    rcases he with z |z
    ·exact nown c b hc z
    ·rw [hc] at z;cases z;exact hb rfl
end
structure Un (fs ex:List Addr) (H H':Hp) (h h':Heap):Prop where
 keep:∀b o,h.get? b=some o→H b=none→b∉fs→b∉ex→h'.get? b=some o
 slot:∀b o,h.get? b=some o→H b=none→b∈fs→b∉ex→∃sl,h'.get? b=some {o with slots:=sl}
 free:∀b o,h.get? b=some o→H b=none→b∉ex→H' b=none
 there:∀b o,h.get? b=some o→b∉ex→∃o',h'.get? b=some o'
 tups:∀b xs,H b=some (.tup xs)→H' b=some (.tup xs)
 frzs:∀b o u,H b=some (.frz o u)→H' b=some (.frz o u)
 tbls:∀b ps,H b=some (.tbl ps)→∃more,H' b=some (.tbl (ps++more))
section
variable {fs fs' ex ex':List Addr} {H H1 H2:Hp} {h h1 h2 h':Heap} {a x e:Addr} {o:HO}
theorem Un.any (u:Un fs ex H H1 h h1) {b:Addr} {ob:Obj} (q:h.get? b=some ob) (n:H b=none) (hx:b∉ex):∃sl,h1.get? b=some {ob with slots:=sl}:=by
 by_cases hb:b∈fs
 ·exact u.slot b ob q n hb hx
 ·exact ⟨ob.slots,u.keep b ob q n hb hx⟩
theorem Un.kept (k:∀b u,h.get? b=some u→h'.get? b=some u):Un fs ex H H h h':=
 ⟨fun b ob q _ _ _=>k b ob q,fun b ob q _ _ _=>⟨ob.slots,k b ob q⟩,fun _ _ _ n _=>n,fun b ob q _=>⟨ob,k b ob q⟩,fun _ _ q=>q,fun _ _ _ q=>q,fun _ ps q=>⟨#[],by rw [q];simp⟩⟩
theorem Un.refl:Un fs ex H H h h:=Un.kept fun _ _ q=>q
theorem Un.laid (k:∀b u,h.get? b=some u→h'.get? b=some u) (hp:h.objs.size≤a) (hn:H a=none):Un fs ex H (An H a o) h h' where
 keep:=fun b u q _ _ _=>k b u q
 slot:=fun b u q _ _ _=>⟨u.slots,k b u q⟩
 free:=fun b u q n _=>by rw [Ao (Be (AV (Av q) hp))];exact n
 there:=fun b u q _=>⟨u,k b u q⟩
 tups:=fun b xs q=>by rw [Ao (Bz q hn)];exact q
 frzs:=fun b u xs q=>by rw [Ao (Bz q hn)];exact q
 tbls:=fun b ps q=>⟨#[],by rw [Ao (Bz q hn),q];simp⟩
theorem Un.write (mu:JG (H x)) (he:e=x∨H e=some (.own x)) (k:∀b u,b≠e→h.get? b=some u→h'.get? b=some u) (heo:∃u,h'.get? e=some u):Un fs ex H (An H x o) h h':=by
 have hx:∀b,H b=none→b≠x:=fun b n z=>by subst z;rw [n] at mu;exact mu
 have hb:∀b,H b=none→b≠e:=fun b n z=>by
  subst z
  rcases he with r |r
  ·exact hx b n r
  ·rw [n] at r;cases r
 have hm:∀b u,H b=some u→¬JG (some u)→b≠x:=fun b u q nm z=>by subst z;rw [q] at mu;exact nm mu
 refine ⟨fun b u q n _ _=>k b u (hb b n) q,fun b u q n _ _=>⟨u.slots,k b u (hb b n) q⟩,fun b u q n _=>by rw [Ao (hx b n)];exact n,fun b u q _=>?_,
  fun b xs q=>by rw [Ao (hm b _ q fun z=>z)];exact q,fun b u xs q=>by rw [Ao (hm b _ q fun z=>z)];exact q,fun b ps q=>⟨#[],by rw [Ao (hm b _ q fun z=>z),q];simp⟩⟩
 by_cases hbe:b=e
 ·subst hbe;exact heo
 ·exact ⟨u,k b u hbe q⟩
end
def JH (h:Heap) (H:Hp):List Addr:=(List.range h.objs.size).filter fun a=>(H a).isSome
def Em (h:Heap) (H:Hp):Heap:=PySem.W.hideAll h (JH h H)
theorem Ss (h:Heap) (H:Hp):(Em h H).objs.size=h.objs.size:=PySem.W.hideAll_size _ _
theorem Su {h:Heap} {H:Hp} {b:Addr} {o:Obj} (e:h.get? b=some o) (n:H b=none):(Em h H).get? b=some o:=
 PySem.W.hideAll_get _ e fun hm=>by
  have q:(H b).isSome=true:=(qb6.mp hm).2
  rw [n] at q;simp at q
theorem Sv {h:Heap} {H:Hp} {b:Addr} {o:Obj} (e:(Em h H).get? b=some o):h.get? b=some o∧H b=none:=by
 have e':h.get? b=some o:=PySem.W.of_hideAll (JH h H) e
 refine ⟨e',?_⟩
 cases q:H b with
 |none=>rfl
 |some x=>
  have hm:b∈JH h H:=qb6.mpr ⟨qbG.mpr (Av e'),by simp [q]⟩
  have z:(Em h H).get? b=none:=PySem.W.hideAll_none (JH h H) hm
  rw [z] at e;cases e
def Sx (g h:Heap) (L:Addr):List (Addr×Obj):=(List.range h.objs.size).filterMap fun a=>if a=L∨(g.get? a).isSome=true then none else (h.get? a).map fun o=>(a,o)
def rest (g h:Heap) (L d:Addr):List (Addr×Obj):=(Sx g h L).filter fun p=>decide (p.1≠d)
structure Mod (K:PySem.W.Frag) (mg:Str→Option Value) (base:Heap):Prop where
 kin:K.In base
 glob:base.Ns mainGlobals mg
 blt:∃mb,base.Ns builtinsNs mb∧∀x:Str,x≠"__name__"→mb x=bootBuiltins x
 nolimit:base.NoLimit
structure Cx where
 prog:Program
 w:World
 K:PySem.W.Frag
 mg:Str→Option Value
 base:Heap
 A:Around
 N:List Str
 s₀:Shared
 H₀:Hp
 env:Env
 outer:List Env
 stack:List Env
 ex:List Addr
 fn:Str→Bool
 calm:Bool
 pn:List (Addr×Obj)
 xe:Value→Shared→Prop
def frs (l:List Env):List Addr:=l.filterMap (·.frame)
abbrev Cx.fs (X:Cx):List Addr:=frs X.outer
def JI (sc:Scope) (x:Str):Prop:=sc.names.lookup x=some .local∨sc.names.lookup x=some .cell∨sc.names.lookup x=some .free
def G9 (sc:Scope) (x:Str):Prop:=sc.names.lookup x=some .local∨sc.names.lookup x=some .cell
def N9 (env:Env) (h:Heap) (m:Str→Option Value) (x:Str) (u:Value):Prop:=
 (env.kindOf x=some .local∧m x=some u)∨((env.kindOf x=some .cell∨env.kindOf x=some .free)∧∃c,env.cells.lookup x=some c∧h.IsCell c (some u))
structure Cx.Ok (X:Cx):Prop where
 mod:Mod X.K X.mg X.base
 kind:X.env.scope.kind=.function
 glob:X.env.globals=mainGlobals
 blt:X.env.builtins=builtinsNs
 above:X.s₀.heap.objs.size≤X.env.locals
 inj:∀x y c,X.env.cells.lookup x=some c→X.env.cells.lookup y=some c→x=y
 has:∀x,(X.env.kindOf x=some .cell∨X.env.kindOf x=some .free)→∃c,X.env.cells.lookup x=some c
 cab:∀x c,X.fn x=true→X.env.cells.lookup x=some c→X.s₀.heap.objs.size≤c
 hd:X.calm=true→X.A.handled=none
 frames:X.A.frames=some X.stack
 stk:X.stack=X.outer∨(X.stack=X.env::X.outer∧X.env.frame=some X.env.locals)
 exf:∀b∈X.ex,b≠X.env.locals∧∀x c,X.env.cells.lookup x=some c→c≠b
 bs:∀b o,X.base.get? b=some o→X.s₀.heap.get? b=some o∧X.H₀ b=none
 bsz:X.base.objs.size≤X.s₀.heap.objs.size
 noex:∀b o,X.base.get? b=some o→b∉X.ex
 exfs:∀b∈X.ex,b∉X.fs
 funs:X.s₀.heap.FunFrames X.base X.outer
 frf:∀b∈X.fs,X.H₀ b=none
structure Inv (X:Cx) (pins:List (Addr×Obj)) (σ:List (Option V)) (H:Hp) (s:Shared):Prop where
 ok:X.Ok
 os:s.os=X.s₀.os
 bare:AllBare s.gens
 base:Un X.fs X.ex X.H₀ H X.s₀.heap s.heap
 loc:∃m,s.heap.Ns X.env.locals m∧∀(i:Nat) (x:Str) (v:V),X.N[i]?=some x→σ[i]?=some (some v)→JI X.env.scope x→∃u,RelV v u∧N9 X.env s.heap m x u
 cell:∀x c,X.env.cells.lookup x=some c→∃v,s.heap.IsCell c v
 free:H X.env.locals=none
 freeC:∀x c,X.env.cells.lookup x=some c→H c=none
 pin:∀p∈X.pn++pins,s.heap.get? p.1=some p.2∧H p.1=none∧p.1≠X.env.locals∧p.1∉X.fs∧∀v,p.2.data≠.cell v
 hok:HOk X.prog X.w H s.heap
 len:σ.length=X.N.length
section
variable {X:Cx} {pins:List (Addr×Obj)} {σ:List (Option V)} {H H':Hp} {s:Shared} {h':Heap}
theorem Cx.Ok.nofr (ok:X.Ok) {b:Addr} {o:Obj} (e:X.base.get? b=some o):b∉X.fs:=fun hb=>by
 have:=(ok.funs.mem hb).1
 rw [e] at this;cases this
theorem Inv.bs (I:Inv X pins σ H s):∀b o,X.base.get? b=some o→s.heap.get? b=some o∧H b=none:=fun b o e=>
 ⟨I.base.keep b o (I.ok.bs b o e).1 (I.ok.bs b o e).2 (I.ok.nofr e) (I.ok.noex b o e),I.base.free b o (I.ok.bs b o e).1 (I.ok.bs b o e).2 (I.ok.noex b o e)⟩
theorem Inv.bk (I:Inv X pins σ H s):∀b o,X.base.get? b=some o→s.heap.get? b=some o:=fun b o e=>(I.bs b o e).1
theorem Inv.mod (I:Inv X pins σ H s):Mod X.K X.mg X.base:=I.ok.mod
theorem Inv.kIn (I:Inv X pins σ H s):X.K.In s.heap:=I.ok.mod.kin.keeps I.bk
theorem Inv.nolimit (I:Inv X pins σ H s):s.heap.NoLimit:=I.ok.mod.nolimit.keeps I.bk
theorem Inv.lt (I:Inv X pins σ H s):X.env.locals<s.heap.objs.size:=let ⟨_,hn,_⟩:=I.loc;hn.lt
theorem Inv.sz (I:Inv X pins σ H s):X.s₀.heap.objs.size≤s.heap.objs.size:=BK I.ok.above (E7 I.lt)
theorem Inv.nofs (I:Inv X pins σ H s) {a:Addr} (h:s.heap.objs.size≤a):a∉X.fs:=fun hb=>by
 obtain ⟨_,o,ho,_⟩:=I.ok.funs.mem hb
 exact absurd (AV (Av ho) (BK I.sz h)) (Cy _)
theorem Inv.cne (I:Inv X pins σ H s):∀x c,X.env.cells.lookup x=some c→c≠X.env.locals:=fun x c e z=>by
 obtain ⟨v,o,ho,hd⟩:=I.cell x c e
 obtain ⟨m,⟨o',es,ep,ho',hd',_⟩,_⟩:=I.loc
 rw [z,ho'] at ho;cases ho;rw [hd'] at hd;cases hd
theorem Inv.funs (I:Inv X pins σ H s):s.heap.FunFrames X.base X.outer:=by
 have all:∀(l:List Env),(∀b∈frs l,b∈X.fs)→X.s₀.heap.FunFrames X.base l→s.heap.FunFrames X.base l:=by
  intro l
  induction l with
  |nil=>intro _ _;trivial
  |cons env r ih=>
   intro hs hl
   obtain ⟨hk,⟨L,o,hf,hn,ho,hd⟩,hr⟩:=hl
   have hL:L∈X.fs:=hs L (by unfold frs;rw [G5,hf];exact AO)
   obtain ⟨sl,e⟩:=I.base.slot L o ho (I.ok.frf L hL) hL fun z=>I.ok.exfs L z hL
   exact ⟨hk,⟨L,_,hf,hn,e,hd⟩,ih (fun b hb=>hs b (by unfold frs;rw [G5,hf];exact A1 _ hb)) hr⟩
 exact all X.outer (fun _ hb=>hb) I.ok.funs
theorem Inv.stack (I:Inv X pins σ H s):s.heap.FunFrames X.base X.stack:=by
 rcases I.ok.stk with e |⟨e,hf⟩
 ·rw [e];exact I.funs
 ·rw [e]
  obtain ⟨m,hn,_⟩:=I.loc
  refine .cons (by rw [I.ok.kind];decide) hf hn ?_ I.funs
  exact Heap.get?_none_of_le (BK I.ok.bsz I.ok.above)
theorem Inv.stkSub (I:Inv X pins σ H s):∀b∈frs X.stack,b∈X.env.locals::X.fs:=fun b hb=>by
 rcases I.ok.stk with e |⟨e,hf⟩
 ·rw [e] at hb;exact A1 _ hb
 ·rw [e] at hb
  unfold frs at hb
  rw [G5,hf] at hb
  exact hb
theorem Inv.stkFree (I:Inv X pins σ H s):∀b∈frs X.stack,H b=none:=fun b hb=>by
 rcases qa8.mp (I.stkSub b hb) with e |hb
 ·rw [e];exact I.free
 ·obtain ⟨_,o,ho,_⟩:=I.ok.funs.mem hb
  exact I.base.free b o ho (I.ok.frf b hb) fun z=>I.ok.exfs b z hb
theorem Inv.step {g':Array GenState} {t':Nat} {d':Drawn} {ch:List Addr} (I:Inv X pins σ H s)
 (hch:∀b∈ch,(b∈X.ex∨X.s₀.heap.objs.size≤b)∧b≠X.env.locals∧(∀x c,X.env.cells.lookup x=some c→c≠b)∧∀p∈X.pn++pins,p.1≠b)
 (keep:∀b o,b≠X.env.locals→b∉X.fs→b∉ch→s.heap.get? b=some o→H b=none→h'.get? b=some o)
 (slot:∀b o,b≠X.env.locals→b∈X.fs→b∉ch→s.heap.get? b=some o→H b=none→∃sl,h'.get? b=some {o with slots:=sl}) (free:∀b o,b∉ch→s.heap.get? b=some o→H b=none→H' b=none)
 (there:∀b o,b∉ch→s.heap.get? b=some o→∃o',h'.get? b=some o')
 (tups:∀b xs,H b=some (.tup xs)→H' b=some (.tup xs)) (frzs:∀b o u,H b=some (.frz o u)→H' b=some (.frz o u)) (tbls:∀b ps,H b=some (.tbl ps)→∃more,H' b=some (.tbl (ps++more)))
 (ns:∀m,s.heap.Ns X.env.locals m→h'.Ns X.env.locals m) (hok:HOk X.prog X.w H' h') (hg:AllBare g'):
 Inv X pins σ H' {s with heap:=h',gens:=g',drawn:=d',toks:=t'}:=by
 have neL:∀b o,X.s₀.heap.get? b=some o→b≠X.env.locals:=fun b o e=>Be (AV (Av e) I.ok.above)
 have neC:∀b o,X.s₀.heap.get? b=some o→b∉X.ex→b∉ch:=fun b o e hx hb=>by
  rcases (hch b hb).1 with z |z
  ·exact hx z
  ·exact absurd (AV (Av e) z) (Cy _)
 have cellK:∀x c,X.env.cells.lookup x=some c→∀v,s.heap.IsCell c v→h'.IsCell c v:=fun x c e v z1_=>by
  obtain ⟨o,ho,hd⟩:=z1_
  have nch:c∉ch:=fun z=>(hch c z).2.2.1 x c e rfl
  by_cases hc:c∈X.fs
  ·obtain ⟨sl,q⟩:=slot c o (I.cne x c e) hc nch ho (I.freeC x c e)
   exact ⟨_,q,hd⟩
  ·exact ⟨o,keep c o (I.cne x c e) hc nch ho (I.freeC x c e),hd⟩
 refine ⟨I.ok,I.os,hg,⟨fun b o e n hb hx=>?_,fun b o e n hb hx=>?_,fun b o e n hx=>?_,fun b o e hx=>?_,fun b xs e=>tups b xs (I.base.tups b xs e),fun b o xs e=>frzs b o xs (I.base.frzs b o xs e),fun b ps e=>?_⟩,?_,fun x c e=>?_,?_,fun x c e=>?_,fun p hp=>?_,hok,I.len⟩
 ·exact keep b o (neL b o e) hb (neC b o e hx) (I.base.keep b o e n hb hx) (I.base.free b o e n hx)
 ·obtain ⟨sl,e1⟩:=I.base.slot b o e n hb hx
  obtain ⟨sl',e2⟩:=slot b _ (neL b o e) hb (neC b o e hx) e1 (I.base.free b o e n hx)
  exact ⟨sl',e2⟩
 ·obtain ⟨o',e1⟩:=I.base.there b o e hx
  exact free b o' (neC b o e hx) e1 (I.base.free b o e n hx)
 ·obtain ⟨o',e1⟩:=I.base.there b o e hx
  exact there b o' (neC b o e hx) e1
 ·obtain ⟨m1,e1⟩:=I.base.tbls b ps e
  obtain ⟨m2,e2⟩:=tbls b _ e1
  exact ⟨m1++m2,by rw [e2,Array.append_assoc]⟩
 ·obtain ⟨m,hn,hl⟩:=I.loc
  refine ⟨m,ns m hn,fun i x v e1 e2 e3=>?_⟩
  obtain ⟨u,r,l⟩:=hl i x v e1 e2 e3
  refine ⟨u,r,?_⟩
  rcases l with l |⟨k,c,e,z⟩
  ·exact .inl l
  ·exact .inr ⟨k,c,e,cellK x c e _ z⟩
 ·obtain ⟨v,z⟩:=I.cell x c e
  exact ⟨v,cellK x c e v z⟩
 ·obtain ⟨m,⟨o,_,_,ho,_⟩,_⟩:=I.loc
  exact free _ o (fun z=>(hch _ z).2.1 rfl) ho I.free
 ·obtain ⟨v,o,ho,hd⟩:=I.cell x c e
  exact free c o (fun z=>(hch c z).2.2.1 x c e rfl) ho (I.freeC x c e)
 ·obtain ⟨e,n,ne,nf,d⟩:=I.pin p hp
  have nch:p.1∉ch:=fun z=>(hch p.1 z).2.2.2 p hp rfl
  exact ⟨keep p.1 p.2 ne nf nch e n,free p.1 p.2 nch e n,ne,nf,d⟩
theorem Inv.un {t':Nat} (I:Inv X pins σ H s) (u:Un X.fs [] H H' s.heap h') (hok:HOk X.prog X.w H' h'):Inv X pins σ H' {s with heap:=h',toks:=t'}:=by
 obtain ⟨m,⟨o,es,ep,ho,r⟩,_⟩:=id I.loc
 obtain ⟨sl,hL⟩:=u.any ho I.free (by simp)
 exact I.step (g':=s.gens) (d':=s.drawn) (ch:=[]) (fun _ z=>nomatch z) (fun b o _ hb _ e n=>u.keep b o e n hb (by simp)) (fun b o _ hb _ e n=>u.slot b o e n hb (by simp)) (fun b o _ e n=>u.free b o e n (by simp)) (fun b o _ e=>u.there b o e (by simp)) u.tups u.frzs u.tbls (fun m' hm=>by
  obtain ⟨o',es',ep',ho',r'⟩:=hm
  rw [ho] at ho';cases ho'
  exact ⟨_,es',ep',hL,r'⟩) hok I.bare
theorem Inv.call {g':Array GenState} {t':Nat} {d':Drawn} {ch:List Addr} (I:Inv X pins σ H s) (u:Un (frs X.stack) ch H H' s.heap h') (hok:HOk X.prog X.w H' h') (hg:AllBare g')
 (hch:∀b∈ch,(b∈X.ex∨X.s₀.heap.objs.size≤b)∧b≠X.env.locals∧(∀x c,X.env.cells.lookup x=some c→c≠b)∧∀p∈X.pn++pins,p.1≠b):
 Inv X pins σ H' {s with heap:=h',gens:=g',drawn:=d',toks:=t'}:=by
 obtain ⟨m,⟨o,es,ep,ho,r⟩,_⟩:=id I.loc
 obtain ⟨sl,hL⟩:=u.any ho I.free fun z=>(hch _ z).2.1 rfl
 exact I.step (ch:=ch) hch (fun b o hL hb hc e n=>u.keep b o e n (fun z=>(qa8.mp (I.stkSub b z)).elim hL hb) hc) (fun b o _ _ hc e n=>u.any e n hc) (fun b o hc e n=>u.free b o e n hc) (fun b o hc e=>u.there b o e hc) u.tups u.frzs u.tbls (fun m' hm=>by
  obtain ⟨o',es',ep',ho',r'⟩:=hm
  rw [ho] at ho';cases ho'
  exact ⟨_,es',ep',hL,r'⟩) hok hg
theorem Inv.turned {t':Nat} {it:Addr} (I:Inv X pins σ H s) (k:∀b o,b≠it→s.heap.get? b=some o→h'.get? b=some o) (hn:H it=none) (hL:it≠X.env.locals)
 (h1:it∈X.ex∨X.s₀.heap.objs.size≤it) (h2:∀x c,X.env.cells.lookup x=some c→c≠it) (h3:∀p∈X.pn++pins,p.1≠it):Inv X pins σ H {s with heap:=h',toks:=t'}:=by
 have nit:∀b u,H b=some u→b≠it:=fun b u e z=>by rw [z,hn] at e;cases e
 refine I.step (g':=s.gens) (d':=s.drawn) (ch:=[it]) (fun b hb=>?_) (fun b o _ _ hc e _=>k b o (fun z=>hc (by simp [z])) e) (fun b o _ _ hc e _=>⟨o.slots,k b o (fun z=>hc (by simp [z])) e⟩) (fun _ _ _ _ n=>n)
  (fun b o hc e=>⟨o,k b o (fun z=>hc (by simp [z])) e⟩) (fun _ _ e=>e) (fun _ _ _ e=>e) (fun b ps e=>⟨#[],by rw [e];simp⟩) (fun m hm=>?_) (fun b u e=>?_) I.bare
 ·have e:b=it:=by simpa using hb
  subst e
  exact ⟨h1,hL,h2,h3⟩
 ·obtain ⟨o,es,ep,ho,r⟩:=hm
  exact ⟨o,es,ep,k _ o (Ne.symm hL) ho,r⟩
 ·refine (I.hok b u e).stay (fun c v hc q=>k c v ?_ q) (fun _ q=>q) fun _ _ q=>q
  rcases hc with z |z
  ·rw [z];exact nit b u e
  ·exact nit c _ z
theorem Inv.tok (I:Inv X pins σ H s) (t:Nat):Inv X pins σ H {s with toks:=t}:=I.un (h':=s.heap) (t':=t) Un.refl I.hok
theorem Inv.kept {t':Nat} (I:Inv X pins σ H s) (k:∀b u,s.heap.get? b=some u→h'.get? b=some u):Inv X pins σ H {s with heap:=h',toks:=t'}:=I.un (Un.kept k) (I.hok.kept k)
theorem Inv.laid {a:Addr} {o:HO} {t':Nat} (I:Inv X pins σ H s) (k:∀b u,s.heap.get? b=some u→h'.get? b=some u) (hp:s.heap.objs.size≤a) (new:ObjOk X.prog X.w (An H a o) h' a o):
 Inv X pins σ (An H a o) {s with heap:=h',toks:=t'}:=I.un (Un.laid k hp (I.hok.fresh hp)) (I.hok.laid k hp new)
theorem Inv.write {x e:Addr} {o:HO} {t':Nat} (I:Inv X pins σ H s) (mu:JG (H x)) (he:e=x∨H e=some (.own x)) (k:∀b u,b≠e→s.heap.get? b=some u→h'.get? b=some u) (heo:∃u,h'.get? e=some u)
 (new:ObjOk X.prog X.w (An H x o) h' x o):Inv X pins σ (An H x o) {s with heap:=h',toks:=t'}:=I.un (Un.write mu he k heo) (I.hok.write mu he k heo new)
theorem Inv.weak {σ':List (Option V)} (I:Inv X pins σ H s) (hl:σ'.length=σ.length) (w:∀(i:Nat) v,σ'[i]?=some (some v)→σ[i]?=some (some v)):Inv X pins σ' H s:=
 ⟨I.ok,I.os,I.bare,I.base,let ⟨m,hn,hl'⟩:=I.loc;⟨m,hn,fun i x v e1 e2 e3=>hl' i x v e1 (w i v e2) e3⟩,I.cell,I.free,I.freeC,I.pin,I.hok,hl.trans I.len⟩
theorem Inv.pins_of {pins':List (Addr×Obj)} (I:Inv X pins σ H s) (h:∀p∈pins',s.heap.get? p.1=some p.2∧H p.1=none∧p.1≠X.env.locals∧p.1∉X.fs∧∀v,p.2.data≠.cell v):Inv X pins' σ H s:=
 ⟨I.ok,I.os,I.bare,I.base,I.loc,I.cell,I.free,I.freeC,fun p hp=>(qaM.mp hp).elim (fun z=>I.pin p (G0 _ z)) (h p),I.hok,I.len⟩
theorem Lo {N:List Str} (hN:N.Nodup) {i j:Nat} {x:Str} (a:N[i]?=some x) (b:N[j]?=some x):i=j:=by
 obtain ⟨h1,e1⟩:=qa4.mp a
 obtain ⟨h2,e2⟩:=qa4.mp b
 exact (List.getElem_inj hN).mp (e1.trans e2.symm)
theorem JJ {M:Model} {A:Around} {E:Value→Shared→Prop} {i:Nat} {x:Str} {v:V} {u:Value} {Q:Unit→Shared→Prop} (I:Inv X pins σ H s) (hN:X.N.Nodup) (hi:X.N[i]?=some x) (hx:G9 X.env.scope x) (r:RelV v u)
 (h:∀s',Inv X pins (σ.set i (some v)) H s'→(∃a,Heap.SameBut a s.heap s'.heap∧(a=X.env.locals∨X.env.cells.lookup x=some a))→Q () s') (hf:X.fn x=true∨X.env.scope.names.lookup x=some .local:=by first |exact .inl rfl |exact .inr rfl |assumption):wpAny M A (storeName X.env x u) Q E s:=by
 obtain ⟨m,hn,hl⟩:=id I.loc
 have hcls:(X.env.scope.kind==.class||(X.env.scope.kind==.module&&X.env.locals != X.env.globals))=false:=by rw [I.ok.kind];rfl
 have hiσ:i < σ.length:=by rw [I.len];exact (qa4.mp hi).1
 have cne:=I.cne
 have tracked:∀{a:Addr} {h':Heap},(∃o,s.heap.get? a=some o∧H a=none)→Heap.SameBut a s.heap h'→HOk X.prog X.w H h':=fun {a h'} ha hs b ob e=>by
  obtain ⟨_,_,hfree⟩:=ha
  refine (I.hok b ob e).stay (fun c w' hc q=>(hs.2 c ?_).trans q) (fun _ q=>q) fun _ _ q=>q
  rintro rfl
  rcases hc with rfl |hc
  ·rw [hfree] at e;cases e
  ·rw [hfree] at hc;cases hc
 rcases hx with hk |hk
 ·refine wpAny_storeName_local hk hn (fun h' hn' hs=>?_) hcls
  obtain ⟨oL,_,_,hoL,_⟩:=id hn
  refine h _ ⟨I.ok,I.os,I.bare,⟨fun b o e n hb hx=>?_,fun b o e n hb hx=>?_,I.base.free,fun b o e hx=>?_,I.base.tups,I.base.frzs,I.base.tbls⟩,⟨_,hn',fun j y v' e1 e2 e3=>?_⟩,fun y c e=>?_,I.free,I.freeC,fun p hp=>?_,tracked ⟨oL,hoL,I.free⟩ hs,by simpa using I.len⟩ ⟨_,hs,.inl rfl⟩
  ·exact (hs.2 b (Be (AV (Av e) I.ok.above))).trans (I.base.keep b o e n hb hx)
  ·obtain ⟨sl,e1⟩:=I.base.slot b o e n hb hx
   exact ⟨sl,(hs.2 b (Be (AV (Av e) I.ok.above))).trans e1⟩
  ·obtain ⟨o',e1⟩:=I.base.there b o e hx
   exact ⟨o',(hs.2 b (Be (AV (Av e) I.ok.above))).trans e1⟩
  ·by_cases hj:j=i
   ·subst hj
    rw [hi] at e1;cases e1
    rw [Cu hiσ] at e2
    cases e2
    exact ⟨u,r,.inl ⟨hk,by simp⟩⟩
   ·rw [BV (Ne.symm hj)] at e2
    obtain ⟨u',r',q⟩:=hl j y v' e1 e2 e3
    refine ⟨u',r',?_⟩
    rcases q with ⟨k,e⟩ |⟨k,c,e,z⟩
    ·refine .inl ⟨k,?_⟩
     have:y≠x:=fun e=>hj (Lo hN e1 (e ▸ hi))
     simp [this,e]
    ·exact .inr ⟨k,c,e,z.sameBut hs (cne y c e)⟩
  ·obtain ⟨w',z⟩:=I.cell y c e
   exact ⟨w',z.sameBut hs (cne y c e)⟩
  ·obtain ⟨e,n,ne,nf,d⟩:=I.pin p hp
   exact ⟨(hs.2 p.1 ne).trans e,n,ne,nf,d⟩
 ·have hfn:X.fn x=true:=by
   rcases hf with z |z
   ·exact z
   ·rw [z] at hk;cases hk
  obtain ⟨c,hc⟩:=I.ok.has x (.inl hk)
  obtain ⟨w',z⟩:=I.cell x c hc
  refine wpAny_storeName_cell I.ok.kind hk hc z (fun h' hc' hs=>?_)
  obtain ⟨oc,hoc,hocd⟩:=id z
  refine h {s with heap:=h'} ⟨I.ok,I.os,I.bare,⟨fun b o e n hb hx=>?_,fun b o e n hb hx=>?_,I.base.free,fun b o e hx=>?_,I.base.tups,I.base.frzs,I.base.tbls⟩,⟨m,hn.sameBut hs (Ne.symm (cne x c hc)),fun j y v' e1 e2 e3=>?_⟩,fun y c' e=>?_,I.free,I.freeC,fun p hp=>?_,tracked ⟨oc,hoc,I.freeC x c hc⟩ hs,by simpa using I.len⟩ ⟨c,hs,.inr hc⟩
  ·exact (hs.2 b (Be (AV (Av e) (I.ok.cab x c hfn hc)))).trans (I.base.keep b o e n hb hx)
  ·obtain ⟨sl,e1⟩:=I.base.slot b o e n hb hx
   exact ⟨sl,(hs.2 b (Be (AV (Av e) (I.ok.cab x c hfn hc)))).trans e1⟩
  ·obtain ⟨o',e1⟩:=I.base.there b o e hx
   exact ⟨o',(hs.2 b (Be (AV (Av e) (I.ok.cab x c hfn hc)))).trans e1⟩
  ·by_cases hj:j=i
   ·subst hj
    rw [hi] at e1;cases e1
    rw [Cu hiσ] at e2
    cases e2
    exact ⟨u,r,.inr ⟨.inl hk,c,hc,hc'⟩⟩
   ·rw [BV (Ne.symm hj)] at e2
    obtain ⟨u',r',q⟩:=hl j y v' e1 e2 e3
    refine ⟨u',r',?_⟩
    rcases q with q |⟨k,c',e,z'⟩
    ·exact .inl q
    ·refine .inr ⟨k,c',e,z'.sameBut hs ?_⟩
     rintro rfl
     exact hj (Lo hN e1 (I.ok.inj _ _ _ e hc ▸ hi))
  ·by_cases hcc:c'=c
   ·subst hcc;exact ⟨_,hc'⟩
   ·obtain ⟨w2,z2⟩:=I.cell y c' e
    exact ⟨w2,z2.sameBut hs hcc⟩
  ·obtain ⟨e,n,ne,nf,d⟩:=I.pin p hp
   refine ⟨(hs.2 p.1 ?_).trans e,n,ne,nf,d⟩
   intro q
   rw [q,hoc] at e
   have q':oc=p.2:=Option.some.inj e
   exact d w' (by rw [←q'];exact hocd)
theorem JK {M:Model} {A:Around} {E:Value→Shared→Prop} {i:Nat} {x:Str} {v:V} {u:Value} {Q:Unit→Shared→Prop} (I:Inv X pins σ H s) (hN:X.N.Nodup) (hi:X.N[i]?=some x) (hx:G9 X.env.scope x) (r:RelV v u)
 (h:∀s',Inv X pins (σ.set i (some v)) H s'→Q () s') (hf:X.fn x=true∨X.env.scope.names.lookup x=some .local:=by first |exact .inl rfl |exact .inr rfl |assumption):wpAny M A (storeName X.env x u) Q E s:=
 JJ I hN hi hx r (fun s' I' _=>h s' I') hf
theorem Inv.call' {s':Shared} {ch:List Addr} (I:Inv X pins σ H s) (ho:s'.os=s.os) (u:Un (frs X.stack) ch H H' s.heap s'.heap) (hok:HOk X.prog X.w H' s'.heap) (hg:AllBare s'.gens)
 (hch:∀b∈ch,(b∈X.ex∨X.s₀.heap.objs.size≤b)∧b≠X.env.locals∧(∀x c,X.env.cells.lookup x=some c→c≠b)∧∀p∈X.pn++pins,p.1≠b):Inv X pins σ H' s':=by
 obtain ⟨h',g',d',t',o'⟩:=s'
 have e:o'=s.os:=ho
 subst e
 exact I.call (g':=g') (t':=t') (d':=d') u hok hg hch
end
abbrev XK:=Value→Option Addr→Hp→Prop
abbrev St:=List (Option V)
abbrev VK:=V→Hp→Prop
abbrev TE:=St→Hp→VK→Prop
abbrev TT:=St→Hp→(Bool→Hp→Prop)→Prop
abbrev TA:=St→Hp→(List V→Hp→Prop)→Prop
structure Dw where
 nx:St→Hp→Prop
 rt:VK
 bk:St→Hp→Prop:=fun _ _=>False
 ct:St→Hp→Prop:=fun _ _=>False
abbrev TS:=Dw→St→Hp→Prop
inductive EP (X:Cx) (pins:List (Addr×Obj)) (σ:St) (Q:VK) (u:Value) (s':Shared):Prop where
 |mk (v:V) (H':Hp) (i:Inv X pins σ H' s') (r:RelV v u) (q:Q v H'):EP X pins σ Q u s'
inductive TP (X:Cx) (pins:List (Addr×Obj)) (σ:St) (Q:Bool→Hp→Prop) (b:Bool) (s':Shared):Prop where
 |mk (H':Hp) (i:Inv X pins σ H' s') (q:Q b H'):TP X pins σ Q b s'
inductive AP (X:Cx) (pins:List (Addr×Obj)) (σ:St) (Q:List V→Hp→Prop) (us:List Value) (s':Shared):Prop where
 |mk (vs:List V) (H':Hp) (i:Inv X pins σ H' s') (r:Vals vs us) (q:Q vs H'):AP X pins σ Q us s'
inductive SN (X:Cx) (pins:List (Addr×Obj)) (q:St→Hp→Prop) (s':Shared):Prop where
 |mk (σ':St) (H':Hp) (i:Inv X pins σ' H' s') (p:q σ' H'):SN X pins q s'
inductive SR (X:Cx) (pins:List (Addr×Obj)) (q:V→Hp→Prop) (u:Value) (s':Shared):Prop where
 |mk (v:V) (σ':St) (H':Hp) (i:Inv X pins σ' H' s') (r:RelV v u) (p:q v H'):SR X pins q u s'
def SP (X:Cx) (pins:List (Addr×Obj)) (D:Dw) (f:Flow) (s':Shared):Prop:=
 match f with
 |.next=>SN X pins D.nx s'
 |.brk=>SN X pins D.bk s'
 |.cont=>SN X pins D.ct s'
 |.ret u=>SR X pins D.rt u s'
def PE (X:Cx) (e:Expr) (t:TE):Prop:=
 ∀(pins:List (Addr×Obj)) (s:Shared) (σ:St) (H:Hp) (Q:VK),Inv X pins σ H s→t σ H Q→wpAny (model X.prog X.w) X.A (eval e X.env) (EP X pins σ Q) X.xe s
def PT (X:Cx) (e:Expr) (t:TT):Prop:=
 ∀(pins:List (Addr×Obj)) (s:Shared) (σ:St) (H:Hp) (Q:Bool→Hp→Prop),Inv X pins σ H s→t σ H Q→wpAny (model X.prog X.w) X.A (isTrue e X.env (eval e X.env)) (TP X pins σ Q) X.xe s
def PW (X:Cx) (e:Expr) (t:TT):Prop:=
 ∀(EO:Sem Value) (pins:List (Addr×Obj)) (s:Shared) (σ:St) (H:Hp) (Q:Bool→Hp→Prop),Inv X pins σ H s→t σ H Q→wpAny (model X.prog X.w) X.A (isTrue e X.env EO) (TP X pins σ Q) X.xe s
theorem PW.pt {X:Cx} {e:Expr} {t:TT} (h:PW X e t):PT X e t:=h _
def PA (X:Cx) (es:List Expr) (t:TA):Prop:=
 ∀(pos:Pos) (pins:List (Addr×Obj)) (s:Shared) (σ:St) (H:Hp) (Q:List V→Hp→Prop),Inv X pins σ H s→t σ H Q→wpAny (model X.prog X.w) X.A (spliced (backTo pos (starEach es X.env))) (AP X pins σ Q) X.xe s
def PS (X:Cx) (st:Stmt) (t:TS):Prop:=
 ∀(pins:List (Addr×Obj)) (s:Shared) (σ:St) (H:Hp) (D:Dw),Inv X pins σ H s→t D σ H→wpAny (model X.prog X.w) X.A (exec st X.env) (SP X pins D) X.xe s
def Dx (X:Cx) (st:List Stmt) (t:TS):Prop:=
 ∀(pins:List (Addr×Obj)) (s:Shared) (σ:St) (H:Hp) (D:Dw),Inv X pins σ H s→t D σ H→wpAny (model X.prog X.w) X.A (execs st X.env) (SP X pins D) X.xe s
theorem AB {α:Type} {t:Sem α} {Q Q':α→Shared→Prop} {M:Model} {A:Around} {E:Value→Shared→Prop} {s:Shared} (h:wpAny M A t Q E s) (hQ:∀a s,Q a s→Q' a s):wpAny M A t Q' E s:=wpAny_mono h hQ fun _ _ x=>x
section
variable {X:Cx}
def Lp (i:Nat):TE:=fun σ H Q=>∃v,σ[i]?=some (some v)∧Q v H
def tC (v:V):TE:=fun _ H Q=>Q v H
theorem Lq {i:Nat} {x:Str} {pos:Pos} (hN:X.N[i]?=some x) (hv:JI X.env.scope x) (hd:(x==("__debug__":Str))=false:=by decide) (hcd:(x==("__classdict__":Str))=false:=by decide):PE X (.Name x pos) (Lp i):=by
 intro pins s σ H Q I h
 obtain ⟨v,e,h⟩:=h
 obtain ⟨m,hn,hl⟩:=I.loc
 obtain ⟨u,r,l⟩:=hl i x v hN e hv
 have fin:EP X pins σ Q u s:=⟨v,H,I,r,h⟩
 rcases l with ⟨hk,hm⟩ |⟨hk,c,hc,hcell⟩
 ·exact wpAny_Name (wpAny_loadName_local I.ok.kind hk hn hm fin) hd
 ·rcases hk with hk |hk
  ·exact wpAny_Name (wpAny_loadName_cell I.ok.kind hk hc hcell fin) hd
  ·exact wpAny_Name (wpAny_loadName_free I.ok.kind hk hc hcell fin hcd) hd
theorem Sy {i j pos}:PE X (.Constant (.int i) j pos) (tC (.int i)):=fun _ _ _ H _ I h=>wpAny_Constant_int ⟨.int i,H,I.tok _,⟨_,rfl⟩,h⟩
theorem Sz {b j pos}:PE X (.Constant (.bool b) j pos) (tC (.bl b)):=fun _ _ _ H _ I h=>Constant_bool ⟨.bl b,H,I,rfl,h⟩
theorem SA {j pos}:PE X (.Constant .none j pos) (tC .non):=fun _ _ _ H _ I h=>Constant_none ⟨.non,H,I,rfl,h⟩
theorem SB {x j pos}:PE X (.Constant (.str x) j pos) (tC (.str x)):=fun _ _ _ H _ I h=>Calls.Constant_str ⟨.str x,H,I.tok _,⟨_,rfl⟩,h⟩
def Gl (X:Cx) (x:Str):Prop:=X.env.kindOf x=some .globalImplicit
theorem Ha {E:Value→Shared→Prop} {pins:List (Addr×Obj)} {s:Shared} {σ:St} {H:Hp} {x:Str} {u:Value} {pos:Pos} {Q:Value→Shared→Prop} (I:Inv X pins σ H s) (hg:Gl X x) (hm:X.mg x=some u) (h:Q u s)
 (hd:(x==("__debug__":Str))=false:=by decide):wpAny (model X.prog X.w) X.A (eval (.Name x pos) X.env) Q E s:=
 Calls.Name_function_global I.ok.kind hg (Calls.loadGlobal_global (by rw [I.ok.glob];exact I.mod.glob.keeps I.bk) hm h) hd
theorem F4 {E:Value→Shared→Prop} {pins:List (Addr×Obj)} {s:Shared} {σ:St} {H:Hp} {x:Str} {u:Value} {pos:Pos} {Q:Value→Shared→Prop} (I:Inv X pins σ H s) (hg:Gl X x) (hm:X.mg x=none) (hv:bootBuiltins x=some u) (h:Q u s)
 (hn:x≠"__name__":=by decide) (hd:(x==("__debug__":Str))=false:=by decide):wpAny (model X.prog X.w) X.A (eval (.Name x pos) X.env) Q E s:=by
 obtain ⟨mb,h1,h2⟩:=I.mod.blt
 exact Calls.Name_function_global I.ok.kind hg (Calls.loadGlobal_builtin (by rw [I.ok.glob];exact I.mod.glob.keeps I.bk) hm (by rw [I.ok.blt];exact h1.keeps I.bk) ((h2 x hn).trans hv) h) hd
theorem SC {x:Str} {v:V} {u:Value} {pos:Pos} (hg:Gl X x) (hm:X.mg x=some u) (r:RelV v u) (hd:(x==("__debug__":Str))=false:=by decide):PE X (.Name x pos) (tC v):=
 fun _ _ _ H _ I h=>Ha I hg hm ⟨v,H,I,r,h⟩ hd
theorem SD {x:Str} {v:V} {u:Value} {pos:Pos} (hg:Gl X x) (hm:X.mg x=none) (hv:bootBuiltins x=some u) (r:RelV v u) (hn:x≠"__name__":=by decide) (hd:(x==("__debug__":Str))=false:=by decide):PE X (.Name x pos) (tC v):=
 fun _ _ _ H _ I h=>F4 I hg hm hv ⟨v,H,I,r,h⟩ hn hd
variable {a b:Expr} {ta tb:TE} {pos:Pos}
variable {tA tB':TT} {rest:List Expr}
def SE (t u:TT):TT:=fun σ H Q=>t σ H fun c H1=>if c=true then Q true H1 else u σ H1 Q
def SF (t:TT):TT:=fun σ H Q=>t σ H fun c H1=>Q (!c) H1
theorem SG (ha:PT X a tA):PW X (.BoolOp .Or [a] pos) tA:=by
 intro wh pins s σ H Q I h
 refine isTrue_or (AB (ha pins s σ H Q I h) fun c s1 e=>?_)
 cases c with
 |false=>exact isTrue_or_nil e
 |true=>exact e
theorem SH (ha:PT X a tA) (hb:PW X (.BoolOp .Or (b::rest) pos) tB'):PW X (.BoolOp .Or (a::b::rest) pos) (SE tA tB'):=by
 intro wh pins s σ H Q I h
 refine isTrue_or (AB (ha pins s σ H _ I h) fun c s1 z9_=>?_)
 obtain ⟨H1,I1,q1⟩:=z9_
 cases c with
 |true=>exact ⟨H1,I1,q1⟩
 |false=>exact hb wh pins s1 σ H1 Q I1 q1
theorem SI (ha:PT X a tA):PT X (.UnaryOp .Not a pos) (SF tA):=by
 intro pins s σ H Q I h
 exact isTrue_not (AB (ha pins s σ H (fun c H1=>Q (!c) H1) I h) fun c s1 z=>by cases z with |mk H1 I1 q=>exact ⟨H1,I1,q⟩)
def SJ (ta tb:TE):TE:=fun σ H Q=>ta σ H fun x H1=>∃c,x=.bl c∧if c=true then tb σ H1 Q else Q (.bl false) H1
def Zbe (ta tb:TE):TE:=fun σ H Q=>ta σ H fun x H1=>∃c,x=.bl c∧if c=true then Q (.bl true) H1 else tb σ H1 Q
def SK (ta:TE):TE:=fun σ H Q=>ta σ H fun x H1=>∃c,x=.bl c∧Q (.bl (!c)) H1
theorem SL {op} {t:TE} (h:PE X a t):PE X (.BoolOp op [a] pos) t:=fun pins s σ H Q I hw=>BoolOp_one (h pins s σ H Q I hw)
theorem SM (ha:PE X a ta) (hb:PE X (.BoolOp .And (b::rest) pos) tb):PE X (.BoolOp .And (a::b::rest) pos) (SJ ta tb):=by
 intro pins s σ H Q I h
 refine BoolOp_and (AB (ha pins s σ H _ I h) fun v s1 z10_=>?_)
 obtain ⟨x,H1,I1,r1,q1⟩:=z10_
 obtain ⟨c,rfl,q1⟩:=q1
 cases r1
 refine wpAny_truthy_bool ?_
 cases c with
 |true=>exact hb pins s1 σ H1 Q I1 q1
 |false=>exact ⟨.bl false,H1,I1,rfl,q1⟩
theorem SO (ha:PE X a ta):PE X (.UnaryOp .Not a pos) (SK ta):=by
 intro pins s σ H Q I h
 refine UnaryOp_ (AB (ha pins s σ H _ I h) fun v s1 z12_=>?_)
 obtain ⟨x,H1,I1,r1,q1⟩:=z12_
 obtain ⟨c,rfl,q1⟩:=q1
 cases r1
 exact not_of (wpAny_truthy_bool ⟨.bl (!c),H1,I1,rfl,q1⟩)
def SQ (t:TT) (ta tb:TE):TE:=fun σ H Q=>t σ H fun c H1=>if c=true then ta σ H1 Q else tb σ H1 Q
theorem SS {c:Expr} (hc:PT X c tA) (ha:PE X a ta) (hb:PE X b tb):PE X (.IfExp c a b pos) (SQ tA ta tb):=by
 intro pins s σ H Q I h
 refine wpAny_IfExp (AB (hc pins s σ H _ I h) fun d s1 z13_=>?_)
 obtain ⟨H1,I1,q1⟩:=z13_
 cases d with
 |true=>exact ha pins s1 σ H1 Q I1 q1
 |false=>exact hb pins s1 σ H1 Q I1 q1
end
def SqL (K:PySem.W.Frag) (H:Hp) (a:Addr) (xs:List V):Prop:=
 Rd H a (.lst xs)∨
  ∃(o:Obj) (its:Array Value) (n:Nat),K.lookup a=some o∧o.cls=.type "list"∧o.dict=none∧o.data=.seq its n∧its.size≤sizeLine∧Vals xs its.toList
def SqT (K:PySem.W.Frag) (H:Hp) (a:Addr) (xs:List V):Prop:=
 Rd H a (.tup xs)∨
  ∃(o:Obj) (its:Array Value) (n:Nat),K.lookup a=some o∧o.cls=.type "tuple"∧o.data=.seq its n∧its.size≤sizeLine∧Vals xs its.toList
def SU:Value→Option V
 |.none=>some .non
 |.bool b=>some (.bl b)
 |.int i _=>some (.int i)
 |.str x _=>some (.str x)
 |.bytes b _=>some (.byt b)
 |.float b _=>some (.flt b)
 |.ref a=>some (.ref a)
 |.type n=>some (.ty n)
 |_=>none
theorem RelV.abs {x:V} {u:Value} (r:RelV x u):SU u=some x:=by
 cases x with
 |non=>cases r;rfl
 |bl _=>cases r;rfl
 |int _=>obtain ⟨t,rfl⟩:=r;rfl
 |str _=>obtain ⟨t,rfl⟩:=r;rfl
 |byt _=>obtain ⟨t,rfl⟩:=r;rfl
 |flt _=>obtain ⟨t,rfl⟩:=r;rfl
 |ref _=>cases r;rfl
 |ty _=>cases r;rfl
theorem RelV.inj {x y:V} {u:Value} (r:RelV x u) (q:RelV y u):x=y:=Option.some.inj (r.abs.symm.trans q.abs)
theorem Vals.inj {xs ys:List V} {us:List Value} (h:Vals xs us) (g:Vals ys us):xs=ys:=by
 induction h generalizing ys with
 |nil=>cases g;rfl
 |cons r t ih=>cases g with |cons r' t'=>rw [r.inj r',ih t']
section
variable {X:Cx} {pins:List (Addr×Obj)} {σ:St} {H:Hp} {s:Shared} {a:Addr} {xs ys:List V}
theorem SqL.of {K:PySem.W.Frag} (h:H a=some (.lst xs)):SqL K H a xs:=.inl (.inl h)
theorem SqT.of {K:PySem.W.Frag} (h:H a=some (.tup xs)):SqT K H a xs:=.inl (.inl h)
theorem Inv.list (I:Inv X pins σ H s) (h:SqL X.K H a xs):∃its:List Value,Vals xs its∧PlainL s.heap a its.toArray∧xs.length≤sizeLine:=by
 rcases h with h |⟨o,its,n,hk,hc,hd,hs,hz,r⟩
 ·obtain ⟨z,its,n,r,e⟩:=h.ok I.hok
  exact ⟨its,r,⟨_,n,e,rfl,rfl,rfl⟩,z⟩
 ·refine ⟨its.toList,r,⟨o,n,I.kIn a o hk,hc,hd,by simpa using hs⟩,?_⟩
  have e:=r.length
  simp only [Array.length_toList] at e
  omega
theorem Inv.tuple (I:Inv X pins σ H s) (h:SqT X.K H a xs):∃its:List Value,Vals xs its∧IsTup s.heap a its.toArray∧xs.length≤sizeLine:=by
 rcases h with h |⟨o,its,n,hk,hc,hs,hz,r⟩
 ·obtain ⟨z,its,r,p,_⟩:=h.ok I.hok
  exact ⟨its,r,p,z⟩
 ·refine ⟨its.toList,r,⟨o,I.kIn a o hk,hc,n,by simpa using hs⟩,?_⟩
  have e:=r.length
  simp only [Array.length_toList] at e
  omega
theorem Inv.list_inj (I:Inv X pins σ H s) (h:SqL X.K H a xs) (h':SqL X.K H a ys):xs=ys:=by
 obtain ⟨its,r,⟨o,n,e,_,_,d⟩,_⟩:=I.list h
 obtain ⟨its',r',⟨o',n',e',_,_,d'⟩,_⟩:=I.list h'
 rw [e] at e';cases e'
 rw [d] at d'
 injection d' with d1 _
 have:its=its':=by simpa using congrArg Array.toList d1
 subst this
 exact r.inj r'
theorem Inv.tuple_inj (I:Inv X pins σ H s) (h:SqT X.K H a xs) (h':SqT X.K H a ys):xs=ys:=by
 obtain ⟨its,r,⟨o,e,_,n,d⟩,_⟩:=I.tuple h
 obtain ⟨its',r',⟨o',e',_,n',d'⟩,_⟩:=I.tuple h'
 rw [e] at e';cases e'
 rw [d] at d'
 injection d' with d1 _
 have:its=its':=by simpa using congrArg Array.toList d1
 subst this
 exact r.inj r'
end
section
variable {X:Cx} {pins:List (Addr×Obj)} {σ:St} {H:Hp} {s:Shared} {E:Value→Shared→Prop}
end
section
variable {X:Cx} {st:Stmt} {rest:List Stmt} {t u:TS} {e:Expr} {te:TE} {pos:Pos}
def SV:TS:=fun D σ H=>D.nx σ H
def SW (t u:TS):TS:=fun D σ H=>t {D with nx:=u D} σ H
theorem SY:Dx X [] SV:=fun _ _ σ H _ I h=>wpAny_execs_nil ⟨σ,H,I,h⟩
theorem SZ (h1:PS X st t) (h2:Dx X rest u):Dx X (st::rest) (SW t u):=by
 intro pins s σ H D I h
 refine wpAny_execs_cons (AB (h1 pins s σ H {D with nx:=u D} I h) fun f s1 q=>?_)
 cases f with
 |next=>
  obtain ⟨σ',H',I',q⟩:=q
  exact h2 pins s1 σ' H' D I' q
 |ret v=>exact q
 |brk=>exact q
 |cont=>exact q
theorem S3 (h1:PS X st t):Dx X [st] t:=by
 intro pins s σ H D I h
 refine wpAny_execs_cons (AB (h1 pins s σ H D I h) fun f s1 q=>?_)
 cases f with
 |next=>exact wpAny_execs_nil q
 |ret v=>exact q
 |brk=>exact q
 |cont=>exact q
theorem Inv.quiet {pins:List (Addr×Obj)} {σ:St} {H:Hp} {s:Shared} (I:Inv X pins σ H s):interactive X.env=false:=by simp [interactive,I.ok.kind]
def S4 (te:TE):TS:=fun D σ H=>te σ H fun _ H1=>D.nx σ H1
theorem S5 (he:PE X e te) (hs:swapsWith e none pos.line X.env=pure false:=by rfl):PS X (.Expr e pos) (S4 te):=by
 intro pins s σ H D I h
 exact wpAny_Expr_any (AB (he pins s σ H _ I h) fun v s1 z16_=>by obtain ⟨x,H1,I1,r1,q1⟩:=z16_;exact (⟨σ,H1,I1,q1⟩)) I.quiet hs
def S6 (te:TE):TS:=fun D σ H=>te σ H D.rt
theorem S7 (he:PE X e te):PS X (.Return (some e) pos) (S6 te):=by
 intro pins s σ H D I h
 exact wpAny_Return_some (AB (he pins s σ H _ I h) fun v s1 z17_=>by obtain ⟨x,H1,I1,r1,q1⟩:=z17_;exact (⟨x,σ,H1,I1,r1,q1⟩))
def S8 (c:TT) (t u:TS):TS:=fun D σ H=>c σ H fun b H1=>if b=true then t D σ H1 else u D σ H1
theorem S9 {c:Expr} {a b:List Stmt} {tc:TT} (hc:PT X c tc) (ha:Dx X a t) (hb:Dx X b u):PS X (.If c a b pos) (S8 tc t u):=by
 intro pins s σ H D I h
 refine wpAny_If (AB (hc pins s σ H _ I h) fun d s1 z18_=>?_)
 obtain ⟨H1,I1,q1⟩:=z18_
 cases d with
 |true=>exact ha pins s1 σ H1 D I1 q1
 |false=>exact hb pins s1 σ H1 D I1 q1
def Ta:TS:=fun _ _ _=>False
theorem Tb {sts:List Stmt}:Dx X sts Ta:=fun _ _ _ _ _ _ h=>h.elim
end
abbrev TG:=V→St→Hp→(St→Hp→Prop)→Prop
abbrev FA:=List V→St→Hp→(St→Hp→Prop)→Prop
def PG (X:Cx) (target:Expr) (t:TG):Prop:=
 ∀(pins:List (Addr×Obj)) (s:Shared) (σ:St) (H:Hp) (v:V) (u:Value) (Q:St→Hp→Prop),Inv X pins σ H s→RelV v u→t v σ H Q→
  wpAny (model X.prog X.w) X.A (assign target X.env u) (fun _ s'=>SN X pins Q s') X.xe s
def JL (X:Cx) (ts:List Expr) (t:FA):Prop:=
 ∀(pins:List (Addr×Obj)) (s:Shared) (σ:St) (H:Hp) (vs:List V) (us:List Value) (Q:St→Hp→Prop),Inv X pins σ H s→Vals vs us→t vs σ H Q→
  wpAny (model X.prog X.w) X.A (assignInOrder ((assignEach ts X.env).map (·.2)) us) (fun _ s'=>SN X pins Q s') X.xe s
abbrev Lr:=V→V→V→Hp→(Hp→Prop)→Prop
def Oa (X:Cx) (t:Lr):Prop:=
 ∀(pins:List (Addr×Obj)) (s:Shared) (σ:St) (H:Hp) (o i v:V) (ov iv u:Value) (Q:Hp→Prop),Inv X pins σ H s→RelV o ov→RelV i iv→RelV v u→t o i v H Q→
  wpAny (model X.prog X.w) X.A (setItem ov iv u) (fun _ s'=>∃H',Inv X pins σ H' s'∧Q H') X.xe s
section
variable {X:Cx} {pos:Pos}
def Co (i:Nat):TG:=fun v σ H Q=>Q (σ.set i (some v)) H
theorem AZ {i:Nat} {x:Str} (hN:X.N.Nodup) (hi:X.N[i]?=some x) (hx:G9 X.env.scope x) (hf:X.fn x=true∨X.env.scope.names.lookup x=some .local:=by first |exact .inl rfl |exact .inr rfl |assumption):PG X (.Name x pos) (Co i):=by
 intro pins s σ H v u Q I r h
 exact wpAny_assign_Name (JK I hN hi hx r (fun s' I'=>⟨_,H,I',h⟩) hf)
def F5:FA:=fun vs σ H Q=>vs=[]∧Q σ H
def Dy (t:TG) (u:FA):FA:=fun vs σ H Q=>∃v r,vs=v::r∧t v σ H fun σ' H'=>u r σ' H' Q
theorem Ls:JL X [] F5:=by
 intro pins s σ H vs us Q I r h
 obtain ⟨e,h⟩:=h
 subst e
 cases r
 exact assignInOrder_nil ⟨σ,H,I,h⟩
theorem FB {e:Expr} {es:List Expr} {t:TG} {u:FA} (h1:PG X e t) (h2:JL X es u)
 (hs:(assignEach (e::es) X.env).map (·.2)=assign e X.env::(assignEach es X.env).map (·.2):=by rfl):JL X (e::es) (Dy t u):=by
 intro pins s σ H vs us Q I r h
 obtain ⟨v,vr,e1,h⟩:=h
 subst e1
 cases r with
 |cons r rr=>
  rw [hs]
  refine assignInOrder_cons (AB (h1 pins s σ H _ _ _ I r h) fun _ s1 z19_=>?_)
  obtain ⟨σ1,H1,I1,q1⟩:=z19_
  exact h2 pins s1 σ1 H1 _ _ Q I1 rr q1
def F6 (K:PySem.W.Frag) (n:Nat) (t:FA):TG:=fun v σ H Q=>∃a xs,v=.ref a∧SqT K H a xs∧xs.length=n∧t xs σ H Q
theorem Lu {es:List Expr} {k:Nat} {t:FA} {n:Nat} (hc:X.calm=true) (h:JL X es t)
 (hn:(assignEach es X.env).length=n:=by rfl) (hst:(assignEach es X.env).findIdx? (·.1)=none:=by rfl):PG X (.Tuple es k pos) (F6 X.K n t):=by
 intro pins s σ H v u Q I r hw
 obtain ⟨a,xs,e1,hq,hl,hw⟩:=hw
 subst e1
 cases r
 obtain ⟨its,rv,ht,hz⟩:=I.tuple hq
 refine assign_Tuple_tuple (I.ok.hd hc) ht (by simp [hn,←hl,rv.length]) hst fun h' hx=>?_
 have I1:Inv X pins σ H {s with heap:=h'}:=I.kept (t':=s.toks) fun b o e=>hx b o (Be (Av e)) e
 exact h pins _ σ H xs _ Q I1 (by simpa using rv) hw
def Tc (to ti:TE) (t:Lr):TG:=fun v σ H Q=>to σ H fun o H1=>ti σ H1 fun i H2=>t o i v H2 fun H3=>Q σ H3
theorem Td {o i:Expr} {to ti:TE} {t:Lr} (ho:PE X o to) (hi:PE X i ti) (hs:Oa X t)
 (ha:∀v,assign (.Subscript o i pos) X.env v=(do
  let ov ←holding [v] (eval o X.env)
  let iv ←holding [v,ov] (eval i X.env)
  standAt pos
  holding [v,ov,iv] (setItem ov iv v)
  release [v,ov,iv] []):=by intro _;rfl):PG X (.Subscript o i pos) (Tc to ti t):=by
 intro pins s σ H v u Q I r h
 rw [ha]
 refine wpAny_bind (wpAny_holding (AB (ho pins s σ H _ I h) fun ov s1 z20_=>?_))
 obtain ⟨x,H1,I1,r1,q1⟩:=z20_
 refine wpAny_bind (wpAny_holding (AB (hi pins s1 σ H1 _ I1 q1) fun iv s2 z21_=>?_))
 obtain ⟨y,H2,I2,r2,q2⟩:=z21_
 refine wpAny_bind (wpAny_standAt (wpAny_bind (wpAny_holding (AB (hs pins s2 σ H2 x y v ov iv u _ I2 r1 r2 r q2) fun _ s3 z22_=>?_))))
 obtain ⟨H3,I3,q3⟩:=z22_
 exact wpAny_release ⟨σ,H3,I3,q3⟩
def Ob (te:TE) (g:TG):TS:=fun D σ H=>te σ H fun x H1=>g x σ H1 D.nx
theorem Oc {tg e:Expr} {te:TE} {g:TG} (he:PE X e te) (hg:PG X tg g) (hs:swapsWithSole [tg] e pos.line X.env=pure false:=by rfl) (hw:swappedStores [tg] e X.env=pure none:=by rfl)
 (h1:(assignEach [tg] X.env).map (·.2)=[assign tg X.env]:=by rfl):PS X (.Assign [tg] e pos) (Ob te g):=by
 intro pins s σ H D I h
 refine wpAny_Assign_stores (AB (he pins s σ H _ I h) fun v s1 z23_=>?_) hs hw
 obtain ⟨x,H1,I1,r1,q1⟩:=z23_
 rw [h1]
 exact AB (hg pins s1 σ H1 x v _ I1 r1 q1) fun _ s2 q=>q
theorem Te {i:Nat} {x:Str} {e:Expr} {te:TE} {pos':Pos} (hN:X.N.Nodup) (hi:X.N[i]?=some x) (hx:G9 X.env.scope x) (he:PE X e te) (hs:swapsWith e (some (.Name x pos')) pos.line X.env=pure false:=by rfl) (hf:X.fn x=true∨X.env.scope.names.lookup x=some .local:=by first |exact .inl rfl |exact .inr rfl |assumption):
 PS X (.Assign [.Name x pos'] e pos) (Ob te (Co i)):=by
 intro pins s σ H D I h
 refine wpAny_Assign_Name (AB (he pins s σ H _ I h) fun v s1 z24_=>?_) hs
 obtain ⟨y,H1,I1,r1,q1⟩:=z24_
 exact JK I1 hN hi hx r1 (fun s2 I2=>⟨_,H1,I2,q1⟩) hf
def Tf (i j:Nat) (ta:TA):TS:=fun D σ H=>ta σ H fun vs H1=>∃v w,vs=[v,w]∧D.nx ((σ.set i (some v)).set j (some w)) H1
theorem Tg {i j:Nat} {x y:Str} {a b:Expr} {ta:TA} {px py pt:Pos} {kt k2 pt2} (hc:X.calm=true) (hN:X.N.Nodup) (hi:X.N[i]?=some x) (hj:X.N[j]?=some y) (hij:i≠j)
 (hx:X.env.scope.names.lookup x=some .local) (hy:X.env.scope.names.lookup y=some .local) (ha:PA X [a,b] ta)
 (hw:swappedStores [.Tuple [.Name x px,.Name y py] kt pt] (.Tuple [a,b] k2 pt2) X.env=pure (some [x,y]))
 (hs:swapsWithSole [.Tuple [.Name x px,.Name y py] kt pt] (.Tuple [a,b] k2 pt2) pos.line X.env=pure false:=by rfl):
 PS X (.Assign [.Tuple [.Name x px,.Name y py] kt pt] (.Tuple [a,b] k2 pt2) pos) (Tf i j ta):=by
 intro pins s σ H D I h
 rw [exec_Assign_arm]
 refine wpAny_bind (wpAny_standAt ?_)
 rw [hs]
 refine wpAny_bind (wpAny_pure ?_)
 rw [if_neg (by decide)]
 refine wpAny_bind (Tuple_ (AB (ha _ pins s σ H _ I h) fun us s1 z25_=>?_))
 obtain ⟨vs,H1,I1,r1,q1⟩:=z25_
 obtain ⟨v,w,e1,q1⟩:=q1
 subst e1
 obtain ⟨u1,u2,rfl,rv,rw'⟩:∃u1 u2,us=[u1,u2]∧RelV v u1∧RelV w u2:=by
  cases r1 with
  |cons p q=>
   cases q with
   |cons p' q'=>
    cases q'
    exact ⟨_,_,rfl,p,p'⟩
 refine wpAny_newObj_type ?_ (by show 2≤sizeLine;decide)
 have I2:Inv X pins σ H1 {s1 with heap:=s1.heap.push {cls:=.type "tuple",data:=.seq [u1,u2].toArray}}:=I1.kept (t':=s1.toks) fun b o e=>AE _ e
 rw [hw]
 refine wpAny_bind (wpAny_pure ?_)
 show wpAny (model X.prog X.w) X.A (do rule "assign.swapped-stores";let items ←unpackItems (.ref s1.heap.objs.size) 2 none;assignInOrder [fun v=>bindName X.env y v,fun v=>bindName X.env x v] items.reverse;pure Flow.next) _ _ _
 refine wpAny_bind (wpAny_rule (wpAny_bind (unpackItems_tuple (items:=#[u1,u2]) (I.ok.hd hc) (IsTup.new s1.heap _) fun h' hx'=>?_)))
 have I3:=I2.kept (h':=h') (t':=s1.toks) fun b o e=>hx' b o (Be (Av e)) e
 show wpAny _ _ (assignInOrder [fun v=>bindName X.env y v,fun v=>bindName X.env x v] [u2,u1] >>=fun _=>pure Flow.next) _ _ _
 refine wpAny_bind (assignInOrder_cons (wpAny_bindName (JK I3 hN hj (.inl hy) rw' (fun s2 I4=>?_) (.inr hy))))
 refine assignInOrder_cons (wpAny_bindName (JK I4 hN hi (.inl hx) rv (fun s3 I5=>assignInOrder_nil (wpAny_pure ?_)) (.inr hx)))
 rw [List.set_comm _ _ (Ne.symm hij)] at I5
 exact ⟨_,H1,I5,q1⟩
end
section
variable {X:Cx} {pos:Pos}
end
structure It where
 go:Nat→Hp→Prop
 yld:Nat→Hp→V→Hp→Prop
 stop:Nat→Hp→Prop
def CH (X:Cx) (pins:List (Addr×Obj)) (H:Hp) (b:Addr):Prop:=
 H b=none∧b≠X.env.locals∧b∉X.fs∧(b∈X.ex∨X.s₀.heap.objs.size≤b)∧(∀x c,X.env.cells.lookup x=some c→c≠b)∧∀p∈X.pn++pins,p.1≠b
theorem Inv.fpOk {X:Cx} {pins:List (Addr×Obj)} {σ:St} {H H':Hp} {s:Shared} {b:Addr} (I:Inv X pins σ H s) (hb:s.heap.objs.size≤b) (hn:H' b=none):CH X pins H' b:=by
 refine ⟨hn,B2 (AV I.lt hb),I.nofs hb,.inr (BK I.sz hb),fun x c e z=>?_,fun p hp z=>?_⟩
 ·obtain ⟨v,q⟩:=I.cell x c e
  exact absurd (AV q.lt (by rw [z];exact hb)) (Cy _)
 ·exact absurd (AV (Av (I.pin p hp).1) (by rw [z];exact hb)) (Cy _)
structure FC (P:Program) (w:World) (K:PySem.W.Frag) (tg:Expr) (J:It) (fp:List Addr) (it:Addr) (tn:Nat→Heap→Prop):Prop where
 mem:it∈fp
 obj:∀i h,tn i h→∀b∈fp,∃o,h.get? b=some o∧∀v,o.data≠.cell v
 keep:∀i h h',tn i h→(∀b∈fp,∀o,h.get? b=some o→h'.get? b=some o)→tn i h'
 item:∀(X:Cx),X.prog=P→X.w=w→X.K=K→X.calm=true→∀(i:Nat) (pins:List (Addr×Obj)) (s:Shared) (σ:St) (H:Hp) (E:Value→Shared→Prop),Inv X pins σ H s→(∀b∈fp,CH X pins H b)→tn i s.heap→J.go i H→
  wpAny (model P w) X.A (pyNext (.ref it)) (fun r s1=>∃u,r=some u∧
   wpAny (model P w) X.A (letOwnedTupleGo tg (.ref it) u) (fun _ s2=>∃x H',Inv X pins σ H' s2∧RelV x u∧J.yld i H x H'∧tn (i+1) s2.heap∧∀b∈fp,H' b=none) E s1) E s
 done:∀(X:Cx),X.prog=P→X.w=w→X.K=K→X.calm=true→∀(i:Nat) (pins:List (Addr×Obj)) (s:Shared) (σ:St) (H:Hp) (E:Value→Shared→Prop),Inv X pins σ H s→(∀b∈fp,CH X pins H b)→tn i s.heap→J.stop i H→
  wpAny (model P w) X.A (pyNext (.ref it)) (fun r s1=>r=none∧Inv X pins σ H s1) E s
 self:∀(A:Around) (i:Nat) (s:Shared) (Q:Value→Shared→Prop) (E:Value→Shared→Prop),tn i s.heap→Q (.ref it) s→wpAny (model P w) A (pyIter (.ref it)) Q E s
abbrev TI:=St→Hp→(It→Hp→Prop)→Prop
inductive Lw (X:Cx) (pins:List (Addr×Obj)) (σ:St) (tg:Expr) (R:It→Hp→Prop) (itv:Value) (s2:Shared):Prop where
 |mk (it:Addr) (fp:List Addr) (tn:Nat→Heap→Prop) (J:It) (H':Hp) (e:itv=.ref it) (i:Inv X pins σ H' s2) (t:FC X.prog X.w X.K tg J fp it tn) (st:tn 0 s2.heap) (f:∀b∈fp,CH X pins H' b) (r:R J H'):Lw X pins σ tg R itv s2
def PI (X:Cx) (tg iter:Expr) (wi:TI):Prop:=
 ∀(pins:List (Addr×Obj)) (s:Shared) (σ:St) (H:Hp) (R:It→Hp→Prop),Inv X pins σ H s→wi σ H R→
  wpAny (model X.prog X.w) X.A (eval iter X.env) (fun v s1=>wpAny (model X.prog X.w) X.A (pyIter v) (Lw X pins σ tg R) X.xe s1) X.xe s
theorem Ly {M:Model} {A:Around} {E:Value→Shared→Prop} {s:Shared} {tg:Expr} {it:Addr} {u:Value} {o:Obj} {n:String} {vs:Array Value} {Q:Unit→Shared→Prop} (ho:s.heap.get? it=some o) (hc:o.cls=.type n) (hd:o.data=.fields vs)
 (hn:["enumerate","zip","dict_itemiterator","dict_reverseitemiterator","odict_iterator","itertools.zip_longest","itertools.pairwise"].contains n=false) (hQ:Q () s):wpAny M A (letOwnedTupleGo tg (.ref it) u) Q E s:=by
 unfold letOwnedTupleGo
 cases tg<;>first
  |exact wpAny_pure hQ
  |(cases u<;>first
   |exact wpAny_pure hQ
   |(refine wpAny_bind (wpAny_load ho ?_)
     rw [hc,hd]
     show wpAny M A (if (["enumerate","zip","dict_itemiterator","dict_reverseitemiterator","odict_iterator","itertools.zip_longest","itertools.pairwise"].contains n&&vs[0]?==some (rawInt _))=true then _ else _) Q E s
     rw [if_neg (by intro h;rw [hn,Bool.false_and] at h;cases h)]
     exact wpAny_pure hQ))
def Iq (K:PySem.W.Frag) (a:Addr):It:=
 ⟨fun i H=>∃xs x,SqL K H a xs∧xs[i]?=some x,fun i H x H'=>H'=H∧∀xs,SqL K H a xs→xs[i]?=some x,fun i H=>∃xs,SqL K H a xs∧xs.length≤i⟩
def Ir (K:PySem.W.Frag) (a:Addr):It:=
 ⟨fun i H=>∃xs x,SqT K H a xs∧xs[i]?=some x,fun i H x H'=>H'=H∧∀xs,SqT K H a xs→xs[i]?=some x,fun i H=>∃xs,SqT K H a xs∧xs.length≤i⟩
def Iu (lo:Int) (n:Nat):It:=⟨fun i _=>i<n,fun i H x H'=>H'=H∧x=.int (lo+i),fun i _=>n≤i⟩
theorem Th {P:Program} {w:World} {K:PySem.W.Frag} {tg:Expr} (a it:Addr):FC P w K tg (Iq K a) [it] it (fun i h=>h.IsListIter it a i) where
 mem:=by simp
 obj:=fun i h st b hb=>by
  have e:b=it:=by simpa using hb
  subst e
  obtain ⟨o,e,c,d⟩:=st
  exact ⟨o,e,fun v z=>by rw [d] at z;cases z⟩
 keep:=fun i h h' st k=>st.at fun o e=>k it (by simp) o e
 item:=by
  intro X hP hw hK hc i pins s σ H E I hf st hg
  subst hP hw hK
  obtain ⟨xs,x,hq,hx⟩:=hg
  obtain ⟨its,rv,p,hz⟩:=I.list hq
  obtain ⟨u,hu,ru⟩:=rv.get hx
  obtain ⟨f0,f1,f2,f3,f4,f5⟩:=hf it (by simp)
  refine wpAny_pyNext_list_item st p.isList (x:=u) (by simpa using hu) fun h' st' sb=>?_
  have I1:Inv X pins σ H {s with heap:=h'}:=I.turned (t':=s.toks) (fun b o hb e=>(sb.2 b hb).trans e) f0 f1 f3 f4 f5
  obtain ⟨o,e,c,d⟩:=id st'
  exact ⟨u,rfl,Ly (s:={s with heap:=h'}) e c d (by decide) ⟨x,H,I1,ru,⟨rfl,fun ys hy=>by rw [I.list_inj hy hq];exact hx⟩,st',fun b hb=>(hf b hb).1⟩⟩
 done:=by
  intro X hP hw hK hc i pins s σ H E I hf st hg
  subst hP hw hK
  obtain ⟨xs,hq,hx⟩:=hg
  obtain ⟨its,rv,p,hz⟩:=I.list hq
  obtain ⟨f0,f1,f2,f3,f4,f5⟩:=hf it (by simp)
  have hl:=rv.length
  exact wpAny_pyNext_list_end (I.ok.hd hc) st p.isList (by simp;omega) fun h' eb=>⟨rfl,I.turned (t':=s.toks) (fun b o hb e=>eb b o hb e) f0 f1 f3 f4 f5⟩
 self:=fun _ _ _ _ _ st h=>wpAny_pyIter_listiter st h
theorem Ti {P:Program} {w:World} {K:PySem.W.Frag} {tg:Expr} (a it:Addr):FC P w K tg (Ir K a) [it] it (fun i h=>h.IsTupleIter it a i) where
 mem:=by simp
 obj:=fun i h st b hb=>by
  have e:b=it:=by simpa using hb
  subst e
  obtain ⟨o,e,c,d⟩:=st
  exact ⟨o,e,fun v z=>by rw [d] at z;cases z⟩
 keep:=fun i h h' st k=>st.at fun o e=>k it (by simp) o e
 item:=by
  intro X hP hw hK hc i pins s σ H E I hf st hg
  subst hP hw hK
  obtain ⟨xs,x,hq,hx⟩:=hg
  obtain ⟨its,rv,p,hz⟩:=I.tuple hq
  obtain ⟨u,hu,ru⟩:=rv.get hx
  obtain ⟨f0,f1,f2,f3,f4,f5⟩:=hf it (by simp)
  refine wpAny_pyNext_tuple_item st (show s.heap.IsTuple a its.toArray from p) (x:=u) (by simpa using hu) fun h' st' sb=>?_
  have I1:Inv X pins σ H {s with heap:=h'}:=I.turned (t':=s.toks) (fun b o hb e=>(sb.2 b hb).trans e) f0 f1 f3 f4 f5
  obtain ⟨o,e,c,d⟩:=id st'
  exact ⟨u,rfl,Ly (s:={s with heap:=h'}) e c d (by decide) ⟨x,H,I1,ru,⟨rfl,fun ys hy=>by rw [I.tuple_inj hy hq];exact hx⟩,st',fun b hb=>(hf b hb).1⟩⟩
 done:=by
  intro X hP hw hK hc i pins s σ H E I hf st hg
  subst hP hw hK
  obtain ⟨xs,hq,hx⟩:=hg
  obtain ⟨its,rv,p,hz⟩:=I.tuple hq
  obtain ⟨f0,f1,f2,f3,f4,f5⟩:=hf it (by simp)
  have hl:=rv.length
  exact wpAny_pyNext_tuple_end (I.ok.hd hc) st (show s.heap.IsTuple a its.toArray from p) (by simp;omega) fun h' eb=>⟨rfl,I.turned (t':=s.toks) (fun b o hb e=>eb b o hb e) f0 f1 f3 f4 f5⟩
 self:=fun _ _ _ _ _ st h=>wpAny_pyIter_tupleiter st h
theorem Tj {P:Program} {w:World} {K:PySem.W.Frag} {tg:Expr} (it:Addr) (lo:Int) (n:Nat):FC P w K tg (Iu lo n) [it] it (fun i h=>IsRangeIter h it (lo+(i:Nat)*1) ((n:Int) - (i:Nat)) 1) where
 mem:=by simp
 obj:=fun i h st b hb=>by
  have e:b=it:=by simpa using hb
  subst e
  exact ⟨_,st,fun v z=>by
   have z':Data.fields _=Data.cell v:=z
   cases z'⟩
 keep:=fun i h h' st k=>k it (by simp) _ st
 item:=by
  intro X hP hw hK hc i pins s σ H E I hf st hg
  subst hP hw hK
  obtain ⟨f0,f1,f2,f3,f4,f5⟩:=hf it (by simp)
  have W:=Walks.range (prog:=X.prog) (w:=X.w) (I.ok.hd hc) it lo 1 n
  refine W.item i s _ _ hg st fun v h' tk hv st' kk=>?_
  obtain ⟨t,rfl⟩:=hv
  have I1:Inv X pins σ H {s with heap:=h',toks:=tk}:=I.turned (fun b o hb e=>kk b o (by simpa using hb) e) f0 f1 f3 f4 f5
  refine ⟨_,rfl,Ly (s:={s with heap:=h',toks:=tk}) (n:="range_iterator") st' rfl rfl (by decide) ⟨.int (lo+i),H,I1,⟨t,?_⟩,⟨rfl,rfl⟩,st',fun b hb=>(hf b hb).1⟩⟩
  rw [Int.mul_one]
 done:=by
  intro X hP hw hK hc i pins s σ H E I hf st hg
  subst hP hw hK
  obtain ⟨f0,f1,f2,f3,f4,f5⟩:=hf it (by simp)
  exact wpAny_pyNext_range_end (I.ok.hd hc) st (by have:n≤i:=hg;omega) fun h' eb=>⟨rfl,I.turned (t':=s.toks) (fun b o hb e=>eb b o hb e) f0 f1 f3 f4 f5⟩
 self:=fun _ _ _ _ _ st h=>wpAny_pyIter_rangeiter st h
section
variable {X:Cx} {tg:Expr}
theorem Od {pins:List (Addr×Obj)} {σ:St} {H:Hp} {s:Shared} {R:It→Hp→Prop} {E:Value→Shared→Prop} {lo hi:Int} {t u v:Tok} {tk:Nat} (I:Inv X pins σ H s) (h1:-(2^62)≤lo) (h2:lo<2^62) (h3:-(2^62)≤hi) (h4:hi<2^62)
 (q:R (Iu lo (hi - lo).toNat) H):wpAny (model X.prog X.w) X.A (pyIter (.ref s.heap.objs.size)) (Lw X pins σ tg R) E {s with heap:=s.heap.push {cls:=.type "range",data:=.fields #[.int lo t,.int hi u,.int 1 v]},toks:=tk}:=by
 refine wpAny_pyIter_range (IsRange.new ..) (small_one h1 h2 h3 h4) ?_
 have I1:Inv X pins σ H {s with heap:=s.heap.push {cls:=.type "range",data:=.fields #[.int lo t,.int hi u,.int 1 v]},toks:=tk}:=I.kept fun b o e=>AE _ e
 refine ⟨(s.heap.push {cls:=.type "range",data:=.fields #[.int lo t,.int hi u,.int 1 v]}).objs.size,[(s.heap.push {cls:=.type "range",data:=.fields #[.int lo t,.int hi u,.int 1 v]}).objs.size],_,_,H,rfl,
  I1.kept (t':=tk) fun b o e=>AE _ e,Tj _ lo (hi - lo).toNat,?_,fun b hb=>?_,q⟩
 ·have e1:lo+((0:Nat):Int)*1=lo:=by simp
  have e2:(((hi - lo).toNat:Nat):Int) - ((0:Nat):Int)=Builtin.Range.rangeSize lo hi 1:=by rw [rangeSize_one];split<;>omega
  show IsRangeIter _ _ (lo+((0:Nat):Int)*1) ((((hi - lo).toNat:Nat):Int) - ((0:Nat):Int)) 1
  rw [e1,e2]
  exact Bp _ rfl
 ·have e:b=(s.heap.push {cls:=.type "range",data:=.fields #[.int lo t,.int hi u,.int 1 v]}).objs.size:=by simpa using hb
  subst e
  exact I1.fpOk (AK _) (I1.hok.fresh (AK _))
def Tn (ta:TA):TI:=fun σ H R=>ta σ H fun vs H1=>∃j:Int,vs=[.int j]∧-(2^62)≤j∧j<2^62∧R (Iu 0 j.toNat) H1
def To (ta:TA):TI:=fun σ H R=>ta σ H fun vs H1=>∃i j:Int,vs=[.int i,.int j]∧(-(2^62)≤i∧i<2^62∧-(2^62)≤j∧j<2^62)∧R (Iu i (j - i).toNat) H1
theorem Tq {a:Expr} {ta:TA} {p pos:Pos} (hg:Gl X "range") (hm:X.mg "range"=none) (ha:PA X [a] ta) (hs:starEach [a] X.env=[(false,eval a X.env)]:=by rfl):PI X tg (.Call (.Name "range" p) [a] [] pos) (Tn ta):=by
 intro pins s σ H R I h
 refine Call_ (F4 I hg hm boot_range (PyProof.Rows.callWith_type1 (AB (ha pos pins s σ H _ I h) fun us s1 z37_=>?_) hs rfl))
 obtain ⟨vs,H1,I1,r1,q1⟩:=z37_
 obtain ⟨j,e,q1,q2,q⟩:=q1
 subst e
 cases r1 with
 |cons r rr=>
  cases rr
  obtain ⟨t,rfl⟩:=r
  exact call_range_1 (Od I1 (by omega) (by omega) q1 q2 (by simpa using q))
theorem Tr {a b:Expr} {ta:TA} {p pos:Pos} (hg:Gl X "range") (hm:X.mg "range"=none) (ha:PA X [a,b] ta) (hs:starEach [a,b] X.env=[(false,eval a X.env),(false,eval b X.env)]:=by rfl) (hs2:starEach [b] X.env=[(false,eval b X.env)]:=by rfl):
 PI X tg (.Call (.Name "range" p) [a,b] [] pos) (To ta):=by
 intro pins s σ H R I h
 refine Call_ (F4 I hg hm boot_range (PyProof.Rows.callWith_type1 (AB (ha pos pins s σ H _ I h) fun us s1 ⟨vs,H1,I1,r1,q1⟩=>?_) (by rw [hs,hs2]) (by rw [hs2];rfl)))
 obtain ⟨i,j,e,⟨q1,q2,q3,q4⟩,q⟩:=q1
 subst e
 cases r1 with
 |cons r rr=>
  cases rr with
  |cons r' rr=>
   cases rr
   obtain ⟨t,rfl⟩:=r
   obtain ⟨t',rfl⟩:=r'
   exact call_range_2 (Od I1 q1 q2 q3 q4 q)
def Ts (wi:TI) (g:TG) (tb:TS):TS:=fun D σ H=>wi σ H fun J H1=>∃W:Nat→Nat→St→Hp→Prop,(∃m,W 0 m σ H1)∧∀i m σ H,W i m σ H→
 (J.stop i H∧D.nx σ H)∨(J.go i H∧∃N:St→Hp→Prop,(∀σ' H',N σ' H'→∃m',m' < m∧W (i+1) m' σ' H')∧∀x H',J.yld i H x H'→g x σ H' fun σ2 H2=>tb {D with nx:=N,ct:=N,bk:=D.nx} σ2 H2)
def FD (fp:List Addr) (h:Heap):List (Addr×Obj):=fp.filterMap fun b=>(h.get? b).map fun o=>(b,o)
theorem Iv {fp:List Addr} {h:Heap} {b:Addr} {o:Obj} (hb:b∈fp) (e:h.get? b=some o):(b,o)∈FD fp h:=List.mem_filterMap.mpr ⟨b,hb,by rw [e];rfl⟩
theorem Oe {fp:List Addr} {h:Heap} {p:Addr×Obj} (hp:p∈FD fp h):p.1∈fp∧h.get? p.1=some p.2:=by
 obtain ⟨b,hb,e⟩:=List.mem_filterMap.mp hp
 cases q:h.get? b with
 |none=>rw [q] at e;cases e
 |some o=>
  rw [q] at e
  have e':(b,o)=p:=Option.some.inj e
  subst e'
  exact ⟨hb,q⟩
theorem Inv.pinned {pins:List (Addr×Obj)} {σ:St} {H:Hp} {s:Shared} {fp:List Addr} (I:Inv X pins σ H s) (hf:∀b∈fp,CH X pins H b) (ho:∀b∈fp,∃o,s.heap.get? b=some o∧∀v,o.data≠.cell v):Inv X (pins++FD fp s.heap) σ H s:=
 I.pins_of fun p hp=>(qaM.mp hp).elim (fun z=>I.pin p (BJ _ z)) fun z=>by
  obtain ⟨hb,e⟩:=Oe z
  obtain ⟨f0,f1,f2,_⟩:=hf p.1 hb
  obtain ⟨o,e',d⟩:=ho p.1 hb
  rw [e] at e';cases e'
  exact ⟨e,f0,f1,f2,d⟩
theorem Inv.unpinned {pins pl:List (Addr×Obj)} {σ:St} {H:Hp} {s:Shared} (I:Inv X (pins++pl) σ H s):Inv X pins σ H s:=I.pins_of fun p hp=>I.pin p (BJ _ (G0 _ hp))
inductive Lz (X:Cx) (pins:List (Addr×Obj)) (tn:Nat→Heap→Prop) (fp:List Addr) (W:Nat→Nat→St→Hp→Prop) (n:Nat) (s':Shared):Prop where
 |mk (i:Nat) (σ':St) (H':Hp) (ii:Inv X pins σ' H' s') (st:tn i s'.heap) (fr:∀b∈fp,H' b=none) (w:W i n σ' H'):Lz X pins tn fp W n s'
theorem Tt {iter:Expr} {body:List Stmt} {wi:TI} {g:TG} {tb:TS} {pos:Pos} (hp:PassesOwn (model X.prog X.w) X.A X.env X.xe) (hc:X.calm=true) (hi:PI X tg iter wi) (hg:PG X tg g) (hb:Dx X body tb)
 (hs:∀x,foldedSetIterable iter X.env x=pure x:=by intro _;rfl):PS X (.For tg iter body [] pos) (Ts wi g tb):=by
 intro pins s σ H D I h
 refine wpAny_For (AB (hi pins s σ H _ I h) fun v s1 h1=>AB h1 fun itv s2 h2=>?_) hs
 obtain ⟨it,fp,tn,J,H2,e,I2,T,CQ,f2,W,⟨m0,w0⟩,turn⟩:=h2
 subst e
 have stat:∀{H':Hp},(∀b∈fp,H' b=none)→∀b∈fp,CH X pins H' b:=fun hn b hb=>⟨hn b hb,(f2 b hb).2⟩
 refine codeAny_forLoop_any (Lz X pins tn fp W) ?_ m0 ⟨0,σ,H2,I2,CQ,fun b hb=>(f2 b hb).1,w0⟩
 rintro n s3 ⟨i,σ3,H3,I3,Le,fr3,w3⟩
 rcases turn i n σ3 H3 w3 with ⟨stop,qn⟩ |⟨go,N,hN,step⟩
 ·refine wpAny_passesOwn hp (AB (T.done X rfl rfl rfl hc i pins s3 σ3 H3 X.xe I3 (stat fr3) Le stop) fun r s4 z39_=>?_)
  obtain ⟨hr,I4⟩:=z39_
  subst hr
  exact wpAny_execs_nil ⟨σ3,H3,I4,qn⟩
 ·refine wpAny_passesOwn hp (AB (T.item X rfl rfl rfl hc i pins s3 σ3 H3 X.xe I3 (stat fr3) Le go) fun r s4 z40_=>?_)
  obtain ⟨u,hr,h4⟩:=z40_
  subst hr
  refine wpAny_passesOwn hp (AB h4 fun _ s5 z41_=>?_)
  obtain ⟨x,H5,I5,r5,y5,Ei,fr5⟩:=z41_
  have I5':=I5.pinned (stat fr5) (T.obj _ _ Ei)
  refine wpAny_passesOwn hp (AB (hg _ s5 σ3 H5 x u _ I5' r5 (step x H5 y5)) fun _ s6 z42_=>?_)
  obtain ⟨σ6,H6,I6,q6⟩:=z42_
  refine wpAny_passesOwn hp (AB (hb _ s6 σ6 H6 _ I6 q6) fun f s7 q7=>?_)
  have again:∀{σ7:St} {H7:Hp},Inv X (pins++FD fp s5.heap) σ7 H7 s7→N σ7 H7→∃m,m<n∧Lz X pins tn fp W m s7:=fun {σ7 H7} I7 n7=>by
   obtain ⟨m',hm,w7⟩:=hN σ7 H7 n7
   refine ⟨m',hm,i+1,σ7,H7,I7.unpinned,T.keep _ _ _ Ei fun b hb o e=>(I7.pin (b,o) (BJ _ (BJ _ (Iv hb e)))).1,fun b hb=>?_,w7⟩
   obtain ⟨o,e,d⟩:=T.obj _ _ Ei b hb
   exact (I7.pin (b,o) (BJ _ (BJ _ (Iv hb e)))).2.1
  cases f with
  |next=>obtain ⟨σ7,H7,I7,n7⟩:=q7;exact again I7 n7
  |cont=>obtain ⟨σ7,H7,I7,n7⟩:=q7;exact again I7 n7
  |brk=>obtain ⟨σ7,H7,I7,q7⟩:=q7;exact ⟨σ7,H7,I7.unpinned,q7⟩
  |ret v=>obtain ⟨x7,σ7,H7,I7,r7,q7⟩:=q7;exact ⟨x7,σ7,H7,I7.unpinned,r7,q7⟩
end
abbrev R2:=V→V→Hp→VK→Prop
def OpR (X:Cx) (f:Value→Value→Sem Value) (r:R2):Prop:=
 ∀(pins:List (Addr×Obj)) (s:Shared) (σ:St) (H:Hp) (x y:V) (v u:Value) (Q:VK),Inv X pins σ H s→RelV x v→RelV y u→r x y H Q→
  wpAny (model X.prog X.w) X.A (f v u) (EP X pins σ Q) X.xe s
def LA (X:Cx) (f:Value→Sem Value) (r:V→Hp→VK→Prop):Prop:=
 ∀(pins:List (Addr×Obj)) (s:Shared) (σ:St) (H:Hp) (x:V) (v:Value) (Q:VK),Inv X pins σ H s→RelV x v→r x H Q→
  wpAny (model X.prog X.w) X.A (f v) (EP X pins σ Q) X.xe s
def DR (X:Cx) (f:Value) (r:List V→Hp→VK→Prop):Prop:=
 ∀(pins:List (Addr×Obj)) (s:Shared) (σ:St) (H:Hp) (xs:List V) (us:List Value) (Q:VK),Inv X pins σ H s→Vals xs us→r xs H Q→
  wpAny (model X.prog X.w) X.A (call f us) (EP X pins σ Q) X.xe s
def Tu (X:Cx) (r:V→Hp→(Bool→Hp→Prop)→Prop):Prop:=
 ∀(pins:List (Addr×Obj)) (s:Shared) (σ:St) (H:Hp) (x:V) (v:Value) (Q:Bool→Hp→Prop),Inv X pins σ H s→RelV x v→r x H Q→
  wpAny (model X.prog X.w) X.A (truthy v) (TP X pins σ Q) X.xe s
def JM (r:R2) (ta tb:TE):TE:=fun σ H Q=>ta σ H fun x H1=>tb σ H1 fun y H2=>r x y H2 Q
def Tv (r:V→Hp→VK→Prop) (ta:TE):TE:=fun σ H Q=>ta σ H fun x H1=>r x H1 Q
def rI (C:Int→Int→Prop) (g:Int→Int→V):R2:=fun x y H Q=>∃i j,x=.int i∧y=.int j∧C i j∧Q (g i j) H
def FE (g:Int→Int→V):R2:=fun x y H Q=>∃i j,x=.int i∧y=.int j∧Q (g i j) H
def rU (g:Int→V):V→Hp→VK→Prop:=fun x H Q=>∃i,x=.int i∧Q (g i) H
section
variable {X:Cx} {a b c:Expr} {ta tb tc:TE} {pos:Pos}
theorem LC (ha:PE X a ta) (hb:PE X b tb) {pins:List (Addr×Obj)} {s:Shared} {σ:St} {H:Hp} {R:V→V→Hp→Prop} (I:Inv X pins σ H s)
 (h:ta σ H fun x H1=>tb σ H1 fun y H2=>R x y H2) {Q:Value→Shared→Prop} {f:Value→Value→Sem Value}
 (hf:∀v u s2 x y H2,Inv X pins σ H2 s2→RelV x v→RelV y u→R x y H2→wpAny (model X.prog X.w) X.A (f v u) Q X.xe s2):
 wpAny (model X.prog X.w) X.A (eval a X.env) (fun v s₁=>wpAny (model X.prog X.w) X.A (eval b X.env) (fun u s₂=>wpAny (model X.prog X.w) X.A (f v u) Q X.xe s₂) X.xe s₁) X.xe s:=by
 refine AB (ha pins s σ H _ I h) fun v s1 z44_=>?_
 obtain ⟨x,H1,I1,r1,q1⟩:=z44_
 refine AB (hb pins s1 σ H1 _ I1 q1) fun u s2 z45_=>?_
 obtain ⟨y,H2,I2,r2,q2⟩:=z45_
 exact hf v u s2 x y H2 I2 r1 r2 q2
theorem Tw {op:Operator} {r:R2} (ho:OpR X (binaryOp op) r) (ha:PE X a ta) (hb:PE X b tb):PE X (.BinOp a op b pos) (JM r ta tb):=by
 intro pins s σ H Q I h
 exact wpAny_BinOp (LC ha hb I h fun v u s2 x y H2 I2 rx ry q=>ho pins s2 σ H2 x y v u Q I2 rx ry q)
theorem Tx {op:UnaryOp} {r:V→Hp→VK→Prop} (ho:LA X (unaryOp op) r) (ha:PE X a ta):PE X (.UnaryOp op a pos) (Tv r ta):=by
 intro pins s σ H Q I h
 exact UnaryOp_ (AB (ha pins s σ H _ I h) fun v s1 z46_=>by obtain ⟨x,H1,I1,r1,q1⟩:=z46_;exact (ho pins s1 σ H1 x v Q I1 r1 q1))
theorem JN {f:Value→Value→Sem Value} {C:Int→Int→Prop} {g:Int→Int→Int}
 (rule:∀(i j:Int) (t u:Tok) (s:Shared) (Q:Value→Shared→Prop) (E:Value→Shared→Prop),C i j→Q (.int (g i j) s.toks) {s with toks:=s.toks+1}→wpAny (model X.prog X.w) X.A (f (.int i t) (.int j u)) Q E s):
 OpR X f (rI C fun i j=>.int (g i j)):=by
 intro pins s σ H x y v u Q I rx ry h
 obtain ⟨i,j,rfl,rfl,hc,q⟩:=h
 obtain ⟨t,rfl⟩:=rx
 obtain ⟨t',rfl⟩:=ry
 exact rule i j t t' s _ _ hc ⟨.int (g i j),H,I.tok _,⟨_,rfl⟩,q⟩
theorem Of {f:Value→Value→Sem Value} {g:Int→Int→Int}
 (rule:∀(i j:Int) (t u:Tok) (s:Shared) (Q:Value→Shared→Prop) (E:Value→Shared→Prop),Q (.int (g i j) s.toks) {s with toks:=s.toks+1}→wpAny (model X.prog X.w) X.A (f (.int i t) (.int j u)) Q E s):
 OpR X f (FE fun i j=>.int (g i j)):=by
 intro pins s σ H x y v u Q I rx ry h
 obtain ⟨i,j,rfl,rfl,q⟩:=h
 obtain ⟨t,rfl⟩:=rx
 obtain ⟨t',rfl⟩:=ry
 exact rule i j t t' s _ _ ⟨.int (g i j),H,I.tok _,⟨_,rfl⟩,q⟩
theorem LD {f:Value→Value→Sem Value} {g:Int→Int→Bool}
 (rule:∀(i j:Int) (t u:Tok) (s:Shared) (Q:Value→Shared→Prop) (E:Value→Shared→Prop),Q (.bool (g i j)) s→wpAny (model X.prog X.w) X.A (f (.int i t) (.int j u)) Q E s):
 OpR X f (FE fun i j=>.bl (g i j)):=by
 intro pins s σ H x y v u Q I rx ry h
 obtain ⟨i,j,rfl,rfl,q⟩:=h
 obtain ⟨t,rfl⟩:=rx
 obtain ⟨t',rfl⟩:=ry
 exact rule i j t t' s _ _ ⟨.bl (g i j),H,I,rfl,q⟩
def Og (i j:Int):Prop:=0<j∧j<1073741824
def JO (i j:Int):Prop:=0≤j∧j≤1000000∧i.natAbs<2^64
def CMul (i j:Int):Prop:=(-(2^64)<i∧i<2^64)∨(-(2^64)<j∧j<2^64)
theorem CMul.ok {i j:Int} (h:CMul i j):IntMulOk i j:=by
 rcases h with ⟨h1,h2⟩ |⟨h1,h2⟩
 ·exact .of_left (intBits_le_64 h1 h2)
 ·exact .of_right (intBits_le_64 h1 h2)
theorem op_add:OpR X (binaryOp .Add) (FE fun i j=>.int (i+j)):=Of fun _ _ _ _ _ _ _ q=>add_int q
theorem Tz:OpR X (binaryOp .Sub) (FE fun i j=>.int (i - j)):=Of fun _ _ _ _ _ _ _ q=>sub_int q
theorem TB:OpR X (binaryOp .Mod) (rI (fun _ j=>0<j) fun i j=>.int (i % j)):=JN fun i j _ _ _ _ _ hc q=>by
 have h1:(0:Int)<j:=hc
 exact mod_int' (by omega) (by rw [Int.fmod_eq_emod_of_nonneg i (by omega)];exact q)
theorem TC:OpR X (binaryOp .Pow) (rI JO fun i j=>.int (i^j.toNat)):=JN fun _ _ _ _ _ _ _ hc q=>pow_int_small hc.1 hc.2.1 hc.2.2 q
theorem TF {f:Value→Sem Value} {g:Int→Int}
 (rule:∀(i:Int) (t:Tok) (s:Shared) (Q:Value→Shared→Prop) (E:Value→Shared→Prop),Q (.int (g i) s.toks) {s with toks:=s.toks+1}→wpAny (model X.prog X.w) X.A (f (.int i t)) Q E s):
 LA X f (rU fun i=>.int (g i)):=by
 intro pins s σ H x v Q I rx h
 obtain ⟨i,rfl,q⟩:=h
 obtain ⟨t,rfl⟩:=rx
 exact rule i t s _ _ ⟨.int (g i),H,I.tok _,⟨_,rfl⟩,q⟩
theorem TH:LA X (unaryOp .USub) (rU fun i=>.int (-i)):=TF fun _ _ _ _ _ q=>neg_int q
end
def Oh:V→V→Bool
 |.non,.non=>true |.non,.int _=>true |.int _,.non=>true |.non,.bl _=>true |.bl _,.non=>true |.non,.str _=>true |.str _,.non=>true
 |.int _,.int _=>true |.bl _,.bl _=>true |.str _,.str _=>true |.byt _,.byt _=>true
 |.int _,.str _=>true |.str _,.int _=>true |.bl _,.str _=>true |.str _,.bl _=>true
 |_,_=>false
def TJ:R2:=fun x y H Q=>Oh x y=true∧Q (.bl (decide (x=y))) H
def TK:R2:=fun x y H Q=>Oh x y=true∧Q (.bl (!decide (x=y))) H
theorem Oi {i j:Int}:decide (V.int i=V.int j)=(i==j):=by
 rw [qaV]
 simp
theorem Oj {i j:Bool}:decide (V.bl i=V.bl j)=(i==j):=by
 rw [qaV]
 simp
theorem JP {i j:Str}:decide (V.str i=V.str j)=(i==j):=by
 rw [qaV]
 simp
theorem Ol {i j:Array UInt8}:decide (V.byt i=V.byt j)=(i.toList==j.toList):=by
 rw [qaV]
 cases i
 cases j
 simp
section
variable {X:Cx} {a b c:Expr} {ta tb tc:TE} {pos:Pos}
theorem Bj {pins:List (Addr×Obj)} {σ:St} {H:Hp} {s:Shared} {Q:VK} {k k':Bool} (I:Inv X pins σ H s) (q:Q (.bl k) H) (e:k=k'):EP X pins σ Q (.bool k') s:=by
 subst e
 exact ⟨.bl k,H,I,rfl,q⟩
theorem op_eq:OpR X (compareOp .Eq) TJ:=by
 intro pins s σ H x y v u Q I rx ry h
 obtain ⟨hs,q⟩:=h
 cases x with
 |non=>
  cases rx
  cases y with
  |non=>cases ry;exact PySem.EqNone.eq_none_none (Bj I q (by simp))
  |bl j=>cases ry;exact PySem.EqNone.eq_none_bool (Bj I q (by simp))
  |int j=>obtain ⟨t',rfl⟩:=ry;exact PySem.EqNone.eq_none_int (Bj I q (by simp))
  |str j=>obtain ⟨t',rfl⟩:=ry;exact PySem.EqNone.eq_none_str (Bj I q (by simp))
  |_=>exact absurd (show false=true from hs) Bw
 |bl i=>
  cases rx
  cases y with
  |non=>cases ry;exact PySem.EqNone.eq_bool_none (Bj I q (by simp))
  |bl j=>cases ry;exact eq_bool (Bj I q Oj)
  |str j=>obtain ⟨t',rfl⟩:=ry;exact PySem.EqMixed.eq_bool_str (Bj I q (by simp))
  |_=>exact absurd (show false=true from hs) Bw
 |int i=>
  obtain ⟨t,rfl⟩:=rx
  cases y with
  |non=>cases ry;exact PySem.EqNone.eq_int_none (Bj I q (by simp))
  |int j=>obtain ⟨t',rfl⟩:=ry;exact eq_int (Bj I q Oi)
  |str j=>obtain ⟨t',rfl⟩:=ry;exact PySem.EqMixed.eq_int_str (Bj I q (by simp))
  |_=>exact absurd (show false=true from hs) Bw
 |str i=>
  obtain ⟨t,rfl⟩:=rx
  cases y with
  |non=>cases ry;exact PySem.EqNone.eq_str_none (Bj I q (by simp))
  |bl j=>cases ry;exact PySem.EqMixed.eq_str_bool (Bj I q (by simp))
  |int j=>obtain ⟨t',rfl⟩:=ry;exact PySem.EqMixed.eq_str_int (Bj I q (by simp))
  |str j=>obtain ⟨t',rfl⟩:=ry;exact eq_str (Bj I q JP)
  |_=>exact absurd (show false=true from hs) Bw
 |byt i=>
  obtain ⟨t,rfl⟩:=rx
  cases y with
  |byt j=>obtain ⟨t',rfl⟩:=ry;exact PySem.W.eq_bytes (Bj I q Ol)
  |_=>exact absurd (show false=true from hs) Bw
 |_=>cases y<;>exact absurd (show false=true from hs) Bw
theorem op_ne:OpR X (compareOp .NotEq) TK:=by
 intro pins s σ H x y v u Q I rx ry h
 obtain ⟨hs,q⟩:=h
 cases x with
 |non=>
  cases rx
  cases y with
  |non=>cases ry;exact PySem.EqNone.ne_none_none (Bj I q (by simp))
  |bl j=>cases ry;exact PySem.EqNone.ne_none_bool (Bj I q (by simp))
  |int j=>obtain ⟨t',rfl⟩:=ry;exact PySem.EqNone.ne_none_int (Bj I q (by simp))
  |str j=>obtain ⟨t',rfl⟩:=ry;exact PySem.EqNone.ne_none_str (Bj I q (by simp))
  |_=>exact absurd (show false=true from hs) Bw
 |bl i=>
  cases rx
  cases y with
  |non=>cases ry;exact PySem.EqNone.ne_bool_none (Bj I q (by simp))
  |bl j=>cases ry;exact ne_bool (Bj I q (congrArg not Oj))
  |str j=>obtain ⟨t',rfl⟩:=ry;exact PySem.EqMixed.ne_bool_str (Bj I q (by simp))
  |_=>exact absurd (show false=true from hs) Bw
 |int i=>
  obtain ⟨t,rfl⟩:=rx
  cases y with
  |non=>cases ry;exact PySem.EqNone.ne_int_none (Bj I q (by simp))
  |int j=>obtain ⟨t',rfl⟩:=ry;exact ne_int (Bj I q (congrArg not Oi))
  |str j=>obtain ⟨t',rfl⟩:=ry;exact PySem.EqMixed.ne_int_str (Bj I q (by simp))
  |_=>exact absurd (show false=true from hs) Bw
 |str i=>
  obtain ⟨t,rfl⟩:=rx
  cases y with
  |non=>cases ry;exact PySem.EqNone.ne_str_none (Bj I q (by simp))
  |bl j=>cases ry;exact PySem.EqMixed.ne_str_bool (Bj I q (by simp))
  |int j=>obtain ⟨t',rfl⟩:=ry;exact PySem.EqMixed.ne_str_int (Bj I q (by simp))
  |str j=>obtain ⟨t',rfl⟩:=ry;exact ne_str (Bj I q (congrArg not JP))
  |_=>exact absurd (show false=true from hs) Bw
 |byt i=>
  obtain ⟨t,rfl⟩:=rx
  cases y with
  |byt j=>obtain ⟨t',rfl⟩:=ry;exact PySem.W.ne_bytes (Bj I q (congrArg not Ol))
  |_=>exact absurd (show false=true from hs) Bw
 |_=>cases y<;>exact absurd (show false=true from hs) Bw
theorem TL:OpR X (compareOp .Lt) (FE fun i j=>.bl (decide (i<j))):=LD fun _ _ _ _ _ _ _ q=>lt_int q
theorem TM:OpR X (compareOp .LtE) (FE fun i j=>.bl (decide (i≤j))):=LD fun _ _ _ _ _ _ _ q=>le_int q
theorem TN:OpR X (compareOp .Gt) (FE fun i j=>.bl (decide (j<i))):=LD fun _ _ _ _ _ _ _ q=>gt_int q
theorem TQ:OpR X (compareOp .IsNot) (fun x y H Q=>y=.non∧Q (.bl (!decide (x=.non))) H):=by
 intro pins s σ H x y v u Q I rx ry h
 obtain ⟨rfl,q⟩:=h
 cases ry
 refine isnot_none_gen (Bj I q ?_)
 cases x<;>first
  |(cases rx;rfl)
  |(obtain ⟨t,rfl⟩:=rx;rfl)
theorem OpR.or {f:Value→Value→Sem Value} {r r':R2} (h:OpR X f r) (h':OpR X f r'):OpR X f (fun x y H Q=>r x y H Q∨r' x y H Q):=by
 intro pins s σ H x y v u Q I rx ry q
 rcases q with q |q
 ·exact h pins s σ H x y v u Q I rx ry q
 ·exact h' pins s σ H x y v u Q I rx ry q
theorem BL (b:Expr) {op:CmpOp} (h:op≠.In:=by decide) (h2:op≠.NotIn:=by decide):behindInMarks op b=false:=by
 have e1:(op==CmpOp.In)=false:=by cases op<;>first |rfl |exact absurd rfl h
 have e2:(op==CmpOp.NotIn)=false:=by cases op<;>first |rfl |exact absurd rfl h2
 cases b with
 |Set elts k p=>
  show (k==0&&(op==.In||op==.NotIn)&&elts.all (constantsAlone 8))=false
  rw [e1,e2,Bool.or_self,Bool.and_false,Bool.false_and]
 |_=>rfl
theorem TU {op:CmpOp} {r:R2} (ho:OpR X (compareOp op) r) (ha:PE X a ta) (hb:PE X b tb) (hm:behindInMarks op b=false):PE X (.Compare a [op] [b] pos) (JM r ta tb):=by
 intro pins s σ H Q I h
 exact wpAny_Compare1 (LC ha hb I h fun v u s2 x y H2 I2 rx ry q=>ho pins s2 σ H2 x y v u Q I2 rx ry q) hm
def TV (t:TE):TT:=fun σ H Q=>t σ H fun x H'=>∃k,x=.bl k∧Q k H'
theorem TX {op:CmpOp} {r:R2} (ho:OpR X (compareOp op) r) (ha:PE X a ta) (hb:PE X b tb) (hm:behindInMarks op b=false):PT X (.Compare a [op] [b] pos) (TV (JM r ta tb)):=by
 intro pins s σ H Q I h
 refine wpAny_isTrue_Compare1 (AB (ha pins s σ H _ I h) fun v s1 ⟨x,H1,I1,r1,q1⟩=>AB (hb pins s1 σ H1 _ I1 q1) ?_) hm
 rintro u s2 ⟨y,H2,I2,r2,q2⟩
 refine AB (ho pins s2 σ H2 x y v u _ I2 r1 r2 q2) fun c s3 z49_=>?_
 obtain ⟨z,H3,I3,r3,k,e,q3⟩:=z49_
 subst e
 cases r3
 exact wpAny_truthy_bool ⟨H3,I3,q3⟩
def Om (r r':R2) (ta tb tc:TE):TE:=fun σ H Q=>ta σ H fun x H1=>tb σ H1 fun y H2=>r x y H2 fun z H3=>∃k,z=.bl k∧
 (if k=true then tc σ H3 fun w' H4=>r' y w' H4 Q else Q (.bl false) H3)
theorem TY {op op':CmpOp} {r r':R2} (ho:OpR X (compareOp op) r) (ho':OpR X (compareOp op') r') (ha:PE X a ta) (hb:PE X b tb) (hc:PE X c tc)
 (hm:lastMarks [op,op'] [b,c]=false:=by with_unfolding_all rfl):PE X (.Compare a [op,op'] [b,c] pos) (Om r r' ta tb tc):=by
 intro pins s σ H Q I h
 refine Compare_chain (AB (ha pins s σ H _ I h) fun v s1 ⟨x,H1,I1,r1,q1⟩=>chain_link (AB (hb pins s1 σ H1 _ I1 q1) ?_)) hm
 rintro u s2 ⟨y,H2,I2,r2,q2⟩
 refine AB (ho pins s2 σ H2 x y v u _ I2 r1 r2 q2) fun d s3 z52_=>?_
 obtain ⟨z,H3,I3,r3,k,e,q3⟩:=z52_
 subst e
 cases r3
 refine wpAny_truthy_bool ?_
 cases k with
 |false=>exact ite_ff ⟨.bl false,H3,I3,rfl,q3⟩
 |true=>exact ite_tt (chain_last (AB (hc pins s3 σ H3 _ I3 q3) fun w' s4 z53_=>by obtain ⟨z',H4,I4,r4,q4⟩:=z53_;exact (ho' pins s4 σ H4 y z' u w' Q I4 r2 r4 q4)))
def LG (K:PySem.W.Frag) (x:V) (H:Hp) (k:Bool):Prop:=
 match x with
 |.non=>k=false
 |.bl b=>k=b
 |.int i=>k=(i != 0)
 |.str y=>y.length≤sizeLine∧k=((y.length:Int) != 0)
 |.byt y=>y.size≤sizeLine∧k=((y.size:Int) != 0)
 |.ref p=>(∃xs,SqL K H p xs∧k=!xs.isEmpty)∨(∃xs,SqT K H p xs∧k=!xs.isEmpty)
 |_=>False
theorem On {xs:List V} {its:List Value} (r:Vals xs its):(!its.toArray.isEmpty)=!xs.isEmpty:=by
 cases r<;>simp
theorem Hb:(sizeLine:Nat)<2^63:=by rw [sizeLine_eq];decide
theorem TZ:Tu X (fun x H Q=>∃k,LG X.K x H k∧Q k H):=by
 intro pins s σ H x v Q I rx h
 obtain ⟨k,e,q⟩:=h
 have hl:=Hb
 have hs:sizeLine=16777216:=sizeLine_eq
 cases x with
 |non=>
  cases rx
  have e':k=false:=e
  subst e'
  exact truthy_none ⟨H,I,q⟩
 |bl b=>
  cases rx
  have e':k=b:=e
  subst e'
  exact wpAny_truthy_bool ⟨H,I,q⟩
 |int i=>
  obtain ⟨t,rfl⟩:=rx
  have e':k=(i != 0):=e
  subst e'
  exact PySem.P.truthy_int ⟨H,I,q⟩
 |str y=>
  obtain ⟨t,rfl⟩:=rx
  obtain ⟨hy,e'⟩:y.length≤sizeLine∧k=((y.length:Int) != 0):=e
  subst e'
  exact PySem.P.truthy_str (by omega) ⟨H,I.tok _,q⟩
 |byt y=>
  obtain ⟨t,rfl⟩:=rx
  obtain ⟨hy,e'⟩:y.size≤sizeLine∧k=((y.size:Int) != 0):=e
  subst e'
  exact PySem.W.truthy_bytes (by omega) ⟨H,I.tok _,q⟩
 |ref p=>
  cases rx
  have e':(∃xs,SqL X.K H p xs∧k=!xs.isEmpty)∨(∃xs,SqT X.K H p xs∧k=!xs.isEmpty):=e
  rcases e' with ⟨xs,hx,e'⟩ |⟨xs,hx,e'⟩
  ·subst e'
   obtain ⟨its,r,pl,hz⟩:=I.list hx
   have hlen:=r.length
   exact wpAny_truthy_list pl.isList (by simp only [A9];omega) ⟨H,I.tok _,by rw [On r];exact q⟩
  ·subst e'
   obtain ⟨its,r,pl,hz⟩:=I.tuple hx
   have hlen:=r.length
   exact truthy_tuple pl (by simp only [A9];omega) ⟨H,I.tok _,by rw [On r];exact q⟩
 |_=>exact (show False from e).elim
theorem T1 (ha:PE X a ta) (he:∀EO,isTrue a X.env EO=(do let v ←EO;standAt a.pos;holding [v] (truthy v))):
 PT X a (fun σ H Q=>ta σ H fun x H'=>∃k,LG X.K x H' k∧Q k H'):=by
 intro pins s σ H Q I h
 exact isTrue_plain (AB (ha pins s σ H _ I h) fun v s1 z59_=>by obtain ⟨x,H1,I1,r1,q1⟩:=z59_;exact (TZ pins s1 σ H1 x v Q I1 r1 q1)) (he _)
theorem T3:OpR X (binaryOp .Add) (fun x y H Q=>∃i j,x=.str i∧y=.str j∧i.length+j.length≤sizeLine∧Q (.str (i++j)) H):=by
 intro pins s σ H x y v u Q I rx ry h
 obtain ⟨i,j,rfl,rfl,hz,q⟩:=h
 obtain ⟨t,rfl⟩:=rx
 obtain ⟨t',rfl⟩:=ry
 exact add_str (fun t' tk=>⟨.str (i++j),H,I.tok _,⟨_,rfl⟩,q⟩) hz
theorem En {x:V} {us:List Value} (r:Vals [x] us):∃u,us=[u]∧RelV x u:=by
 cases r with
 |cons r1 r2=>cases r2;exact ⟨_,rfl,r1⟩
theorem Iw {x y:V} {us:List Value} (r:Vals [x,y] us):∃u w',us=[u,w']∧RelV x u∧RelV y w':=by
 cases r with
 |cons r1 r2=>
  cases r2 with
  |cons r3 r4=>cases r4;exact ⟨_,_,rfl,r1,r3⟩
theorem T4 (hc:X.calm=true):DR X (.builtin "max") (fun xs H Q=>∃i j,xs=[.int i,.int j]∧Q (.int (if j>i then j else i)) H):=by
 intro pins s σ H xs us Q I r h
 obtain ⟨i,j,rfl,q⟩:=h
 obtain ⟨u,w',rfl,⟨t,rfl⟩,⟨t',rfl⟩⟩:=Iw r
 refine max_two_ints (I.ok.hd hc) fun h' tk k=>⟨_,H,I.kept k,?_,q⟩
 by_cases hj:j>i
 ·rw [if_pos hj,if_pos hj];exact ⟨_,rfl⟩
 ·rw [if_neg hj,if_neg hj];exact ⟨_,rfl⟩
theorem T6 (hc:X.calm=true):DR X (.builtin "min") (fun xs H Q=>∃i j,xs=[.int i,.int j]∧Q (.int (if j<i then j else i)) H):=by
 intro pins s σ H xs us Q I r h
 obtain ⟨i,j,rfl,q⟩:=h
 obtain ⟨u,w',rfl,⟨t,rfl⟩,⟨t',rfl⟩⟩:=Iw r
 refine min_two_ints (I.ok.hd hc) fun h' tk k=>⟨_,H,I.kept k,?_,q⟩
 by_cases hj:j<i
 ·rw [if_pos hj,if_pos hj];exact ⟨_,rfl⟩
 ·rw [if_neg hj,if_neg hj];exact ⟨_,rfl⟩
theorem T7:DR X (.type "int") (fun xs H Q=>(∃i,xs=[.int i]∧Q (.int i) H)∨∃k,xs=[.bl k]∧Q (.int (if k then 1 else 0)) H):=by
 intro pins s σ H xs us Q I r h
 rcases h with ⟨i,rfl,q⟩ |⟨k,rfl,q⟩
 ·obtain ⟨u,rfl,t,rfl⟩:=En r
  exact call_int_int ⟨.int i,H,I,⟨_,rfl⟩,q⟩
 ·obtain ⟨u,rfl,r1⟩:=En r
  cases r1
  exact call_int_bool ⟨.int (if k then 1 else 0),H,I.tok _,⟨_,rfl⟩,q⟩
end
section
variable {prog:Program} {w:World} {A:Around} {E:Value→Shared→Prop} {s:Shared} {K:PySem.W.Frag} {x dx C f:Addr} {mA:Str→Option Value} {name:Str} {v:Value}
end
section
variable {P:Program} {w:World} {H H':Hp} {h h':Heap} {a C dx:Addr} {fs fs':List (Str×V)}
end
section
variable {X:Cx} {pins:List (Addr×Obj)} {σ:St} {H:Hp} {s:Shared} {a C dx:Addr} {fs:List (Str×V)} {f:Str} {v:V} {A:Around} {E:Value→Shared→Prop}
end
section
variable {X:Cx} {o e value:Expr} {f:Str} {pos pos' tpos:Pos} {ta tv:TE}
end
section
variable {X:Cx} {pins:List (Addr×Obj)} {σ:St} {H:Hp} {s:Shared} {A:Around} {E:Value→Shared→Prop} {Q:Value→Shared→Prop} {c:Value} {b:Bool}
inductive Eo (K:PySem.W.Frag) (H:Hp):V→Value→Prop where
 |non:Eo K H .non (.type "NoneType")
 |bl (x:Bool):Eo K H (.bl x) (.type "bool")
 |int (i:Int):Eo K H (.int i) (.type "int")
 |str (x:Str):Eo K H (.str x) (.type "str")
 |flt (x:UInt64):Eo K H (.flt x) (.type "float")
 |lst {a:Addr} {xs:List V} (e:H a=some (.lst xs)):Eo K H (.ref a) (.type "list")
 |frz {a:Addr} {o:Obj} {xs:List V} (e:H a=some (.frz o (.lst xs))):Eo K H (.ref a) (.type "list")
 |tup {a:Addr} {xs:List V} (e:H a=some (.tup xs)):Eo K H (.ref a) (.type "tuple")
theorem T9 {x:V} {u t:Value} (I:Inv X pins σ H s) (rx:RelV x u) (ty:Eo X.K H x t) (e:PySem.W.kitOne X.K t c=some b) (h:∀tk,Q (.bool b) {s with toks:=tk}):
 wpAny (model X.prog X.w) A (call (.builtin "isinstance") [u,c]) Q E s:=by
 cases ty with
 |non=>cases (show u=Value.none from rx);exact PySem.W.kia_one PySem.W.kitx_none I.kIn True.intro e (fun z=>nomatch z) h
 |bl y=>cases (show u=Value.bool y from rx);exact PySem.W.kia_one PySem.W.kitx_bool I.kIn True.intro e (fun z=>nomatch z) h
 |int i=>obtain ⟨t,q⟩:=(show ∃t,u=Value.int i t from rx);cases q;exact PySem.W.kia_one PySem.W.kitx_int I.kIn True.intro e (fun z=>nomatch z) h
 |str y=>obtain ⟨t,q⟩:=(show ∃t,u=Value.str y t from rx);cases q;exact PySem.W.kia_one PySem.W.kitx_str I.kIn True.intro e (fun z=>nomatch z) h
 |flt y=>obtain ⟨t,q⟩:=(show ∃t,u=Value.float y t from rx);cases q;exact PySem.W.kia_one PySem.W.kitx_float I.kIn True.intro e (fun z=>nomatch z) h
 |@lst a xs ea=>
  cases (show u=Value.ref a from rx)
  obtain ⟨_,_,n,_,h1⟩:=(show ObjOk X.prog X.w H s.heap a (.lst xs) from I.hok a _ ea)
  exact PySem.W.kia_one PySem.W.kitx_list I.kIn ⟨_,h1,rfl⟩ e (fun z=>nomatch z) h
 |@frz a ob xs ea=>
  cases (show u=Value.ref a from rx)
  obtain ⟨_,_,_,n,_,h1⟩:=(show ObjOk X.prog X.w H s.heap a (.frz ob (.lst xs)) from I.hok a _ ea)
  exact PySem.W.kia_one PySem.W.kitx_list I.kIn ⟨_,h1,rfl⟩ e (fun z=>nomatch z) h
 |@tup a xs ea=>
  cases (show u=Value.ref a from rx)
  obtain ⟨_,_,_,p,_⟩:=(show ObjOk X.prog X.w H s.heap a (.tup xs) from I.hok a _ ea)
  obtain ⟨o,h1,h2,_⟩:=p
  exact PySem.W.kia_one PySem.W.kitx_tuple I.kIn ⟨o,h1,h2⟩ e (fun z=>nomatch z) h
end
structure Room (k:Nat) (A:Around):Prop where
 hd:A.handled=none
 dp:A.depth+3*k+5<recursionLimit
 un:A.units+16*k+200<cLine
 gd:A.guards=some []
theorem Room.mono {j k:Nat} {A:Around} (r:Room k A) (h:j≤k):Room j A:=⟨r.hd,by have:=r.dp;omega,by have:=r.un;omega,r.gd⟩
theorem Room.deeper {k:Nat} {A:Around} (r:Room (k+1) A) (env:Env):Room k (A.deeper env):=
 ⟨r.hd,by have:=r.dp;show A.depth+1+3*k+5<_;omega,by have:=r.un;show A.units+3+16*k+200<_;omega,r.gd⟩
theorem Room.depth {k:Nat} {A:Around} (r:Room k A):A.depth<recursionLimit:=by have:=r.dp;omega
theorem Room.units {k:Nat} {A:Around} (r:Room k A):A.units+64<cLine:=by have:=r.un;omega
def Ua:TA:=fun _ H Q=>Q [] H
def Ub (ta:TE) (tr:TA):TA:=fun σ H Q=>ta σ H fun x H1=>tr σ H1 fun xs H2=>Q (x::xs) H2
section
variable {X:Cx} {e:Expr} {es:List Expr} {te:TE} {t:TA} {pos:Pos}
theorem Uc:PA X [] Ua:=fun _ _ _ _ H Q I h=>Calls.spliced_nil ⟨[],H,I,.nil,h⟩
theorem Ud (ha:PE X e te) (hr:PA X es t) (hs:starEach (e::es) X.env=(false,eval e X.env)::starEach es X.env:=by rfl):PA X (e::es) (Ub te t):=by
 intro pos pins s σ H Q I h
 rw [hs]
 show wpAny _ _ (spliced ((false,eval e X.env)::backTo pos (starEach es X.env))) _ _ s
 refine Calls.spliced_cons (AB (ha pins s σ H _ I h) fun u s1 z68_=>?_)
 obtain ⟨x,H1,I1,r1,q1⟩:=z68_
 exact AB (hr pos pins s1 σ H1 _ I1 q1) fun us s2 z69_=>by obtain ⟨xs,H2,I2,r2,q2⟩:=z69_;exact (⟨x::xs,H2,I2,.cons r1 r2,q2⟩)
def Ue (t:TA):TE:=fun σ H Q=>t σ H fun xs H1=>xs.length≤sizeLine∧∀p,H1 p=none→Q (.ref p) (An H1 p (.tup xs))
def Ug (t:TA):TE:=fun σ H Q=>t σ H fun xs H1=>xs.length≤sizeLine∧∀p,H1 p=none→Q (.ref p) (An H1 p (.lst xs))
theorem Uh {x1} (h:PA X es t):PE X (.Tuple es x1 pos) (Ue t):=by
 intro pins s σ H Q I hq
 refine wpAny_Tuple_spliced (AB (h pos pins s σ H _ I hq) fun us s1 ⟨xs,H1,I1,r,z,q⟩=>⟨by rw [←r.length];exact z,?_⟩)
 have hf:H1 s1.heap.objs.size=none:=I1.hok.fresh (AK _)
 refine ⟨.ref s1.heap.objs.size,An H1 s1.heap.objs.size (.tup xs),I1.laid (t':=s1.toks) (fun b u e=>AE _ e) (AK _) ?_,rfl,q _ hf⟩
 exact ⟨z,us,r,⟨_,Bp _ rfl,rfl,_,rfl⟩,NoDict.new⟩
theorem Ui (h:PA X es t):PE X (.List es pos) (Ug t):=by
 intro pins s σ H Q I hq
 refine wpAny_List_spliced (AB (h pos pins s σ H _ I hq) fun us s1 ⟨xs,H1,I1,r,z,q⟩=>⟨by rw [←r.length];exact z,?_⟩)
 have hf:H1 s1.heap.objs.size=none:=I1.hok.fresh (AK _)
 refine ⟨.ref s1.heap.objs.size,An H1 s1.heap.objs.size (.lst xs),I1.laid (t':=s1.toks) (fun b u e=>AE _ e) (AK _) ?_,rfl,q _ hf⟩
 exact ⟨z,us,0,r,Bp _ rfl⟩
end
abbrev Sp:=List V→Hp→VK→XK→Prop
abbrev DS:=List Env→Hp→Shared→XK→Value→Shared→Prop
structure FG (P:Program) (w:World) (K:PySem.W.Frag) (mg:Str→Option Value) (base:Heap) (A:Around) (outer:List Env) (s:Shared) (H:Hp):Prop where
 frames:A.frames=some outer
 mod:Mod K mg base
 bs:∀b o,base.get? b=some o→s.heap.get? b=some o∧H b=none
 bsz:base.objs.size≤s.heap.objs.size
 funs:s.heap.FunFrames base outer
 frf:∀b∈frs outer,H b=none
 hok:HOk P w H s.heap
 bare:AllBare s.gens
inductive CE (outer:List Env) (P:Program) (w:World) (H:Hp) (s:Shared) (Q:VK) (u:Value) (s':Shared):Prop where
 |mk (v:V) (H':Hp) (os:s'.os=s.os) (bare:AllBare s'.gens) (un:Un (frs outer) [] H H' s.heap s'.heap) (hok:HOk P w H' s'.heap) (r:RelV v u) (q:Q v H'):CE outer P w H s Q u s'
def CR (CX:DS) (outer:List Env) (P:Program) (w:World) (H:Hp) (s:Shared) (Q:VK) (E:XK) (r:Result) (s':Shared):Prop:=
 match r with
 |.ok (.ret u)=>CE outer P w H s Q u s'
 |.ok _=>False
 |.error e=>CX outer H s E e s'
structure FnOk (P:Program) (w:World) (K:PySem.W.Frag) (mg:Str→Option Value) (base:Heap) (CX:DS) (k:Nat) (f:Addr) (fd:FuncData) (ps:List Str) (sp:Sp):Prop where
 len:∀vs H Q E,sp vs H Q E→vs.length=ps.length
 run:∀(A:Around) (outer:List Env) (s:Shared) (H:Hp) (args:Args) (us:List Value) (vs:List V) (Q:VK) (E:XK),Room k A→FG P w K mg base A outer s H→BindsTo s fd args (ps.zip us)→Vals vs us→sp vs H Q E→
  codeAny (model P w) A (.call (.ref f) args) (CR CX outer P w H s Q E) s
theorem FnOk.mono {P:Program} {w:World} {K:PySem.W.Frag} {mg:Str→Option Value} {base:Heap} {CX:DS} {j k:Nat} {f:Addr} {fd:FuncData} {ps:List Str} {sp:Sp} (F:FnOk P w K mg base CX j f fd ps sp) (h:j≤k):
 FnOk P w K mg base CX k f fd ps sp:=⟨F.len,fun A outer s H args us vs Q E hr=>F.run A outer s H args us vs Q E (hr.mono h)⟩
theorem FnOk.imp {P:Program} {w:World} {K:PySem.W.Frag} {mg:Str→Option Value} {base:Heap} {CX:DS} {k:Nat} {f:Addr} {fd:FuncData} {ps:List Str} {sp sp':Sp} (F:FnOk P w K mg base CX k f fd ps sp)
 (h:∀vs H Q E,sp' vs H Q E→sp vs H Q E):FnOk P w K mg base CX k f fd ps sp':=
 ⟨fun vs H Q E q=>F.len vs H Q E (h _ _ _ _ q),fun A outer s H args us vs Q E hr he hb hv hs=>F.run A outer s H args us vs Q E hr he hb hv (h _ _ _ _ hs)⟩
section
variable {X:Cx} {pins:List (Addr×Obj)} {σ:St} {H:Hp} {s s':Shared}
theorem Inv.env0 (I:Inv X pins σ H s):FG X.prog X.w X.K X.mg X.base X.A X.stack s H:=
 ⟨I.ok.frames,I.ok.mod,I.bs,BK I.ok.bsz I.sz,I.stack,I.stkFree,I.hok,I.bare⟩
theorem Inv.after {Q:VK} {u:Value} (I:Inv X pins σ H s) (h:CE X.stack X.prog X.w H s Q u s'):EP X pins σ Q u s':=by
 obtain ⟨v,H',os,bare,un,hok,r,q⟩:=h
 obtain ⟨hh,g,d,t,os'⟩:=s'
 obtain rfl:os'=s.os:=os
 exact ⟨v,H',I.call (h':=hh) (g':=g) (d':=d) (t':=t) (ch:=[]) un hok bare (fun b z=>absurd z (by simp)),r,q⟩
end
def Uj (sp:Sp) (dvs:List V) (E:XK) (t:TA):TE:=fun σ H Q=>t σ H fun vs H1=>sp (vs++dvs) H1 Q E
def Binds (K:PySem.W.Frag) (fd:FuncData) (ps:List Str) (ds:List Value):Prop:=
 ∀(s:Shared) (us:List Value),K.In s.heap→(us++ds).length=ps.length→BindsTo s fd ⟨us,[]⟩ (ps.zip (us++ds))
theorem Binds.all {K:PySem.W.Frag} {fd:FuncData} {ps:List Str} (h:∀us:List Value,us.length=ps.length→bindArgs fd ⟨us,[]⟩=pure (ps.zip us)):Binds K fd ps []:=fun s us _ hl=>by
 rw [Fy] at hl ⊢
 exact .of_eq (h us hl)
def F7 (CX:DS) (X:Cx) (E:XK):Prop:=∀(pins:List (Addr×Obj)) (σ:St) (H:Hp) (s:Shared) (e:Value) (s':Shared),Inv X pins σ H s→CX X.stack H s E e s'→X.xe e s'
section
variable {X:Cx} {CX:DS} {k:Nat} {f C:Addr} {fd:FuncData} {ps:List Str} {sp:Sp} {dvs:List V} {ds:List Value} {E:XK} {x m:Str} {p pos apos:Pos} {e o:Expr} {es:List Expr} {ta:TE} {t:TA}
theorem Uk {pins:List (Addr×Obj)} {σ:St} {H:Hp} {s:Shared} {Q:VK} {us:List Value} {vs:List V} (F:FnOk X.prog X.w X.K X.mg X.base CX k f fd ps sp) (hr:Room k X.A) (hb:Binds X.K fd ps ds) (hd:Vals dvs ds) (hx:F7 CX X E)
 (I:Inv X pins σ H s) (r:Vals vs us) (h:sp (vs++dvs) H Q E):wpAny (model X.prog X.w) X.A (call (.ref f) us) (EP X pins σ Q) X.xe s:=by
 have r2:Vals (vs++dvs) (us++ds):=r.append hd
 have hl:(us++ds).length=ps.length:=by rw [←r2.length];exact F.len _ _ _ _ h
 refine wpAny_call (codeAny_mono (F.run X.A X.stack s H ⟨us,[]⟩ (us++ds) (vs++dvs) Q E hr I.env0 (hb s us I.kIn hl) r2 h) fun r s' hq=>?_)
 cases r with
 |error e=>exact hx pins σ H s e s' I hq
 |ok fl=>
  cases fl with
  |ret u=>exact I.after hq
  |next=>exact False.elim hq
  |brk=>exact False.elim hq
  |cont=>exact False.elim hq
theorem Ul (F:FnOk X.prog X.w X.K X.mg X.base CX k f fd ps sp) (hr:Room k X.A) (hg:Gl X x) (hm:X.mg x=some (.ref f)) (hk:PySem.W.keepIn X.K (.ref f)=true) (hb:Binds X.K fd ps ds) (hd:Vals dvs ds) (hx:F7 CX X E)
 (ha:PA X (e::es) t) (hdb:(x==("__debug__":Str))=false:=by decide) (he:starEach (e::es) X.env=(false,eval e X.env)::starEach es X.env:=by rfl) (hpl:(backTo pos (starEach es X.env)).any (·.1)=false:=by rfl):
 PE X (.Call (.Name x p) (e::es) [] pos) (Uj sp dvs E t):=by
 intro pins s σ H Q I h
 refine wpAny_Call_Name_kw (Ha I hg hm ?_ hdb)
 refine PySem.W.callWith_K (h₀:=X.base) I.ok.mod.kin hk (AB (ha pos pins s σ H _ I h) ?_) he hpl
 rintro us s1 ⟨vs,H1,I1,r,q⟩
 refine ⟨I1.kIn,?_⟩
 exact Uk F hr hb hd hx I1 r q
end
section
variable {X:Cx} {CX:DS} {k:Nat} {f C:Addr} {fd:FuncData} {ps ks:List Str} {sp:Sp} {E:XK} {x m:Str} {p pos apos kpos:Pos} {e o:Expr} {es:List Expr} {kws:List Keyword} {te ta:TE} {t tk:TA} {nm:Option Str}
variable {g:List Value→List Value→List Value} {gV:List V→List V→List V}
end
structure Bd (N P:List Str) (sc:Scope):Prop where
 kind:sc.kind=.function
 co:sc.isCoroutine=false
 gen:sc.isGenerator=false
 nd:N.Nodup
 pre:N.take P.length=P
 par:∀x∈P,sc.names.lookup x=some .local∨sc.names.lookup x=some .cell
 nofree:∀y∈sc.names,y.2≠.free
theorem Oo {kindOf:Str→Option NameKind} {x:Str}:∀{binds:List (Str×Value)} {m:Str→Option Value},(∀v,(x,v)∉binds)→bindL kindOf binds m x=m x
 |[],_,_=>rfl
 |(n,v)::r,m,h=>by
  unfold bindL
  rw [Oo fun w hw=>h w (A1 _ hw)]
  split
  ·have:x≠n:=by rintro rfl;exact h v AO
   simp [this]
  ·rfl
theorem Oq {kindOf:Str→Option NameKind} {x:Str}:∀{binds:List (Str×Value)} {m:Str→Option Value},(∀v,(x,v)∉binds)→bindC kindOf binds m x=m x
 |[],_,_=>rfl
 |(n,v)::r,m,h=>by
  unfold bindC
  rw [Oq fun w hw=>h w (A1 _ hw)]
  split
  ·rfl
  ·have:x≠n:=by rintro rfl;exact h v AO
   simp [this]
theorem LH {kindOf:Str→Option NameKind} {x:Str} {v:Value}:∀{P:List Str} {vs:List Value} {i:Nat} {m:Str→Option Value},P.Nodup→P[i]?=some x→vs[i]?=some v→kindOf x=some .local→
 bindL kindOf (P.zip vs) m x=some v
 |[],_,_,_,_,h,_,_=>by simp at h
 |_::_,[],_,_,_,_,h,_=>by simp at h
 |p::P,w::vs,0,m,nd,h1,h2,hk=>by
  simp at h1 h2;subst h1;subst h2
  show bindL kindOf ((p,w)::P.zip vs) m p=_
  unfold bindL
  rw [Oo fun v hv=>(qbS.mp nd).1 (JE hv).1,if_pos hk]
  simp
 |p::P,w::vs,i+1,m,nd,h1,h2,hk=>by
  show bindL kindOf ((p,w)::P.zip vs) m x=_
  unfold bindL
  exact LH (i:=i) (qbS.mp nd).2 (by simpa using h1) (by simpa using h2) hk
theorem LI {kindOf:Str→Option NameKind} {x:Str} {v:Value}:∀{P:List Str} {vs:List Value} {i:Nat} {m:Str→Option Value},P.Nodup→P[i]?=some x→vs[i]?=some v→kindOf x≠some .local→
 bindC kindOf (P.zip vs) m x=some v
 |[],_,_,_,_,h,_,_=>by simp at h
 |_::_,[],_,_,_,_,h,_=>by simp at h
 |p::P,w::vs,0,m,nd,h1,h2,hk=>by
  simp at h1 h2;subst h1;subst h2
  show bindC kindOf ((p,w)::P.zip vs) m p=_
  unfold bindC
  rw [Oq fun v hv=>(qbS.mp nd).1 (JE hv).1,if_neg hk]
  simp
 |p::P,w::vs,i+1,m,nd,h1,h2,hk=>by
  show bindC kindOf ((p,w)::P.zip vs) m x=_
  unfold bindC
  exact LI (i:=i) (qbS.mp nd).2 (by simpa using h1) (by simpa using h2) hk
def start (N:List Str) (vs:List V):St:=vs.map some++List.replicate (N.length - vs.length) none
def AS (CX:DS) (P:Program) (w:World) (K:PySem.W.Frag) (mg:Str→Option Value) (base:Heap) (N:List Str) (qual:Str) (scope:Scope) (f:Addr) (cd:Value) (A:Around) (outer:List Env) (s:Shared) (H:Hp) (E:XK):Cx where
 prog:=P
 w:=w
 K:=K
 mg:=mg
 base:=base
 A:=A.deeper (envOfC qual scope s.heap.objs.size f cd)
 N:=N
 s₀:=s
 H₀:=H
 env:=envOfC qual scope s.heap.objs.size f cd
 outer:=outer
 stack:=envOfC qual scope s.heap.objs.size f cd::outer
 ex:=[]
 calm:=true
 fn:=fun _=>true
 pn:=[]
 xe:=fun e s'=>wpAny (model P w) (A.deeper (envOfC qual scope s.heap.objs.size f cd)) (leaving (envOfC qual scope s.heap.objs.size f cd) e) (fun _ s''=>CX outer H s E e s'') (fun e' s''=>CX outer H s E e' s'') s'
theorem JQ {sc:Scope} {n:Nat} {x:Str} (h:sc.names.lookup x=some .cell):∃c,(cellsFrom n sc.names []).lookup x=some c:=by
 have q:=PySem.W.cellsFrom_some sc.names n [] (.inl h)
 exact qbN.mp q
theorem Ot {CX:DS} {P:Program} {w:World} {K:PySem.W.Frag} {mg:Str→Option Value} {base:Heap} {N ps:List Str} {qual:Str} {scope:Scope} {f:Addr} {cd:Value} {A:Around} {outer:List Env} {s s1:Shared} {H:Hp} {E:XK} {us:List Value} {vs:List V}
 (S:Bd N ps scope) (hd:A.handled=none) (e0:FG P w K mg base A outer s H) (hl:vs.length=ps.length) (r:Vals vs us)
 (x:InCallC s s.heap.objs.size (bindL (envOfC qual scope s.heap.objs.size f cd).kindOf (ps.zip us) fun _=>none) (cellsFrom (s.heap.objs.size+1) scope.names []) (bindC (envOfC qual scope s.heap.objs.size f cd).kindOf (ps.zip us) fun _=>none) s1):
 Inv (AS CX P w K mg base N qual scope f cd A outer s H E) [] (start N vs) H s1:=by
 have hpl:ps.length≤N.length:=by have:=congrArg List.length S.pre;rw [Ih] at this;omega
 obtain ⟨h1,tk,rfl,hk⟩:=x.done
 have noA:∀b:Addr,b∉(AS CX P w K mg base N qual scope f cd A outer s H E).ex:=fun b z=>absurd (show b∈([]:List Addr) from z) (by simp)
 refine ⟨⟨e0.mod,S.kind,rfl,rfl,AK _,fun y z c h1 h2=>?_,fun y hy=>?_,fun y c _ h=>?_,fun _=>hd,Around.frames_deeper e0.frames,.inr ⟨rfl,rfl⟩,fun b z=>absurd z (noA b),e0.bs,e0.bsz,fun b _ _=>noA b,fun b z=>absurd z (noA b),e0.funs,e0.frf⟩,
  rfl,e0.bare,Un.kept hk,⟨_,x.toInCall.ns,fun i y v h1 h2 h3=>?_⟩,fun y c h=>⟨_,x.cell y c h⟩,e0.hok.fresh (AK _),fun y c h=>?_,fun p hp=>absurd (show p∈([]:List (Addr×Obj)) from hp) (by simp),e0.hok.kept hk,?_⟩
 ·exact name_of_addr x.apart (PySem.mem_of_lookup h1) (PySem.mem_of_lookup h2)
 ·have hy:scope.names.lookup y=some .cell∨scope.names.lookup y=some .free:=hy
  rcases hy with hy |hy
  ·exact JQ hy
  ·exact absurd rfl (S.nofree _ (PySem.mem_of_lookup hy))
 ·exact E7 (x.above y c (PySem.mem_of_lookup h))
 ·have hi:i<vs.length:=by
   unfold start at h2
   by_cases hi:i<vs.length
   ·exact hi
   ·rw [HZ (by simpa using hi)] at h2
    rw [Li] at h2
    split at h2<;>cases h2
  have ha:vs[i]?=some v:=by
   unfold start at h2
   rw [E3 (by simpa using hi),Cb] at h2
   cases e:vs[i]? with
   |none=>rw [e] at h2;cases h2
   |some a=>rw [e] at h2;cases h2;rfl
  obtain ⟨u,hu,rv⟩:=r.get ha
  have hp:ps[i]?=some y:=by
   rw [←S.pre,List.getElem?_take_of_lt (by omega)];exact h1
  have ndP:ps.Nodup:=by rw [←S.pre];exact S.nd.sublist (List.take_sublist _ _)
  refine ⟨u,rv,?_⟩
  rcases S.par y (Fw hp) with k |k
  ·exact .inl ⟨k,LH ndP hp hu k⟩
  ·obtain ⟨c,e⟩:=JQ (n:=s.heap.objs.size+1) k
   refine .inr ⟨.inl k,c,e,?_⟩
   have q:=x.cell y c e
   rw [LI ndP hp hu (by show scope.names.lookup y≠_;rw [k];decide)] at q
   exact q
 ·exact e0.hok.fresh (E7 (x.above y c (PySem.mem_of_lookup h)))
 ·unfold start
  show _=N.length
  rw [El,CS,List.length_replicate]
  omega
theorem Ou {CX:DS} {P:Program} {w:World} {K:PySem.W.Frag} {mg:Str→Option Value} {base:Heap} {k:Nat} {f:Addr} {name qual:Str} {params:Arguments} {body:List Stmt} {scope:Scope} {dV kV doc pm cdv ct oc:Value} {an od:Option Addr}
 {osl:Array (Option Value)} {N ps:List Str} {sp:Sp} (lk:K.lookup f=some ⟨oc,od,.func (PySem.W.fnOf name qual params body scope dV kV doc pm an cdv ct),osl⟩) (hcd:PySem.W.codeIn K cdv qual=true) (S:Bd N ps scope)
 (len:∀vs H Q E,sp vs H Q E→vs.length=ps.length)
 (hbody:∀(A:Around) (outer:List Env) (s:Shared) (H:Hp) (vs:List V) (Q:VK) (E:XK),Room k (A.deeper (envOfC qual scope s.heap.objs.size f cdv))→sp vs H Q E→
  ∃t,Dx (AS CX P w K mg base N qual scope f cdv A outer s H E) body t∧t {nx:=fun _ H'=>Q .non H',rt:=Q} (start N vs) H):
 FnOk P w K mg base CX (k+1) f (PySem.W.fnOf name qual params body scope dV kV doc pm an cdv ct) ps sp:=by
 refine ⟨len,fun A outer s H args us vs Q E hr e0 hb r hsp=>?_⟩
 have hl:=len _ _ _ _ hsp
 have KX:K.In s.heap:=e0.mod.kin.keeps fun b o e=>(e0.bs b o e).1
 have lim:s.heap.NoLimit:=e0.mod.nolimit.keeps fun b o e=>(e0.bs b o e).1
 have hkind:∀y∈ps.zip us,scope.names.lookup y.1=some .local∨(scope.names.lookup y.1=some .cell∧((cellsFrom (s.heap.objs.size+1) scope.names []).lookup y.1).isSome=true):=fun z81_ hy=>by
  obtain ⟨n,v⟩:=z81_
  rcases S.par n (JE hy).1 with q |q
  ·exact .inl q
  ·exact .inr ⟨q,PySem.W.cellsFrom_some _ _ _ (.inl q)⟩
 refine codeAny_call_function hr.depth (KX _ _ lk) rfl S.co S.gen rfl (PySem.W.codeRec_of KX hcd) (hb _ _ _ _ ?_)
 refine wpAny_newFunctionEnv_cells S.kind hkind fun env he s1 x=>?_
 subst he
 refine ⟨lim.keeps x.toInCall.keep,codeAny_func ?_⟩
 obtain ⟨t,ht,hq⟩:=hbody A outer s H vs Q E (hr.deeper _) hsp
 have I:Inv (AS CX P w K mg base N qual scope f cdv A outer s H E) [] (start N vs) H s1:=Ot S hr.hd e0 hl r x
 refine wpAny_mono (ht [] s1 (start N vs) H _ I hq) (fun fl s' hs=>?_) fun e s' hs=>hs
 have fin:∀{σ':St} {H':Hp} {v:V} {u:Value},Inv (AS CX P w K mg base N qual scope f cdv A outer s H E) [] σ' H' s'→RelV v u→Q v H'→CE outer P w H s Q u s':=
  fun {σ' H' v u} J rv q=>⟨v,H',J.os,J.bare,J.base,J.hok,rv,q⟩
 cases fl with
 |ret u=>
  obtain ⟨v,σ',H',J,rv,q⟩:=hs
  exact fin J rv q
 |next=>
  obtain ⟨σ',H',J,q⟩:=hs
  exact fin (v:=V.non) (u:=Value.none) J rfl q
 |brk=>
  obtain ⟨_,_,_,q⟩:=hs
  exact False.elim q
 |cont=>
  obtain ⟨_,_,_,q⟩:=hs
  exact False.elim q
section
variable {X:Cx} {x:Str} {p pos:Pos} {e:Expr} {es:List Expr} {t:TA} {id T:String} {r:List V→Hp→VK→Prop}
def Ov (r:List V→Hp→VK→Prop) (t:TA):TE:=fun σ H Q=>t σ H fun vs H1=>r vs H1 Q
theorem Um (hc:DR X (.builtin id) r) (hg:Gl X x) (hm:X.mg x=none) (hv:bootBuiltins x=some (.builtin id)) (ha:PA X (e::es) t) (hn:x≠"__name__":=by decide) (hdb:(x==("__debug__":Str))=false:=by decide)
 (he:starEach (e::es) X.env=(false,eval e X.env)::starEach es X.env:=by rfl) (hpl:(backTo pos (starEach es X.env)).any (·.1)=false:=by rfl):PE X (.Call (.Name x p) (e::es) [] pos) (Ov r t):=by
 intro pins s σ H Q I h
 refine wpAny_Call_Name_kw (F4 I hg hm hv ?_ hn hdb)
 exact PyProof.Rows.callWith_builtin1 (AB (ha pos pins s σ H _ I h) fun us s1 z82_=>by obtain ⟨vs,H1,I1,r1,q1⟩:=z82_;exact (hc pins s1 σ H1 vs us Q I1 r1 q1)) he hpl
theorem Uo (hc:DR X (.type T) r) (hg:Gl X x) (hm:X.mg x=none) (hv:bootBuiltins x=some (.type T)) (ha:PA X (e::es) t) (hn:x≠"__name__":=by decide) (hdb:(x==("__debug__":Str))=false:=by decide)
 (he:starEach (e::es) X.env=(false,eval e X.env)::starEach es X.env:=by rfl) (hpl:(backTo pos (starEach es X.env)).any (·.1)=false:=by rfl):PE X (.Call (.Name x p) (e::es) [] pos) (Ov r t):=by
 intro pins s σ H Q I h
 refine wpAny_Call_Name_kw (F4 I hg hm hv ?_ hn hdb)
 exact PyProof.Rows.callWith_type1 (AB (ha pos pins s σ H _ I h) fun us s1 z83_=>by obtain ⟨vs,H1,I1,r1,q1⟩:=z83_;exact (hc pins s1 σ H1 vs us Q I1 r1 q1)) he hpl
end
end L2
namespace HT
open PySem PyProof.Rows
def lexLt:List Int→List Int→Bool
 |[],[]=>false
 |[],_::_=>true
 |_::_,[]=>false
 |x::xs,y::ys=>if x=y then lexLt xs ys else decide (x<y)
theorem lexLt_cons (x y:Int) (xs ys:List Int):lexLt (x::xs) (y::ys)=if x=y then lexLt xs ys else decide (x<y):=rfl
theorem lexLt_nil_nil:lexLt [] []=false:=rfl
theorem lexLt_nil_cons (y:Int) (ys:List Int):lexLt [] (y::ys)=true:=rfl
theorem lexLt_cons_nil (x:Int) (xs:List Int):lexLt (x::xs) []=false:=rfl
theorem Up (A:Around) (s:Shared) (a:Int) (t:Tok) (c:Int) (u:Tok):∃e,SeqAt.EqAt A s (.int a t) (.int c u) e∧(e=true↔a=c):=
 ⟨(a==c),SeqAt.EqAt.int_int a t c u,by simp⟩
theorem Uq (A:Around) (s:Shared) (a:Int) (t:Tok) (c:Int) (u:Tok) (prog:Program) (w:World) (E:Value→Shared→Prop) (Q:Value→Shared→Prop) (h:Q (.bool (decide (a<c))) s):
 wpAny (model prog w) A (richCompare .Lt (.int a t) (.int c u)) Q E s:=
 (PyProof.Rows.lt_int h:wpAny (model prog w) A (compareOp .Lt (.int a t) (.int c u)) Q E s)
section
open PySem.SeqAt
open PySem.AutoSeq1 (wpAny_loadPart')
open PySem.MeetsSeq PySem.MeetsSeq2 PySem.MeetsSeq3
theorem Ur (l b:Addr) (items items2:Array Value) (n n2:Nat) (dd dd2:Option Addr) (sl sl2:Array (Option Value)) (ns ms:List Int) (hi:IntsAre items.toList ns) (hj:IntsAre items2.toList ms):
 Meets (Builtin.«tuple.__lt__» ⟨[.ref l,.ref b],[]⟩)
  (fun _ R s=>s.heap.get? l=some {cls:=.type "tuple",dict:=dd,data:=.seq items n,slots:=sl}∧s.heap.get? b=some {cls:=.type "tuple",dict:=dd2,data:=.seq items2 n2,slots:=sl2}∧
   R (.ok (.ret (.bool (lexLt ns ms)))) s):=
 .of_wp fun prog w A R s h=>by
  obtain ⟨hp,g,d,tk,os⟩:=s;obtain ⟨hl,hb,h⟩:=h
  have f2:=AutoSeq1.sub_tuple_tuple
  have z1:items.size=ns.length:=by rw [←hi.length];simp
  have z2:items2.size=ms.length:=by rw [←hj.length];simp
  wp_walk using wpAny_loadPart' hl,wpAny_loadPart' hb,wpAny_forIn_list _ (fun rest b s'=>b.1=none∧s'=⟨hp,g,d,tk,os⟩∧∃(vs ws:List Value) (ns' ms':List Int),rest=vs.zip ws∧
   IntsAre vs ns'∧IntsAre ws ms'∧ns'.length+items2.size=ms'.length+items.size∧R (.ok (.ret (.bool (lexLt ns' ms')))) ⟨hp,g,d,tk,os⟩) _
  case turn=>
   rintro ⟨y,x⟩ rest b s' ⟨hb',rfl,vs,ws,ns',ms',hz,hvi,hwi,hlen,hR⟩
   cases hvi with
   |nil=>rw [List.zip_nil_left] at hz;cases hz
   |cons a t hvi'=>
    cases hwi with
    |nil=>rw [List.zip_nil_right] at hz;cases hz
    |cons c u hwi'=>
     rw [List.zip_cons_cons] at hz
     injection hz with hyx hrest
     injection hyx with hy hx
     subst hy hx
     rw [lexLt_cons] at hR
     simp only [E5] at hlen
     obtain ⟨e,he,hiff⟩:=Up A.in1 ⟨hp,g,d,tk,os⟩ a t c u
     refine wpAny_bind (he prog w _ _ ?_)
     cases e with
     |true=>
      rw [if_pos (hiff.mp rfl)] at hR
      wp_walk
      exact ⟨rfl,rfl,_,_,_,_,hrest,hvi',hwi',by omega,hR⟩
     |false=>
      rw [if_neg (fun q=>absurd (hiff.mpr q) Bw)] at hR
      have hri:=Uq A.in1 ⟨hp,g,d,tk,os⟩ a t c u prog w
      wp_walk using hri
      exact ⟨_,rfl,by simpa using hR⟩
  case fin=>
   rintro ⟨b1,b2⟩ s' ⟨hb',rfl,vs,ws,ns',ms',hz,hvi,hwi,hlen,hR⟩
   simp only at hb'
   subst hb'
   have hv:lexLt ns' ms'=decide (items.size<items2.size):=by
    cases hvi with
    |nil=>
     cases hwi with
     |nil=>
      simp only [Fz] at hlen
      rw [lexLt_nil_nil]
      exact (decide_eq_false (by omega)).symm
     |cons c u hw=>
      simp only [Fz,E5] at hlen
      rw [lexLt_nil_cons]
      exact (decide_eq_true (by omega)).symm
    |cons a t hv=>
     cases hwi with
     |nil=>
      simp only [Fz,E5] at hlen
      rw [lexLt_cons_nil]
      exact (decide_eq_false (by omega)).symm
     |cons c u hw=>
      rw [List.zip_cons_cons] at hz
      cases hz
   rw [hv] at hR
   wp_walk
   exact ⟨_,rfl,by simpa [Builtin.Tuple.tupleCompareSizes] using hR⟩
  case h=>
   exact ⟨rfl,rfl,items.toList,items2.toList,ns,ms,rfl,hi,hj,by omega,h⟩
end
section
variable {prog:Program} {w:World} {A:Around} {E:Value→Shared→Prop} {s:Shared}
theorem lt_tupInts {l b:Addr} {items items2:Array Value} {ns ms:List Int} {Q:Value→Shared→Prop} (hl:IsTup s.heap l items) (hb:IsTup s.heap b items2) (hi:IntsAre items.toList ns) (hj:IntsAre items2.toList ms)
 (hu:A.units<cLine) (h:Q (.bool (lexLt ns ms)) s):wpAny (model prog w) A (compareOp .Lt (.ref l) (.ref b)) Q E s:=by
 obtain ⟨⟨cls,dd,data,sl⟩,ho,hc,n,hd⟩:=id hl
 obtain ⟨⟨cls2,dd2,data2,sl2⟩,ho2,hc2,n2,hd2⟩:=id hb
 simp only at hc hd hc2 hd2
 subst hc hd hc2 hd2
 exact richCompare_meets_room (op:=.Lt) ⟨_,ho,rfl⟩ ⟨_,ho2,rfl⟩ PySem.F.slot_tuple_lt PySem.F.entry_tuple_lt (PySem.F.args_tuple_lt_2 _ _) (Ur l b items items2 n n2 dd dd2 sl sl2 ns ms hi hj)
  ⟨ho,ho2,show Value.bool (lexLt ns ms)≠Value.notImplemented∧Q (.bool (lexLt ns ms)) s from ⟨(fun x=>nomatch x),h⟩⟩ hu
theorem cat_tup {t b:Addr} {vs ws:List Value} {Q:Value→Shared→Prop} (ht:IsTup s.heap t vs.toArray) (hb:IsTup s.heap b ws.toArray) (hv:vs≠[])
 (h1:ws=[]→Q (.ref t) s) (h2:ws≠[]→Q (.ref s.heap.objs.size) {s with heap:=s.heap.push {cls:=.type "tuple",data:=.seq (vs++ws).toArray}})
 (hsz:vs.length+ws.length≤sizeLine):wpAny (model prog w) A (binaryOp .Add (.ref t) (.ref b)) Q E s:=by
 obtain ⟨⟨cls,dd,data,sl⟩,ho,hc,n,hd⟩:=id ht
 obtain ⟨⟨cls2,dd2,data2,sl2⟩,ho2,hc2,n2,hd2⟩:=id hb
 simp only at hc hd hc2 hd2
 subst hc hd hc2 hd2
 have e:vs.toArray++ws.toArray=(vs++ws).toArray:=by simp
 by_cases hw:ws=[]
 ·exact concat_meets ⟨_,ho,rfl⟩ ⟨_,ho2,rfl⟩ noFill_tuple_add seq_tuple_add PySem.F.slot_tuple_add PySem.F.entry_tuple_add (PySem.F.args_tuple_add_2 _ _)
   (tuple_addW1 t b vs.toArray ws.toArray n n2 dd dd2 sl sl2 (by simpa using hv) (by simp [hw])) ⟨ho,ho2,h1 hw⟩
 ·refine concat_meets ⟨_,ho,rfl⟩ ⟨_,ho2,rfl⟩ noFill_tuple_add seq_tuple_add PySem.F.slot_tuple_add PySem.F.entry_tuple_add (PySem.F.args_tuple_add_2 _ _)
   (tuple_addW2 t b vs.toArray ws.toArray n n2 dd dd2 sl sl2 (by simpa using hv) (by simpa using hw) (by rw [A9,A9];exact hsz)) ⟨ho,ho2,?_⟩
  rw [e]
  exact h2 hw
def sIx (n d:Nat):Option Int→Nat
 |none=>d
 |some v=>if v<0 then (v+(n:Int)).toNat else min v.toNat n
theorem sIx_none (n d:Nat):sIx n d none=d:=rfl
theorem sIx_nat (n d k:Nat):sIx n d (some (k:Int))=min k n:=by
 show (if (k:Int)<0 then ((k:Int)+(n:Int)).toNat else min (k:Int).toNat n)=min k n
 rw [if_neg (by omega),Int.toNat_natCast]
theorem Us (n d:Nat) (hd:d≤n) (o:Option Int):sIx n d o≤n:=by
 cases o with
 |none=>exact hd
 |some v=>
  show (if v<0 then (v+(n:Int)).toNat else min v.toNat n)≤n
  by_cases hv:v<0
  ·rw [if_pos hv];omega
  ·rw [if_neg hv];exact Nat.min_le_right _ _
theorem Ow (v:Int) (n d:Nat):(if v<0 then max (v+(n:Int)) 0 else min v (n:Int))=((sIx n d (some v):Nat):Int):=by
 show (if v<0 then max (v+(n:Int)) 0 else min v (n:Int))=(((if v<0 then (v+(n:Int)).toNat else min v.toNat n):Nat):Int)
 by_cases hv:v<0
 ·simp only [if_pos hv];omega
 ·simp only [if_neg hv];omega
theorem Ut (lo hi:Option Int) (n:Nat):Builtin.Slice.sliceAdjust lo hi 1 (n:Int)=(((sIx n 0 lo:Nat):Int),((sIx n n hi:Nat):Int)):=by
 have h1:¬((1:Int)<0):=by omega
 unfold Builtin.Slice.sliceAdjust
 simp only [h1,if_false]
 refine Prod.ext ?_ ?_
 ·cases lo with
  |none=>rfl
  |some v=>exact Ow v n 0
 ·cases hi with
  |none=>rfl
  |some v=>exact Ow v n n
theorem Uu (i j:Nat):Builtin.Slice.slicePlaces (i:Int) (j:Int) 1=j - i:=by
 unfold Builtin.Slice.slicePlaces
 have h1:(1:Int)>0:=by omega
 simp only [h1,if_true,Int.ediv_one]
 split<;>omega
theorem Ox {v:Value} {o:Option Int} {Q:Option Int→Shared→Prop} (p:IsPart v o) (h:Q o s):wpAny (model prog w) A (Builtin.Slice.slicePartIndex v) Q E s:=by
 cases p with
 |none=>exact slicePart_none h
 |int i t=>exact slicePart_int h
theorem sliceApplied_gen {sl:Addr} {vl vu:Value} {lo hi:Option Int} {n:Nat} {Q:Int×Int×Nat→Shared→Prop} (hs:s.heap.IsSliceOf sl vl vu .none) (pl:IsPart vl lo) (pu:IsPart vu hi)
 (h:Q (((sIx n 0 lo:Nat):Int),1,sIx n n hi - sIx n 0 lo) s):wpAny (model prog w) A (Builtin.Slice.sliceApplied (.ref sl) (pure (n:Int))) Q E s:=by
 obtain ⟨os,hos,hcs,hds⟩:=id hs
 unfold Builtin.Slice.sliceApplied Builtin.Slice.sliceFields
 refine wpAny_bind (wpAny_bind (wpAny_field hos hds (x:=vl) rfl (wpAny_bind (wpAny_field hos hds (x:=vu) rfl (wpAny_bind (wpAny_field hos hds (x:=.none) rfl (wpAny_pure ?_)))))))
 refine wpAny_bind (slicePart_none ?_)
 show wpAny _ _ (if ((1:Int)==0)=true then _ else _) _ _ s
 rw [if_neg (by decide)]
 refine wpAny_bind (Ox pl (wpAny_bind (Ox pu (wpAny_bind (wpAny_pure ?_)))))
 show wpAny _ _ (match Builtin.Slice.sliceAdjust lo hi 1 (n:Int) with |(lo,hi)=>pure (lo,(1:Int),Builtin.Slice.slicePlaces lo hi 1)) _ _ s
 rw [Ut lo hi n]
 show wpAny _ _ (pure (((sIx n 0 lo:Nat):Int),(1:Int),Builtin.Slice.slicePlaces ((sIx n 0 lo:Nat):Int) ((sIx n n hi:Nat):Int) 1)) _ _ s
 rw [Uu]
 exact wpAny_pure h
theorem Uv (xs:Array Value) (i k:Nat):((List.range k).filterMap fun (m:Nat)=>xs[((i:Int)+(m:Int)*1).toNat]?).toArray=((xs.toList.drop i).take k).toArray:=by
 have e:(fun (m:Nat)=>xs[((i:Int)+(m:Int)*1).toNat]?)=fun m=>xs[i+m]?:=by
  funext m
  have:((i:Int)+(m:Int)*1).toNat=i+m:=by omega
  rw [this]
 rw [e]
 have:=pick_run xs i k
 rw [List.filterMap_map] at this
 have e2:((fun x=>xs[x]?)∘fun x=>i+x)=fun m=>xs[i+m]?:=rfl
 rw [e2] at this
 rw [this]
theorem getItem_tuple_cut {t sl:Addr} {items:Array Value} {vl vu:Value} {lo hi:Option Int} {Q:Value→Shared→Prop} (ht:IsTup s.heap t items) (hs:s.heap.IsSliceOf sl vl vu .none) (pl:IsPart vl lo) (pu:IsPart vu hi)
 (hw:¬(sIx items.size 0 lo=0∧sIx items.size items.size hi=items.size))
 (h:Q (.ref s.heap.objs.size) {s with heap:=s.heap.push {cls:=.type "tuple",data:=.seq ((items.toList.drop (sIx items.size 0 lo)).take (sIx items.size items.size hi - sIx items.size 0 lo)).toArray}})
 (hsz:items.size≤sizeLine):wpAny (model prog w) A (getItem (.ref t) (.ref sl)) Q E s:=by
 have htake:sizeOk (.seq ((items.toList.drop (sIx items.size 0 lo)).take (sIx items.size items.size hi - sIx items.size 0 lo)).toArray):=by
  show ((items.toList.drop (sIx items.size 0 lo)).take (sIx items.size items.size hi - sIx items.size 0 lo)).toArray.size≤sizeLine
  rw [A9,Ih,List.length_drop,Array.length_toList]
  omega
 have hj:sIx items.size items.size hi≤items.size:=Us _ _ (AK _) hi
 obtain ⟨os,hos,hcs,hds⟩:=id hs
 have hTs:s.TypeIs (.ref sl) "slice":=⟨os,hos,hcs⟩
 unfold getItem
 try with_reducible refine wpAny_holding ?_
 first |refine wpAny_bind (wpAny_pure ?_) |skip
 refine wpAny_bind (wpAny_sequenceKey ht.typeIs (by decide) ?_)
 refine wpAny_bind (wpAny_callSpecial?_slot (name:=Str.ofString "__getitem__") ht.typeIs PyProof.Rows.slot_tuple_getitem
  (wpAny_call_entry PyProof.Rows.slot_tuple_getitem ht.typeIs entry_tuple_getitem ?_ (args_tuple_getitem _ _)))
 show wpAny _ _ (Builtin.Tuple.tupleItemsOf (.ref t) >>=_) _ _ s
 refine wpAny_bind (tupleItemsOf_ ht ?_)
 refine wpAny_bind (wpAny_typeOf hTs ?_)
 rw [if_pos (by decide)]
 refine wpAny_bind (sliceApplied_gen hs pl pu ?_)
 have hno:¬((((sIx items.size 0 lo:Nat):Int)==0&&(1:Int)==1&&(sIx items.size items.size hi - sIx items.size 0 lo)==items.size)=true):=by
  intro q
  rw [CF,CF] at q
  have q1:((sIx items.size 0 lo:Nat):Int)=0:=eq_of_beq q.1.1
  have q2:sIx items.size items.size hi - sIx items.size 0 lo=items.size:=eq_of_beq q.2
  exact hw ⟨by omega,by omega⟩
 show wpAny _ _ (if (((sIx items.size 0 lo:Nat):Int)==0&&(1:Int)==1&&(sIx items.size items.size hi - sIx items.size 0 lo)==items.size)=true then _ else _) _ _ s
 rw [if_neg hno,Uv]
 first
  |exact wpAny_bind (m:=Builtin.Tuple.tupleExact _) (wpAny_newObj_type (wpAny_pure ⟨_,rfl,wpAny_pure h⟩) htake)
  |exact wpAny_bind (m:=Builtin.Tuple.tupleExact _) (wpAny_newObj_type (wpAny_bind (wpAny_pure (wpAny_pure ⟨_,rfl,wpAny_pure h⟩))) htake)
  |exact wpAny_bind (wpAny_bind (m:=Builtin.Tuple.tupleExact _) (wpAny_newObj_type (wpAny_pure (wpAny_pure ⟨_,rfl,wpAny_pure h⟩)) htake))
  |exact wpAny_bind (wpAny_bind (m:=Builtin.Tuple.tupleExact _) (wpAny_newObj_type (wpAny_pure ⟨_,rfl,wpAny_pure h⟩) htake))
end
end HT
namespace L2
open PySem PySem.Spec PyProof.Rows
abbrev TO:=St→Hp→(Option Int→Hp→Prop)→Prop
def PO (X:Cx) (e:Option Expr) (t:TO):Prop:=
 ∀(pins:List (Addr×Obj)) (s:Shared) (σ:St) (H:Hp) (Q:Option Int→Hp→Prop),Inv X pins σ H s→t σ H Q→
  wpAny (model X.prog X.w) X.A (evalPart e X.env) (fun u s'=>∃o H',Inv X pins σ H' s'∧IsPart u o∧Q o H') X.xe s
def Uw:TO:=fun _ H Q=>Q none H
def Ux (t:TE):TO:=fun σ H Q=>t σ H fun x H1=>∃i,x=.int i∧Q (some i) H1
theorem Uy {ns:List Int}:∀{us:List Value},Vals (ns.map V.int) us→IntsAre us ns:=by
 induction ns with
 |nil=>intro us r;rw [F0] at r;cases r;exact .nil
 |cons n ns ih=>
  intro us r
  rw [Bn] at r
  cases r with
  |cons r1 r2=>
   obtain ⟨t,e⟩:=r1
   subst e
   exact .cons n t (ih r2)
section
variable {X:Cx} {e:Expr} {te:TE} {lo hi:Option Expr} {tl th:TO} {pos p2:Pos}
theorem Uz:PO X none Uw:=by
 intro pins s σ H Q I h
 rw [evalPart_none]
 exact wpAny_pure ⟨none,H,I,.none,h⟩
theorem UA (h:PE X e te):PO X (some e) (Ux te):=by
 intro pins s σ H Q I hw
 rw [evalPart_some]
 refine AB (h pins s σ H _ I hw) fun u s1 z84_=>?_
 obtain ⟨x,H1,I1,r1,q1⟩:=z84_
 obtain ⟨i,rfl,q⟩:=q1
 obtain ⟨t,rfl⟩:=r1
 exact ⟨some i,H1,I1,.int i t,q⟩
def SlR (X:Cx) (r:V→Option Int→Option Int→Hp→VK→Prop):Prop:=
 ∀(pins:List (Addr×Obj)) (s:Shared) (σ:St) (H:Hp) (x:V) (v vl vu:Value) (lo hi:Option Int) (sl:Addr) (Q:VK),Inv X pins σ H s→RelV x v→s.heap.IsSliceOf sl vl vu .none→IsPart vl lo→IsPart vu hi→r x lo hi H Q→
  ∃T id,typeLookup (.type T) "__getitem__"=pure (some (.builtin id))∧s.TypeIs v T∧wpAny (model X.prog X.w) X.A (getItem v (.ref sl)) (EP X pins σ Q) X.xe s
theorem SlR.or {r r':V→Option Int→Option Int→Hp→VK→Prop} (h:SlR X r) (h':SlR X r'):SlR X (fun x lo hi H Q=>r x lo hi H Q∨r' x lo hi H Q):=by
 intro pins s σ H x v vl vu lo hi sl Q I rx hs pl pu q
 rcases q with q |q
 ·exact h pins s σ H x v vl vu lo hi sl Q I rx hs pl pu q
 ·exact h' pins s σ H x v vl vu lo hi sl Q I rx hs pl pu q
def UB (r:V→Option Int→Option Int→Hp→VK→Prop) (te:TE) (tl th:TO):TE:=fun σ H Q=>te σ H fun x H1=>tl σ H1 fun l H2=>th σ H2 fun u H3=>r x l u H3 Q
theorem UC {r:V→Option Int→Option Int→Hp→VK→Prop} (hr:SlR X r) (he:PE X e te) (hl:PO X lo tl) (hu:PO X hi th):PE X (.Subscript e (.Slice lo hi none p2) pos) (UB r te tl th):=by
 intro pins s σ H Q I h
 refine Subscript_ (AB (he pins s σ H _ I h) fun v s1 z85_=>?_)
 obtain ⟨x,H1,I1,r1,q1⟩:=z85_
 refine wpAny_Slice (AB (hl pins s1 σ H1 _ I1 q1) ?_)
 rintro vl s2 ⟨l,H2,I2,pl,q2⟩
 refine AB (hu pins s2 σ H2 _ I2 q2) fun vu s3 z87_=>?_
 obtain ⟨u,H3,I3,pu,q3⟩:=z87_
 rw [evalPart_none]
 refine wpAny_pure ?_
 have I4:Inv X pins σ H3 {s3 with heap:=s3.heap.push {cls:=.type "slice",data:=.fields #[vl,vu,.none]}}:=I3.kept (t':=s3.toks) fun b ob q=>AE _ q
 obtain ⟨T,id,hT,ht,hg⟩:=hr pins {s3 with heap:=s3.heap.push {cls:=.type "slice",data:=.fields #[vl,vu,.none]}} σ H3 x v vl vu l u s3.heap.objs.size Q I4 r1 (Heap.IsSliceOf.new ..) pl pu q3
 show wpAny (model X.prog X.w) X.A (subscriptTail e (.Slice lo hi none p2) v (.ref s3.heap.objs.size)) (EP X pins σ Q) X.xe {s3 with heap:=s3.heap.push {cls:=.type "slice",data:=.fields #[vl,vu,.none]}}
 exact tail_any (ops:=[.ref s3.heap.objs.size,v]) ht hT hg (by with_unfolding_all rfl)
def Hc (xs:List V) (lo hi:Option Int):List V:=(xs.drop (HT.sIx xs.length 0 lo)).take (HT.sIx xs.length xs.length hi - HT.sIx xs.length 0 lo)
theorem UD (xs:List V) (lo hi:Option Int):(Hc xs lo hi).length≤xs.length:=by
 unfold Hc
 rw [Ih,List.length_drop]
 omega
def UE (K:PySem.W.Frag):V→Option Int→Option Int→Hp→VK→Prop:=fun x lo hi H Q=>∃a xs,x=.ref a∧SqT K H a xs∧
 ¬(HT.sIx xs.length 0 lo=0∧HT.sIx xs.length xs.length hi=xs.length)∧∀p,H p=none→Q (.ref p) (An H p (.tup (Hc xs lo hi)))
theorem UF:SlR X (UE X.K):=by
 intro pins s σ H x v vl vu lo hi sl Q I rx hs pl pu h
 obtain ⟨a,xs,rfl,hx,hw,q⟩:=h
 cases rx
 obtain ⟨its,r,ht,hz⟩:=I.tuple hx
 have hlen:its.toArray.size=xs.length:=by rw [A9];exact r.length.symm
 refine ⟨"tuple",_,PyProof.Rows.slot_tuple_getitem.lookup,ht.typeIs,?_⟩
 refine HT.getItem_tuple_cut ht hs pl pu (by rw [hlen];exact hw) ?_ (by rw [hlen];exact hz)
 rw [hlen]
 refine ⟨.ref s.heap.objs.size,_,I.laid (t':=s.toks) (o:=.tup (Hc xs lo hi)) (fun b ob q=>AE _ q) (AK _) ?_,rfl,q _ (I.hok.fresh (AK _))⟩
 exact ⟨BK (UD xs lo hi) hz,_,(r.drop (HT.sIx xs.length 0 lo)).take (HT.sIx xs.length xs.length hi - HT.sIx xs.length 0 lo),IsTup.new _ _,NoDict.new⟩
def UG (K:PySem.W.Frag):R2:=fun x y H Q=>∃a b xs ys,x=.ref a∧y=.ref b∧SqT K H a xs∧SqT K H b ys∧xs≠[]∧xs.length+ys.length≤sizeLine∧
 (ys=[]→Q (.ref a) H)∧(ys≠[]→∀p,H p=none→Q (.ref p) (An H p (.tup (xs++ys))))
theorem Vals.nil_iff {xs:List V} {us:List Value} (r:Vals xs us):us=[]↔xs=[]:=by
 cases r with
 |nil=>simp
 |cons _ _=>simp
theorem op_catT:OpR X (binaryOp .Add) (UG X.K):=by
 intro pins s σ H x y v u Q I rx ry h
 obtain ⟨a,b,xs,ys,rfl,rfl,ha,hb,hx,hz,q1,q2⟩:=h
 cases rx
 cases ry
 obtain ⟨its,r1,p1,_⟩:=I.tuple ha
 obtain ⟨its2,r2,p2,_⟩:=I.tuple hb
 refine HT.cat_tup p1 p2 (fun z=>hx (r1.nil_iff.mp z)) (fun z=>⟨.ref a,H,I,rfl,q1 (r2.nil_iff.mp z)⟩) (fun z=>?_) (by rw [←r1.length,←r2.length];exact hz)
 refine ⟨.ref s.heap.objs.size,_,I.laid (t':=s.toks) (o:=.tup (xs++ys)) (fun b ob q=>AE _ q) (AK _) ?_,rfl,q2 (fun w=>z (r2.nil_iff.mpr w)) _ (I.hok.fresh (AK _))⟩
 exact ⟨by rw [El];exact hz,_,r1.append r2,IsTup.new _ _,NoDict.new⟩
end
def Dz (n:Nat) (i:Int):Option Nat:=if 0≤i then (if i<n then some i.toNat else none) else if -(n:Int)≤i then some (i+n).toNat else none
def CT {α:Type} (xs:List α) (i:Int):Option α:=(Dz xs.length i).bind fun j=>xs[j]?
theorem Oy {n:Nat} {i:Int} {j:Nat} (h:Dz n i=some j):seqIndex? i n=some j∧j<n∧-(n:Int)≤i∧i<n:=by
 unfold Dz at h
 by_cases h0:0≤i
 ·rw [if_pos h0] at h
  by_cases h1:i<n
  ·rw [if_pos h1] at h
   have e:i.toNat=j:=Option.some.inj h
   exact ⟨by rw [seqIndex_of h0 h1,e],by omega,by omega,h1⟩
  ·rw [if_neg h1] at h;cases h
 ·rw [if_neg h0] at h
  by_cases h1:-(n:Int)≤i
  ·rw [if_pos h1] at h
   have e:(i+n).toNat=j:=Option.some.inj h
   exact ⟨by rw [seqIndex_neg (by omega) h1,e],by omega,h1,by omega⟩
  ·rw [if_neg h1] at h;cases h
theorem Oz {α:Type} {xs:List α} {i:Int} {v:α} (h:CT xs i=some v):∃j,seqIndex? i xs.length=some j∧xs[j]?=some v∧j<xs.length∧-(xs.length:Int)≤i∧i<xs.length:=by
 unfold CT at h
 cases e:Dz xs.length i with
 |none=>rw [e] at h;cases h
 |some j=>
  rw [e] at h
  obtain ⟨h1,h2,h3,h4⟩:=Oy e
  exact ⟨j,h1,h,h2,h3,h4⟩
def OA (b:Expr):Prop:=∀o i,subscripted b false o i=operate [o,i] (getItem o i)
def IxR (X:Cx) (r:R2):Prop:=
 ∀(value slice:Expr) (pins:List (Addr×Obj)) (s:Shared) (σ:St) (H:Hp) (x y:V) (v u:Value) (Q:VK),Inv X pins σ H s→RelV x v→RelV y u→r x y H Q→
  subscripted slice false v u=operate [v,u] (getItem v u)→wpAny (model X.prog X.w) X.A (subscriptTail value slice v u) (EP X pins σ Q) X.xe s
def LJ (X:Cx) (id:String) (r:V→List V→Hp→VK→Prop):Prop:=
 ∀(pins:List (Addr×Obj)) (s:Shared) (σ:St) (H:Hp) (x:V) (xs:List V) (v:Value) (us:List Value) (Q:VK),Inv X pins σ H s→RelV x v→Vals xs us→r x xs H Q→
  wpAny (model X.prog X.w) X.A (call (.builtin id) (v::us)) (EP X pins σ Q) X.xe s
section
variable {X:Cx} {a b:Expr} {ta tb:TE} {pos:Pos}
theorem IxR.or {r r':R2} (h:IxR X r) (h':IxR X r'):IxR X (fun x y H Q=>r x y H Q∨r' x y H Q):=by
 intro value slice pins s σ H x y v u Q I rx ry q hs
 rcases q with q |q
 ·exact h value slice pins s σ H x y v u Q I rx ry q hs
 ·exact h' value slice pins s σ H x y v u Q I rx ry q hs
theorem UH {r:R2} (hr:IxR X r) (ha:PE X a ta) (hb:PE X b tb) (hs:OA b):PE X (.Subscript a b pos) (JM r ta tb):=by
 intro pins s σ H Q I h
 exact Subscript_ (LC ha hb I h fun v u s2 x y H2 I2 rx ry q=>hr a b pins s2 σ H2 x y v u Q I2 rx ry q (hs _ _))
def UI (K:PySem.W.Frag):R2:=fun x y H Q=>∃p xs i v,x=.ref p∧y=.int i∧SqL K H p xs∧CT xs i=some v∧Q v H
def UJ (K:PySem.W.Frag):R2:=fun x y H Q=>∃p xs i v,x=.ref p∧y=.int i∧SqT K H p xs∧CT xs i=some v∧Q v H
theorem ix_list:IxR X (UI X.K):=by
 intro value slice pins s σ H x y v u Q I rx ry h hs
 obtain ⟨p,xs,i,z,rfl,rfl,hq,he,q⟩:=h
 cases rx
 obtain ⟨t,rfl⟩:=ry
 obtain ⟨its,r,pl,hz⟩:=I.list hq
 obtain ⟨j,h1,h2,h3,h4,h5⟩:=Oz he
 obtain ⟨w,ew,rw'⟩:=r.get h2
 have hl:=r.length
 have hn:=Hb
 have fin:EP X pins σ Q w s:=⟨z,H,I,rw',q⟩
 by_cases h0:0≤i
 ·have hj:i.toNat=j:=by
   rw [seqIndex_of h0 h5] at h1
   exact Option.some.inj h1
  exact item_listR pl.isList h0 (by omega) (by rw [hj];simpa using ew) fin hs
 ·have hj:(i+(its.toArray.size:Int)).toNat=j:=by
   rw [seqIndex_neg (by omega) h4] at h1
   rw [A9,←hl]
   exact Option.some.inj h1
  exact subscriptTail_builtinR (x:=w) pl.isList.typeIs slot_list_getitem.lookup
   (wpAny_getItem_list_neg (Q:=fun r s'=>r=w∧EP X pins σ Q r s') pl.isList (by omega) (by rw [A9]<;>omega) (by omega) (by rw [hj];simpa using ew) ⟨rfl,fin⟩) hs
theorem ix_tup:IxR X (UJ X.K):=by
 intro value slice pins s σ H x y v u Q I rx ry h hs
 obtain ⟨p,xs,i,z,rfl,rfl,hq,he,q⟩:=h
 cases rx
 obtain ⟨t,rfl⟩:=ry
 obtain ⟨its,r,pl,hz⟩:=I.tuple hq
 obtain ⟨j,h1,h2,h3,h4,h5⟩:=Oz he
 obtain ⟨w,ew,rw'⟩:=r.get h2
 have hl:=r.length
 have hn:=Hb
 have fin:EP X pins σ Q w s:=⟨z,H,I,rw',q⟩
 exact subscriptTail_builtinR (x:=w) pl.typeIs slot_tuple_getitem.lookup
  (getItem_tuple (j:=j) (Q:=fun r s'=>r=w∧EP X pins σ Q r s') pl (by omega) (by omega) (by rw [A9,←hl];exact h1) (by simpa using ew) ⟨rfl,fin⟩) hs
theorem UK (its:List Value) (n j:Nat) (u:Value):Obj.mapSeq (·.setIfInBounds j u) {cls:=.type "list",data:=.seq its.toArray n}={cls:=.type "list",data:=.seq (its.set j u).toArray n}:=by
 simp [Obj.mapSeq]
theorem Inv.lst {pins:List (Addr×Obj)} {σ:St} {H:Hp} {s:Shared} {p:Addr} {xs:List V} (I:Inv X pins σ H s) (h:H p=some (.lst xs)):
 ∃(its:List Value) (n:Nat),Vals xs its∧s.heap.get? p=some {cls:=.type "list",data:=.seq its.toArray n}∧xs.length≤sizeLine:=by
 obtain ⟨z,its,n,r,e⟩:=I.hok p _ h
 exact ⟨its,n,r,e,z⟩
theorem Inv.lstUpd {pins:List (Addr×Obj)} {σ:St} {H:Hp} {s:Shared} {p:Addr} {xs ys:List V} {its its':List Value} {n n':Nat} {f:Obj→Obj} (I:Inv X pins σ H s) (h:H p=some (.lst xs))
 (ho:s.heap.get? p=some {cls:=.type "list",data:=.seq its.toArray n}) (hf:f {cls:=.type "list",data:=.seq its.toArray n}={cls:=.type "list",data:=.seq its'.toArray n'}) (r:Vals ys its') (hz:ys.length≤sizeLine) (t:Nat):
 Inv X pins σ (An H p (.lst ys)) {s with heap:=s.heap.update p f,toks:=t}:=by
 have e:(s.heap.update p f).get? p=some {cls:=.type "list",data:=.seq its'.toArray n'}:=by
  rw [H0 f ho (by rw [hf]<;>rfl),hf]
 refine I.write (x:=p) (e:=p) (by rw [h];trivial) (.inl rfl) (fun b u hb q=>(Ek _ _ (Ne.symm hb)).trans q) ⟨_,e⟩ ?_
 exact ⟨hz,its',n',r,e⟩
def UL:V→V→V→Hp→(Hp→Prop)→Prop:=fun o i v H Q=>∃p xs k j,o=.ref p∧i=.int k∧H p=some (.lst xs)∧Dz xs.length k=some j∧Q (An H p (.lst (xs.set j v)))
theorem UM:Oa X UL:=by
 intro pins s σ H o i v ov iv u Q I ro ri rv h
 obtain ⟨p,xs,k,j,rfl,rfl,hp,hj,q⟩:=h
 cases ro
 obtain ⟨t,rfl⟩:=ri
 obtain ⟨its,n,r,ho,hz⟩:=I.lst hp
 obtain ⟨h1,h2,h3,h4⟩:=Oy hj
 have hl:=r.length
 have hn:=Hb
 have I':Inv X pins σ (An H p (.lst (xs.set j v))) {s with heap:=s.heap.update p (Obj.mapSeq (·.setIfInBounds j u))}:=
  I.lstUpd hp ho (UK its n j u) (r.set rv j) (by rw [List.length_set];exact hz) s.toks
 by_cases h0:0≤k
 ·have hk:k.toNat=j:=by
   rw [seqIndex_of h0 h4] at h1
   exact Option.some.inj h1
  exact PySem.W.ki_setAt ho h0 (by omega) (by rw [A9,←hl];exact h4) (by rw [hk];exact ⟨_,I',q⟩)
 ·have hk:(k+(its.toArray.size:Int)).toNat=j:=by
   rw [seqIndex_neg (by omega) h3] at h1
   rw [A9,←hl]
   exact Option.some.inj h1
  exact PySem.W.ki_setBack ho (by omega) (by rw [A9,←hl];exact h3) (by omega) (by rw [hk];exact ⟨_,I',q⟩)
def DA:V→Bool
 |.non=>true
 |.bl _=>true
 |.int _=>true
 |.str _=>true
 |_=>false
def DT:V→V→Bool
 |.non,.non=>true
 |.bl a,.bl b=>a==b
 |.bl a,.int b=>(if a then 1 else 0)==b
 |.int a,.bl b=>a==(if b then 1 else 0)
 |.int a,.int b=>a==b
 |.str a,.str b=>a==b
 |_,_=>false
theorem UN {A:Around} {s:Shared} {y x:V} {u v:Value} (ry:RelV y u) (rx:RelV x v) (fy:DA y=true) (fx:DA x=true):SeqAt.EqAt A s u v (DT y x):=by
 cases y with
 |non=>
  cases ry
  cases x with
  |non=>cases rx;exact SeqAt.EqAt.same _
  |bl b=>cases rx;exact SeqAt.EqAt.none_bool b
  |int b=>obtain ⟨t,rfl⟩:=rx;exact SeqAt.EqAt.none_int b t
  |str b=>obtain ⟨t,rfl⟩:=rx;exact SeqAt.EqAt.none_str b t
  |_=>exact absurd (show false=true from fx) Bw
 |bl a=>
  cases ry
  cases x with
  |non=>cases rx;exact SeqAt.EqAt.bool_none a
  |bl b=>cases rx;exact SeqAt.EqAt.bool_bool a b
  |int b=>obtain ⟨t,rfl⟩:=rx;exact SeqAt.EqAt.bool_int a b t
  |str b=>obtain ⟨t,rfl⟩:=rx;exact SeqAt.EqAt.bool_str a b t
  |_=>exact absurd (show false=true from fx) Bw
 |int a=>
  obtain ⟨t',rfl⟩:=ry
  cases x with
  |non=>cases rx;exact SeqAt.EqAt.int_none a t'
  |bl b=>cases rx;exact SeqAt.EqAt.int_bool a t' b
  |int b=>obtain ⟨t,rfl⟩:=rx;exact SeqAt.EqAt.int_int a t' b t
  |str b=>obtain ⟨t,rfl⟩:=rx;exact SeqAt.EqAt.int_str a t' b t
  |_=>exact absurd (show false=true from fx) Bw
 |str a=>
  obtain ⟨t',rfl⟩:=ry
  cases x with
  |non=>cases rx;exact SeqAt.EqAt.str_none a t'
  |bl b=>cases rx;exact SeqAt.EqAt.str_bool a t' b
  |int b=>obtain ⟨t,rfl⟩:=rx;exact SeqAt.EqAt.str_int a t' b t
  |str b=>obtain ⟨t,rfl⟩:=rx;exact SeqAt.EqAt.str_str a t' b t
  |_=>exact absurd (show false=true from fx) Bw
 |_=>exact absurd (show false=true from fy) Bw
def CU (x:V) (u:Value):Bool:=match u with
 |.none=>DT .non x
 |.bool b=>DT (.bl b) x
 |.int i _=>DT (.int i) x
 |.str z _=>DT (.str z) x
 |_=>false
theorem JR {x y:V} {u:Value} (r:RelV y u) (f:DA y=true):CU x u=DT y x:=by
 cases y with
 |non=>cases r;rfl
 |bl b=>cases r;rfl
 |int i=>obtain ⟨t,rfl⟩:=r;rfl
 |str z=>obtain ⟨t,rfl⟩:=r;rfl
 |_=>exact absurd (show false=true from f) Bw
theorem LM {x:V}:∀{xs:List V} {us:List Value},Vals xs us→xs.all DA=true→us.any (CU x)=xs.any fun y=>DT y x
 |_,_,.nil,_=>rfl
 |y::xs,u::us,.cons r t,f=>by
  rw [List.all_cons,CF] at f
  rw [List.any_cons,List.any_cons,JR r f.1,LM t f.2]
theorem Iz {A:Around} {s:Shared} {x:V} {v:Value} (rx:RelV x v) (fx:DA x=true):∀{xs:List V} {us:List Value},Vals xs us→xs.all DA=true→∀u∈us,SeqAt.EqAt A s u v (CU x u)
 |_,_,.nil,_=>fun u hu=>by cases hu
 |y::xs,u::us,.cons r t,f=>fun u' hu=>by
  rw [List.all_cons,CF] at f
  rcases qa8.mp hu with rfl |hu
  ·rw [JR r f.1];exact UN r rx f.1 fx
  ·exact Iz rx fx t f.2 u' hu
def Hd (x:V) (xs:List V):Bool:=xs.any fun y=>DT y x
def OB (K:PySem.W.Frag) (neg:Bool):R2:=fun x y H Q=>∃p xs,y=.ref p∧(SqL K H p xs∨SqT K H p xs)∧DA x=true∧xs.all DA=true∧Q (.bl (if neg then !Hd x xs else Hd x xs)) H
theorem UO:OpR X (compareOp .In) (OB X.K false):=by
 intro pins s σ H x y v u Q I rx ry h
 obtain ⟨p,xs,rfl,hq,fx,fs,q⟩:=h
 cases ry
 rcases hq with hq |hq
 ·obtain ⟨its,r,pl,hz⟩:=I.list hq
  refine SeqAt.in_listAt (CU x) pl.isList (fun w hw=>Iz rx fx r fs w (by simpa using hw)) ⟨.bl _,H,I,rfl,?_⟩
  rw [show its.toArray.any (CU x)=its.any (CU x) by simp,LM r fs]
  exact q
 ·obtain ⟨its,r,pl,hz⟩:=I.tuple hq
  refine SeqAt.in_tupleAt (CU x) pl (fun w hw=>Iz rx fx r fs w (by simpa using hw)) ⟨.bl _,H,I,rfl,?_⟩
  rw [show its.toArray.any (CU x)=its.any (CU x) by simp,LM r fs]
  exact q
theorem UP:DR X (.builtin "len") (fun xs H Q=>∃p ys,xs=[.ref p]∧(SqL X.K H p ys∨SqT X.K H p ys)∧Q (.int ys.length) H):=by
 intro pins s σ H xs us Q I r h
 obtain ⟨p,ys,rfl,hq,q⟩:=h
 obtain ⟨u,rfl,rx⟩:=En r
 cases rx
 have hn:=Hb
 rcases hq with hq |hq
 ·obtain ⟨its,r',pl,hz⟩:=I.list hq
  have hlen:=r'.length
  exact Calls.call_len_list pl.isList (by simp only [A9]<;>omega) ⟨.int ys.length,H,I.tok _,⟨s.toks+1,by rw [A9,hlen]⟩,q⟩
 ·obtain ⟨its,r',pl,hz⟩:=I.tuple hq
  have hlen:=r'.length
  exact len_tuple pl (by simp only [A9]<;>omega) ⟨.int ys.length,H,I.tok _,⟨s.toks+1,by rw [A9,hlen]⟩,q⟩
theorem UQ:DR X (.type "list") (fun xs H Q=>∃p ys,xs=[.ref p]∧(SqL X.K H p ys∨SqT X.K H p ys)∧∀l,H l=none→Q (.ref l) (An H l (.lst ys))):=by
 intro pins s σ H xs us Q I r h
 obtain ⟨p,ys,rfl,hq,q⟩:=h
 obtain ⟨u,rfl,rx⟩:=En r
 cases rx
 have fin:∀(its:List Value),Vals ys its→ys.length≤sizeLine→∀(h':Heap) (c':Nat),(∀b o',s.heap.get? b=some o'→h'.get? b=some o')→
  h'.get? s.heap.objs.size=some {cls:=.type "list",dict:=none,data:=.seq its.toArray c',slots:=#[]}→EP X pins σ Q (.ref s.heap.objs.size) {s with heap:=h'}:=fun its r' hz h' c' kp e=>
  ⟨.ref s.heap.objs.size,_,I.laid (t':=s.toks) kp (AK _) (show ObjOk X.prog X.w _ h' _ (.lst ys) from ⟨hz,its,c',r',e⟩),rfl,q _ (I.hok.fresh (AK _))⟩
 rcases hq with hq |hq
 ·obtain ⟨its,r',pl,hz⟩:=I.list hq
  have hlen:=r'.length
  obtain ⟨o,ho,hc,n,hd⟩:=pl.isList
  exact call_list_seq p (.inl rfl) ho hc hd (fun h' c' kp e=>fin its r' hz h' c' kp e) (by simp only [A9]<;>omega)
 ·obtain ⟨its,r',pl,hz⟩:=I.tuple hq
  have hlen:=r'.length
  obtain ⟨o,ho,hc,n,hd⟩:=pl
  exact call_list_seq p (.inr rfl) ho hc hd (fun h' c' kp e=>fin its r' hz h' c' kp e) (by simp only [A9]<;>omega)
theorem UR:DR X (.type "tuple") (fun xs H Q=>∃p ys,xs=[.ref p]∧((SqL X.K H p ys∧∀l,H l=none→Q (.ref l) (An H l (.tup ys)))∨(SqT X.K H p ys∧Q (.ref p) H))):=by
 intro pins s σ H xs us Q I r h
 obtain ⟨p,ys,rfl,h⟩:=h
 obtain ⟨u,rfl,rx⟩:=En r
 cases rx
 rcases h with ⟨hq,q⟩ |⟨hq,q⟩
 ·obtain ⟨its,r',pl,hz⟩:=I.list hq
  have hlen:=r'.length
  refine call_tuple_list pl.isList (fun h' kp=>?_) (by simp only [A9]<;>omega)
  have I1:Inv X pins σ H {s with heap:=h'}:=I.kept (t':=s.toks) kp
  have I2:Inv X pins σ (An H h'.objs.size (.tup ys)) {s with heap:=h'.push {cls:=.type "tuple",data:=.seq its.toArray}}:=
   I1.laid (t':=s.toks) (fun b o e=>AE _ e) (AK _) (show ObjOk X.prog X.w _ _ _ (.tup ys) from ⟨hz,its,r',IsTup.new _ _,NoDict.new⟩)
  exact ⟨.ref h'.objs.size,_,I2,rfl,q _ (I1.hok.fresh (AK _))⟩
 ·obtain ⟨its,r',pl,hz⟩:=I.tuple hq
  exact call_tuple_same pl ⟨.ref p,H,I,rfl,q⟩
def OC (K:PySem.W.Frag) (T:String) (x:V) (H:Hp):Prop:=match x with
 |.str _=>T="str"
 |.int _=>T="int"
 |.ref p=>(T="list"∧∃xs,SqL K H p xs)∨(T="tuple"∧∃o,K.lookup p=some o∧o.cls=.type "tuple"∧o.dict=none)
 |_=>False
theorem OD {pins:List (Addr×Obj)} {σ:St} {H:Hp} {s:Shared} {T:String} {x:V} {v:Value} (I:Inv X pins σ H s) (r:RelV x v) (ty:OC X.K T x H):
 s.TypeIs v T∧∀a,v=.ref a→∃ob,s.heap.get? a=some ob∧ob.dict=none:=by
 cases x with
 |str z=>
  obtain ⟨t,rfl⟩:=r
  cases (show T="str" from ty)
  exact ⟨typeIs_str s z t,fun _ e=>nomatch e⟩
 |int i=>
  obtain ⟨t,rfl⟩:=r
  cases (show T="int" from ty)
  exact ⟨typeIs_int s i t,fun _ e=>nomatch e⟩
 |ref p=>
  cases r
  rcases ty with ⟨rfl,xs,hq⟩ |⟨rfl,o,hk,hc,hd⟩
  ·obtain ⟨its,_,pl,_⟩:=I.list hq
   refine ⟨pl.isList.typeIs,fun a e=>?_⟩
   cases e
   obtain ⟨o,n,e,c,hd,_⟩:=pl
   exact ⟨o,e,hd⟩
  ·refine ⟨⟨o,I.kIn p o hk,hc⟩,fun a e=>?_⟩
   cases e
   exact ⟨o,I.kIn _ o hk,hd⟩
 |_=>exact False.elim ty
def US (K:PySem.W.Frag) (T:String) (r:V→List V→Hp→VK→Prop) (to:TE) (t:TA):TE:=fun σ H Q=>to σ H fun x H1=>OC K T x H1∧t σ H1 fun xs H2=>r x xs H2 Q
variable {o e:Expr} {es:List Expr} {to:TE} {t:TA} {name:Str} {apos cpos:Pos} {T id:String} {r:V→List V→Hp→VK→Prop}
theorem UT (pa:PlainAttrs T) (slot:Slot T name id) (hty:typeOf (.builtin id)=pure (.type "method_descriptor")) (hm:LJ X id r) (ho:PE X o to) (ha:PA X (e::es) t)
 (hbase:attributeBase o name X.env (eval o X.env)=eval o X.env:=by rfl)
 (hfew:((backTo cpos (starEach (e::es) X.env)).all (fun x=>!x.1)&&(backToKw cpos (keywordEach [] X.env)).all (fun x=>x.1.isSome)
  &&decide ((e::es).length+([]:List Keyword).length+(if ([]:List Keyword).isEmpty then 0 else 1)<30))=true:=by rfl)
 (hline:(apos.endLine==cpos.line)=true:=by rfl) (hs:starEach (e::es) X.env=(false,eval e X.env)::starEach es X.env:=by rfl) (hplain:(backTo cpos (starEach es X.env)).any (·.1)=false:=by rfl):
 PE X (.Call (.Attribute o name apos) (e::es) [] cpos) (US X.K T r to t):=by
 intro pins s σ H Q I h
 refine wpAny_Call_method_late hbase hfew hline rfl (AB (ho pins s σ H _ I h) fun v s1 z89_=>?_)
 obtain ⟨x,H1,I1,r1,ty,q1⟩:=z89_
 obtain ⟨h1,h2⟩:=OD I1 r1 ty
 refine ⟨T,id,pa,slot,hty,h1,h2,?_⟩
 have hA:=ha cpos pins s1 σ H1 _ I1 q1
 rw [hs] at hA ⊢
 refine Calls.callWith_builtin (by show (false||(backTo cpos (starEach es X.env)).any (·.1))=false;rw [hplain]<;>rfl) (Calls.evalArgs_plain ?_)
 exact AB hA fun us s2 z90_=>by obtain ⟨vs,H2,I2,r2,q2⟩:=z90_;exact (hm pins s2 σ H2 x vs v us Q I2 r1 r2 q2)
end
def UU (X:Cx) (id:String) (r:V→List V→Hp→VK→Prop):Prop:=
 ∀(pins:List (Addr×Obj)) (s:Shared) (σ:St) (H:Hp) (x:V) (xs:List V) (v:Value) (us:List Value) (Q:VK),Inv X pins σ H s→RelV x v→Vals xs us→r x xs H Q→
  wpAny (model X.prog X.w) X.A (call (.builtin id) (v::us)) (EP X pins σ Q) X.xe s
theorem Vals.one {x:V} {us:List Value} (h:Vals [x] us):∃u,us=[u]∧RelV x u:=by
 cases h with
 |cons r t=>cases t;exact ⟨_,rfl,r⟩
theorem Vals.reverse {xs:List V} {us:List Value} (h:Vals xs us):Vals xs.reverse us.reverse:=by
 induction h with
 |nil=>exact .nil
 |cons r t ih=>rw [List.reverse_cons,List.reverse_cons];exact Vals.append ih (.cons r .nil)
theorem Vals.rep {xs:List V} {us:List Value} (h:Vals xs us):∀k:Nat,Vals (List.replicate k xs).flatten (List.replicate k us).flatten
 |0=>.nil
 |k+1=>by
  rw [Fx,Fx,FW,FW]
  exact Vals.append h (Vals.rep h k)
theorem JS (its:List Value):∀(k:Nat) (acc:List Value),
 List.foldl (fun x1 x2=>x1++x2) acc.toArray (List.replicate k its.toArray)=(acc++(List.replicate k its).flatten).toArray
 |0,acc=>by simp
 |k+1,acc=>by
  have e:acc.toArray++its.toArray=(acc++its).toArray:=by simp
  have e2:(acc++its)++(List.replicate k its).flatten=acc++(List.replicate (k+1) its).flatten:=by
   rw [Fx,FW,E4]
  rw [←e2,←JS its k (acc++its),←e,Fx,Ik]
section
variable {X:Cx} {pins:List (Addr×Obj)} {σ:St} {H:Hp} {s:Shared} {l b:Addr} {xs ys zs:List V}
theorem Inv.lset {its its':List Value} {n:Nat} {f:Array Value→Array Value} {t':Nat} (I:Inv X pins σ H s) (hH:H l=some (.lst xs))
 (e:s.heap.get? l=some {cls:=.type "list",data:=.seq its.toArray n}) (hf:f its.toArray=its'.toArray) (hv:Vals ys its') (hz:ys.length≤sizeLine):
 Inv X pins σ (An H l (.lst ys)) {s with heap:=s.heap.update l (Obj.mapSeq f),toks:=t'}:=by
 have q:=PySem.IsL.update e f
 rw [hf] at q
 refine I.write (x:=l) (e:=l) (by rw [hH];exact trivial) (.inl rfl) (fun b' u hb hu=>(Ek s.heap (Obj.mapSeq f) (Ne.symm hb)).trans hu) ⟨_,q⟩ ?_
 exact ⟨hz,its',_,hv,q⟩
theorem Inv.lnew {its:List Value} {t':Nat} (I:Inv X pins σ H s) (hv:Vals ys its) (hz:ys.length≤sizeLine):
 Inv X pins σ (An H s.heap.objs.size (.lst ys)) {s with heap:=s.heap.push {cls:=.type "list",data:=.seq its.toArray},toks:=t'}:=
 I.laid (fun _ _ q=>AE _ q) (AK _) ⟨hz,its,0,hv,Bp _ rfl⟩
theorem Inv.fresh (I:Inv X pins σ H s):H s.heap.objs.size=none:=I.hok.fresh (AK _)
theorem Inv.lstM (I:Inv X pins σ H s) (hH:H l=some (.lst xs)):xs.length≤sizeLine∧∃(its:List Value) (n:Nat),Vals xs its∧xs.length=its.length∧s.heap.get? l=some {cls:=.type "list",data:=.seq its.toArray n}:=by
 obtain ⟨z,its,n,r,e⟩:=I.hok l _ hH
 exact ⟨z,its,n,r,r.length,e⟩
theorem UV {n:Nat} (h:n≤sizeLine):Builtin.List.listTooLong n=false:=by
 unfold Builtin.List.listTooLong
 exact decide_eq_false (by omega)
end
section
variable {X:Cx}
def UW:V→List V→Hp→VK→Prop:=fun x vs H Q=>∃l xs y,x=.ref l∧vs=[y]∧H l=some (.lst xs)∧xs.length<sizeLine∧Q .non (An H l (.lst (xs++[y])))
theorem UX:UU X "list.append" UW:=by
 intro pins s σ H x vs v us Q I rx rv h
 obtain ⟨l,xs,y,rfl,rfl,hH,hz,q⟩:=h
 cases rx
 obtain ⟨u,rfl,ru⟩:=rv.one
 obtain ⟨z,its,n,r,hl,e⟩:=I.lstM hH
 refine call_meets F.slot_list_append ⟨_,e,rfl⟩ F.entry_list_append (F.args_list_append_2 _ _) (PySem.list_append l its.toArray n u (by rw [A9];omega)) ⟨e,?_⟩
 refine ⟨.non,_,I.lset (its':=its++[u]) hH e (by simp) (r.append (.cons ru .nil)) ?_,rfl,q⟩
 rw [El,List.length_singleton]
 omega
def UY:R2:=fun x y H Q=>∃l b xs zs,x=.ref l∧y=.ref b∧H l=some (.lst xs)∧H b=some (.lst zs)∧xs.length+zs.length≤sizeLine∧∀p,H p=none→Q (.ref p) (An H p (.lst (xs++zs)))
theorem op_cat:OpR X (binaryOp .Add) UY:=by
 intro pins s σ H x y v u Q I rx ry h
 obtain ⟨l,b,xs,zs,rfl,rfl,hH,hB,hz,q⟩:=h
 cases rx
 cases ry
 obtain ⟨z,its,n,r,hl,e⟩:=I.lstM hH
 obtain ⟨z2,its2,n2,r2,hl2,e2⟩:=I.lstM hB
 refine PySem.P.add_list e e2 ?_ (by rw [A9,A9];omega)
 have ea:its.toArray++its2.toArray=(its++its2).toArray:=by simp
 rw [ea]
 exact ⟨.ref _,_,I.lnew (t':=s.toks) (r.append r2) (by rw [El];omega),rfl,q _ I.fresh⟩
def UZ:R2:=fun x y H Q=>∃l k xs,x=.ref l∧y=.int k∧H l=some (.lst xs)∧-(2^63)≤k∧k<2^63∧xs.length*k.toNat≤sizeLine∧
 ∀p,H p=none→Q (.ref p) (An H p (.lst (List.replicate k.toNat xs).flatten))
theorem JT {α:Type} (xs:List α) (k:Nat):(List.replicate k xs).flatten.length=k*xs.length:=by
 induction k with
 |zero=>simp
 |succ k ih=>rw [Fx,FW,El,ih,Io,Nat.add_comm]
theorem U0:OpR X (binaryOp .Mult) UZ:=by
 intro pins s σ H x y v u Q I rx ry h
 obtain ⟨l,k,xs,rfl,rfl,hH,h1,h2,hz,q⟩:=h
 cases rx
 obtain ⟨t,rfl⟩:=ry
 obtain ⟨z,its,n,r,hl,e⟩:=I.lstM hH
 have hlen:its.toArray.size*k.toNat≤sizeLine:=by rw [A9,←hl];exact hz
 have hcap:¬its.toArray.size*k.toNat>(2^63 - 1) / 8:=by
  have:(sizeLine:Nat)≤(2^63 - 1) / 8:=by decide
  omega
 have hfit:¬(!Builtin.List.listFitsIndex k)=true:=by
  rw [fitsIndex_both h1 h2]
  exact Bw
 have hlong:¬Builtin.List.listTooLong (its.toArray.size*k.toNat)=true:=by
  rw [UV hlen]
  exact Bw
 have hnew:List.foldl (fun x1 x2=>x1++x2) #[] (List.replicate (if its.toArray.isEmpty=true then 0 else k.toNat) its.toArray)=(List.replicate k.toNat its).flatten.toArray:=by
  have f0:∀m:Nat,List.foldl (fun x1 x2=>x1++x2) #[] (List.replicate m its.toArray)=(List.replicate m its).flatten.toArray:=fun m=>by
   have:=JS its m []
   rw [Il] at this
   exact this
  rw [f0]
  cases its with
  |nil=>simp
  |cons a r'=>rw [if_neg (by simp)]
 refine wpAny_binaryOp_repeat_ref (T:="list") (U:="int") (by decide) ⟨_,e,rfl⟩ (fun s'=>typeIs_int s' k t) noFill_list_mul F.fills_int_mul F.slot_int_rmul repeat_list F.slot_int_index.lookup
  (call_meets F.slot_int_rmul (typeIs_int s k t) F.entry_int_rmul (F.args_int_rmul_2 _ _) (int___rmul___int_list k t l its.toArray n)
   ⟨e,rfl,⟨_,e,rfl⟩,call_meets F.slot_list_mul ⟨_,e,rfl⟩ F.entry_list_mul (F.args_list_mul_2 _ _) (AutoListH.list___mul___list_int_3 l its.toArray n k t hfit hcap hlong) ⟨e,?_⟩⟩)
 rw [hnew]
 exact ⟨.ref _,_,I.lnew (t':=s.toks) (r.rep k.toNat) (by rw [JT,Nat.mul_comm];exact hz),rfl,q _ I.fresh⟩
end
section
variable {prog:Program} {w:World} {A:Around} {E:Value→Shared→Prop} {s:Shared}
end
section
variable {X:Cx}
end
end L2
namespace Att
open PySem PySem.W PySem.Calls PyProof.Rows
theorem U1 {P:Params} {h:Heap}:∀(ns:List Int) (vs:List Value),WellAll P h vs (ns.map WData.int)→IntsAre vs ns:=by
 intro ns
 induction ns with
 |nil=>
  intro vs w
  rw [F0] at w
  cases w
  exact .nil
 |cons n ns ih=>
  intro vs w
  rw [Bn] at w
  cases w with
  |cons a b=>
   cases a
   exact .cons _ _ (ih _ b)
theorem U2 {l:OpenLaw} {n:Nat} (hn:l.most=some n) {P:Params} {h:Heap} {args:List WData} {vals:List Value}
 (hpre:l.row.toRowW.claim.pre args=true) (hwl:WellAll P h vals args):
 ∃a vs ns,vals=[Value.ref a]∧args=[WData.list (ns.map WData.int)]∧h.get? a=some {cls:=.type "list",data:=.seq vs.toArray}∧IntsAre vs ns∧ns.length≤n:=by
 have hsh:WShape.hasAll [] args [.list .int]=true:=(pre_splitW hpre).1
 have hc:l.pre.holds [] {args:=args}=true:=(pre_splitW hpre).2
 obtain ⟨d,r,rfl,h1,h2⟩:=hasAllW_cons hsh
 obtain rfl:=hasAllW_nil h2
 obtain ⟨xs,rfl,h3⟩:=hasW_list h1
 obtain ⟨ns,rfl⟩:=items_int h3
 have hlen:ns.length≤n:=by
  unfold OpenLaw.pre at hc
  have h4:(WTm.not (.lt (.lit (.int (n:Int))) (.len (.arg 0)))).holds [] {args:=[.list (ns.map .int)]}=true:=by
   have h4:=(holds_andW hc).1
   rw [hn] at h4
   exact h4
  have h5:=condW_of h4 (w_not (w_lt w_lit (w_len_list (w_arg rfl))))
  rw [CS] at h5
  refine G7 fun q=>?_
  have q':(n:Int)<((ns.length:Nat):Int):=by omega
  first
   |(rw [decide_eq_true q'] at h5;exact absurd h5 (by decide))
   |(simp at h5;omega)
 cases hwl with
 |cons w1 w2=>
  cases w2
  cases w1 with
  |list ho hall=>exact ⟨_,_,ns,rfl,rfl,ho,U1 ns _ hall,hlen⟩
theorem U3 (l:OpenLaw) (args:List WData):l.row.toRowW.claim.post args (.bool true) args=true:=
 postW_of (r:=l.row.toRowW) (X:=(true==true))
  (show WShape.has [] (.bool true) .bool=true by first |rfl |decide |simp [WShape.has,WShape.arms,WShape.armsAll])
  (show (WTm.eq .res (.lit (.bool true))).value [] {args:=args,res:=some (.bool true),after:=args}=some (.bool (true==true)) from w_eq_bool (w_res rfl) w_lit) rfl
section
variable {prog:Program} {w:World} {A:Around} {E:Value→Shared→Prop} {s:Shared} {K:Frag}
end
end Att
namespace L2
open PySem PySem.Spec PyProof.Rows
theorem vals_ints:∀{vs:List Value} {ns:List Int},IntsAre vs ns→Vals (ns.map V.int) vs
 |_,_,.nil=>.nil
 |_,_,.cons n t h=>.cons ⟨t,rfl⟩ (vals_ints h)
def defArgs (s:Stmt):Arguments:=match s with
 |.FunctionDef _ a _ _ _ _ _ _ _ _=>a
 |_=>{posonlyargs:=[],args:=[],vararg:=none,kwonlyargs:=[],kw_defaults:=[],kwarg:=none,defaults:=[]}
def defBody (s:Stmt):List Stmt:=match s with
 |.FunctionDef _ _ b _ _ _ _ _ _ _=>b
 |_=>[]
def defScope (s:Stmt):Scope:=match s with
 |.FunctionDef _ _ _ _ _ _ sc _ _ _=>sc
 |_=>{kind:=.function,names:=[],isGenerator:=false,isCoroutine:=false}
abbrev OE:DS:=fun _ _ _ _ _ _=>False
abbrev E0:XK:=fun _ _ _=>False
inductive OF (K:PySem.W.Frag) (x qual:Str) (st:Stmt) (f:Addr) (fd:FuncData):Prop where
 |mk (oc:Value) (od:Option Addr) (kV doc pm:Value) (an:Option Addr) (cdv ct:Value) (osl:Array (Option Value)) (f1:fd=PySem.W.fnOf x qual (defArgs st) (defBody st) (defScope st) .none kV doc pm an cdv ct) (f2:K.lookup f=some ⟨oc,od,.func fd,osl⟩) (f3:PySem.W.codeIn K cdv qual=true):OF K x qual st f fd
structure Fun (K:PySem.W.Frag) (x qual:Str) (st:Stmt) (f:Addr) (fd:FuncData):Prop where
 ex:OF K x qual st f fd
 kp:PySem.W.keepIn K (.ref f)=true
section
variable {P:Program} {w:World} {K:PySem.W.Frag} {mg:Str→Option Value} {base:Heap}
theorem Fun.binds {x qual:Str} {st:Stmt} {f:Addr} {fd:FuncData} {ps:List Str} (F:Fun K x qual st f fd)
 (h:∀(kV doc pm:Value) (an:Option Addr) (cdv ct:Value) (us:List Value),us.length=ps.length→bindArgs (PySem.W.fnOf x qual (defArgs st) (defBody st) (defScope st) .none kV doc pm an cdv ct) ⟨us,[]⟩=pure (ps.zip us)):Binds K fd ps []:=by
 obtain ⟨oc,od,kV,doc,pm,an,cdv,ct,osl,rfl,lk,hcd⟩:=F.ex
 exact .all (h kV doc pm an cdv ct)
theorem He {x qual:Str} {st:Stmt} {f:Addr} {oc:Value} {od an:Option Addr} {osl:Array (Option Value)} {kV doc pm cdv ct:Value} (l:K.lookup f=some ⟨oc,od,.func (PySem.W.fnOf x qual (defArgs st) (defBody st) (defScope st) .none kV doc pm an cdv ct),osl⟩)
 (c:PySem.W.codeIn K cdv qual=true) (k:PySem.W.keepIn K (.ref f)=true):Fun K x qual st f (PySem.W.fnOf x qual (defArgs st) (defBody st) (defScope st) .none kV doc pm an cdv ct):=⟨⟨oc,od,kV,doc,pm,an,cdv,ct,osl,rfl,l,c⟩,k⟩
end
section
variable {X:Cx}
theorem pv (i:Nat) {x:Str} {pos:Pos} (hN:X.N[i]?=some x:=by rfl) (hv:JI X.env.scope x:=by first |exact Or.inl rfl |exact Or.inr (Or.inl rfl) |exact Or.inr (Or.inr rfl)) (hd:(x==("__debug__":Str))=false:=by decide)
 (hcd:(x==("__classdict__":Str))=false:=by decide):PE X (.Name x pos) (Lp i):=Lq hN hv hd hcd
end
end L2
namespace LS
open PySem PySem.Spec PyProof.Rows L2
inductive D where
 |non |bl (b:Bool) |int (i:Int) |str (x:Str) |tup (ds:List D) |loc (l:Nat) |scr (ns:List Int) |adr (a:Addr) |ty (n:String) |exc (n:Str) (fs:List (Str×Int)) |edic |glo (n:Str) |clo (a:Addr) (vs:List V) (ds:List D)
inductive Kyd where
 |i (n:Int) |t (ns:List Int) |b (rs:List (List Int))
 deriving DecidableEq
def kD:Kyd→D
 |.i n=>.int n
 |.t ns=>.tup (ns.map D.int)
 |.b rs=>.tup (rs.map fun r=>.tup (r.map D.int))
inductive Cell where
 |lst (ds:List D) |tab |dic (fz:Bool) (kvs:List (Kyd×D))
abbrev HD:=List Cell
abbrev Ai:=List (Option D)
inductive Out (α:Type) where
 |ok (a:α) (h:HD) |err (C:Value) (fs:List (Str×D)) (h:HD) |stuck
def Out.bind {α β:Type} (o:Out α) (k:α→HD→Out β):Out β:=match o with
 |.ok a h=>k a h
 |.err C fs h=>.err C fs h
 |.stuck=>.stuck
@[simp] theorem Out.bind_ok {α β:Type} (a:α) (h:HD) (k:α→HD→Out β):(Out.ok a h).bind k=k a h:=rfl
@[simp] theorem Out.bind_err {α β:Type} (C:Value) (fs:List (Str×D)) (h:HD) (k:α→HD→Out β):(Out.err C fs h:Out α).bind k=.err C fs h:=rfl
@[simp] theorem Out.bind_stuck {α β:Type} (k:α→HD→Out β):(Out.stuck:Out α).bind k=.stuck:=rfl
def LN:HO→Bool
 |.tup _=>true
 |.frz _ _=>true
 |.ext _=>true
 |.xd _=>true
 |_=>false
def Kp (H H':Hp):Prop:=∀b o,H b=some o→LN o=true→H' b=some o
theorem Kp.refl (H:Hp):Kp H H:=fun _ _ e _=>e
theorem Kp.trans {H H1 H2:Hp} (a:Kp H H1) (b:Kp H1 H2):Kp H H2:=fun c o e i=>b c o (a c o e i) i
theorem Kp.new {H:Hp} {p:Addr} {o:HO} (h:H p=none):Kp H (An H p o):=fun b u e _=>by rw [Ao (Bz e h)];exact e
theorem Kp.set {H:Hp} {p:Addr} {o u:HO} (h:H p=some o) (i:LN o=false):Kp H (An H p u):=fun b w e iw=>by
 rw [Ao]
 ·exact e
 ·intro z
  rw [z,h] at e;cases e;rw [i] at iw;cases iw
def FzL (K:PySem.W.Frag) (H:Hp) (a:Addr) (xs:List V):Prop:=(∃o,H a=some (.frz o (.lst xs)))∨SqL K (fun _=>none) a xs
theorem Kp.fzL {K:PySem.W.Frag} {H H':Hp} {a:Addr} {xs:List V} (k:Kp H H') (h:FzL K H a xs):FzL K H' a xs:=by
 rcases h with ⟨o,h⟩ |h
 ·exact .inl ⟨o,k _ _ h rfl⟩
 ·exact .inr h
theorem FzL.sq {K:PySem.W.Frag} {H:Hp} {a:Addr} {xs:List V} (h:FzL K H a xs):SqL K H a xs:=by
 rcases h with ⟨o,h⟩ |(h |⟨o,h⟩) |h
 ·exact .inl (.inr ⟨o,h⟩)
 ·cases h
 ·cases h
 ·exact .inr h
def FH (C:Addr) (da:Option Addr) (a:Addr) (h:Heap):Prop:=∃o vs,h.get? a=some o∧o.cls=.ref C∧(∀d,da=some d→o.dict=some d)∧o.data=.fields vs
def LO (a:Addr) (h:Heap):Prop:=a≠sysModules∧∃o ep,h.get? a=some o∧o.ExactDict∧o.data=.dict #[] ep
mutual
def DV (K:PySem.W.Frag) (m:List Addr) (H:Hp):D→V→Prop
 |.non,v=>v=.non
 |.bl b,v=>v=.bl b
 |.int i,v=>v=.int i
 |.str x,v=>v=.str x
 |.tup ds,v=>∃a vs,v=.ref a∧H a=some (.tup vs)∧DVs K m H ds vs
 |.loc l,v=>∃a,v=.ref a∧m[l]?=some a
 |.scr ns,v=>∃a,v=.ref a∧FzL K H a (ns.map V.int)
 |.adr a,v=>v=.ref a
 |.ty n,v=>v=.ty n
 |.exc n fs,v=>∃a C da,v=.ref a∧PySem.W.nsIn K mainGlobals n=some (some (.ref C))∧H a=some (.ext (FH C da a))∧∀f i,fs.lookup f=some i→∃d fv,da=some d∧H d=some (.xd fv)∧fv.lookup f=some (.int i)
 |.edic,v=>∃a,v=.ref a∧H a=some (.ext (LO a))
 |.glo n,v=>∃a,v=.ref a∧PySem.W.nsIn K mainGlobals n=some (some (.ref a))
 |.clo a vs ds,v=>v=.ref a∧DVs K m H ds vs
def DVs (K:PySem.W.Frag) (m:List Addr) (H:Hp):List D→List V→Prop
 |[],vs=>vs=[]
 |d::ds,vs=>∃v r,vs=v::r∧DV K m H d v∧DVs K m H ds r
end
section
variable {K:PySem.W.Frag} {m m':List Addr} {H H':Hp}
theorem IA {l:Nat} {a:Addr} (p:m <+:m') (h:m[l]?=some a):m'[l]?=some a:=by
 obtain ⟨t,rfl⟩:=p
 have hl:l<m.length:=(qa4.mp h).1
 rw [E3 hl];exact h
mutual
theorem DV.keep (p:m <+:m') (k:Kp H H'):∀{d:D} {v:V},DV K m H d v→DV K m' H' d v
 |.non,_,h=>by simpa [DV] using h
 |.bl _,_,h=>by simpa [DV] using h
 |.int _,_,h=>by simpa [DV] using h
 |.str _,_,h=>by simpa [DV] using h
 |.tup ds,_,h=>by
  simp only [DV] at h ⊢
  obtain ⟨a,vs,e,q,r⟩:=h
  exact ⟨a,vs,e,k _ _ q rfl,DVs.keep p k r⟩
 |.loc l,_,h=>by
  simp only [DV] at h ⊢
  obtain ⟨a,e,q⟩:=h
  exact ⟨a,e,IA p q⟩
 |.scr ns,_,h=>by
  simp only [DV] at h ⊢
  obtain ⟨a,e,q⟩:=h
  exact ⟨a,e,k.fzL q⟩
 |.adr _,_,h=>by simpa [DV] using h
 |.ty _,_,h=>by simpa [DV] using h
 |.exc _ _,_,h=>by
  simp only [DV] at h ⊢
  obtain ⟨a,C,da,e,q,r,t⟩:=h
  exact ⟨a,C,da,e,q,k _ _ r rfl,fun f i z=>let ⟨d,fv,z1,z2,z3⟩:=t f i z;⟨d,fv,z1,k _ _ z2 rfl,z3⟩⟩
 |.edic,_,h=>by
  simp only [DV] at h ⊢
  obtain ⟨a,e,r⟩:=h
  exact ⟨a,e,k _ _ r rfl⟩
 |.glo _,_,h=>by simpa [DV] using h
 |.clo _ _ ds,_,h=>by
  simp only [DV] at h ⊢
  exact ⟨h.1,DVs.keep p k h.2⟩
theorem DVs.keep (p:m <+:m') (k:Kp H H'):∀{ds:List D} {vs:List V},DVs K m H ds vs→DVs K m' H' ds vs
 |[],_,h=>by simpa [DVs] using h
 |d::ds,_,h=>by
  simp only [DVs] at h ⊢
  obtain ⟨v,r,e,q,t⟩:=h
  exact ⟨v,r,e,DV.keep p k q,DVs.keep p k t⟩
end
theorem DVs.nil:DVs K m H [] []:=by simp [DVs]
theorem DVs.cons {d:D} {v:V} {ds:List D} {vs:List V} (h:DV K m H d v) (t:DVs K m H ds vs):DVs K m H (d::ds) (v::vs):=by
 simp only [DVs];exact ⟨v,vs,rfl,h,t⟩
theorem DVs.len:∀{ds:List D} {vs:List V},DVs K m H ds vs→ds.length=vs.length
 |[],_,h=>by simp only [DVs] at h;subst h;rfl
 |d::ds,_,h=>by
  simp only [DVs] at h
  obtain ⟨v,r,e,_,t⟩:=h
  subst e
  simp [DVs.len t]
theorem DVs.get:∀{ds:List D} {vs:List V} {i:Nat} {d:D},DVs K m H ds vs→ds[i]?=some d→∃v,vs[i]?=some v∧DV K m H d v
 |[],_,_,_,_,e=>by simp at e
 |d::ds,_,i,x,h,e=>by
  simp only [DVs] at h
  obtain ⟨v,r,rfl,q,t⟩:=h
  cases i with
  |zero=>simp at e;subst e;exact ⟨v,rfl,q⟩
  |succ i=>
   obtain ⟨w,h1,h2⟩:=DVs.get (i:=i) t (by simpa using e)
   exact ⟨w,by simpa using h1,h2⟩
theorem DVs.app:∀{ds es:List D} {vs ws:List V},DVs K m H ds vs→DVs K m H es ws→DVs K m H (ds++es) (vs++ws)
 |[],_,_,_,h,t=>by simp only [DVs] at h;subst h;exact t
 |d::ds,_,_,_,h,t=>by
  simp only [DVs] at h
  obtain ⟨v,r,rfl,q,u⟩:=h
  exact .cons q (DVs.app u t)
theorem DVs.set:∀{ds:List D} {vs:List V} {d:D} {v:V} (i:Nat),DVs K m H ds vs→DV K m H d v→DVs K m H (ds.set i d) (vs.set i v)
 |[],_,_,_,_,h,_=>by simp only [DVs] at h;subst h;exact .nil
 |d::ds,_,_,_,i,h,q'=>by
  simp only [DVs] at h
  obtain ⟨v,r,rfl,q,u⟩:=h
  cases i with
  |zero=>exact .cons q' u
  |succ i=>exact .cons q (DVs.set i u q')
theorem DVs.take:∀{ds:List D} {vs:List V} (n:Nat),DVs K m H ds vs→DVs K m H (ds.take n) (vs.take n)
 |_,_,0,_=>by simpa using (DVs.nil:DVs K m H [] [])
 |[],_,n+1,h=>by simp only [DVs] at h;subst h;exact .nil
 |d::ds,_,n+1,h=>by
  simp only [DVs] at h
  obtain ⟨v,r,rfl,q,u⟩:=h
  exact .cons q (DVs.take n u)
theorem DVs.drop:∀{ds:List D} {vs:List V} (n:Nat),DVs K m H ds vs→DVs K m H (ds.drop n) (vs.drop n)
 |_,_,0,h=>by simpa using h
 |[],_,n+1,h=>by simp only [DVs] at h;subst h;exact .nil
 |d::ds,_,n+1,h=>by
  simp only [DVs] at h
  obtain ⟨v,r,rfl,q,u⟩:=h
  simpa using DVs.drop n u
theorem DVs.rep {ds:List D} {vs:List V} (h:DVs K m H ds vs):∀n,DVs K m H (List.replicate n ds).flatten (List.replicate n vs).flatten
 |0=>by simpa using (DVs.nil:DVs K m H [] [])
 |n+1=>by
  rw [Fx,FW,Fx,FW]
  exact h.app (DVs.rep h n)
def Hf (q:Str) (c:Addr) (h:Heap):Prop:=h.CodeRec (.ref c) q
def tabP (K:PySem.W.Frag):Option (Addr×Addr):=match PySem.W.nsIn K mainGlobals "law" with
 |some (some (.ref f))=>(match K.lookup f with
  |some ⟨_,_,.func fd,_⟩=>(match fd.code with
   |.ref c=>(match K.lookup c with
    |some ⟨_,_,.fields vs,_⟩=>(match (vs[11]?:Option Value) with
     |some (.ref P)=>some (c,P)
     |_=>none)
    |_=>none)
   |_=>none)
  |_=>none)
 |_=>none
def TabIs (K:PySem.W.Frag) (H:Hp) (a:Addr):Prop:=(∃c,tabP K=some (c,a))∧∃ps,H a=some (.tbl ps)∧TriplesOk ps.toList∧∀pos cv,codeAmong pos ps.toList=some cv→∃c,cv=.ref c∧H c=some (.ext (Hf "law.<locals>.<lambda>" c))
theorem TabIs.keep {K:PySem.W.Frag} {H H':Hp} {a:Addr} (t:TabIs K H a) (k:Kp H H') (e:H' a=H a):TabIs K H' a:=by
 obtain ⟨z,ps,h1,h2,h3⟩:=t
 exact ⟨z,ps,e.trans h1,h2,fun pos cv q=>let ⟨c,q1,q2⟩:=h3 pos cv q;⟨c,q1,k _ _ q2 rfl⟩⟩
def LP (hs:List Int):Int:=reduceHash (Builtin.Tuple.tupleHashOf hs)
def U4:Kyd→Int
 |.i n=>hashInt n
 |.t ns=>LP (ns.map hashInt)
 |.b rs=>LP (rs.map fun r=>LP (r.map hashInt))
def LQ (p:Kyd×V×V) (e:DictEntry):Prop:=e.hash=U4 p.1∧RelV p.2.1 e.key∧RelV p.2.2 e.val
def Cd (a:Addr) (es:List (Kyd×V×V)) (h:Heap):Prop:=(a==sysModules)=false∧es.length≤sizeLine∧(es.map (·.1)).Nodup∧∃o us ep,h.get? a=some o∧o.ExactDict∧o.data=.dict us ep∧Paired LQ es us.toList
def EntD (K:PySem.W.Frag) (m:List Addr) (H:Hp):List (Kyd×D)→List (Kyd×V×V)→Prop
 |[],es=>es=[]
 |p::r,es=>∃kv vv r',es=(p.1,kv,vv)::r'∧DV K m H (kD p.1) kv∧DV K m H p.2 vv∧EntD K m H r r'
theorem EntD.keep {K:PySem.W.Frag} {m m':List Addr} {H H':Hp} (p:m <+:m') (k:Kp H H'):∀{kvs:List (Kyd×D)} {es:List (Kyd×V×V)},EntD K m H kvs es→EntD K m' H' kvs es
 |[],_,h=>h
 |_::_,_,h=>by
  obtain ⟨kv,vv,r',e,d1,d2,t⟩:=h
  exact ⟨kv,vv,r',e,d1.keep p k,d2.keep p k,t.keep p k⟩
def DicH (fz:Bool) (H:Hp) (a:Addr) (es:List (Kyd×V×V)):Prop:=match fz with
 |true=>∃o,H a=some (.frz o (.dct (Cd a es)))
 |false=>H a=some (.dct (Cd a es))
theorem DicH.some {fz:Bool} {H:Hp} {a:Addr} {es:List (Kyd×V×V)} (d:DicH fz H a es):∃o,H a=some o:=by
 cases fz with
 |true=>obtain ⟨o,e⟩:=d;exact ⟨_,e⟩
 |false=>exact ⟨_,d⟩
theorem DicH.same {fz:Bool} {H H':Hp} {a:Addr} {es:List (Kyd×V×V)} (d:DicH fz H a es) (e:H' a=H a):DicH fz H' a es:=by
 cases fz with
 |true=>obtain ⟨o,z⟩:=d;exact ⟨o,e.trans z⟩
 |false=>exact e.trans d
theorem DicH.rd {fz:Bool} {H:Hp} {a:Addr} {es:List (Kyd×V×V)} (d:DicH fz H a es):Rd H a (.dct (Cd a es)):=by
 cases fz with
 |true=>obtain ⟨o,z⟩:=d;exact .inr ⟨o,z⟩
 |false=>exact .inl d
def JU (K:PySem.W.Frag) (m:List Addr) (H:Hp):Cell→Addr→Prop
 |.lst ds,a=>∃vs,H a=some (.lst vs)∧DVs K m H ds vs
 |.tab,a=>TabIs K H a
 |.dic fz kvs,a=>∃es,DicH fz H a es∧EntD K m H kvs es
structure HR (K:PySem.W.Frag) (m:List Addr) (h:HD) (H:Hp):Prop where
 len:m.length=h.length
 nd:m.Nodup
 cells:∀(l:Nat) (c:Cell) (a:Addr),h[l]?=some c→m[l]?=some a→JU K m H c a
theorem HR.at {h:HD} {l:Nat} {c:Cell} (r:HR K m h H) (e:h[l]?=some c):∃a,m[l]?=some a∧JU K m H c a:=by
 have hl:l<h.length:=(qa4.mp e).1
 have:l<m.length:=by rw [r.len];exact hl
 exact ⟨m[l],A8 this,r.cells l c _ e (A8 this)⟩
theorem HR.mem {h:HD} {a:Addr} (r:HR K m h H) (ha:a∈m):H a≠none:=by
 obtain ⟨l,hl,rfl⟩:=List.getElem_of_mem ha
 have hl':l<h.length:=by rw [←r.len];exact hl
 have:=r.cells l h[l] m[l] (A8 hl') (A8 hl)
 cases hc:h[l] with
 |lst ds=>
  rw [hc] at this
  obtain ⟨vs,e,_⟩:=this
  rw [e];simp
 |tab=>
  rw [hc] at this
  obtain ⟨_,ps,e,_⟩:=this
  rw [e];simp
 |dic fz kvs=>
  rw [hc] at this
  obtain ⟨es,e,_⟩:=this
  obtain ⟨o,e⟩:=e.some
  rw [e];simp
theorem HR.same {h:HD} (r:HR K m h H) (k:Kp H H') (s:∀a∈m,H' a=H a):HR K m h H':=by
 refine ⟨r.len,r.nd,fun l c a e q=>?_⟩
 have hm:a∈m:=Fw q
 have:=r.cells l c a e q
 cases c with
 |lst ds=>
  obtain ⟨vs,e1,e2⟩:=this
  exact ⟨vs,by rw [s a hm];exact e1,e2.keep (AG _) k⟩
 |tab=>exact TabIs.keep this k (s a hm)
 |dic fz kvs=>
  obtain ⟨es,e1,e2⟩:=this
  exact ⟨es,e1.same (s a hm),e2.keep (AG _) k⟩
theorem HR.new {h:HD} {p:Addr} {o:HO} (r:HR K m h H) (hp:H p=none):HR K m h (An H p o):=
 r.same (.new hp) fun a ha=>Ao fun z=>r.mem ha (z ▸ hp)
theorem HR.newCell {h:HD} {p:Addr} {o:HO} {c:Cell} (r:HR K m h H) (hp:H p=none) (hc:JU K (m++[p]) (An H p o) c p):HR K (m++[p]) (h++[c]) (An H p o):=by
 have hpm:p∉m:=fun z=>r.mem z hp
 refine ⟨by simp [r.len],?_,fun l c' a e q=>?_⟩
 ·rw [List.nodup_append]
  refine ⟨r.nd,by simp,fun a ha b hb=>?_⟩
  rw [qaI] at hb
  subst hb
  intro z;subst z;exact hpm ha
 ·by_cases hl:l<m.length
  ·rw [E3 hl] at q
   rw [E3 (by rw [←r.len];exact hl)] at e
   have:=r.cells l c' a e q
   have hne:a≠p:=fun z=>hpm (z ▸ Fw q)
   cases c' with
   |lst ds=>
    obtain ⟨vs,e1,e2⟩:=this
    exact ⟨vs,by rw [Ao hne];exact e1,e2.keep (G6 _ _) (.new hp)⟩
   |tab=>exact TabIs.keep this (.new hp) (Ao hne)
   |dic fz kvs=>
    obtain ⟨es,e1,e2⟩:=this
    exact ⟨es,e1.same (Ao hne),e2.keep (G6 _ _) (.new hp)⟩
  ·have h1:m.length≤l:=G7 hl
   rw [HZ h1] at q
   rw [HZ (by rw [←r.len];exact h1)] at e
   have e0:l - m.length=0:=by
    cases hz:l - m.length with
    |zero=>rfl
    |succ n=>rw [hz] at q;simp at q
   rw [←r.len] at e
   rw [e0] at q e
   simp at q e
   subst q e
   exact hc
theorem HR.setCell {h:HD} {p:Addr} {l:Nat} {o u:HO} {c:Cell} (r:HR K m h H) (hl:m[l]?=some p) (ho:H p=some o) (i:LN o=false) (hc:JU K m (An H p u) c p):HR K m (h.set l c) (An H p u):=by
 refine ⟨by simp [r.len],r.nd,fun j c' a e q=>?_⟩
 by_cases hj:j=l
 ·subst hj
  rw [hl] at q;cases q
  have hlt:j<h.length:=by rw [←r.len];exact (qa4.mp hl).1
  rw [Cu hlt] at e
  cases e
  exact hc
 ·rw [BV (Ne.symm hj)] at e
  have:=r.cells j c' a e q
  have hne:a≠p:=by
   intro z
   subst z
   obtain ⟨h1,e1⟩:=qa4.mp q
   obtain ⟨h2,e2⟩:=qa4.mp hl
   exact hj ((List.getElem_inj r.nd).mp (e1.trans e2.symm))
  cases c' with
  |lst ds=>
   obtain ⟨vs,e1,e2⟩:=this
   exact ⟨vs,by rw [Ao hne];exact e1,e2.keep (AG _) (.set ho i)⟩
  |tab=>exact TabIs.keep this (.set ho i) (Ao hne)
  |dic fz kvs=>
   obtain ⟨es,e1,e2⟩:=this
   exact ⟨es,e1.same (Ao hne),e2.keep (AG _) (.set ho i)⟩
def ER (K:PySem.W.Frag) (m:List Addr) (H:Hp) (ρ:Ai) (σ:L2.St):Prop:=ρ.length=σ.length∧∀(i:Nat) (d:D),ρ[i]?=some (some d)→∃v,σ[i]?=some (some v)∧DV K m H d v
theorem ER.keep {ρ:Ai} {σ:L2.St} (p:m <+:m') (k:Kp H H') (e:ER K m H ρ σ):ER K m' H' ρ σ:=⟨e.1,fun i d h=>let ⟨v,a,b⟩:=e.2 i d h;⟨v,a,b.keep p k⟩⟩
theorem ER.set {ρ:Ai} {σ:L2.St} {i:Nat} {d:D} {v:V} (e:ER K m H ρ σ) (r:DV K m H d v):ER K m H (ρ.set i (some d)) (σ.set i (some v)):=by
 refine ⟨by simp [e.1],fun j d' h=>?_⟩
 by_cases hj:i=j
 ·subst hj
  by_cases hl:i < ρ.length
  ·rw [Cu hl] at h
   cases h
   exact ⟨v,by rw [Cu (by rw [←e.1];exact hl)],r⟩
  ·rw [List.getElem?_eq_none (by simp;omega)] at h;cases h
 ·rw [BV hj] at h
  obtain ⟨w,a,b⟩:=e.2 j d' h
  exact ⟨w,by rw [BV hj];exact a,b⟩
theorem ER.start {N:List Str} {ds:List D} {vs:List V} (h:DVs K m H ds vs):ER K m H (ds.map some++List.replicate (N.length - ds.length) none) (L2.start N vs):=by
 refine ⟨by simp [L2.start,h.len],fun i d e=>?_⟩
 by_cases hl:i<ds.length
 ·rw [E3 (by simpa using hl),Cb] at e
  obtain ⟨d',e1⟩:∃d',ds[i]?=some d':=⟨ds[i],A8 hl⟩
  rw [e1] at e
  simp at e
  subst e
  obtain ⟨v,q,r⟩:=h.get e1
  refine ⟨v,?_,r⟩
  unfold L2.start
  rw [E3 (by simpa [←h.len] using hl),Cb,q]
  rfl
 ·rw [HZ (by simpa using G7 hl)] at e
  rw [Li] at e
  split at e<;>cases e
def XD (K:PySem.W.Frag) (m:List Addr) (H:Hp) (fs:List (Str×D)) (da:Option Addr):Prop:=
 ∀f d,fs.lookup f=some d→∃a fv v,da=some a∧H a=some (.xd fv)∧fv.lookup f=some v∧DV K m H d v
def Post {α β:Type} (K:PySem.W.Frag) (R:List Addr→Hp→α→β→Prop) (m:List Addr) (H:Hp) (E:XK) (Q:β→Hp→Prop):Out α→Prop
 |.ok a h'=>∀v m' H',m <+:m'→Kp H H'→HR K m' h' H'→R m' H' a v→Q v H'
 |.err C fs h'=>∀da m' H',m <+:m'→Kp H H'→HR K m' h' H'→XD K m' H' fs da→E C da H'
 |.stuck=>False
theorem Post.ahead {α β:Type} {R:List Addr→Hp→α→β→Prop} {E:XK} {Q:β→Hp→Prop} {o:Out α} (p:m <+:m') (k:Kp H H') (h:Post K R m H E Q o):Post K R m' H' E Q o:=by
 cases o with
 |ok a h'=>exact fun v m2 H2 p2 k2=>h v m2 H2 (p.trans p2) (k.trans k2)
 |err C fs h'=>exact fun da m2 H2 p2 k2=>h da m2 H2 (p.trans p2) (k.trans k2)
 |stuck=>exact h
theorem Post.bind {α β γ δ:Type} {R:List Addr→Hp→α→β→Prop} {R':List Addr→Hp→γ→δ→Prop} {E:XK} {Q:δ→Hp→Prop} {Q':β→Hp→Prop} {o:Out α} {k:α→HD→Out γ}
 (h:Post K R' m H E Q (o.bind k)) (f:∀a h1 v m1 H1,o=.ok a h1→m <+:m1→Kp H H1→HR K m1 h1 H1→R m1 H1 a v→Post K R' m1 H1 E Q (k a h1)→Q' v H1):Post K R m H E Q' o:=by
 cases o with
 |ok a h1=>exact fun v m1 H1 p kk hr r=>f a h1 v m1 H1 rfl p kk hr r (h.ahead p kk)
 |err C fs h1=>exact h
 |stuck=>exact h
theorem Post.mono {α β:Type} {R:List Addr→Hp→α→β→Prop} {E:XK} {Q Q':β→Hp→Prop} {o:Out α} (h:Post K R m H E Q o) (f:∀v H',Q v H'→Q' v H'):Post K R m H E Q' o:=by
 cases o with
 |ok a h1=>exact fun v m1 H1 p k hr r=>f _ _ (h v m1 H1 p k hr r)
 |err C fs h1=>exact h
 |stuck=>exact h
end
abbrev ME:=Ai→HD→Out D
abbrev MT:=Ai→HD→Out Bool
abbrev MA:=Ai→HD→Out (List D)
inductive Fl where
 |nx |bk |ct |rt (d:D)
abbrev MS:=Ai→HD→Out (Fl×Ai)
def rD (K:PySem.W.Frag):List Addr→Hp→D→V→Prop:=fun m H d v=>DV K m H d v
def rB:List Addr→Hp→Bool→Bool→Prop:=fun _ _ a b=>a=b
def Ep (K:PySem.W.Frag):List Addr→Hp→List D→List V→Prop:=fun m H d v=>DVs K m H d v
inductive tM {α β:Type} (K:PySem.W.Frag) (R:List Addr→Hp→α→β→Prop) (E:XK) (f:Ai→HD→Out α) (σ:L2.St) (H:Hp) (Q:β→Hp→Prop):Prop where
 |mk (m:List Addr) (ρ:Ai) (h:HD) (hr:HR K m h H) (er:ER K m H ρ σ) (p:Post K R m H E Q (f ρ h)):tM K R E f σ H Q
abbrev tD (K:PySem.W.Frag) (E:XK) (f:ME):TE:=tM K (rD K) E f
abbrev Es (K:PySem.W.Frag) (E:XK) (f:MT):TT:=tM K rB E f
abbrev OG (K:PySem.W.Frag) (E:XK) (f:MA):TA:=tM K (Ep K) E f
def OH (K:PySem.W.Frag) (m:List Addr) (H:Hp) (D:Dw):Fl×Ai→Prop
 |(.nx,ρ)=>∀σ,ER K m H ρ σ→D.nx σ H
 |(.bk,ρ)=>∀σ,ER K m H ρ σ→D.bk σ H
 |(.ct,ρ)=>∀σ,ER K m H ρ σ→D.ct σ H
 |(.rt d,_)=>∀v,DV K m H d v→D.rt v H
def PostS (K:PySem.W.Frag) (m:List Addr) (H:Hp) (E:XK) (D:Dw):Out (Fl×Ai)→Prop
 |.ok a h'=>∀m' H',m <+:m'→Kp H H'→HR K m' h' H'→OH K m' H' D a
 |.err C fs h'=>∀da m' H',m <+:m'→Kp H H'→HR K m' h' H'→XD K m' H' fs da→E C da H'
 |.stuck=>False
inductive Hg (K:PySem.W.Frag) (E:XK) (g:MS) (D:Dw) (σ:L2.St) (H:Hp):Prop where
 |mk (m:List Addr) (ρ:Ai) (h:HD) (hr:HR K m h H) (er:ER K m H ρ σ) (p:PostS K m H E D (g ρ h)):Hg K E g D σ H
theorem PostS.ahead {K:PySem.W.Frag} {m m':List Addr} {H H':Hp} {E:XK} {D:Dw} {o:Out (Fl×Ai)} (p:m <+:m') (k:Kp H H') (h:PostS K m H E D o):PostS K m' H' E D o:=by
 cases o with
 |ok a h'=>exact fun m2 H2 p2 k2=>h m2 H2 (p.trans p2) (k.trans k2)
 |err C fs h'=>exact fun da m2 H2 p2 k2=>h da m2 H2 (p.trans p2) (k.trans k2)
 |stuck=>exact h
abbrev Ev (X:Cx) (E:XK) (e:Expr) (f:ME):Prop:=PE X e (tD X.K E f)
abbrev Eu (X:Cx) (E:XK) (e:Expr) (f:MT):Prop:=PT X e (Es X.K E f)
abbrev Cz (X:Cx) (E:XK) (es:List Expr) (f:MA):Prop:=PA X es (OG X.K E f)
abbrev Ex (X:Cx) (E:XK) (st:Stmt) (g:MS):Prop:=PS X st (Hg X.K E g)
abbrev A4 (X:Cx) (E:XK) (sts:List Stmt) (g:MS):Prop:=Dx X sts (Hg X.K E g)
section
variable {X:Cx}
theorem B4 {e:Expr} {t t':TE} (h:PE X e t) (i:∀σ H Q,t' σ H Q→t σ H Q):PE X e t':=fun pins s σ H Q I q=>h pins s σ H Q I (i σ H Q q)
theorem LR {e:Expr} {t t':TT} (h:PT X e t) (i:∀σ H Q,t' σ H Q→t σ H Q):PT X e t':=fun pins s σ H Q I q=>h pins s σ H Q I (i σ H Q q)
theorem OI {e:List Expr} {t t':TA} (h:PA X e t) (i:∀σ H Q,t' σ H Q→t σ H Q):PA X e t':=fun pos pins s σ H Q I q=>h pos pins s σ H Q I (i σ H Q q)
theorem FI {e:Stmt} {t t':TS} (h:PS X e t) (i:∀D σ H,t' D σ H→t D σ H):PS X e t':=fun pins s σ H D I q=>h pins s σ H D I (i D σ H q)
theorem LU {e:List Stmt} {t t':TS} (h:Dx X e t) (i:∀D σ H,t' D σ H→t D σ H):Dx X e t':=fun pins s σ H D I q=>h pins s σ H D I (i D σ H q)
end
end LS
namespace LS
open PySem PySem.Spec PyProof.Rows L2
section
variable {X:Cx} {E:XK} {a b c:Expr} {pos:Pos} {f g k:ME}
def Ab (i:Nat):ME:=fun ρ h=>match ρ[i]? with
 |some (some d)=>.ok d h
 |_=>.stuck
theorem Ad {i:Nat} (h:PE X a (Lp i)):Ev X E a (Ab i):=B4 h fun σ H Q z1_=>by
 obtain ⟨m,ρ,hd,hr,er,p⟩:=z1_
 unfold Ab at p
 split at p
 ·rename_i d e
  obtain ⟨v,e1,r⟩:=er.2 i d e
  exact ⟨v,e1,p v m H (AG _) (.refl _) hr r⟩
 ·exact p.elim
def mC (d:D):ME:=fun _ h=>.ok d h
theorem Hh {d:D} {v:V} (h:PE X a (tC v)) (r:∀m H,DV X.K m H d v):Ev X E a (mC d):=B4 h fun σ H Q z2_=>by obtain ⟨m,ρ,hd,hr,er,p⟩:=z2_;exact (p v m H (AG _) (.refl _) hr (r m H))
theorem Al {i:Int} {j:Nat}:Ev X E (.Constant (.int i) j pos) (mC (.int i)):=Hh Sy fun _ _=>by simp [DV]
theorem CV {i:Bool} {j:Nat}:Ev X E (.Constant (.bool i) j pos) (mC (.bl i)):=Hh Sz fun _ _=>by simp [DV]
theorem F8 {j:Nat}:Ev X E (.Constant .none j pos) (mC .non):=Hh SA fun _ _=>by simp [DV]
theorem B8 {x:Str} {j:Nat}:Ev X E (.Constant (.str x) j pos) (mC (.str x)):=Hh SB fun _ _=>by simp [DV]
theorem U5 {x:Str} {i:Int} {t:Tok} {pos:Pos} (hg:Gl X x) (hm:X.mg x=some (.int i t)) (hd:(x==("__debug__":Str))=false:=by decide):Ev X E (.Name x pos) (mC (.int i)):=
 Hh (SC (v:=.int i) hg hm ⟨t,rfl⟩ hd) fun _ _=>by simp [DV]
def Ah (op:D→D→HD→Out D) (f g:ME):ME:=fun ρ h=>(f ρ h).bind fun x h1=>(g ρ h1).bind fun y h2=>op x y h2
theorem JV {op:D→D→HD→Out D} {Q:VK} {R:V→V→Hp→Prop} {σ:L2.St} {H:Hp} (h:tD X.K E (Ah op f g) σ H Q)
 (i:∀m H2 h2 x y v u,HR X.K m h2 H2→DV X.K m H2 x v→DV X.K m H2 y u→Post X.K (rD X.K) m H2 E Q (op x y h2)→R v u H2):tD X.K E f σ H fun v H1=>tD X.K E g σ H1 fun u H2=>R v u H2:=by
 obtain ⟨m,ρ,hd,hr,er,p⟩:=h
 refine ⟨m,ρ,hd,hr,er,Post.bind p fun x h1 v m1 H1 _ p1 k1 hr1 r1 q1=>?_⟩
 refine ⟨m1,ρ,h1,hr1,er.keep p1 k1,Post.bind q1 fun y h2 u m2 H2 _ p2 k2 hr2 r2 q2=>?_⟩
 exact i m2 H2 h2 x y v u hr2 (DV.keep p2 k2 r1) r2 q2
def BB (X:Cx) (f:Value→Value→Sem Value) (op:D→D→HD→Out D):Prop:=
 ∃r:R2,OpR X f r∧∀m H h E x y v u Q,HR X.K m h H→DV X.K m H x v→DV X.K m H y u→Post X.K (rD X.K) m H E Q (op x y h)→r v u H Q
theorem Aw {o:Operator} {op:D→D→HD→Out D} (ho:BB X (binaryOp o) op) (ha:Ev X E a f) (hb:Ev X E b g):Ev X E (.BinOp a o b pos) (Ah op f g):=by
 obtain ⟨r,ho,i⟩:=ho
 exact B4 (Tw ho ha hb) fun σ H Q h=>JV h fun m H2 h2 x y v u hr rx ry q=>i m H2 h2 E x y v u Q hr rx ry q
theorem E8 {o:CmpOp} {op:D→D→HD→Out D} (ho:BB X (compareOp o) op) (ha:Ev X E a f) (hb:Ev X E b g) (hm:behindInMarks o b=false):Ev X E (.Compare a [o] [b] pos) (Ah op f g):=by
 obtain ⟨r,ho,i⟩:=ho
 exact B4 (TU ho ha hb hm) fun σ H Q h=>JV h fun m H2 h2 x y v u hr rx ry q=>i m H2 h2 E x y v u Q hr rx ry q
def IB:D→HD→Out Bool
 |.bl b,h=>.ok b h
 |_,_=>.stuck
def Bk (f:ME):MT:=fun ρ h=>(f ρ h).bind IB
theorem U6 {m:List Addr} {H:Hp} {x:D} {v:V} {h:HD} {Q:Bool→Hp→Prop} (hr:HR X.K m h H) (r:DV X.K m H x v) (q:Post X.K rB m H E Q (IB x h)):∃k,v=.bl k∧Q k H:=by
 cases x with
 |bl b=>
  simp only [DV] at r
  exact ⟨b,r,q b m H (AG _) (.refl _) hr rfl⟩
 |_=>exact q.elim
theorem B9 {o:CmpOp} {op:D→D→HD→Out D} (ho:BB X (compareOp o) op) (ha:Ev X E a f) (hb:Ev X E b g) (hm:behindInMarks o b=false):Eu X E (.Compare a [o] [b] pos) (Bk (Ah op f g)):=by
 obtain ⟨r,ho,i⟩:=ho
 refine LR (TX ho ha hb hm) fun σ H Q h=>?_
 obtain ⟨m,ρ,hd,hr,er,p⟩:=h
 have h':tD X.K E (Ah op f g) σ H fun x H'=>∃k,x=.bl k∧Q k H':=
  ⟨m,ρ,hd,hr,er,Post.bind p fun x h1 v m1 H1 _ p1 k1 hr1 r1 q1=>U6 hr1 r1 q1⟩
 exact JV h' fun m H2 h2 x y v u hr rx ry q=>i m H2 h2 E x y v u _ hr rx ry q
def Ew:D→HD→Out Bool
 |.non,h=>.ok false h
 |.bl b,h=>.ok b h
 |.int i,h=>.ok (i != 0) h
 |.tup ds,h=>.ok (!ds.isEmpty) h
 |.loc l,h=>match h[l]? with
  |some (.lst ds)=>.ok (!ds.isEmpty) h
  |_=>.stuck
 |_,_=>.stuck
def CA (f:ME):MT:=fun ρ h=>(f ρ h).bind Ew
theorem OJ {α β:Type} {xs:List α} {ys:List β} (h:xs.length=ys.length):xs.isEmpty=ys.isEmpty:=by
 cases xs<;>cases ys<;>simp_all
theorem U7 {m:List Addr} {H:Hp} {x:D} {v:V} {h:HD} {Q:Bool→Hp→Prop} (hr:HR X.K m h H) (r:DV X.K m H x v) (q:Post X.K rB m H E Q (Ew x h)):∃k,LG X.K v H k∧Q k H:=by
 have go:∀k,Ew x h=.ok k h→Q k H:=fun k e=>by rw [e] at q;exact q k m H (AG _) (.refl _) hr rfl
 cases x with
 |non=>simp only [DV] at r;subst r;exact ⟨false,rfl,go _ rfl⟩
 |bl b=>simp only [DV] at r;subst r;exact ⟨b,rfl,go _ rfl⟩
 |int i=>simp only [DV] at r;subst r;exact ⟨_,rfl,go _ rfl⟩
 |str x=>exact q.elim
 |tup ds=>
  simp only [DV] at r
  obtain ⟨p,vs,rfl,hp,dv⟩:=r
  exact ⟨_,.inr ⟨vs,SqT.of hp,rfl⟩,by rw [←OJ dv.len];exact go _ rfl⟩
 |loc l=>
  simp only [DV] at r
  obtain ⟨p,rfl,hp⟩:=r
  simp only [Ew] at q
  split at q
  ·rename_i ds e
   obtain ⟨vs,e1,dv⟩:=hr.cells l _ p e hp
   exact ⟨_,.inl ⟨vs,SqL.of e1,rfl⟩,by rw [←OJ dv.len];exact q _ m H (AG _) (.refl _) hr rfl⟩
  ·exact q.elim
 |scr ns=>exact q.elim
 |adr a=>exact q.elim
 |ty a=>exact q.elim
 |exc n fs=>exact q.elim
 |edic=>exact q.elim
 |glo n=>exact q.elim
 |clo a vs ds=>exact q.elim
theorem E9 (ha:Ev X E a f) (he:∀EO,isTrue a X.env EO=(do let v ←EO;standAt a.pos;holding [v] (truthy v)):=by intro _;rfl):Eu X E a (CA f):=
 LR (T1 ha he) fun σ H Q z3_=>by obtain ⟨m,ρ,hd,hr,er,p⟩:=z3_;exact (⟨m,ρ,hd,hr,er,Post.bind p fun x h1 v m1 H1 _ p1 k1 hr1 r1 q1=>U7 hr1 r1 q1⟩)
variable {tf tg:MT} {rest:List Expr}
def JW (f g:MT):MT:=fun ρ h=>(f ρ h).bind fun b h1=>if b=true then g ρ h1 else .ok false h1
def DU (f g:MT):MT:=fun ρ h=>(f ρ h).bind fun b h1=>if b=true then .ok true h1 else g ρ h1
def CW (f:MT):MT:=fun ρ h=>(f ρ h).bind fun b h1=>.ok (!b) h1
abbrev JX (X:Cx) (E:XK) (e:Expr) (f:MT):Prop:=PW X e (Es X.K E f)
theorem U8 {e:Expr} {t t':TT} (h:PW X e t) (i:∀σ H Q,t' σ H Q→t σ H Q):PW X e t':=fun wh pins s σ H Q I q=>h wh pins s σ H Q I (i σ H Q q)
theorem JY (ha:Eu X E a tf):JX X E (.BoolOp .Or [a] pos) tf:=SG ha
theorem JZ (ha:Eu X E a tf) (hb:JX X E (.BoolOp .Or (b::rest) pos) tg):JX X E (.BoolOp .Or (a::b::rest) pos) (DU tf tg):=
 U8 (SH ha hb) fun σ H Q z5_=>by obtain ⟨m,ρ,hd,hr,er,p⟩:=z5_;exact (⟨m,ρ,hd,hr,er,Post.bind p fun x h1 v m1 H1 _ p1 k1 hr1 r1 q1=>by
  cases r1
  cases x with
  |false=>exact ⟨m1,ρ,h1,hr1,er.keep p1 k1,q1⟩
  |true=>exact q1 true m1 H1 (AG _) (.refl _) hr1 rfl⟩)
theorem J0 (h:JX X E a tf):Eu X E a tf:=PW.pt h
theorem F9 (ha:Eu X E a tf):Eu X E (.UnaryOp .Not a pos) (CW tf):=
 LR (SI ha) fun σ H Q z6_=>by obtain ⟨m,ρ,hd,hr,er,p⟩:=z6_;exact (⟨m,ρ,hd,hr,er,Post.bind p fun x h1 v m1 H1 _ p1 k1 hr1 r1 q1=>by
  cases r1
  exact q1 _ m1 H1 (AG _) (.refl _) hr1 rfl⟩)
def Ey (f g:ME):ME:=fun ρ h=>(f ρ h).bind fun x h1=>match x with
 |.bl true=>g ρ h1
 |.bl false=>.ok (.bl false) h1
 |_=>.stuck
def OK (f g:ME):ME:=fun ρ h=>(f ρ h).bind fun x h1=>match x with
 |.bl true=>.ok (.bl true) h1
 |.bl false=>g ρ h1
 |_=>.stuck
def J1 (f:ME):ME:=fun ρ h=>(f ρ h).bind fun x h1=>match x with
 |.bl b=>.ok (.bl (!b)) h1
 |_=>.stuck
theorem Hi {o:BoolOp} (h:Ev X E a f):Ev X E (.BoolOp o [a] pos) f:=SL h
theorem Hj (ha:Ev X E a f) (hb:Ev X E (.BoolOp .And (b::rest) pos) g):Ev X E (.BoolOp .And (a::b::rest) pos) (Ey f g):=
 B4 (SM ha hb) fun σ H Q ⟨m,ρ,hd,hr,er,p⟩=>⟨m,ρ,hd,hr,er,Post.bind p fun x h1 v m1 H1 _ p1 k1 hr1 r1 q1=>by
  cases x with
  |bl b=>
   refine ⟨b,by simpa [rD,DV] using r1,?_⟩
   cases b with
   |true=>exact ⟨m1,ρ,h1,hr1,er.keep p1 k1,q1⟩
   |false=>exact q1 _ m1 H1 (AG _) (.refl _) hr1 (by simp [rD,DV])
  |_=>exact q1.elim⟩
theorem U9 (ha:Ev X E a f):Ev X E (.UnaryOp .Not a pos) (J1 f):=
 B4 (SO ha) fun σ H Q z9_=>by obtain ⟨m,ρ,hd,hr,er,p⟩:=z9_;exact (⟨m,ρ,hd,hr,er,Post.bind p fun x h1 v m1 H1 _ p1 k1 hr1 r1 q1=>by
  cases x with
  |bl b=>exact ⟨b,by simpa [rD,DV] using r1,q1 _ m1 H1 (AG _) (.refl _) hr1 (by simp [rD,DV])⟩
  |_=>exact q1.elim⟩)
def J2 (t:MT) (f g:ME):ME:=fun ρ h=>(t ρ h).bind fun b h1=>if b=true then f ρ h1 else g ρ h1
theorem Va (hc:Eu X E c tf) (ha:Ev X E a f) (hb:Ev X E b g):Ev X E (.IfExp c a b pos) (J2 tf f g):=
 B4 (SS hc ha hb) fun σ H Q z10_=>by obtain ⟨m,ρ,hd,hr,er,p⟩:=z10_;exact (⟨m,ρ,hd,hr,er,Post.bind p fun x h1 v m1 H1 _ p1 k1 hr1 r1 q1=>by
  cases r1
  cases x with
  |true=>exact ⟨m1,ρ,h1,hr1,er.keep p1 k1,q1⟩
  |false=>exact ⟨m1,ρ,h1,hr1,er.keep p1 k1,q1⟩⟩)
def Hk (op op':D→D→HD→Out D) (f g k:ME):ME:=fun ρ h=>(f ρ h).bind fun x h1=>(g ρ h1).bind fun y h2=>(op x y h2).bind fun z h3=>match z with
 |.bl true=>(k ρ h3).bind fun w h4=>op' y w h4
 |.bl false=>.ok (.bl false) h3
 |_=>.stuck
theorem Vb {r r':R2} {op op':D→D→HD→Out D} {o o':Value→Value→Sem Value} (i:∀m H h E x y v u Q,HR X.K m h H→DV X.K m H x v→DV X.K m H y u→Post X.K (rD X.K) m H E Q (op x y h)→r v u H Q)
 (i':∀m H h E x y v u Q,HR X.K m h H→DV X.K m H x v→DV X.K m H y u→Post X.K (rD X.K) m H E Q (op' x y h)→r' v u H Q) {σ:L2.St} {H:Hp} {Q:VK} (h:tD X.K E (Hk op op' f g k) σ H Q):
 Om r r' (tD X.K E f) (tD X.K E g) (tD X.K E k) σ H Q:=by
 obtain ⟨m,ρ,hd,hr,er,p⟩:=h
 refine ⟨m,ρ,hd,hr,er,Post.bind p fun x h1 v m1 H1 _ p1 k1 hr1 r1 q1=>?_⟩
 refine ⟨m1,ρ,h1,hr1,er.keep p1 k1,Post.bind q1 fun y h2 u m2 H2 _ p2 k2 hr2 r2 q2=>?_⟩
 refine i m2 H2 h2 E x y v u _ hr2 (DV.keep p2 k2 r1) r2 (Post.bind q2 fun z h3 w m3 H3 _ p3 k3 hr3 r3 q3=>?_)
 cases z with
 |bl b=>
  refine ⟨b,by simpa [rD,DV] using r3,?_⟩
  cases b with
  |false=>exact q3 _ m3 H3 (AG _) (.refl _) hr3 (by simp [rD,DV])
  |true=>
   refine ⟨m3,ρ,h3,hr3,((er.keep p1 k1).keep p2 k2).keep p3 k3,Post.bind q3 fun z h4 w' m4 H4 _ p4 k4 hr4 r4 q4=>?_⟩
   exact i' m4 H4 h4 E y z u w' Q hr4 (DV.keep p4 k4 (DV.keep p3 k3 r2)) r4 q4
 |_=>exact q3.elim
theorem OL {o o':CmpOp} {op op':D→D→HD→Out D} (ho:BB X (compareOp o) op) (ho':BB X (compareOp o') op') (ha:Ev X E a f) (hb:Ev X E b g) (hc:Ev X E c k)
 (hm:lastMarks [o,o'] [b,c]=false:=by with_unfolding_all rfl):Ev X E (.Compare a [o,o'] [b,c] pos) (Hk op op' f g k):=by
 obtain ⟨r,ho,i⟩:=ho
 obtain ⟨r',ho',i'⟩:=ho'
 exact B4 (TY ho ho' ha hb hc hm) fun σ H Q h=>Vb (o:=compareOp o) (o':=compareOp o') i i' h
variable {es:List Expr} {fa:MA}
def Ae:MA:=fun _ h=>.ok [] h
def Aa (f:ME) (r:MA):MA:=fun ρ h=>(f ρ h).bind fun x h1=>(r ρ h1).bind fun xs h2=>.ok (x::xs) h2
theorem Af:Cz X E [] Ae:=OI Uc fun σ H Q z11_=>by obtain ⟨m,ρ,hd,hr,er,p⟩:=z11_;exact (p [] m H (AG _) (.refl _) hr .nil)
theorem Ac (ha:Ev X E a f) (hr:Cz X E es fa) (hs:starEach (a::es) X.env=(false,eval a X.env)::starEach es X.env:=by rfl):Cz X E (a::es) (Aa f fa):=
 OI (Ud ha hr hs) fun σ H Q z12_=>by obtain ⟨m,ρ,hd,hr,er,p⟩:=z12_;exact (⟨m,ρ,hd,hr,er,Post.bind p fun x h1 v m1 H1 _ p1 k1 hr1 r1 q1=>
  ⟨m1,ρ,h1,hr1,er.keep p1 k1,Post.bind q1 fun xs h2 vs m2 H2 _ p2 k2 hr2 r2 q2=>q2 _ m2 H2 (AG _) (.refl _) hr2 (DVs.cons (DV.keep p2 k2 r1) r2)⟩⟩)
def A2 (fa:MA):ME:=fun ρ h=>(fa ρ h).bind fun xs h1=>if xs.length≤sizeLine then .ok (.tup xs) h1 else .stuck
def Cp (xs:List D) (h:HD):Out D:=if xs.length≤sizeLine then .ok (.loc h.length) (h++[.lst xs]) else .stuck
def BC (fa:MA):ME:=fun ρ h=>(fa ρ h).bind Cp
theorem Hl {m:List Addr} {H:Hp} {h:HD} {xs:List D} {vs:List V} {Q:VK} (hr:HR X.K m h H) (r:DVs X.K m H xs vs) (q:Post X.K (rD X.K) m H E Q (.ok (.tup xs) h)):∀p,H p=none→Q (.ref p) (An H p (.tup vs)):=fun p hp=>
 q (.ref p) m _ (AG _) (.new hp) (hr.new hp) (by simp only [rD,DV];exact ⟨p,vs,rfl,B3,r.keep (AG _) (.new hp)⟩)
theorem Hm {m:List Addr} {H:Hp} {h:HD} {xs:List D} {vs:List V} {Q:VK} (hr:HR X.K m h H) (r:DVs X.K m H xs vs) (q:Post X.K (rD X.K) m H E Q (Cp xs h)):vs.length≤sizeLine∧∀p,H p=none→Q (.ref p) (An H p (.lst vs)):=by
 unfold Cp at q
 by_cases hz:xs.length≤sizeLine
 ·rw [if_pos hz] at q
  refine ⟨by rw [←r.len];exact hz,fun p hp=>?_⟩
  refine q (.ref p) (m++[p]) _ (G6 _ _) (.new hp) (hr.newCell hp ⟨vs,B3,r.keep (G6 _ _) (.new hp)⟩) ?_
  simp only [rD,DV]
  exact ⟨p,rfl,by rw [←hr.len];simp⟩
 ·rw [if_neg hz] at q;exact q.elim
theorem BQ {x1:Nat} (h:Cz X E es fa):Ev X E (.Tuple es x1 pos) (A2 fa):=
 B4 (Uh h) fun σ H Q z13_=>by obtain ⟨m,ρ,hd,hr,er,p⟩:=z13_;exact (⟨m,ρ,hd,hr,er,Post.bind p fun xs h1 vs m1 H1 _ p1 k1 hr1 r1 q1=>by
  by_cases hz:xs.length≤sizeLine
  ·rw [if_pos hz] at q1
   exact ⟨by rw [←DVs.len r1];exact hz,Hl hr1 r1 q1⟩
  ·rw [if_neg hz] at q1;exact q1.elim⟩)
theorem B5 (h:Cz X E es fa):Ev X E (.List es pos) (BC fa):=
 B4 (Ui h) fun σ H Q z14_=>by obtain ⟨m,ρ,hd,hr,er,p⟩:=z14_;exact (⟨m,ρ,hd,hr,er,Post.bind p fun xs h1 vs m1 H1 _ p1 k1 hr1 r1 q1=>Hm hr1 r1 q1⟩)
inductive J3 (K:PySem.W.Frag) (F:List D→HD→Out D) (vs:List V) (H:Hp) (Q:VK) (E:XK):Prop where
 |mk (m:List Addr) (ds:List D) (h:HD) (hr:HR K m h H) (r:DVs K m H ds vs) (p:Post K (rD K) m H E0 Q (F ds h)):J3 K F vs H Q E
def Ar (n:Nat) (F:List D→HD→Out D):Prop:=∀ds h,ds.length≠n→F ds h=.stuck
theorem Ar.len {K:PySem.W.Frag} {n:Nat} {F:List D→HD→Out D} (ar:Ar n F) {vs:List V} {H:Hp} {Q:VK} {E':XK} (h:J3 K F vs H Q E'):vs.length=n:=by
 obtain ⟨m,ds,hd,hr,r,p⟩:=h
 rw [←r.len]
 by_cases e:ds.length=n
 ·exact e
 ·rw [ar ds hd e] at p;exact p.elim
def ar0 (F:HD→Out D):List D→HD→Out D:=fun ds h=>match ds with
 |[]=>F h
 |_=>.stuck
def Am (F:D→HD→Out D):List D→HD→Out D:=fun ds h=>match ds with
 |[a]=>F a h
 |_=>.stuck
def Bx (F:D→D→HD→Out D):List D→HD→Out D:=fun ds h=>match ds with
 |[a,b]=>F a b h
 |_=>.stuck
def Vc (F:D→D→D→HD→Out D):List D→HD→Out D:=fun ds h=>match ds with
 |[a,b,c]=>F a b c h
 |_=>.stuck
def Ag (F:List D→HD→Out D) (fa:MA):ME:=fun ρ h=>(fa ρ h).bind F
def CI (X:Cx) (f:Value) (F:List D→HD→Out D):Prop:=
 ∃r:List V→Hp→VK→Prop,DR X f r∧∀m H h E ds vs Q,HR X.K m h H→DVs X.K m H ds vs→Post X.K (rD X.K) m H E Q (F ds h)→r vs H Q
theorem AQ {id:String} {F:List D→HD→Out D} {x:Str} {p pos:Pos} {e:Expr} (hc:CI X (.builtin id) F) (hg:Gl X x) (hm:X.mg x=none) (hv:bootBuiltins x=some (.builtin id)) (ha:Cz X E (e::es) fa) (hn:x≠"__name__":=by decide) (hdb:(x==("__debug__":Str))=false:=by decide)
 (hs:starEach (e::es) X.env=(false,eval e X.env)::starEach es X.env:=by rfl) (hpl:(backTo pos (starEach es X.env)).any (·.1)=false:=by rfl):Ev X E (.Call (.Name x p) (e::es) [] pos) (Ag F fa):=by
 obtain ⟨r,hc,i⟩:=hc
 exact B4 (Um hc hg hm hv ha hn hdb hs hpl) fun σ H Q z17_=>by obtain ⟨m,ρ,hd,hr,er,p⟩:=z17_;exact (⟨m,ρ,hd,hr,er,Post.bind p fun xs h1 vs m1 H1 e1 p1 k1 hr1 r1 q1=>i m1 H1 h1 E xs vs Q hr1 r1 q1⟩)
theorem DB {id:String} {F:List D→HD→Out D} {x:Str} {p pos:Pos} {e:Expr} (hc:CI X (.type id) F) (hg:Gl X x) (hm:X.mg x=none) (hv:bootBuiltins x=some (.type id)) (ha:Cz X E (e::es) fa) (hn:x≠"__name__":=by decide) (hdb:(x==("__debug__":Str))=false:=by decide)
 (hs:starEach (e::es) X.env=(false,eval e X.env)::starEach es X.env:=by rfl) (hpl:(backTo pos (starEach es X.env)).any (·.1)=false:=by rfl):Ev X E (.Call (.Name x p) (e::es) [] pos) (Ag F fa):=by
 obtain ⟨r,hc,i⟩:=hc
 exact B4 (Uo hc hg hm hv ha hn hdb hs hpl) fun σ H Q z18_=>by obtain ⟨m,ρ,hd,hr,er,p⟩:=z18_;exact (⟨m,ρ,hd,hr,er,Post.bind p fun xs h1 vs m1 H1 e1 p1 k1 hr1 r1 q1=>i m1 H1 h1 E xs vs Q hr1 r1 q1⟩)
end
section
variable {X:Cx} {E:XK}
theorem Bf {K:PySem.W.Frag} {m:List Addr} {H:Hp} {h:HD} {d:D} {v:V} {Q:VK} (hr:HR K m h H) (q:Post K (rD K) m H E Q (.ok d h)) (r:DV K m H d v):Q v H:=q v m H (AG _) (.refl _) hr r
theorem op_catT0:OpR X (binaryOp .Add) (fun x y H Q=>∃a b ys,x=.ref a∧y=.ref b∧SqT X.K H a []∧SqT X.K H b ys∧Q (.ref b) H):=by
 intro pins s σ H x y v u Q I rx ry h
 obtain ⟨a,b,ys,rfl,rfl,ha,hb,q⟩:=h
 cases rx
 cases ry
 obtain ⟨its,r1,p1,_⟩:=I.tuple ha
 obtain ⟨its2,r2,p2,_⟩:=I.tuple hb
 cases r1
 obtain ⟨⟨cls,dd,data,sl⟩,ho,hc,n,hd⟩:=id p1
 obtain ⟨⟨cls2,dd2,data2,sl2⟩,ho2,hc2,n2,hd2⟩:=id p2
 simp only at hc hd hc2 hd2
 subst hc hd hc2 hd2
 exact concat_meets ⟨_,ho,rfl⟩ ⟨_,ho2,rfl⟩ noFill_tuple_add seq_tuple_add PySem.F.slot_tuple_add PySem.F.entry_tuple_add (PySem.F.args_tuple_add_2 _ _)
  (tuple_addW0 a b _ its2.toArray n n2 dd dd2 sl sl2 (by simp)) ⟨ho,ho2,⟨.ref b,H,I,rfl,q⟩⟩
def Aq:D→D→HD→Out D
 |.int i,.int j,h=>.ok (.int (i+j)) h
 |.str x,.str y,h=>if x.length+y.length≤sizeLine then .ok (.str (x++y)) h else .stuck
 |.tup xs,.tup ys,h=>if xs.length+ys.length≤sizeLine then .ok (.tup (xs++ys)) h else .stuck
 |.loc l,.loc k,h=>match h[l]?,h[k]? with
  |some (.lst xs),some (.lst ys)=>Cp (xs++ys) h
  |_,_=>.stuck
 |_,_,_=>.stuck
theorem AW:BB X (binaryOp .Add) Aq:=by
 refine ⟨_,op_add.or (op_catT0.or (op_catT.or (op_cat.or T3))),fun m H h E x y v u Q hr rx ry q=>?_⟩
 unfold Aq at q
 split at q
 ·simp only [DV] at rx ry
  subst rx ry
  exact .inl ⟨_,_,rfl,rfl,Bf hr q (by simp [DV])⟩
 ·simp only [DV] at rx ry
  subst rx ry
  split at q
  ·rename_i hz
   exact .inr (.inr (.inr (.inr ⟨_,_,rfl,rfl,hz,Bf hr q (by simp [DV])⟩)))
  ·exact q.elim
 ·rename_i xs ys
  simp only [DV] at rx ry
  obtain ⟨a,vs,rfl,ha,dx⟩:=rx
  obtain ⟨b,ws,rfl,hb,dy⟩:=ry
  split at q
  ·rename_i hz
   cases xs with
   |nil=>
    simp only [DVs] at dx
    subst dx
    exact .inr (.inl ⟨a,b,ws,rfl,rfl,SqT.of ha,SqT.of hb,Bf hr q (by simp only [DV];exact ⟨b,ws,rfl,hb,dy⟩)⟩)
   |cons x xs=>
    refine .inr (.inr (.inl ⟨a,b,vs,ws,rfl,rfl,SqT.of ha,SqT.of hb,?_,by rw [←dx.len,←dy.len];exact hz,fun e=>?_,fun e=>?_⟩))
    ·intro e;have:=dx.len;rw [e] at this;simp at this
    ·subst e
     have:ys=[]:=by have:=dy.len;simpa using this
     subst this
     exact Bf hr q (by simp only [DV];exact ⟨a,vs,rfl,ha,by simpa using dx⟩)
    ·exact Hl hr (dx.app dy) q
  ·exact q.elim
 ·simp only [DV] at rx ry
  obtain ⟨a,rfl,ha⟩:=rx
  obtain ⟨b,rfl,hb⟩:=ry
  split at q
  ·rename_i xs ys e1 e2
   obtain ⟨vs,h1,d1⟩:=hr.cells _ _ a e1 ha
   obtain ⟨ws,h2,d2⟩:=hr.cells _ _ b e2 hb
   obtain ⟨z,q'⟩:=Hm hr (d1.app d2) q
   exact .inr (.inr (.inr (.inl ⟨a,b,vs,ws,rfl,rfl,h1,h2,by simpa using z,q'⟩)))
  ·exact q.elim
 ·exact q.elim
def intD (f:Int→Int→D) (c:Int→Int→Prop) [∀i j,Decidable (c i j)]:D→D→HD→Out D
 |.int i,.int j,h=>if c i j then .ok (f i j) h else .stuck
 |_,_,_=>.stuck
theorem LV {o:Value→Value→Sem Value} {f:Int→Int→V} {g:Int→Int→D} {c c':Int→Int→Prop} [∀i j,Decidable (c' i j)] (h:OpR X o (rI c f)) (hc:∀i j,c' i j→c i j) (hg:∀m H i j,DV X.K m H (g i j) (f i j)):BB X o (intD g c'):=by
 refine ⟨_,h,fun m H h E x y v u Q hr rx ry q=>?_⟩
 unfold intD at q
 split at q
 ·simp only [DV] at rx ry
  subst rx ry
  split at q
  ·rename_i hc'
   exact ⟨_,_,rfl,rfl,hc _ _ hc',Bf hr q (hg _ _ _ _)⟩
  ·exact q.elim
 ·exact q.elim
def FJ (f:Int→Int→D):D→D→HD→Out D
 |.int i,.int j,h=>.ok (f i j) h
 |_,_,_=>.stuck
theorem J4 {o:Value→Value→Sem Value} {f:Int→Int→V} {g:Int→Int→D} (h:OpR X o (FE f)) (hg:∀m H i j,DV X.K m H (g i j) (f i j)):BB X o (FJ g):=by
 refine ⟨_,h,fun m H h E x y v u Q hr rx ry q=>?_⟩
 unfold FJ at q
 split at q
 ·simp only [DV] at rx ry
  subst rx ry
  exact ⟨_,_,rfl,rfl,Bf hr q (hg _ _ _ _)⟩
 ·exact q.elim
abbrev LW:=FJ fun i j=>.int (i - j)
theorem Vd:BB X (binaryOp .Sub) LW:=J4 Tz fun _ _ _ _=>by simp [DV]
abbrev LY:=FJ fun i j=>.bl (decide (i<j))
abbrev IC:=FJ fun i j=>.bl (decide (i≤j))
abbrev OM:=FJ fun i j=>.bl (decide (j<i))
theorem ON:BB X (compareOp .Lt) LY:=J4 TL fun _ _ _ _=>by simp [DV]
theorem J5:BB X (compareOp .LtE) IC:=J4 TM fun _ _ _ _=>by simp [DV]
theorem Ve:BB X (compareOp .Gt) OM:=J4 TN fun _ _ _ _=>by simp [DV]
instance (i j:Int):Decidable (CMul i j):=by unfold CMul;infer_instance
instance (i j:Int):Decidable (Og i j):=by unfold Og;infer_instance
instance (i j:Int):Decidable (JO i j):=by unfold JO;infer_instance
abbrev DD:=intD (fun i j=>.int (i % j)) fun _ j=>0<j
theorem Ga:BB X (binaryOp .Mod) DD:=LV TB (fun _ _ h=>h) fun _ _ _ _=>by simp [DV]
abbrev J6:=intD (fun i j=>.int (i^j.toNat)) JO
theorem Vf:BB X (binaryOp .Pow) J6:=LV TC (fun _ _ h=>h) fun _ _ _ _=>by simp [DV]
def Zbf:D→D→HD→Out D
 |.int i,.int j,h=>if CMul i j then .ok (.int (i*j)) h else .stuck
 |.loc l,.int k,h=>match h[l]? with
  |some (.lst xs)=>if -(2^63)≤k∧k<2^63 then Cp (List.replicate k.toNat xs).flatten h else .stuck
  |_=>.stuck
 |_,_,_=>.stuck
theorem op_isnotB:OpR X (compareOp .IsNot) (fun x y H Q=>∃b c,x=.bl b∧y=.bl c∧Q (.bl (!(b==c))) H):=by
 intro pins s σ H x y v u Q I rx ry h
 obtain ⟨b,c,rfl,rfl,q⟩:=h
 cases rx
 cases ry
 exact wpAny_isNot_plain rfl ⟨.bl _,H,I,by cases b<;>cases c<;>rfl,q⟩
def LZ:D→Bool
 |.non=>true
 |_=>false
def Vg:D→D→HD→Out D
 |.bl b,.bl c,h=>.ok (.bl (b==c)) h
 |x,.non,h=>.ok (.bl (LZ x)) h
 |_,_,_=>.stuck
def ID:D→D→HD→Out D
 |.bl b,.bl c,h=>.ok (.bl (!(b==c))) h
 |x,.non,h=>.ok (.bl (!LZ x)) h
 |_,_,_=>.stuck
theorem Vh {m:List Addr} {H:Hp} {x:D} {v:V} (r:DV X.K m H x v):decide (v=.non)=LZ x:=by
 cases x<;>simp only [DV] at r<;>first |(subst r;rfl) |(obtain ⟨_,rfl,_⟩:=r;rfl) |(obtain ⟨_,_,rfl,_⟩:=r;rfl) |(obtain ⟨_,_,_,rfl,_⟩:=r;rfl) |(obtain ⟨rfl,_⟩:=r;rfl)
theorem Vi:BB X (compareOp .IsNot) ID:=by
 refine ⟨_,op_isnotB.or TQ,fun m H h E x y v u Q hr rx ry q=>?_⟩
 unfold ID at q
 split at q
 ·simp only [DV] at rx ry
  subst rx ry
  exact .inl ⟨_,_,rfl,rfl,Bf hr q (by simp [DV])⟩
 ·simp only [DV] at ry
  subst ry
  exact .inr ⟨rfl,Bf hr q (by simp [DV,Vh rx])⟩
 ·exact q.elim
end
def Ax {α:Type}:List (Option α)→Option (List α)
 |[]=>some []
 |none::_=>none
 |some a::r=>(Ax r).map (a::·)
def AL (h:HD):Nat→D→Option PyData
 |_,.non=>some .none
 |_,.bl b=>some (.bool b)
 |_,.int i=>some (.int i)
 |_,.str x=>some (.str x)
 |n+1,.tup ds=>(Ax (ds.map (AL h n))).map .tuple
 |n+1,.loc l=>match h[l]? with
  |some (.lst ds)=>(Ax (ds.map (AL h n))).map .list
  |_=>none
 |_,_=>none
section
variable {X:Cx} {E:XK} {pins:List (Addr×Obj)} {σ:L2.St} {H:Hp} {s:Shared} {m:List Addr} {h:HD}
theorem L4 {n:Nat} (ih:∀(d:D) (v:V) (u:Value) (p:PyData),DV X.K m H d v→RelV v u→AL h n d=some p→∃as,Reads s.heap u p as):
 ∀(ds:List D) (vs:List V) (us:List Value) (ps:List PyData),DVs X.K m H ds vs→Vals vs us→Ax (ds.map (AL h n))=some ps→∃as,ReadsAll s.heap us ps as
 |[],vs,us,ps,r,q,e=>by
  simp only [DVs] at r
  subst r
  cases q
  simp [Ax] at e
  subst e
  exact ⟨[],.nil⟩
 |d::ds,vs,us,ps,r,q,e=>by
  simp only [DVs] at r
  obtain ⟨v,w,rfl,rv,rw'⟩:=r
  cases q with
  |cons q1 q2=>
   rw [Bn] at e
   cases ed:AL h n d with
   |none=>rw [ed] at e;simp [Ax] at e
   |some p=>
    rw [ed] at e
    simp only [Ax,qaU] at e
    obtain ⟨ps',e1,rfl⟩:=e
    obtain ⟨as,h1⟩:=ih d v _ p rv q1 ed
    obtain ⟨bs,h2⟩:=L4 ih ds w _ ps' rw' q2 e1
    exact ⟨as++bs,.cons h1 h2⟩
theorem L5 (hok:HOk X.prog X.w H s.heap) (hr:HR X.K m h H):∀(n:Nat) (d:D) (v:V) (u:Value) (p:PyData),DV X.K m H d v→RelV v u→AL h n d=some p→∃as,Reads s.heap u p as:=by
 intro n
 induction n with
 |zero=>
  intro d v u p r q e
  cases d<;>simp only [AL,DV,Option.some.injEq] at e r<;>try (cases e;done)
  ·subst e r;cases q;exact ⟨[],.none⟩
  ·subst e r;cases q;exact ⟨[],.bool _⟩
  ·subst e r;obtain ⟨t,rfl⟩:=q;exact ⟨[],.int _ _⟩
  ·subst e r;obtain ⟨t,rfl⟩:=q;exact ⟨[],.str _ _⟩
 |succ n ih=>
  intro d v u p r q e
  cases d with
  |non=>simp only [AL,DV,Option.some.injEq] at e r;subst e r;cases q;exact ⟨[],.none⟩
  |bl b=>simp only [AL,DV,Option.some.injEq] at e r;subst e r;cases q;exact ⟨[],.bool _⟩
  |int i=>simp only [AL,DV,Option.some.injEq] at e r;subst e r;obtain ⟨t,rfl⟩:=q;exact ⟨[],.int _ _⟩
  |str x=>simp only [AL,DV,Option.some.injEq] at e r;subst e r;obtain ⟨t,rfl⟩:=q;exact ⟨[],.str _ _⟩
  |tup ds=>
   simp only [AL,DV,qaU] at e r
   obtain ⟨a,vs,rfl,ha,dv⟩:=r
   obtain ⟨ps,e1,rfl⟩:=e
   cases q
   obtain ⟨_,its,rv,⟨o,ho,hc,k,hd⟩,_⟩:=hok a _ ha
   obtain ⟨as,h1⟩:=L4 ih ds vs its ps dv rv e1
   exact ⟨as,.tuple ho hc hd (by simpa using h1)⟩
  |loc l=>
   simp only [DV] at r
   obtain ⟨a,rfl,ha⟩:=r
   cases q
   simp only [AL] at e
   split at e
   ·rename_i ds el
    simp only [qaU] at e
    obtain ⟨ps,e1,rfl⟩:=e
    obtain ⟨vs,hv,dv⟩:=hr.cells l _ a el ha
    obtain ⟨_,its,k,rv,ho⟩:=hok a _ hv
    obtain ⟨as,h1⟩:=L4 ih ds vs its ps dv rv e1
    exact ⟨_,.list ho rfl rfl (by simpa using h1)⟩
   ·cases e
  |scr ns=>simp [AL] at e
  |adr a=>simp [AL] at e
  |ty a=>simp [AL] at e
  |exc n fs=>simp [AL] at e
  |edic=>simp [AL] at e
  |glo n=>simp [AL] at e
  |clo a vs ds=>simp [AL] at e
def Gb (f:PyData→PyData→Bool):D→D→HD→Out D:=fun x y h=>match AL h 8 x,AL h 8 y with
 |some p,some q=>if SeqAt.shaped p=true∧SeqAt.shaped q=true then .ok (.bl (f p q)) h else .stuck
 |_,_=>.stuck
abbrev IE:=Gb PyData.eqv
abbrev Ez:=Gb fun p q=>!PyData.eqv p q
theorem OO {o:CmpOp} {f:PyData→PyData→Bool}
 (rule:∀{s:Shared} {a b:Value} {p q:PyData} {as bs:List Addr} {Q:Value→Shared→Prop},Reads s.heap a p as→Reads s.heap b q bs→SeqAt.shaped p=true→SeqAt.shaped q=true→Q (.bool (f p q)) s→wpAny (model X.prog X.w) X.A (compareOp o a b) Q X.xe s):
 BB X (compareOp o) (Gb f):=by
 refine ⟨fun v u H Q=>∃m h x y,HR X.K m h H∧DV X.K m H x v∧DV X.K m H y u∧Post X.K (rD X.K) m H E0 Q (Gb f x y h),?_,fun m H h E x y v u Q hr rx ry q=>⟨m,h,x,y,hr,rx,ry,?_⟩⟩
 ·intro pins s σ H x y v u Q I rx ry hq
  obtain ⟨m,h,dx,dy,hr,r1,r2,q⟩:=hq
  unfold Gb at q
  split at q
  ·rename_i p p' e1 e2
   split at q
   ·rename_i hs
    obtain ⟨as,h1⟩:=L5 I.hok hr 8 dx x v p r1 rx e1
    obtain ⟨bs,h2⟩:=L5 I.hok hr 8 dy y u p' r2 ry e2
    exact rule h1 h2 hs.1 hs.2 ⟨.bl _,H,I,rfl,Bf hr q (by simp [DV])⟩
   ·exact q.elim
  ·exact q.elim
 ·unfold Gb at q ⊢
  split
  ·split
   ·rename_i e1 e2 hs
    rw [e1,e2] at q
    simp only [hs] at q
    exact q
   ·rename_i e1 e2 hs
    rw [e1,e2] at q
    simp only [hs] at q
    exact q.elim
  ·rename_i hn
   split at q
   ·rename_i e1 e2
    exact (hn _ _ e1 e2).elim
   ·exact q.elim
theorem Vj (hu:X.A.units+64<cLine):BB X (compareOp .Eq) IE:=OO fun ra rb ha hb h=>eq_dataH ra rb ha hb hu h
theorem Vk (hu:X.A.units+64<cLine):BB X (compareOp .NotEq) Ez:=OO fun ra rb ha hb h=>ne_dataH ra rb ha hb hu h
def Cq:D→Option V
 |.non=>some .non
 |.bl b=>some (.bl b)
 |.int i=>some (.int i)
 |.str x=>some (.str x)
 |_=>none
theorem J7 {d:D} {v w:V} (r:DV X.K m H d v) (e:Cq d=some w):v=w∧DA v=true:=by
 cases d<;>simp only [Cq,Option.some.injEq,DV] at e r<;>first |(subst e r;exact ⟨rfl,rfl⟩) |cases e
theorem J8:∀{ds:List D} {vs ws:List V},DVs X.K m H ds vs→Ax (ds.map Cq)=some ws→vs=ws∧vs.all DA=true
 |[],vs,ws,r,e=>by
  simp only [DVs] at r
  simp [Ax] at e
  subst r e
  exact ⟨rfl,rfl⟩
 |d::ds,vs,ws,r,e=>by
  simp only [DVs] at r
  obtain ⟨v,w,rfl,rv,rw'⟩:=r
  rw [Bn] at e
  cases ed:Cq d with
  |none=>rw [ed] at e;simp [Ax] at e
  |some p=>
   rw [ed] at e
   simp only [Ax,qaU] at e
   obtain ⟨ps',e1,rfl⟩:=e
   obtain ⟨h1,h2⟩:=J7 rv ed
   obtain ⟨h3,h4⟩:=J8 rw' e1
   subst h1 h3
   exact ⟨rfl,by simp [h2,h4]⟩
def BD:D→HD→Option (List D)
 |.tup ds,_=>some ds
 |.loc l,h=>match h[l]? with
  |some (.lst ds)=>some ds
  |_=>none
 |.scr ns,_=>some (ns.map .int)
 |_,_=>none
theorem OP {ns:List Int}:DVs X.K m H (ns.map .int) (ns.map V.int):=by
 induction ns with
 |nil=>exact .nil
 |cons n ns ih=>exact .cons (by simp [DV]) ih
theorem J9 {d:D} {v:V} {ds:List D} (hr:HR X.K m h H) (r:DV X.K m H d v) (e:BD d h=some ds):∃p vs,v=.ref p∧(SqL X.K H p vs∨SqT X.K H p vs)∧DVs X.K m H ds vs:=by
 cases d with
 |tup xs=>
  simp only [DV,BD,Option.some.injEq] at r e
  subst e
  obtain ⟨a,vs,rfl,ha,dv⟩:=r
  exact ⟨a,vs,rfl,.inr (SqT.of ha),dv⟩
 |loc l=>
  simp only [DV] at r
  obtain ⟨a,rfl,ha⟩:=r
  simp only [BD] at e
  split at e
  ·rename_i xs el
   cases e
   obtain ⟨vs,hv,dv⟩:=hr.cells l _ a el ha
   exact ⟨a,vs,rfl,.inl (SqL.of hv),dv⟩
  ·cases e
 |scr ns=>
  simp only [DV,BD,Option.some.injEq] at r e
  subst e
  obtain ⟨a,rfl,ha⟩:=r
  exact ⟨a,_,rfl,.inl ha.sq,OP⟩
 |_=>simp [BD] at e
def FK (neg:Bool):D→D→HD→Out D:=fun x y h=>match BD y h with
 |none=>.stuck
 |some ds=>match Cq x,Ax (ds.map Cq) with
  |some v,some vs=>.ok (.bl (if neg then !Hd v vs else Hd v vs)) h
  |_,_=>.stuck
theorem Vl {neg:Bool}:∀m H h E x y v u Q,HR X.K m h H→DV X.K m H x v→DV X.K m H y u→Post X.K (rD X.K) m H E Q (FK neg x y h)→OB X.K neg v u H Q:=fun m H h E x y v u Q hr rx ry q=>by
 unfold FK at q
 split at q
 ·exact q.elim
 ·rename_i ds e
  split at q
  ·rename_i w ws e1 e2
   obtain ⟨p,vs,rfl,hs,dv⟩:=J9 hr ry e
   obtain ⟨h1,h2⟩:=J7 rx e1
   obtain ⟨h3,h4⟩:=J8 dv e2
   subst h1 h3
   exact ⟨p,vs,rfl,hs,h2,h4,Bf hr q (by simp [DV])⟩
  ·exact q.elim
theorem OQ:BB X (compareOp .In) (FK false):=⟨_,UO,Vl⟩
def AI:D→D→HD→Out D:=fun x y h=>match BD x h,y with
 |some ds,.int i=>match CT ds i with
  |some d=>.ok d h
  |none=>.stuck
 |_,_=>.stuck
theorem Vm {ds:List D} {vs:List V} {i:Int} {d:D} (r:DVs X.K m H ds vs) (e:CT ds i=some d):∃v,CT vs i=some v∧DV X.K m H d v:=by
 unfold CT at e ⊢
 rw [r.len] at e
 cases k:Dz vs.length i with
 |none=>rw [k] at e;cases e
 |some j=>
  rw [k] at e
  exact r.get e
theorem Bg {a b:Expr} {pos:Pos} {f g:ME} (ha:Ev X E a f) (hb:Ev X E b g) (hs:OA b):Ev X E (.Subscript a b pos) (Ah AI f g):=
 B4 (UH (ix_list.or ix_tup) ha hb hs) fun σ H Q hq=>JV hq fun m H2 h2 x y v u hr rx ry q=>by
  unfold AI at q
  split at q
  ·rename_i ds i e
   split at q
   ·rename_i d ed
    simp only [DV] at ry
    subst ry
    obtain ⟨p,vs,rfl,hsq,dv⟩:=J9 hr rx e
    obtain ⟨w,e1,r1⟩:=Vm dv ed
    rcases hsq with hsq |hsq
    ·exact .inl ⟨p,vs,i,w,rfl,rfl,hsq,e1,Bf hr q r1⟩
    ·exact .inr ⟨p,vs,i,w,rfl,rfl,hsq,e1,Bf hr q r1⟩
   ·exact q.elim
  ·exact q.elim
def Bc:D→HD→Out D:=fun x h=>match BD x h with
 |some ds=>.ok (.int ds.length) h
 |none=>.stuck
theorem FL {F:D→HD→Out D} {ds:List D} {vs:List V} {Q:VK} {C:Prop} (r:DVs X.K m H ds vs) (q:Post X.K (rD X.K) m H E Q (Am F ds h)) (k:∀d v,vs=[v]→DV X.K m H d v→Post X.K (rD X.K) m H E Q (F d h)→C):C:=by
 unfold Am at q
 split at q
 ·simp only [DVs] at r
  obtain ⟨v,w,rfl,rv,rfl⟩:=r
  exact k _ v rfl rv q
 ·exact q.elim
theorem Ka {F:D→D→HD→Out D} {ds:List D} {vs:List V} {Q:VK} {C:Prop} (r:DVs X.K m H ds vs) (q:Post X.K (rD X.K) m H E Q (Bx F ds h)) (k:∀d d' v v',vs=[v,v']→DV X.K m H d v→DV X.K m H d' v'→Post X.K (rD X.K) m H E Q (F d d' h)→C):C:=by
 unfold Bx at q
 split at q
 ·simp only [DVs] at r
  obtain ⟨v,w,rfl,rv,v',w',rfl,rv',rfl⟩:=r
  exact k _ _ v v' rfl rv rv' q
 ·exact q.elim
theorem BW:CI X (.builtin "len") (Am Bc):=by
 refine ⟨_,UP,fun m H h E ds vs Q hr r q=>FL r q fun d v ev rv q=>?_⟩
 unfold Bc at q
 split at q
 ·rename_i xs e
  obtain ⟨p,ws,rfl,hs,dv⟩:=J9 hr rv e
  exact ⟨p,ws,ev,hs,by rw [←dv.len];exact Bf hr q (by simp [DV])⟩
 ·exact q.elim
def CDv (i j:Int):Prop:=0<j∧j<18446744073709551616
instance (i j:Int):Decidable (CDv i j):=by unfold CDv;infer_instance
theorem CDv.no {i j:Int} (h:CDv i j):Builtin.divisionGoesByPylong i j=false:=by
 refine PyProof.noPylong_of_log2 ?_
 have h0:j.natAbs≠0:=by have:=h.1;omega
 have h1:j.natAbs<2^64:=by have:=h.2;have:=h.1;omega
 exact Nat.lt_trans ((Nat.log2_lt h0).mpr h1) (by decide)
theorem Vn:DR X (.builtin "divmod") (fun xs H Q=>∃i j,xs=[.int i,.int j]∧CDv i j∧∀p,H p=none→Q (.ref p) (An H p (.tup [.int (i / j),.int (i % j)]))):=by
 intro pins s σ H xs us Q I r h
 obtain ⟨i,j,rfl,hc,q⟩:=h
 obtain ⟨u,w',rfl,⟨t,rfl⟩,⟨t',rfl⟩⟩:=Iw r
 have h1:=hc.1
 refine divmod_int (by omega) ?_ (.inl hc.no)
 rw [Int.fdiv_eq_ediv_of_nonneg i (by omega),Int.fmod_eq_emod_of_nonneg i (by omega)]
 have hn:H s.heap.objs.size=none:=I.hok.fresh (AK _)
 refine ⟨.ref s.heap.objs.size,_,?_,rfl,q _ hn⟩
 refine I.laid (fun b o e=>AE _ e) (AK _) ⟨by simp only [E5,Fz];rw [sizeLine_eq];decide,[.int (i / j) s.toks,.int (i % j) (s.toks+1)],.cons ⟨_,rfl⟩ (.cons ⟨_,rfl⟩ .nil),?_,NoDict.new⟩
 exact ⟨_,Bp s.heap rfl,rfl,0,rfl⟩
def IF:D→D→HD→Out D
 |.int i,.int j,h=>if CDv i j then .ok (.tup [.int (i / j),.int (i % j)]) h else .stuck
 |_,_,_=>.stuck
theorem Vo:CI X (.builtin "divmod") (Bx IF):=by
 refine ⟨_,Vn,fun m H h E ds vs Q hr r q=>Ka r q fun d d' v v' ev rv rv' q=>?_⟩
 unfold IF at q
 split at q
 ·split at q
  ·rename_i i j hc
   simp only [DV] at rv rv'
   subst rv rv'
   exact ⟨i,j,ev,hc,Hl hr (.cons (by simp [DV]) (.cons (by simp [DV]) .nil)) q⟩
  ·exact q.elim
 ·exact q.elim
theorem Vp:OpR X (binaryOp .FloorDiv) (rI CDv fun i j=>.int (i / j)):=JN fun i j _ _ _ _ _ hc q=>by
 have h1:=hc.1
 exact floordiv_int (by omega) (by rw [Int.fdiv_eq_ediv_of_nonneg i (by omega)];exact q) (.inl hc.no)
abbrev Kb:=intD (fun i j=>.int (i / j)) CDv
theorem Vq:BB X (binaryOp .FloorDiv) Kb:=LV Vp (fun _ _ h=>h) fun _ _ _ _=>by simp [DV]
def IG:D→D→HD→Out D
 |.int i,.int j,h=>.ok (.int (if j>i then j else i)) h
 |_,_,_=>.stuck
def IH:D→D→HD→Out D
 |.int i,.int j,h=>.ok (.int (if j<i then j else i)) h
 |_,_,_=>.stuck
theorem Vr (hc:X.calm=true):CI X (.builtin "max") (Bx IG):=by
 refine ⟨_,T4 hc,fun m H h E ds vs Q hr r q=>Ka r q fun d d' v v' ev rv rv' q=>?_⟩
 unfold IG at q
 split at q
 ·simp only [DV] at rv rv'
  subst rv rv'
  exact ⟨_,_,ev,Bf hr q (by simp [DV])⟩
 ·exact q.elim
theorem Vs (hc:X.calm=true):CI X (.builtin "min") (Bx IH):=by
 refine ⟨_,T6 hc,fun m H h E ds vs Q hr r q=>Ka r q fun d d' v v' ev rv rv' q=>?_⟩
 unfold IH at q
 split at q
 ·simp only [DV] at rv rv'
  subst rv rv'
  exact ⟨_,_,ev,Bf hr q (by simp [DV])⟩
 ·exact q.elim
def Gc:D→HD→Out D
 |.int i,h=>.ok (.int i) h
 |.bl b,h=>.ok (.int (if b then 1 else 0)) h
 |_,_=>.stuck
theorem L6:CI X (.type "int") (Am Gc):=by
 refine ⟨_,T7,fun m H h E ds vs Q hr r q=>FL r q fun d v ev rv q=>?_⟩
 unfold Gc at q
 split at q
 ·simp only [DV] at rv;subst rv
  exact .inl ⟨_,ev,Bf hr q (by simp [DV])⟩
 ·simp only [DV] at rv;subst rv
  exact .inr ⟨_,ev,Bf hr q (by simp [DV])⟩
 ·exact q.elim
def CJ:D→HD→Out D:=fun x h=>match x with
 |.tup ds=>.ok (.tup ds) h
 |.loc l=>match h[l]? with
  |some (.lst ds)=>.ok (.tup ds) h
  |_=>.stuck
 |_=>.stuck
theorem II:CI X (.type "tuple") (Am CJ):=by
 refine ⟨_,UR,fun m H h E ds vs Q hr r q=>FL r q fun d v ev rv q=>?_⟩
 unfold CJ at q
 split at q
 ·simp only [DV] at rv
  obtain ⟨a,ws,rfl,ha,dv⟩:=rv
  exact ⟨a,ws,ev,.inr ⟨SqT.of ha,Bf hr q (by simp only [DV];exact ⟨a,ws,rfl,ha,dv⟩)⟩⟩
 ·split at q
  ·rename_i ds' el
   simp only [DV] at rv
   obtain ⟨a,rfl,ha⟩:=rv
   obtain ⟨ws,hv,dv⟩:=hr.cells _ _ a el ha
   exact ⟨a,ws,ev,.inl ⟨SqL.of hv,Hl hr dv q⟩⟩
  ·exact q.elim
 ·exact q.elim
end
theorem PostS.bind {α β:Type} {K:PySem.W.Frag} {m:List Addr} {H:Hp} {R:List Addr→Hp→α→β→Prop} {E:XK} {Q':β→Hp→Prop} {Dn:Dw} {o:Out α} {k:α→HD→Out (Fl×Ai)}
 (h:PostS K m H E Dn (o.bind k)) (f:∀a h1 v m1 H1,o=.ok a h1→m <+:m1→Kp H H1→HR K m1 h1 H1→R m1 H1 a v→PostS K m1 H1 E Dn (k a h1)→Q' v H1):Post K R m H E Q' o:=by
 cases o with
 |ok a h1=>exact fun v m1 H1 p kk hr r=>f a h1 v m1 H1 rfl p kk hr r (h.ahead p kk)
 |err C fs h1=>exact h
 |stuck=>exact h
theorem PostS.here {K:PySem.W.Frag} {m:List Addr} {H:Hp} {E:XK} {Dn:Dw} {a:Fl×Ai} {h:HD} (hr:HR K m h H) (p:PostS K m H E Dn (.ok a h)):OH K m H Dn a:=p m H (AG _) (.refl _) hr
section
variable {X:Cx} {E:XK} {st:Stmt} {sts b1 b2:List Stmt} {g g1 g2:MS} {e:Expr} {f:ME} {pos:Pos} {t:MT}
def Br:MS:=fun ρ h=>.ok (.nx,ρ) h
def Ak (g1 g2:MS):MS:=fun ρ h=>(g1 ρ h).bind fun x h1=>match x with
 |(.nx,ρ1)=>g2 ρ1 h1
 |y=>.ok y h1
theorem Ce:A4 X E [] Br:=LU SY fun Dn σ H z1_=>by obtain ⟨m,ρ,h,hr,er,p⟩:=z1_;exact ((p.here hr) σ er)
theorem AH (h:Ex X E st g):A4 X E [st] g:=S3 h
theorem Ap (h1:Ex X E st g1) (h2:A4 X E sts g2):A4 X E (st::sts) (Ak g1 g2):=
 LU (SZ h1 h2) fun Dn σ H z2_=>by
  obtain ⟨m,ρ,h,hr,er,p⟩:=z2_
  refine ⟨m,ρ,h,hr,er,?_⟩
  unfold Ak at p
  cases o:g1 ρ h with
  |stuck=>rw [o] at p;exact p
  |err C fs h1=>rw [o] at p;exact p
  |ok x h1=>
   rw [o] at p
   obtain ⟨fl,ρ1⟩:=x
   intro m1 H1 p1 k1 hr1
   cases fl with
   |nx=>exact fun σ1 er1=>⟨m1,ρ1,h1,hr1,er1,PostS.ahead p1 k1 p⟩
   |bk=>exact p m1 H1 p1 k1 hr1
   |ct=>exact p m1 H1 p1 k1 hr1
   |rt d=>exact p m1 H1 p1 k1 hr1
def Dj (f:ME):MS:=fun ρ h=>(f ρ h).bind fun _ h1=>.ok (.nx,ρ) h1
theorem Gd (he:Ev X E e f) (hs:swapsWith e none pos.line X.env=pure false:=by rfl):Ex X E (.Expr e pos) (Dj f):=
 FI (S5 he hs) fun Dn σ H z3_=>by obtain ⟨m,ρ,h,hr,er,p⟩:=z3_;exact (⟨m,ρ,h,hr,er,PostS.bind p fun x h1 v m1 H1 _ p1 k1 hr1 r1 q1=>(q1.here hr1) σ (er.keep p1 k1)⟩)
def AM (f:ME):MS:=fun ρ h=>(f ρ h).bind fun d h1=>.ok (.rt d,ρ) h1
theorem Ba (he:Ev X E e f):Ex X E (.Return (some e) pos) (AM f):=
 FI (S7 he) fun Dn σ H z4_=>by obtain ⟨m,ρ,h,hr,er,p⟩:=z4_;exact (⟨m,ρ,h,hr,er,PostS.bind p fun x h1 v m1 H1 _ p1 k1 hr1 r1 q1=>(q1.here hr1) v r1⟩)
def Bo (t:MT) (g1 g2:MS):MS:=fun ρ h=>(t ρ h).bind fun b h1=>if b=true then g1 ρ h1 else g2 ρ h1
theorem Cf {c:Expr} (hc:Eu X E c t) (ha:A4 X E b1 g1) (hb:A4 X E b2 g2):Ex X E (.If c b1 b2 pos) (Bo t g1 g2):=
 FI (S9 hc ha hb) fun Dn σ H z5_=>by obtain ⟨m,ρ,h,hr,er,p⟩:=z5_;exact (⟨m,ρ,h,hr,er,PostS.bind p fun x h1 v m1 H1 _ p1 k1 hr1 r1 q1=>by
  cases r1
  cases x with
  |true=>exact ⟨m1,ρ,h1,hr1,er.keep p1 k1,q1⟩
  |false=>exact ⟨m1,ρ,h1,hr1,er.keep p1 k1,q1⟩⟩)
def OR:MS:=fun _ _=>.stuck
theorem Vt:A4 X E sts OR:=LU Tb fun Dn σ H z7_=>by obtain ⟨m,ρ,h,hr,er,p⟩:=z7_;exact (p)
def AA (i:Nat) (f:ME):MS:=fun ρ h=>(f ρ h).bind fun d h1=>.ok (.nx,ρ.set i (some d)) h1
theorem AX {i:Nat} {x:Str} {pos':Pos} (hN:X.N.Nodup) (hi:X.N[i]?=some x) (hx:G9 X.env.scope x) (he:Ev X E e f) (hs:swapsWith e (some (.Name x pos')) pos.line X.env=pure false:=by rfl) (hf:X.fn x=true∨X.env.scope.names.lookup x=some .local:=by first |exact .inl rfl |exact .inr rfl |assumption):
 Ex X E (.Assign [.Name x pos'] e pos) (AA i f):=
 FI (Te hN hi hx he hs hf) fun Dn σ H z9_=>by obtain ⟨m,ρ,h,hr,er,p⟩:=z9_;exact (⟨m,ρ,h,hr,er,PostS.bind p fun x h1 v m1 H1 _ p1 k1 hr1 r1 q1=>(q1.here hr1) _ ((er.keep p1 k1).set r1)⟩)
def FM (i j:Nat) (fa:MA):MS:=fun ρ h=>(fa ρ h).bind fun ds h1=>match ds with
 |[x,y]=>.ok (.nx,(ρ.set i (some x)).set j (some y)) h1
 |_=>.stuck
theorem Kc {i j:Nat} {x y:Str} {a b:Expr} {fa:MA} {px py pt:Pos} {kt k2:Nat} {pt2:Pos} (hc:X.calm=true) (hN:X.N.Nodup) (hi:X.N[i]?=some x) (hj:X.N[j]?=some y) (hij:i≠j)
 (hx:X.env.scope.names.lookup x=some .local) (hy:X.env.scope.names.lookup y=some .local) (ha:Cz X E [a,b] fa)
 (hw:swappedStores [.Tuple [.Name x px,.Name y py] kt pt] (.Tuple [a,b] k2 pt2) X.env=pure (some [x,y]))
 (hs:swapsWithSole [.Tuple [.Name x px,.Name y py] kt pt] (.Tuple [a,b] k2 pt2) pos.line X.env=pure false:=by rfl):
 Ex X E (.Assign [.Tuple [.Name x px,.Name y py] kt pt] (.Tuple [a,b] k2 pt2) pos) (FM i j fa):=
 FI (Tg hc hN hi hj hij hx hy ha hw hs) fun Dn σ H z10_=>by obtain ⟨m,ρ,h,hr,er,p⟩:=z10_;exact (⟨m,ρ,h,hr,er,PostS.bind p fun x h1 v m1 H1 _ p1 k1 hr1 r1 q1=>by
  split at q1
  ·simp only [Ep,DVs] at r1
   obtain ⟨v,w,rfl,rv,v',w',rfl,rv',rfl⟩:=r1
   exact ⟨v,v',rfl,(q1.here hr1) _ (((er.keep p1 k1).set rv).set rv')⟩
  ·exact q1.elim⟩)
abbrev MG:=D→Ai→Option Ai
def IJ (X:Cx) (tg:Expr) (sg:MG):Prop:=
 ∃gg:TG,PG X tg gg∧∀m H d v ρ σ ρ' Q,DV X.K m H d v→ER X.K m H ρ σ→sg d ρ=some ρ'→(∀σ',ER X.K m H ρ' σ'→Q σ' H)→gg v σ H Q
def A3 (i:Nat):MG:=fun d ρ=>some (ρ.set i (some d))
def Dk (i j:Nat):MG:=fun d ρ=>match d with
 |.tup [x,y]=>some ((ρ.set i (some x)).set j (some y))
 |_=>none
theorem Fb {i:Nat} {x:Str} (h:PG X (.Name x pos) (Co i)):IJ X (.Name x pos) (A3 i):=⟨_,h,fun m H d v ρ σ ρ' Q r er e q=>by
 simp only [A3,Option.some.injEq] at e
 subst e
 exact q _ (er.set r)⟩
theorem IK {i j:Nat} {x y:Str} {px py:Pos} {kt:Nat} (h:PG X (.Tuple [.Name x px,.Name y py] kt pos) (F6 X.K 2 (Dy (Co i) (Dy (Co j) F5)))):IJ X (.Tuple [.Name x px,.Name y py] kt pos) (Dk i j):=⟨_,h,fun m H d v ρ σ ρ' Q r er e q=>by
 unfold Dk at e
 split at e
 ·rename_i a b
  cases e
  simp only [DV,DVs] at r
  obtain ⟨p,vs,rfl,hp,v1,w1,rfl,r1,v2,w2,rfl,r2,rfl⟩:=r
  exact ⟨p,_,rfl,SqT.of hp,rfl,v1,_,rfl,v2,_,rfl,rfl,q _ ((er.set r1).set r2)⟩
 ·cases e⟩
def FN (sg:MG) (f:ME):MS:=fun ρ h=>(f ρ h).bind fun d h1=>match sg d ρ with
 |some ρ1=>.ok (.nx,ρ1) h1
 |none=>.stuck
theorem Kd {tg:Expr} {sg:MG} (he:Ev X E e f) (hg:IJ X tg sg) (hs:swapsWithSole [tg] e pos.line X.env=pure false:=by rfl) (hw:swappedStores [tg] e X.env=pure none:=by rfl)
 (h1:(assignEach [tg] X.env).map (·.2)=[assign tg X.env]:=by rfl):Ex X E (.Assign [tg] e pos) (FN sg f):=by
 obtain ⟨gg,hg,i⟩:=hg
 exact FI (Oc he hg hs hw h1) fun Dn σ H z11_=>by obtain ⟨m,ρ,h,hr,er,p⟩:=z11_;exact (⟨m,ρ,h,hr,er,PostS.bind p fun x h1 v m1 H1 _ p1 k1 hr1 r1 q1=>by
  split at q1
  ·rename_i ρ1 es
   exact i m1 H1 x v ρ σ ρ1 _ r1 (er.keep p1 k1) es fun σ' er'=>(q1.here hr1) σ' er'
  ·exact q1.elim⟩)
abbrev A0:=List (Nat×List D)
def BE (src:A0) (items:List D) (h:HD):Prop:=∀p∈src,h[p.1]?=some (.lst p.2)
theorem CY {items:List D} {h:HD}:BE [] items h:=fun p z=>nomatch z
theorem FO {items ds:List D} {h:HD} {l:Nat} (e:h[l]?=some (.lst ds)):BE [(l,ds)] items h:=fun p z=>by
 rw [qaI] at z
 subst z
 exact e
def Ge (K:PySem.W.Frag):List Addr→Hp→(List D×A0)→It→Prop:=fun m1 H1 x J=>
 ∀i m2 h2 H2,m1 <+:m2→Kp H1 H2→HR K m2 h2 H2→BE x.2 x.1 h2→
  (i<x.1.length→J.go i H2∧∀y H3,J.yld i H2 y H3→Kp H2 H3∧HR K m2 h2 H3∧∃d,x.1[i]?=some d∧DV K m2 H3 d y)∧(i=x.1.length→J.stop i H2)
abbrev MI:=Ai→HD→Out (List D×A0)
abbrev EA (X:Cx) (E:XK) (tg iter:Expr) (it:MI):Prop:=PI X tg iter (tM X.K (Ge X.K) E it)
theorem IP {tg iter:Expr} {w w':TI} (h:PI X tg iter w) (i:∀σ H R,w' σ H R→w σ H R):PI X tg iter w':=fun pins s σ H R I q=>h pins s σ H R I (i σ H R q)
theorem Vu {tg l:Expr} {tl:TE} (hl:PE X l tl):PI X tg l (fun σ H R=>tl σ H fun x H1=>∃a,x=.ref a∧(((∃xs,SqL X.K H1 a xs)∧R (Iq X.K a) H1)∨((∃xs,SqT X.K H1 a xs)∧R (Ir X.K a) H1))):=by
 intro pins s σ H R I h
 refine AB (hl pins s σ H _ I h) fun v s1 z12_=>?_
 obtain ⟨x,H1,I1,r1,q1⟩:=z12_
 obtain ⟨a,e,q⟩:=q1
 subst e
 cases r1
 rcases q with ⟨⟨xs,hq⟩,q⟩ |⟨⟨xs,hq⟩,q⟩
 ·obtain ⟨its,rv,p,hz⟩:=I1.list hq
  refine wpAny_pyIter_list p.isList ?_
  refine ⟨s1.heap.objs.size,[s1.heap.objs.size],_,_,H1,rfl,I1.kept (t':=s1.toks) fun b o e=>AE _ e,Th a _,⟨_,Bp _ rfl,rfl,rfl⟩,fun b hb=>?_,q⟩
  have e:b=s1.heap.objs.size:=by simpa using hb
  subst e
  exact I1.fpOk (AK _) (I1.hok.fresh (AK _))
 ·obtain ⟨its,rv,p,hz⟩:=I1.tuple hq
  refine wpAny_pyIter_tuple (show s1.heap.IsTuple a its.toArray from p) ?_
  refine ⟨s1.heap.objs.size,[s1.heap.objs.size],_,_,H1,rfl,I1.kept (t':=s1.toks) fun b o e=>AE _ e,Ti a _,⟨_,Bp _ rfl,rfl,rfl⟩,fun b hb=>?_,q⟩
  have e:b=s1.heap.objs.size:=by simpa using hb
  subst e
  exact I1.fpOk (AK _) (I1.hok.fresh (AK _))
def OT:D→List D→A0
 |.loc l,ds=>[(l,ds)]
 |_,_=>[]
def Hn (d:D) (h:HD):Out (List D×A0):=match BD d h with
 |some ds=>.ok (ds,OT d ds) h
 |none=>.stuck
def Cr (f:ME):MI:=fun ρ h=>(f ρ h).bind Hn
theorem Kp.lget {H H':Hp} {a:Addr} {K:PySem.W.Frag} {xs:List V} (k:Kp H H') (h:FzL K H a xs):SqL K H' a xs:=(k.fzL h).sq
theorem OU {K:PySem.W.Frag} {a:Addr} {m:List Addr} {H:Hp} {h:HD} {i:Nat} {items:List D} {vs:List V} (hr:HR K m h H) (hs:SqL K H a vs) (dv:DVs K m H items vs) (uniq:∀ys,SqL K H a ys→ys=vs∨True):
 (i<items.length→(Iq K a).go i H∧∀y H3,(Iq K a).yld i H y H3→Kp H H3∧HR K m h H3∧∃d,items[i]?=some d∧DV K m H3 d y)∧(i=items.length→(Iq K a).stop i H):=by
 refine ⟨fun hi=>?_,fun hi=>⟨vs,hs,by rw [←dv.len];exact Nat.le_of_eq hi.symm⟩⟩
 have hd:items[i]?=some items[i]:=A8 hi
 obtain ⟨v,e1,r1⟩:=dv.get hd
 refine ⟨⟨vs,v,hs,e1⟩,fun y H3 z13_=>?_⟩
 obtain ⟨e3,hy⟩:=z13_
 subst e3
 have:=hy vs hs
 rw [e1] at this
 cases this
 exact ⟨.refl _,hr,_,hd,r1⟩
theorem Vv {K:PySem.W.Frag} {a:Addr} {m:List Addr} {H:Hp} {h:HD} {i:Nat} {items:List D} {vs:List V} (hr:HR K m h H) (hs:SqT K H a vs) (dv:DVs K m H items vs):
 (i<items.length→(Ir K a).go i H∧∀y H3,(Ir K a).yld i H y H3→Kp H H3∧HR K m h H3∧∃d,items[i]?=some d∧DV K m H3 d y)∧(i=items.length→(Ir K a).stop i H):=by
 refine ⟨fun hi=>?_,fun hi=>⟨vs,hs,by rw [←dv.len];exact Nat.le_of_eq hi.symm⟩⟩
 have hd:items[i]?=some items[i]:=A8 hi
 obtain ⟨v,e1,r1⟩:=dv.get hd
 refine ⟨⟨vs,v,hs,e1⟩,fun y H3 z14_=>?_⟩
 obtain ⟨e3,hy⟩:=z14_
 subst e3
 have:=hy vs hs
 rw [e1] at this
 cases this
 exact ⟨.refl _,hr,_,hd,r1⟩
theorem DW {tg a:Expr} (ha:Ev X E a f):EA X E tg a (Cr f):=
 IP (Vu ha) fun σ H R ⟨m,ρ,h,hr,er,p⟩=>⟨m,ρ,h,hr,er,Post.bind p fun x h1 v m1 H1 _ p1 k1 hr1 r1 q1=>by
  unfold Hn at q1
  split at q1
  ·rename_i ds eds
   cases x with
   |tup xs=>
    simp only [BD,Option.some.injEq] at eds
    subst eds
    simp only [rD,DV] at r1
    obtain ⟨a,vs,rfl,ha,dv⟩:=r1
    refine ⟨a,rfl,.inr ⟨⟨vs,SqT.of ha⟩,q1 _ m1 H1 (AG _) (.refl _) hr1 fun i m2 h2 H2 p2 k2 hr2 _=>?_⟩⟩
    exact Vv hr2 (SqT.of (k2 _ _ ha rfl)) (dv.keep p2 k2)
   |loc l=>
    simp only [rD,DV] at r1
    obtain ⟨a,rfl,ha⟩:=r1
    simp only [BD] at eds
    split at eds
    ·rename_i xs el
     cases eds
     obtain ⟨vs,hv,dv⟩:=hr1.cells l _ a el ha
     refine ⟨a,rfl,.inl ⟨⟨vs,SqL.of hv⟩,q1 _ m1 H1 (AG _) (.refl _) hr1 fun i m2 h2 H2 p2 k2 hr2 hs=>?_⟩⟩
     obtain ⟨ws,hw,dw⟩:=hr2.cells l _ a (hs _ AO) (IA p2 ha)
     exact OU hr2 (SqL.of hw) dw fun _ _=>.inr trivial
    ·cases eds
   |scr ns=>
    simp only [BD,Option.some.injEq] at eds
    subst eds
    simp only [rD,DV] at r1
    obtain ⟨a,rfl,ha⟩:=r1
    refine ⟨a,rfl,.inl ⟨⟨_,ha.sq⟩,q1 _ m1 H1 (AG _) (.refl _) hr1 fun i m2 h2 H2 p2 k2 hr2 _=>?_⟩⟩
    exact OU hr2 (k2.lget ha) OP fun _ _=>.inr trivial
   |_=>simp [BD] at eds
  ·exact q1.elim⟩
def FP (lo:Int) (n:Nat):List D:=(List.range n).map fun k=>.int (lo+(k:Nat))
theorem OV {K:PySem.W.Frag} {m1:List Addr} {H1:Hp} (lo:Int) (n:Nat):Ge K m1 H1 (FP lo n,[]) (Iu lo n):=fun i m2 h2 H2 p2 k2 hr2 _=>by
 refine ⟨fun hi=>?_,fun hi=>?_⟩
 ·have hi':i<n:=by simpa [FP] using hi
  refine ⟨hi',fun y H3 z16_=>?_⟩
  obtain ⟨e3,ey⟩:=z16_
  subst e3 ey
  refine ⟨.refl _,hr2,.int (lo+i),?_,by simp [DV]⟩
  simp [FP,Ia,hi']
 ·show n≤i
  have hi':i=n:=by simpa [FP] using hi
  omega
@[irreducible] noncomputable def Ho:List D→HD→Out (List D×A0):=fun ds h=>match ds with
  |[.int j]=>@ite _ (-(2^62)≤j∧j<2^62) (Classical.propDecidable _) (.ok (FP 0 j.toNat,[]) h) .stuck
  |_=>.stuck
@[irreducible] noncomputable def Hq:List D→HD→Out (List D×A0):=fun ds h=>match ds with
  |[.int i,.int j]=>@ite _ ((-(2^62)≤i∧i<2^62)∧-(2^62)≤j∧j<2^62) (Classical.propDecidable _) (.ok (FP i (j - i).toNat,[]) h) .stuck
  |_=>.stuck
noncomputable def Cg (fa:MA):MI:=fun ρ h=>(fa ρ h).bind Ho
noncomputable def EB (fa:MA):MI:=fun ρ h=>(fa ρ h).bind Hq
theorem DX {tg a:Expr} {fa:MA} {p pos:Pos} (hg:Gl X "range") (hm:X.mg "range"=none) (ha:Cz X E [a] fa) (hs:starEach [a] X.env=[(false,eval a X.env)]:=by rfl):EA X E tg (.Call (.Name "range" p) [a] [] pos) (Cg fa):=
 IP (Tq hg hm ha hs) fun σ H R z17_=>by obtain ⟨m,ρ,h,hr,er,p⟩:=z17_;exact (⟨m,ρ,h,hr,er,Post.bind p fun x h1 v m1 H1 _ p1 k1 hr1 r1 q1=>by
  unfold Ho at q1
  split at q1
  ·split at q1
   ·rename_i hj
    simp only [Ep,DVs,DV] at r1
    obtain ⟨v,w,rfl,rfl,rfl⟩:=r1
    exact ⟨_,rfl,hj.1,hj.2,q1 _ m1 H1 (AG _) (.refl _) hr1 (OV 0 _)⟩
   ·exact q1.elim
  ·exact q1.elim⟩)
theorem Ke {tg a b:Expr} {fa:MA} {p pos:Pos} (hg:Gl X "range") (hm:X.mg "range"=none) (ha:Cz X E [a,b] fa) (hs:starEach [a,b] X.env=[(false,eval a X.env),(false,eval b X.env)]:=by rfl) (hs2:starEach [b] X.env=[(false,eval b X.env)]:=by rfl):EA X E tg (.Call (.Name "range" p) [a,b] [] pos) (EB fa):=
 IP (Tr hg hm ha hs hs2) fun σ H R z18_=>by obtain ⟨m,ρ,h,hr,er,p⟩:=z18_;exact (⟨m,ρ,h,hr,er,Post.bind p fun x h1 v m1 H1 _ p1 k1 hr1 r1 q1=>by
  unfold Hq at q1
  split at q1
  ·split at q1
   ·rename_i hj
    simp only [Ep,DVs,DV] at r1
    obtain ⟨v,w,rfl,rfl,v',w',rfl,rfl,rfl⟩:=r1
    exact ⟨_,_,rfl,⟨hj.1.1,hj.1.2,hj.2.1,hj.2.2⟩,q1 _ m1 H1 (AG _) (.refl _) hr1 (OV _ _)⟩
   ·exact q1.elim
  ·exact q1.elim⟩)
open Classical in
noncomputable def ED (src:A0) (items:List D) (sg:MG) (body:MS):List D→MS
 |[]=>fun ρ h=>if BE src items h then .ok (.nx,ρ) h else .stuck
 |d::ds=>fun ρ h=>if BE src items h then match sg d ρ with
   |none=>.stuck
   |some ρ1=>(body ρ1 h).bind fun x h2=>match x with
    |(.nx,ρ2)=>ED src items sg body ds ρ2 h2
    |(.ct,ρ2)=>ED src items sg body ds ρ2 h2
    |(.bk,ρ2)=>.ok (.nx,ρ2) h2
    |(.rt d,ρ2)=>.ok (.rt d,ρ2) h2
  else .stuck
noncomputable def Ci (it:MI) (sg:MG) (body:MS):MS:=fun ρ h=>(it ρ h).bind fun x h1=>ED x.2 x.1 sg body x.1 ρ h1
inductive OW (K:PySem.W.Frag) (E:XK) (Dn:Dw) (src:A0) (items:List D) (sg:MG) (g:MS) (m1:List Addr) (H1:Hp) (i n:Nat) (σ2:L2.St) (H2:Hp):Prop where
 |mk (e:n=items.length - i) (l:i≤items.length) (m2:List Addr) (ρ2:Ai) (h2:HD) (p:m1 <+:m2) (k:Kp H1 H2) (hr:HR K m2 h2 H2) (er:ER K m2 H2 ρ2 σ2) (q:PostS K m2 H2 E Dn (ED src items sg g (items.drop i) ρ2 h2)):OW K E Dn src items sg g m1 H1 i n σ2 H2
inductive OX (K:PySem.W.Frag) (E:XK) (Dn:Dw) (src:A0) (items:List D) (sg:MG) (g:MS) (m1:List Addr) (H1:Hp) (i:Nat) (σ2:L2.St) (H2:Hp):Prop where
 |mk (m2:List Addr) (ρ2:Ai) (h2:HD) (p:m1 <+:m2) (k:Kp H1 H2) (hr:HR K m2 h2 H2) (er:ER K m2 H2 ρ2 σ2) (q:PostS K m2 H2 E Dn (ED src items sg g (items.drop i) ρ2 h2)):OX K E Dn src items sg g m1 H1 i σ2 H2
theorem DE {tg iter:Expr} {body:List Stmt} {it:MI} {sg:MG} {g:MS} (hp:PassesOwn (model X.prog X.w) X.A X.env X.xe) (hc:X.calm=true) (hi:EA X E tg iter it) (hg:IJ X tg sg) (hb:A4 X E body g)
 (hs:∀x,foldedSetIterable iter X.env x=pure x:=by intro _;rfl):Ex X E (.For tg iter body [] pos) (Ci it sg g):=by
 obtain ⟨gg,hg,ig⟩:=hg
 refine FI (Tt hp hc hi hg hb hs) ?_
 rintro Dn σ H ⟨m,ρ,h,hr,er,p⟩
 refine ⟨m,ρ,h,hr,er,PostS.bind p fun x h1 J m1 H1 _ p1 k1 hr1 r1 q1=>?_⟩
 obtain ⟨items,src⟩:=x
 refine ⟨OW X.K E Dn src items sg g m1 H1,⟨items.length,rfl,Dv _,m1,ρ,h1,AG _,.refl _,hr1,er.keep p1 k1,by simpa using q1⟩,?_⟩
 rintro i n σ2 H2 ⟨rfl,hi,m2,ρ2,h2,p2,k2,hr2,er2,q2⟩
 by_cases hlt:i<items.length
 ·rw [JC hlt] at q2
  unfold ED at q2
  split at q2
  ·rename_i hs
   obtain ⟨hgo,hy⟩:=(r1 i m2 h2 H2 p2 k2 hr2 hs).1 hlt
   refine .inr ⟨hgo,OX X.K E Dn src items sg g m1 H1 (i+1),fun σ5 H5 z20_=>by obtain ⟨m5,ρ5,h5,a1,a2,a3,a4,a5⟩:=z20_;exact (⟨items.length - (i+1),by omega,rfl,hlt,m5,ρ5,h5,a1,a2,a3,a4,a5⟩),fun y H3 hyl=>?_⟩
   obtain ⟨k3,hr3,d,ed,rd⟩:=hy y H3 hyl
   have ed':d=items[i]:=by rw [A8 hlt] at ed;exact (Option.some.inj ed).symm
   subst ed'
   split at q2
   ·exact q2.elim
   ·rename_i ρ3 es
    refine ig m2 H3 _ y ρ2 σ2 ρ3 _ rd (er2.keep (AG _) k3) es fun σ4 er4=>?_
    refine ⟨m2,ρ3,h2,hr3,er4,?_⟩
    have q3:=PostS.ahead (AG _) k3 q2
    cases o:g ρ3 h2 with
    |stuck=>rw [o] at q3;exact q3
    |err C fs h5=>rw [o] at q3;exact q3
    |ok z h5=>
     rw [o] at q3
     obtain ⟨fl,ρ5⟩:=z
     intro m5 H5 p5 k5 hr5
     have pk:m1 <+:m5:=p2.trans p5
     have kk:Kp H1 H5:=(k2.trans k3).trans k5
     cases fl with
     |nx=>exact fun σ5 er5=>⟨m5,ρ5,h5,pk,kk,hr5,er5,PostS.ahead p5 k5 q3⟩
     |ct=>exact fun σ5 er5=>⟨m5,ρ5,h5,pk,kk,hr5,er5,PostS.ahead p5 k5 q3⟩
     |bk=>exact fun σ5 er5=>q3 m5 H5 p5 k5 hr5 σ5 er5
     |rt d=>exact fun v rv=>q3 m5 H5 p5 k5 hr5 v rv
  ·exact q2.elim
 ·have he:i=items.length:=Nat.le_antisymm hi (G7 hlt)
  subst he
  rw [List.drop_length] at q2
  unfold ED at q2
  split at q2
  ·rename_i hs
   exact .inl ⟨(r1 _ m2 h2 H2 p2 k2 hr2 hs).2 rfl,(q2.here hr2) σ2 er2⟩
  ·exact q2.elim
end
section
variable {M:Model} {A:Around} {E:Value→Shared→Prop} {s:Shared}
theorem L7 {env:Env}:∀(names:List (Str×NameKind)) (acc:List (Str×Addr)),(∀y∈names,y.2=.free→∃c,env.cells.lookup y.1=some c)→
 ∃cl:List (Str×Addr),(forIn names acc (fun (x:Str×NameKind) (cs:List (Str×Addr))=>match x with
  |(name,kind)=>if (kind==NameKind.free)=true then do let y ←cellOf env name;pure (ForInStep.yield ((name,y)::cs)) else pure (ForInStep.yield cs)):Sem (List (Str×Addr)))=pure cl∧
  (∀x c,(x,c)∈cl→(x,c)∈acc∨(env.cells.lookup x=some c∧(x,NameKind.free)∈names))∧(∀y∈names,y.2=.free→∃c,(y.1,c)∈cl)∧(∀p∈acc,p∈cl)
 |[],acc,_=>⟨acc,rfl,fun x c h=>.inl h,fun y hy=>absurd hy (by simp),fun p h=>h⟩
 |(name,kind)::r,acc,h=>by
  rw [List.forIn_cons]
  by_cases hk:kind=.free
  ·subst hk
   obtain ⟨c,hc⟩:=h (name,.free) AO rfl
   obtain ⟨cl,e,h1,h2,h3⟩:=L7 (env:=env) r ((name,c)::acc) (fun y hy=>h y (A1 _ hy))
   refine ⟨cl,?_,fun x c' hm=>?_,fun y hy hf=>?_,fun p hp=>h3 p (A1 _ hp)⟩
   ·rw [←e]
    have:cellOf env name=pure c:=by unfold cellOf;rw [hc]
    simp only [this,beq_self_eq_true,if_true,pure_bind]
   ·rcases h1 x c' hm with q |⟨q1,q2⟩
    ·rcases qa8.mp q with q |q
     ·cases q;exact .inr ⟨hc,AO⟩
     ·exact .inl q
    ·exact .inr ⟨q1,A1 _ q2⟩
   ·rcases qa8.mp hy with q |q
    ·subst q;exact ⟨c,h3 _ AO⟩
    ·exact h2 y q hf
  ·obtain ⟨cl,e,h1,h2,h3⟩:=L7 (env:=env) r acc (fun y hy=>h y (A1 _ hy))
   refine ⟨cl,?_,fun x c' hm=>?_,fun y hy hf=>?_,h3⟩
   ·rw [←e]
    have hk':(kind==NameKind.free)=false:=by simpa using hk
    simp only [hk',BP,if_false,pure_bind]
   ·rcases h1 x c' hm with q |⟨q1,q2⟩
    ·exact .inl q
    ·exact .inr ⟨q1,A1 _ q2⟩
   ·rcases qa8.mp hy with q |q
    ·subst q;exact absurd hf hk
    ·exact h2 y q hf
theorem L8 {scope:Scope} {env:Env} (h:∀y∈scope.names,y.2=.free→∃c,env.cells.lookup y.1=some c):
 ∃cl:List (Str×Addr),closureFor scope env=pure cl∧(∀x c,(x,c)∈cl→env.cells.lookup x=some c∧(x,NameKind.free)∈scope.names)∧(∀y∈scope.names,y.2=.free→∃c,(y.1,c)∈cl):=by
 obtain ⟨cl,e,h1,h2,h3⟩:=L7 (env:=env) scope.names [] h
 refine ⟨cl,?_,fun x c hm=>?_,h2⟩
 ·unfold closureFor
  simp only [bind_pure]
  exact e
 ·rcases h1 x c hm with q |q
  ·exact nomatch q
  ·exact q
theorem OY {scope:Scope} {globals:Addr} {cl:List (Str×Addr)} {qual:Str} {around:Env} {Q:Env→Shared→Prop}
 (h:Q (newEnv scope s.heap.objs.size globals (cellsFrom (s.heap.objs.size+1) scope.names cl) qual none .none (some around) builtinsNs) {s with heap:=pushCells (s.heap.push {cls:=.type "dict",data:=.dict #[]}) scope.names}):
 wpAny M A (newFunctionEnv scope globals cl [] qual none .none (some around)) Q E s:=by
 simp only [newFunctionEnv,Option.isSome_some,if_true]
 refine wpAny_bind (wpAny_alloc ?_)
 refine wpAny_bind (wpAny_layCells _ (fun name kind cells=>by cases hkc:kind==NameKind.cell<;>simp [hkc]) _ _ _ _ ?_)
 simp only [List.forIn_nil,pure_bind]
 refine wpAny_pure ?_
 rw [show ({s with heap:=s.heap.push {cls:=.type "dict",data:=.dict #[]}}:Shared).heap.objs.size=s.heap.objs.size+1 from CG ..]
 exact h
end
section
variable {prog:Program} {w:World} {A:Around} {R:Result→Shared→Prop} {s:Shared}
theorem Vw {elt target iter:Expr} {ifs:List Expr} {scope:Scope} {pos:Pos} {it acc:Value} {env:Env} (I:Nat→Shared→Prop)
 (turn:∀n s,I n s→wpAny (model prog w) A (pyNext it) (fun r s₁=>match r with
  |none=>R (.ok .next) s₁
  |some v=>wpAny (model prog w) A (letOwnedTupleGo target it v) (fun _ s₁'=>wpAny (model prog w) A (assign target env v) (fun _ s₂=>
   wpAny (model prog w) A (forIn ifs true fun c r=>if r=true then do let ok ←isTrue c env (eval c env);pure (ForInStep.yield ok) else pure (ForInStep.yield r)) (fun ok s₃=>
    if ok=true then wpAny (model prog w) A (eval elt env) (fun x s₄=>
     wpAny (model prog w) A (call (.builtin "list.append") [acc,x]) (fun _ s₅=>∃m,m<n∧I m s₅) (notedBy (model prog w) A env fun e s'=>R (.error e) s') s₄) (notedBy (model prog w) A env fun e s'=>R (.error e) s') s₃
    else ∃m,m<n∧I m s₃) (notedBy (model prog w) A env fun e s'=>R (.error e) s') s₂) (notedBy (model prog w) A env fun e s'=>R (.error e) s') s₁') (notedBy (model prog w) A env fun e s'=>R (.error e) s') s₁) (notedBy (model prog w) A env fun e s'=>R (.error e) s') s)
 (n:Nat) (h:I n s):
 codeAny (model prog w) A (.compLoop (.ListComp elt [⟨target,iter,ifs,0⟩] scope pos) 0 it acc env) R s:=by
 refine codeAny_loop rfl I (fun n s hI=>?_) n h
 show wpAny _ A ((compTurn (.ListComp elt [⟨target,iter,ifs,0⟩] scope pos) 0 it acc env).onRaise (fun x=>do noteFrame x env;theTreesLotGoes x)) _ _ s
 refine wpAny_noted ?_
 rw [compTurn_list]
 refine wpAny_bind (wpAny_standAt (wpAny_bind (wpAny_mono (turn n s hI) (fun r s₁ h₁=>?_) fun _ _ h'=>h')))
 cases r with
 |none=>exact wpAny_pure h₁
 |some v=>
  refine wpAny_bind (wpAny_mono h₁ (fun _ s₁' h₁'=>?_) fun _ _ h'=>h')
  refine wpAny_bind (wpAny_mono h₁' (fun _ s₂ h₂=>wpAny_bind (wpAny_mono h₂ (fun ok s₃ h₃=>?_) fun _ _ h'=>h')) fun _ _ h'=>h')
  cases ok with
  |false=>exact wpAny_pure ⟨rfl,h₃⟩
  |true=>
   exact wpAny_bind (wpAny_bind (wpAny_mono h₃ (fun x s₄ h₄=>wpAny_bind (wpAny_mono h₄ (fun _ s₅ h₅=>wpAny_pure (wpAny_pure ⟨rfl,h₅⟩)) fun _ _ h'=>h')) fun _ _ h'=>h'))
end
def Fc (X:Cx) (ifs:List Expr) (t:TT):Prop:=∀(pins:List (Addr×Obj)) (s:Shared) (σ:L2.St) (H:Hp) (Q:Bool→Hp→Prop),Inv X pins σ H s→t σ H Q→
 wpAny (model X.prog X.w) X.A (forIn ifs true fun c r=>if r=true then do let ok ←isTrue c X.env (eval c X.env);pure (ForInStep.yield ok) else pure (ForInStep.yield r)) (TP X pins σ Q) X.xe s
theorem Vx {X:Cx}:Fc X [] (fun _ H Q=>Q true H):=fun _ _ _ H _ I h=>wpAny_tests_nil ⟨H,I,h⟩
theorem Vy {X:Cx} {c:Expr} {t:TT} (h:PT X c t):Fc X [c] t:=fun pins s σ H Q I q=>wpAny_tests_one (h pins s σ H Q I q)
def OZ (env:Env) (scope:Scope) (C:Addr) (cells:List (Str×Addr)):Env:=
 {scope:=relabel scope env,locals:=C,globals:=env.globals,cells:=cells,qual:=env.qual,func:=none,code:=env.code,frame:=env.frame,builtins:=env.builtins}
def A5 (X:Cx) (Nc:List Str) (scope:Scope) (C D:Addr) (cells:List (Str×Addr)) (fp:List Addr) (s₀:Shared) (H₀:Hp) (pins:List (Addr×Obj)):Cx:=
 {X with N:=Nc,s₀:=s₀,H₀:=H₀,env:=OZ X.env scope C cells,outer:=X.stack,stack:=X.stack,ex:=D::fp,fn:=fun x=>scope.names.lookup x==some .cell,pn:=X.pn++pins,xe:=fun _ _=>False}
def Bs (cs:List (Option Nat)) (σ:L2.St):L2.St:=cs.map fun o=>o.bind fun j=>(σ[j]?).join
def Sub (σ σ':L2.St):Prop:=σ.length=σ'.length∧∀(i:Nat) v,σ[i]?=some (some v)→σ'[i]?=some (some v)
def Kf (cs:List (Option Nat)) (wi:TI) (g:TG) (tc:TT) (te:TE):TE:=fun σ H Q=>wi σ H fun J H1=>∃W:Nat→Nat→List V→Hp→Prop,(∃n,W 0 n [] H1)∧∀i n acc H,W i n acc H→
 (J.stop i H∧acc.length≤sizeLine∧∀p,H p=none→Q (.ref p) (An H p (.lst acc)))∨
 (J.go i H∧acc.length<sizeLine∧∀x H',J.yld i H x H'→g x (Bs cs σ) H' fun σ2 H2=>Sub (Bs cs σ) σ2∧tc σ2 H2 fun b H3=>if b=true then te σ2 H3 fun y H4=>∃n',n' < n∧W (i+1) n' (acc++[y]) H4 else ∃n',n' < n∧W (i+1) n' acc H3)
theorem L9:∀(names:List (Str×NameKind)) (h:Heap) (acc:List (Str×Addr)) (x:Str) (c:Addr),(x,c)∈cellsFrom h.objs.size names acc→(x,c)∈acc∨(h.objs.size≤c∧(x,NameKind.cell)∈names∧(pushCells h names).IsCell c none)
 |[],_,_,_,_,m=>.inl m
 |(name,kind)::r,h,acc,x,c,m=>by
  unfold cellsFrom at m
  unfold pushCells
  split at m
  ·rename_i hk
   rw [if_pos hk]
   have hk':kind=.cell:=by simpa using hk
   have e:h.objs.size+1=(h.push {cls:=.type "cell",data:=.cell none}).objs.size:=(CG ..).symm
   rw [e] at m
   rcases L9 r _ _ x c m with q |⟨q1,q2,q3⟩
   ·rcases qa8.mp q with q |q
    ·cases q
     refine .inr ⟨AK _,by rw [hk'];exact AO,?_⟩
     exact (show (h.push {cls:=.type "cell",data:=.cell none}).IsCell h.objs.size none from ⟨_,Bp _ rfl,rfl⟩).keeps fun b o e=>pushCells_keeps _ _ b o e
    ·exact .inl q
   ·exact .inr ⟨by rw [←e] at q1;exact Nat.le_of_succ_le q1,A1 _ q2,q3⟩
  ·rename_i hk
   rw [if_neg hk]
   rcases L9 r h acc x c m with q |⟨q1,q2,q3⟩
   ·exact .inl q
   ·exact .inr ⟨q1,A1 _ q2,q3⟩
theorem Ma:∀(names:List (Str×NameKind)) (h:Heap) (acc:List (Str×Addr)),(∀x c,(x,c)∈acc→c<h.objs.size)→(∀x y c,(x,c)∈acc→(y,c)∈acc→x=y)→
 ∀x y c,(x,c)∈cellsFrom h.objs.size names acc→(y,c)∈cellsFrom h.objs.size names acc→x=y
 |[],_,_,_,i=>i
 |(name,kind)::r,h,acc,lt,i=>by
  unfold cellsFrom
  split
  ·have e:h.objs.size+1=(h.push {cls:=.type "cell",data:=.cell none}).objs.size:=(CG ..).symm
   rw [e]
   refine Ma r _ _ (fun x c m=>?_) (fun x y c m m'=>?_)
   ·rw [←e]
    rcases qa8.mp m with q |q
    ·cases q;exact Nat.lt_succ_self _
    ·exact Ic (lt x c q)
   ·rcases qa8.mp m with q |q<;>rcases qa8.mp m' with q' |q'
    ·cases q;cases q';rfl
    ·cases q;exact absurd (lt y _ q') (Cy _)
    ·cases q';exact absurd (lt x _ q) (Cy _)
    ·exact i x y c q q'
  ·exact Ma r h acc lt i
theorem lookup_mem {α:Type} {l:List (Str×α)} {x:Str} {k:α} (nd:(l.map (·.1)).Nodup) (h:(x,k)∈l):l.lookup x=some k:=by
 induction l with
 |nil=>cases h
 |cons p r ih=>
  obtain ⟨y,j⟩:=p
  rw [Bn,qbS] at nd
  rw [FX]
  rcases qa8.mp h with e |e
  ·cases e;simp
  ·have:x≠y:=by
    rintro rfl
    exact nd.1 (qaZ.mpr ⟨(x,k),e,rfl⟩)
   have hb:(x==y)=false:=by simpa using this
   rw [hb]
   exact ih nd.2 e
theorem Vz {env:Env} {x n:Str} {j:NameKind} {r:List (Str×NameKind)} {k:NameKind} (h:List.lookup x ((if (j==NameKind.free&&env.scope.kind==.function&&env.kindOf n==some .cell)=true then (n,NameKind.cell) else (n,j))::r)=some k):
 (x=n∧(k=j∨(j=.free∧k=.cell)))∨(x≠n∧List.lookup x r=some k):=by
 by_cases hx:x=n
 ·subst hx
  refine .inl ⟨rfl,?_⟩
  split at h
  ·rename_i hc
   rw [FX] at h
   simp only [beq_self_eq_true] at h
   cases h
   simp only [CF] at hc
   exact .inr ⟨by simpa using hc.1.1,rfl⟩
  ·rw [FX] at h
   simp only [beq_self_eq_true] at h
   cases h
   exact .inl rfl
 ·have hb:(x==n)=false:=by simpa using hx
  refine .inr ⟨hx,?_⟩
  split at h<;>(rw [FX] at h;simp only [hb] at h;exact h)
theorem O0 {scope:Scope} {env:Env} {x:Str} {k:NameKind}:(relabel scope env).names.lookup x=some k→∃k0,scope.names.lookup x=some k0∧(k=k0∨(k0=.free∧k=.cell)):=by
 show (scope.names.map _).lookup x=some k→_
 induction scope.names with
 |nil=>intro h;cases h
 |cons p r ih=>
  obtain ⟨n,j⟩:=p
  intro h
  rw [Bn] at h
  rw [FX]
  rcases Vz h with ⟨hx,hk⟩ |⟨hx,hr⟩
  ·subst hx
   simp only [beq_self_eq_true]
   exact ⟨j,rfl,hk⟩
  ·have hb:(x==n)=false:=by simpa using hx
   rw [hb]
   exact ih hr
structure Fd (X:Cx) (scope:Scope) (Nc:List Str) (cs:List (Option Nat)):Prop where
 kind:scope.kind=.function
 loc:∀y∈scope.names,y.2=.local→scope.names.lookup y.1=some .local
 free:∀y∈scope.names,y.2=.free→X.env.kindOf y.1=some .cell∨X.env.kindOf y.1=some .free
 nd:(scope.names.map (·.1)).Nodup
 len:cs.length=Nc.length
 out:∀(i:Nat) (x:Str) (j:Nat),Nc[i]?=some x→cs[i]?=some (some j)→X.N[j]?=some x∧scope.names.lookup x=some .free
theorem VA {a b:Addr} (h:a<b):@LT.lt Nat instLTNat a b:=h
theorem BF {a b:Addr} (h:@LT.lt Nat instLTNat a b):a≠b:=Be h
theorem Fe {a b:Addr} (h:@LT.lt Nat instLTNat a b):b≠a:=Ne.symm (Be h)
section
variable {X:Cx} {pins:List (Addr×Obj)} {σ:L2.St} {H:Hp} {s:Shared}
theorem O1 {scope:Scope} {Nc:List Str} {cs:List (Option Nat)} {fp:List Addr} {cl:List (Str×Addr)} (S:Fd X scope Nc cs) (I:Inv X pins σ H s) (f:∀b∈fp,CH X pins H b) (ob:∀b∈fp,∃o,s.heap.get? b=some o)
 (hcl:∀x c,(x,c)∈cl→X.env.cells.lookup x=some c∧(x,NameKind.free)∈scope.names) (hcl2:∀y∈scope.names,y.2=.free→∃c,(y.1,c)∈cl) {s3:Shared} (e3:s3={s with heap:=s.heap.push {cls:=.type "list",data:=.seq ([]:List Value).toArray}}):
 Inv (A5 X Nc scope s3.heap.objs.size s.heap.objs.size (cellsFrom (s3.heap.objs.size+1) scope.names cl) fp s3 H pins) [] (Bs cs σ) H
  {s3 with heap:=pushCells (s3.heap.push {cls:=.type "dict",data:=.dict #[]}) scope.names}:=by
 have k3:∀b o,s.heap.get? b=some o→s3.heap.get? b=some o:=fun b o e=>by subst e3;exact AE _ e
 have IT:s3.heap.objs.size=s.heap.objs.size+1:=by subst e3;exact CG ..
 have szd:(s3.heap.push {cls:=.type "dict",data:=.dict #[]}).objs.size=s3.heap.objs.size+1:=CG ..
 have k34:∀b o,s3.heap.get? b=some o→(pushCells (s3.heap.push {cls:=.type "dict",data:=.dict #[]}) scope.names).get? b=some o:=fun b o e=>pushCells_keeps _ _ b o (AE _ e)
 have k4:∀b o,s.heap.get? b=some o→(pushCells (s3.heap.push {cls:=.type "dict",data:=.dict #[]}) scope.names).get? b=some o:=fun b o e=>k34 b o (k3 b o e)
 have cllt:∀x c,(x,c)∈cl→c<s.heap.objs.size:=fun x c m=>by
  obtain ⟨v,q⟩:=I.cell x c (hcl x c m).1
  exact q.lt
 have cm:∀x c,(cellsFrom (s3.heap.objs.size+1) scope.names cl).lookup x=some c→(x,c)∈cl∨(s3.heap.objs.size+1≤c∧(x,NameKind.cell)∈scope.names∧(pushCells (s3.heap.push {cls:=.type "dict",data:=.dict #[]}) scope.names).IsCell c none):=fun x c e=>by
  have m:=mem_of_lookup e
  rw [←szd] at m
  have:=L9 scope.names _ cl x c m
  rw [szd] at this
  exact this
 have frs_lt:∀b∈frs X.stack,b<s.heap.objs.size:=fun b hb=>by
  obtain ⟨_,o,ho,_⟩:=I.stack.mem hb
  exact Av ho
 have nfs:∀b,b≠X.env.locals→b∉X.fs→b∉frs X.stack:=fun b h1 h2 hb=>by
  rcases qa8.mp (I.stkSub b hb) with q |q
  ·exact h1 q
  ·exact h2 q
 have ok:(A5 X Nc scope s3.heap.objs.size s.heap.objs.size (cellsFrom (s3.heap.objs.size+1) scope.names cl) fp s3 H pins).Ok:=by
  refine ⟨I.ok.mod,S.kind,I.ok.glob,I.ok.blt,AK _,fun x y c e1 e2=>?_,fun x hx=>?_,fun x c hf e=>?_,I.ok.hd,I.ok.frames,.inl rfl,fun b hb=>?_,fun b o e=>?_,?_,fun b o e hb=>?_,fun b hb=>?_,?_,I.stkFree⟩
  ·have m1:=mem_of_lookup e1
   have m2:=mem_of_lookup e2
   have m1':(x,c)∈cellsFrom (s3.heap.push {cls:=.type "dict",data:=.dict #[]}).objs.size scope.names cl:=by rw [szd];exact m1
   have m2':(y,c)∈cellsFrom (s3.heap.push {cls:=.type "dict",data:=.dict #[]}).objs.size scope.names cl:=by rw [szd];exact m2
   exact Ma scope.names (s3.heap.push {cls:=.type "dict",data:=.dict #[]}) cl (fun x c m=>by rw [szd,IT];exact AV (cllt x c m) (by omega))
    (fun x y c a b=>I.ok.inj x y c (hcl x c a).1 (hcl y c b).1) x y c m1' m2'
  ·have:∃k,(relabel scope X.env).names.lookup x=some k∧(k=.cell∨k=.free):=by
    rcases hx with q |q
    ·exact ⟨_,q,.inl rfl⟩
    ·exact ⟨_,q,.inr rfl⟩
   obtain ⟨k,e1,hk⟩:=this
   obtain ⟨k0,e0,hk0⟩:=O0 e1
   refine qbN.mp (PySem.W.cellsFrom_some _ _ _ ?_)
   have:k0=.cell∨k0=.free:=by
    rcases hk0 with q |⟨q,_⟩
    ·rw [←q];exact hk
    ·exact .inr q
   rcases this with q |q
   ·subst q;exact .inl e0
   ·subst q
    obtain ⟨c,hc⟩:=hcl2 _ (mem_of_lookup e0) rfl
    refine .inr ?_
    cases hl:cl.lookup x with
    |some c'=>rfl
    |none=>
     exfalso
     have:∀p∈cl,p.1≠x:=fun p hp e=>by
      have h2:=List.lookup_eq_none_iff.mp hl p hp
      rw [e] at h2
      simp at h2
     exact this _ hc rfl
  ·have hk:scope.names.lookup x=some .cell:=by
    have:(scope.names.lookup x==some NameKind.cell)=true:=hf
    simpa using this
   rcases cm x c e with q |⟨q1,_,_⟩
   ·have:=lookup_mem S.nd (hcl x c q).2
    rw [hk] at this
    cases this
   ·exact Nat.le_of_succ_le q1
  ·rcases qa8.mp hb with q |q
   ·subst q
    refine ⟨BF (show _<s3.heap.objs.size by omega),fun x c e=>?_⟩
    rcases cm x c e with q |⟨q1,_,_⟩
    ·exact Be (cllt x c q)
    ·exact Fe (AV (by omega) q1)
   ·obtain ⟨o,ho⟩:=ob b q
    have hlt:=VA (Av ho)
    refine ⟨BF (show _<s3.heap.objs.size by omega),fun x c e=>?_⟩
    rcases cm x c e with q2 |⟨q1,_,_⟩
    ·exact (f b q).2.2.2.2.1 x c (hcl x c q2).1
    ·exact Fe (AV (by omega) q1)
  ·obtain ⟨h1,h2⟩:=I.bs b o e
   exact ⟨k3 b o h1,h2⟩
  ·show X.base.objs.size≤s3.heap.objs.size
   have:=BK I.ok.bsz I.sz
   omega
  ·obtain ⟨h1,h2⟩:=I.bs b o e
   rcases qa8.mp hb with q |q
   ·exact absurd q (BF (Av h1))
   ·rcases (f b q).2.2.2.1 with z |z
    ·exact I.ok.noex b o e z
    ·exact absurd (AV (Av (I.ok.bs b o e).1) z) (Cy _)
  ·rcases qa8.mp hb with q |q
   ·subst q
    intro z
    exact absurd (frs_lt _ z) (Cy _)
   ·exact nfs b (f b q).2.1 (f b q).2.2.1
  ·exact I.stack.of_keeps fun b o e _=>⟨o,k3 b o e,rfl⟩
 refine ⟨ok,rfl,?_,?_,?_,fun x c e=>?_,?_,fun x c e=>?_,fun p hp=>?_,I.hok.kept k4,?_⟩
 ·show AllBare s3.gens
  subst e3;exact I.bare
 ·exact Un.kept k34
 ·refine ⟨fun _=>none,(Heap.Ns.new s3.heap (.type "dict")).keeps (pushCells_keeps _ _),fun i x v e1 e2 e3'=>?_⟩
  unfold Bs at e2
  rw [Cb] at e2
  cases ec:cs[i]? with
  |none=>rw [ec] at e2;cases e2
  |some o=>
   rw [ec] at e2
   cases o with
   |none=>cases e2
   |some j=>
    simp only [G8,Option.bind_some,Option.some.injEq] at e2
    have e2':σ[j]?=some (some v):=by
     cases ej:σ[j]? with
     |none=>rw [ej] at e2;cases e2
     |some w=>rw [ej] at e2;simp at e2;rw [e2]
    obtain ⟨hN,hfr⟩:=S.out i x j e1 ec
    have hfm:=mem_of_lookup hfr
    have hkind:=S.free _ hfm rfl
    obtain ⟨m,hn,hl⟩:=I.loc
    obtain ⟨u,r,look⟩:=hl j x v hN e2' (by
     rcases hkind with q |q
     ·exact .inr (.inl q)
     ·exact .inr (.inr q))
    refine ⟨u,r,.inr ?_⟩
    rcases look with ⟨q,_⟩ |⟨_,c,ec',hc⟩
    ·rcases hkind with z |z<;>(rw [q] at z;cases z)
    ·obtain ⟨c',hc'⟩:=hcl2 _ hfm rfl
     have hv:(A5 X Nc scope s3.heap.objs.size s.heap.objs.size (cellsFrom (s3.heap.objs.size+1) scope.names cl) fp s3 H pins).env.kindOf x=some .cell∨(A5 X Nc scope s3.heap.objs.size s.heap.objs.size (cellsFrom (s3.heap.objs.size+1) scope.names cl) fp s3 H pins).env.kindOf x=some .free:=by
      rcases e3' with z |z |z
      ·obtain ⟨k0,a1,a2⟩:=O0 z
       rw [hfr] at a1
       cases a1
       rcases a2 with a2 |⟨_,a2⟩<;>cases a2
      ·exact .inl z
      ·exact .inr z
     refine ⟨hv,c,?_,hc.keeps k4⟩
     obtain ⟨c2,h2⟩:=ok.has x hv
     rw [h2]
     rcases cm x c2 h2 with q |⟨_,q,_⟩
     ·rw [←ec',(hcl x c2 q).1]
     ·have:=lookup_mem S.nd q
      rw [hfr] at this
      cases this
 ·rcases cm x c e with q |⟨_,_,q⟩
  ·obtain ⟨v,z⟩:=I.cell x c (hcl x c q).1
   exact ⟨v,z.keeps k4⟩
  ·exact ⟨none,q⟩
 ·exact I.hok.fresh (show s.heap.objs.size≤s3.heap.objs.size by omega)
 ·rcases cm x c e with q |⟨q,_,_⟩
  ·exact I.freeC x c (hcl x c q).1
  ·exact I.hok.fresh (by omega)
 ·have hp':p∈X.pn++pins:=by
   rcases qaM.mp hp with q |q
   ·exact q
   ·exact absurd q (by simp)
  obtain ⟨a1,a2,a3,a4,a5⟩:=I.pin p hp'
  refine ⟨k4 _ _ a1,a2,?_,nfs p.1 a3 a4,a5⟩
  show p.1≠s3.heap.objs.size
  exact BF (AV (Av a1) (by omega))
 ·show (Bs cs σ).length=Nc.length
  simp [Bs,S.len]
end
section
variable {X:Cx} {elt tg iter:Expr} {ifs:List Expr} {scope:Scope} {pos:Pos} {Nc:List Str} {cs:List (Option Nat)} {wi:TI} {g:TG} {tc:TT} {te:TE}
theorem O2 {pins:List (Addr×Obj)} {σ:L2.St} {H H':Hp} {s s3 s':Shared} {fp:List Addr} {C:Addr} {cells:List (Str×Addr)} {po:List (Addr×Obj)} {σc:L2.St} {acc:List V} {its:List Value} {n:Nat}
 (I:Inv X pins σ H s) (f:∀b∈fp,CH X pins H b) (e3:s3={s with heap:=s.heap.push {cls:=.type "list",data:=.seq ([]:List Value).toArray}}) (hC:C=s3.heap.objs.size)
 (I':Inv (A5 X Nc scope C s.heap.objs.size cells fp s3 H pins) po σc H' s') (hD:H' s.heap.objs.size=none) (hl:acc.length≤sizeLine) (rv:Vals acc its) (ho:s'.heap.get? s.heap.objs.size=some {cls:=.type "list",data:=.seq its.toArray n})
 {h':Heap} (sb:Heap.SameBut C s'.heap h'):Inv X pins σ (An H' s.heap.objs.size (.lst acc)) {s' with heap:=h'}:=by
 have k3:∀b o,s.heap.get? b=some o→s3.heap.get? b=some o:=fun b o e=>by subst e3;exact AE _ e
 have IT:s3.heap.objs.size=s.heap.objs.size+1:=by subst e3;exact CG ..
 have Ez:∀b o,s.heap.get? b=some o→b≠s.heap.objs.size:=fun b o e=>BF (Av e)
 have neC:∀b o,s.heap.get? b=some o→b≠C:=fun b o e=>by rw [hC];exact BF (AV (Av e) (by omega))
 have DC:s.heap.objs.size≠C:=by rw [hC];exact BF (by omega)
 have U:Un (frs X.stack) (s.heap.objs.size::fp) H H' s3.heap s'.heap:=I'.base
 have exn:∀b o,s.heap.get? b=some o→b∉fp→b∉s.heap.objs.size::fp:=fun b o e hx hb=>by
  rcases qa8.mp hb with z |z
  ·exact Ez b o e z
  ·exact hx z
 have neT:∀b u,H' b=some u→b≠s.heap.objs.size:=fun b u e=>Bz e hD
 have hCn:H' C=none:=I'.free
 refine I.call' (s':={s' with heap:=h'}) (ch:=fp) ?_ ?_ ?_ I'.bare ?_
 ·show s'.os=s.os
  have:=I'.os
  rw [this]
  show s3.os=s.os
  subst e3;rfl
 ·refine ⟨fun b o e nn hb hx=>?_,fun b o e nn hb hx=>?_,fun b o e nn hx=>?_,fun b o e hx=>?_,fun b xs e=>?_,fun b o u e=>?_,fun b ps e=>?_⟩
  ·exact (sb.2 b (neC b o e)).trans (U.keep b o (k3 b o e) nn hb (exn b o e hx))
  ·obtain ⟨sl,z⟩:=U.slot b o (k3 b o e) nn hb (exn b o e hx)
   exact ⟨sl,(sb.2 b (neC b o e)).trans z⟩
  ·rw [Ao (Ez b o e)]
   exact U.free b o (k3 b o e) nn (exn b o e hx)
  ·obtain ⟨o',z⟩:=U.there b o (k3 b o e) (exn b o e hx)
   exact ⟨o',(sb.2 b (neC b o e)).trans z⟩
  ·have z:=U.tups b xs e
   rw [Ao (neT b _ z)]
   exact z
  ·have z:=U.frzs b o u e
   rw [Ao (neT b _ z)]
   exact z
  ·obtain ⟨more,z⟩:=U.tbls b ps e
   exact ⟨more,by rw [Ao (neT b _ z)];exact z⟩
 ·intro b u e
  by_cases hb:b=s.heap.objs.size
  ·subst hb
   rw [B3] at e
   cases e
   exact ⟨hl,its,n,rv,(sb.2 _ DC).trans ho⟩
  ·rw [Ao hb] at e
   refine (I'.hok b u e).stay (fun c v hc z=>(sb.2 c ?_).trans z) (fun c z=>by rw [Ao (neT c _ z)];exact z) fun c xs z=>by rw [Ao (neT c _ z)];exact z
   rcases hc with rfl |hc
   ·exact Bz e hCn
   ·exact Bz hc hCn
 ·intro b hb
  obtain ⟨_,f1,_,f3,f4,f5⟩:=f b hb
  exact ⟨f3,f1,f4,f5⟩
inductive O3 (W:Nat→Nat→List V→Hp→Prop) (Xc:Cx) (σc:L2.St) (tn:Nat→Heap→Prop) (fp:List Addr) (Da:Addr) (n:Nat) (s':Shared):Prop where
 |mk (i:Nat) (acc:List V) (H':Hp) (its:List Value) (k:Nat) (w:W i n acc H') (ii:Inv Xc [] σc H' s') (st:tn i s'.heap) (fr:∀b∈fp,H' b=none) (hD:H' Da=none) (rv:Vals acc its) (ho:s'.heap.get? Da=some {cls:=.type "list",data:=.seq its.toArray k}):O3 W Xc σc tn fp Da n s'
theorem O4 {use:Option (Value→Sem Unit)} {QQ:Value→Shared→Prop} {ppos:Pos} {pins:List (Addr×Obj)} {s:Shared} {σ:L2.St} {H:Hp} {Q:VK} (hcalm:X.calm=true) (S:Fd X scope Nc cs) (hi:PI X tg iter wi)
 (hb:∀(C D:Addr) (cells:List (Str×Addr)) (fp:List Addr) (s₀:Shared) (H₀:Hp) (pins:List (Addr×Obj)),PG (A5 X Nc scope C D cells fp s₀ H₀ pins) tg g∧Fc (A5 X Nc scope C D cells fp s₀ H₀ pins) ifs tc∧PE (A5 X Nc scope C D cells fp s₀ H₀ pins) elt te)
 (hsf:∀x,foldedSetIterable iter X.env x=pure x) (I:Inv X pins σ H s) (h:Kf cs wi g tc te σ H Q)
 (fin:∀(s6:Shared) (C D:Addr) (H7:Hp) (m6:Str→Option Value),s6.heap.Ns C m6→H7 C=none→X.s₀.heap.objs.size≤C→C≠X.env.locals→(∀x c,X.env.cells.lookup x=some c→c≠C)→(∀p∈X.pn++pins,p.1≠C)→
  (∀h',Heap.SameBut C s6.heap h'→Inv X pins σ H7 {s6 with heap:=h'})→Q (.ref D) H7→compPost (model X.prog X.w) X.A X.xe use QQ (.ref D) C (.ok .next) s6):
 wpAny (model X.prog X.w) X.A (comprehension (.ListComp elt [⟨tg,iter,ifs,0⟩] scope pos) scope X.env ppos (newList []) false (eval iter X.env) use) QQ X.xe s:=by
 obtain ⟨cl,hclos,hcl,hcl2⟩:=L8 (scope:=scope) (env:=X.env) fun y hy hf=>I.ok.has y.1 (S.free y hy hf)
 refine wpAny_comprehension_free (use:=use) rfl hsf hclos S.kind S.loc (AB (hi pins s σ H _ I h) fun xv s1 h1=>AB h1 fun itv s2 h2=>?_)
 obtain ⟨it,fp,tn,J,H2,e,I2,T,CQ,f2,W,⟨n0,w0⟩,turn⟩:=h2
 subst e
 refine wpAny_newObj_type ?_
 generalize e3:({s2 with heap:=s2.heap.push {cls:=.type "list",data:=.seq ([]:List Value).toArray}}:Shared)=s3
 refine OY ?_
 have ob2:∀b∈fp,∃o,s2.heap.get? b=some o:=fun b hb=>let ⟨o,e,_⟩:=T.obj _ _ CQ b hb;⟨o,e⟩
 have I4:=O1 (fp:=fp) (cl:=cl) S I2 f2 ob2 hcl hcl2 e3.symm
 generalize e4:({s3 with heap:=pushCells (s3.heap.push {cls:=.type "dict",data:=.dict #[]}) scope.names}:Shared)=s4 at I4
 generalize ecl:cellsFrom (s3.heap.objs.size+1) scope.names cl=cells at I4
 obtain ⟨pg,pt,pe⟩:=hb s3.heap.objs.size s2.heap.objs.size cells fp s3 H2 pins
 generalize eX:A5 X Nc scope s3.heap.objs.size s2.heap.objs.size cells fp s3 H2 pins=Xc at I4 pg pt pe
 have xP:Xc.prog=X.prog:=by subst eX;rfl
 have xw:Xc.w=X.w:=by subst eX;rfl
 have xK:Xc.K=X.K:=by subst eX;rfl
 have xA:Xc.A=X.A:=by subst eX;rfl
 have xE:Xc.env=OZ X.env scope s3.heap.objs.size cells:=by subst eX;rfl
 have xL:Xc.env.locals=s3.heap.objs.size:=by subst eX;rfl
 have xe:Xc.xe=fun _ _=>False:=by subst eX;rfl
 have xc:Xc.calm=true:=by subst eX;exact hcalm
 have xex:Xc.ex=s2.heap.objs.size::fp:=by subst eX;rfl
 have okc:=I4.ok
 have k3:∀b o,s2.heap.get? b=some o→s3.heap.get? b=some o:=fun b o e=>by subst e3;exact AE _ e
 have IT:s3.heap.objs.size=s2.heap.objs.size+1:=by subst e3;exact CG ..
 have k34:∀b o,s3.heap.get? b=some o→s4.heap.get? b=some o:=fun b o e=>by subst e4;exact pushCells_keeps _ _ b o (AE _ e)
 have hDC:s2.heap.objs.size≠Xc.env.locals:=by rw [xL];exact BF (by omega)
 have hDcell:∀x c,Xc.env.cells.lookup x=some c→c≠s2.heap.objs.size:=fun x c e=>(okc.exf _ (by rw [xex];exact AO)).2 x c e
 have hDpin:∀p∈Xc.pn,p.1≠s2.heap.objs.size:=fun p hp=>by
  have hp':p∈X.pn++pins:=by subst eX;exact hp
  exact BF (Av (I2.pin p hp').1)
 have hDfp:s2.heap.objs.size∉fp:=fun hm=>by
  obtain ⟨o,e⟩:=ob2 _ hm
  exact absurd (Av e) (Cy _)
 have hDex:s2.heap.objs.size∈Xc.ex:=by rw [xex];exact AO
 have hDfs:s2.heap.objs.size∉Xc.fs:=okc.exfs _ hDex
 have fpC:∀{po:List (Addr×Obj)} {H':Hp},(∀b∈fp,H' b=none)→(∀p∈po,p.1=s2.heap.objs.size)→∀b∈fp,CH Xc po H' b:=fun {po H'} hn hp b hb=>by
  have hbx:b∈Xc.ex:=by rw [xex];exact A1 _ hb
  refine ⟨hn b hb,(okc.exf b hbx).1,okc.exfs b hbx,.inl hbx,(okc.exf b hbx).2,fun p hpp=>?_⟩
  rcases qaM.mp hpp with z |z
  ·have hp':p∈X.pn++pins:=by subst eX;exact z
   exact (f2 b hb).2.2.2.2.2 p hp'
  ·rw [hp p z]
   intro e
   exact hDfp (e ▸ hb)
 have loop:∀sx,sx=s4→codeAny (model X.prog X.w) X.A (.compLoop (.ListComp elt [⟨tg,iter,ifs,0⟩] scope pos) 0 (.ref it) (.ref s2.heap.objs.size) Xc.env)
  (compPost (model X.prog X.w) X.A X.xe use QQ (.ref s2.heap.objs.size) s3.heap.objs.size) sx:=by
  rintro sx rfl
  refine Vw (O3 W Xc (Bs cs σ) tn fp s2.heap.objs.size) ?_ n0
   ⟨0,[],H2,[],0,w0,I4,?_,fun b hb=>(f2 b hb).1,I2.hok.fresh (AK _),.nil,?_⟩
  ·rintro n s5 ⟨i,acc,H5,its,k,w5,I5,Ei,fr5,hD5,rv5,ho5⟩
   have pin1:Inv Xc [(s2.heap.objs.size,{cls:=.type "list",data:=.seq its.toArray k})] (Bs cs σ) H5 s5:=I5.pins_of fun p hp=>by
    rw [qaI] at hp
    subst hp
    exact ⟨ho5,hD5,hDC,hDfs,fun v z=>by cases z⟩
   have pone:∀p∈[((s2.heap.objs.size:Addr),({cls:=.type "list",data:=.seq its.toArray k}:Obj))],p.1=s2.heap.objs.size:=fun p hp=>by
    rw [qaI] at hp;subst hp;rfl
   rcases turn i n acc H5 w5 with ⟨stop,hlen,qn⟩ |⟨go,hlen,step⟩
   ·have z1:=T.done Xc xP xw xK xc i _ s5 (Bs cs σ) H5 (fun _ _=>False) pin1 (fpC fr5 pone) Ei stop
    rw [xA] at z1
    refine wpAny_mono z1 (fun r s6 z1_=>?_) fun _ _ z=>False.elim z
    obtain ⟨hr,I6⟩:=z1_
    subst hr
    obtain ⟨m6,hn6,_⟩:=I6.loc
    obtain ⟨ho6,hD6,_⟩:=I6.pin _ (BJ _ AO)
    rw [xL] at hn6
    have lt2:∀b,b<s2.heap.objs.size→b≠s3.heap.objs.size:=fun b hb=>BF (AV hb (by omega))
    refine fin s6 s3.heap.objs.size s2.heap.objs.size (An H5 s2.heap.objs.size (.lst acc)) m6 hn6 ?_ (BK I2.sz (by omega)) ?_ ?_ ?_ ?_ (qn _ hD6)
    ·rw [Ao (Fe (by omega))]
     have:=I6.free
     rw [xL] at this
     exact this
    ·obtain ⟨m2,hn2,_⟩:=I2.loc
     exact Ne.symm (lt2 _ hn2.lt)
    ·intro x c hx
     obtain ⟨v,hv⟩:=I2.cell x c hx
     obtain ⟨o,ho,_⟩:=hv
     exact lt2 _ (Av ho)
    ·intro p hp
     exact lt2 _ (Av (I2.pin p hp).1)
    ·intro h' sb
     subst eX
     exact O2 I2 f2 e3.symm rfl I6 hD6 hlen rv5 ho6 sb
   ·have z1:=T.item Xc xP xw xK xc i _ s5 (Bs cs σ) H5 (fun _ _=>False) pin1 (fpC fr5 pone) Ei go
    rw [xA] at z1
    refine wpAny_mono z1 (fun r s6 z2_=>?_) fun _ _ z=>False.elim z
    obtain ⟨u,hr,h6⟩:=z2_
    subst hr
    refine wpAny_mono h6 (fun _ s7 z3_=>?_) fun _ _ z=>False.elim z
    obtain ⟨x,H7,I7,r7,y7,Fv,fr7⟩:=z3_
    have I7':=I7.pinned (fp:=fp) (fpC fr7 pone) (T.obj _ _ Fv)
    have z2:=pg _ s7 (Bs cs σ) H7 x u _ I7' r7 (step x H7 y7)
    rw [xP,xw,xA,xe] at z2
    refine wpAny_mono z2 (fun _ s8 z4_=>?_) fun _ _ z=>False.elim z
    obtain ⟨σ8,H8,I8,sub8,q8⟩:=z4_
    have z3:=pt _ s8 σ8 H8 _ I8 q8
    rw [xP,xw,xA,xe] at z3
    refine wpAny_mono z3 (fun ok s9 z5_=>?_) fun _ _ z=>False.elim z
    obtain ⟨H9,I9,q9⟩:=z5_
    have back:∀{sy:Shared} {Hy:Hp},Inv Xc ([(s2.heap.objs.size,{cls:=.type "list",data:=.seq its.toArray k})]++FD fp s7.heap) σ8 Hy sy→
     Inv Xc [] (Bs cs σ) Hy sy∧tn (i+1) sy.heap∧(∀b∈fp,Hy b=none)∧Hy s2.heap.objs.size=none∧sy.heap.get? s2.heap.objs.size=some {cls:=.type "list",data:=.seq its.toArray k}:=fun {sy Hy} Iy=>by
     obtain ⟨ho,hD,_⟩:=Iy.pin _ (BJ _ (G0 _ AO))
     refine ⟨(Iy.pins_of fun p hp=>absurd hp (by simp)).weak (sub8.1) (fun j v z=>sub8.2 j v z),T.keep _ _ _ Fv fun b hb o e=>(Iy.pin (b,o) (BJ _ (BJ _ (Iv hb e)))).1,fun b hb=>?_,hD,ho⟩
     obtain ⟨o,e,_⟩:=T.obj _ _ Fv b hb
     exact (Iy.pin (b,o) (BJ _ (BJ _ (Iv hb e)))).2.1
    cases ok with
    |false=>
     simp only [BP,if_false] at q9 ⊢
     obtain ⟨n',hn',w'⟩:=q9
     obtain ⟨a1,a2,a3,a4,a5⟩:=back I9
     exact ⟨n',hn',i+1,acc,H9,its,k,w',a1,a2,a3,a4,rv5,a5⟩
    |true=>
     simp only [if_true] at q9 ⊢
     have z4:=pe _ s9 σ8 H9 _ I9 q9
     rw [xP,xw,xA,xe] at z4
     refine wpAny_mono z4 (fun y s10 z6_=>?_) fun _ _ z=>False.elim z
     obtain ⟨yv,H10,I10,r10,n',hn',w'⟩:=z6_
     obtain ⟨a1,a2,a3,a4,a5⟩:=back I10
     have hlen':=rv5.length
     refine wpAny_list_append_plain ⟨k,a5⟩ (fun h' ⟨k',hl'⟩ sb=>?_) (by rw [A9];omega)
     have tu:Inv Xc [] (Bs cs σ) H10 {s10 with heap:=h'}:=a1.turned (t':=s10.toks) (it:=s2.heap.objs.size) (fun b o hb e=>(sb.2 b hb).trans e) a4 hDC (.inl hDex) hDcell (fun p hp=>by
      rcases qaM.mp hp with z |z
      ·exact hDpin p z
      ·exact absurd z (by simp))
     refine ⟨n',hn',i+1,acc++[yv],H10,its++[y],k',w',tu,T.keep _ _ _ a2 (fun b hb o e=>(sb.2 b (fun z=>hDfp (z ▸ hb))).trans e),a3,a4,rv5.append (.cons r10 .nil),?_⟩
     rw [hl']
     simp
  ·exact T.keep _ _ _ CQ fun b hb o e=>k34 b o (k3 b o e)
  ·refine k34 _ _ ?_
   subst e3
   exact Bp _ rfl
 have fin:=loop s4 rfl
 have hst4:tn 0 s4.heap:=T.keep _ _ _ CQ fun b hb o e=>k34 b o (k3 b o e)
 rw [xE] at fin
 have:=codeAny_compStart_list fin (T.self X.A 0 s4 _ _ hst4 fin)
 exact this
theorem VB (hcalm:X.calm=true) (S:Fd X scope Nc cs) (hi:PI X tg iter wi)
 (hb:∀(C D:Addr) (cells:List (Str×Addr)) (fp:List Addr) (s₀:Shared) (H₀:Hp) (pins:List (Addr×Obj)),PG (A5 X Nc scope C D cells fp s₀ H₀ pins) tg g∧Fc (A5 X Nc scope C D cells fp s₀ H₀ pins) ifs tc∧PE (A5 X Nc scope C D cells fp s₀ H₀ pins) elt te)
 (hsf:∀x,foldedSetIterable iter X.env x=pure x:=by intro _;rfl):PE X (.ListComp elt [⟨tg,iter,ifs,0⟩] scope pos) (Kf cs wi g tc te):=by
 intro pins s σ H Q I h
 rw [eval_ListComp]
 exact O4 (use:=none) hcalm S hi hb hsf I h fun s6 C D H7 m6 hn _ _ _ _ _ inv q=>⟨m6,hn,fun h' sb=>⟨.ref D,H7,inv h' sb,rfl,q⟩⟩
end
def noErr {α:Type}:Out α→Out α
 |.ok a h=>.ok a h
 |_=>.stuck
@[simp] theorem Zbg {α:Type} (a:α) (h:HD):noErr (.ok a h)=.ok a h:=rfl
theorem Hr {α β γ δ:Type} {K:PySem.W.Frag} {R:List Addr→Hp→α→β→Prop} {R':List Addr→Hp→γ→δ→Prop} {m:List Addr} {H:Hp} {E:XK} {Q:δ→Hp→Prop} {Q':β→Hp→Prop} {o:Out α} {k:α→HD→Out γ}
 (h:Post K R' m H E Q ((noErr o).bind k)) (f:∀a h1 v m1 H1,o=.ok a h1→m <+:m1→Kp H H1→HR K m1 h1 H1→R m1 H1 a v→Post K R' m1 H1 E Q (k a h1)→Q' v H1):Post K R m H E0 Q' o:=by
 cases o with
 |ok a h1=>exact fun v m1 H1 p kk hr r=>f a h1 v m1 H1 rfl p kk hr r (Post.ahead p kk h)
 |err C fs h1=>exact False.elim h
 |stuck=>exact False.elim h
def CK (cs:List (Option Nat)) (ρ:Ai):Ai:=cs.map fun o=>o.bind fun j=>(ρ[j]?).join
theorem join_some {α:Type} {l:List (Option α)} {j:Nat} {a:α}:(l[j]?).join=some a↔l[j]?=some (some a):=by
 cases h:l[j]? with
 |none=>simp
 |some o=>simp
theorem ER.comp {K:PySem.W.Frag} {m:List Addr} {H:Hp} {ρ:Ai} {σ:L2.St} (cs:List (Option Nat)) (er:ER K m H ρ σ):ER K m H (CK cs ρ) (Bs cs σ):=by
 refine ⟨by simp [CK,Bs],fun i d e=>?_⟩
 unfold CK at e
 rw [Cb] at e
 cases ec:cs[i]? with
 |none=>rw [ec] at e;cases e
 |some o=>
  rw [ec] at e
  cases o with
  |none=>cases e
  |some j=>
   simp only [G8,Option.bind_some,Option.some.injEq] at e
   obtain ⟨v,e1,r⟩:=er.2 j d (join_some.mp e)
   refine ⟨v,?_,r⟩
   unfold Bs
   rw [Cb,ec]
   simp only [G8,Option.bind_some,Option.some.injEq]
   exact join_some.mpr e1
theorem Sub.set {cs:List (Option Nat)} {σ:L2.St} {σ':L2.St} {i:Nat} {v:V} (h:cs[i]?=some none) (s:Sub (Bs cs σ) σ'):Sub (Bs cs σ) (σ'.set i (some v)):=by
 refine ⟨by rw [s.1];simp,fun j w e=>?_⟩
 have hj:i≠j:=by
  rintro rfl
  unfold Bs at e
  rw [Cb,h] at e
  cases e
 rw [BV hj]
 exact s.2 j w e
theorem Sub.refl (σ:L2.St):Sub σ σ:=⟨rfl,fun _ _ h=>h⟩
def IQ (K:PySem.W.Frag) (cs:List (Option Nat)) (gg:TG) (sg:MG):Prop:=
 ∀m H d v ρ σ0 ρ' Q,DV K m H d v→ER K m H ρ (Bs cs σ0)→sg d ρ=some ρ'→(∀σ',Sub (Bs cs σ0) σ'→ER K m H ρ' σ'→Q σ' H)→gg v (Bs cs σ0) H Q
theorem DF {K:PySem.W.Frag} {cs:List (Option Nat)} {i:Nat} (h:cs[i]?=some none):IQ K cs (Co i) (A3 i):=fun m H d v ρ σ0 ρ' Q r er e q=>by
 simp only [A3,Option.some.injEq] at e
 subst e
 exact q _ ((Sub.refl _).set h) (er.set r)
theorem VC {K:PySem.W.Frag} {cs:List (Option Nat)} {i j:Nat} (h:cs[i]?=some none) (h':cs[j]?=some none):IQ K cs (F6 K 2 (Dy (Co i) (Dy (Co j) F5))) (Dk i j):=fun m H d v ρ σ0 ρ' Q r er e q=>by
 unfold Dk at e
 split at e
 ·rename_i a b
  cases e
  simp only [DV,DVs] at r
  obtain ⟨p,vs,rfl,hp,v1,w1,rfl,r1,v2,w2,rfl,r2,rfl⟩:=r
  exact ⟨p,_,rfl,SqT.of hp,rfl,v1,_,rfl,v2,_,rfl,rfl,q _ (((Sub.refl _).set h).set h') ((er.set r1).set r2)⟩
 ·cases e
abbrev Hs (X:Cx) (E:XK) (ifs:List Expr) (t:MT):Prop:=Fc X ifs (Es X.K E t)
def BM:MT:=fun _ h=>.ok true h
theorem DG {X:Cx} {E:XK}:Hs X E [] BM:=fun pins s σ H Q I z1_=>by obtain ⟨m,ρ,h,hr,er,p⟩:=z1_;exact (Vx pins s σ H Q I (p true m H (AG _) (.refl _) hr rfl))
theorem IS {X:Cx} {E:XK} {c:Expr} {t:MT} (h:Eu X E c t):Hs X E [c] t:=Vy h
open Classical in
noncomputable def Dl (src:A0) (items:List D) (sg:MG) (t:MT) (f:ME) (ρc:Ai):List D→HD→Out (List D)
 |[],h=>if BE src items h then .ok [] h else .stuck
 |d::ds,h=>if BE src items h then match sg d ρc with
   |none=>.stuck
   |some ρ1=>(noErr (t ρ1 h)).bind fun b h1=>if b=true then (noErr (f ρ1 h1)).bind fun y h2=>(Dl src items sg t f ρc ds h2).bind fun ys h3=>.ok (y::ys) h3 else Dl src items sg t f ρc ds h1
  else .stuck
noncomputable def Bh (cs:List (Option Nat)) (it:MI) (sg:MG) (t:MT) (f:ME):ME:=fun ρ h=>(it ρ h).bind fun x h1=>if x.1.length≤sizeLine then (Dl x.2 x.1 sg t f (CK cs ρ) x.1 h1).bind Cp else .stuck
theorem Out.bind_assoc {α β γ:Type} (o:Out α) (k:α→HD→Out β) (l:β→HD→Out γ):(o.bind k).bind l=o.bind fun a h=>(k a h).bind l:=by cases o<;>rfl
section
variable {X:Cx} {E:XK} {elt tg iter:Expr} {ifs:List Expr} {scope:Scope} {pos:Pos} {Nc:List Str} {cs:List (Option Nat)} {it:MI} {gg:TG} {sg:MG} {t:MT} {f:ME}
inductive O5 (K:PySem.W.Frag) (E:XK) (Q:VK) (src:A0) (items:List D) (sg:MG) (t:MT) (f:ME) (ρc:Ai) (m1:List Addr) (H1:Hp) (i n:Nat) (acc:List V) (H2:Hp):Prop where
 |mk (e:n=items.length - i) (l:i≤items.length) (a:acc.length≤i) (m2:List Addr) (h2:HD) (dacc:List D) (p:m1 <+:m2) (k:Kp H1 H2) (hr:HR K m2 h2 H2) (da:DVs K m2 H2 dacc acc) (q:Post K (rD K) m2 H2 E Q ((Dl src items sg t f ρc (items.drop i) h2).bind fun ys h3=>Cp (dacc++ys) h3)):O5 K E Q src items sg t f ρc m1 H1 i n acc H2
theorem O6 (hg:IQ X.K cs gg sg):∀σ H Q,tD X.K E (Bh cs it sg t f) σ H Q→Kf cs (tM X.K (Ge X.K) E it) gg (Es X.K E0 t) (tD X.K E0 f) σ H Q:=by
 refine ?_
 rintro σ H Q ⟨m,ρ,h,hr,er,p⟩
 refine ⟨m,ρ,h,hr,er,Post.bind p fun x h1 J m1 H1 _ p1 k1 hr1 r1 q1=>?_⟩
 obtain ⟨items,src⟩:=x
 dsimp only at q1
 split at q1
 ·rename_i hz
  have er1:ER X.K m1 H1 (CK cs ρ) (Bs cs σ):=(er.keep p1 k1).comp cs
  refine ⟨O5 X.K E Q src items sg t f (CK cs ρ) m1 H1,
   ⟨items.length,rfl,Dv _,AK _,m1,h1,[],AG _,.refl _,hr1,.nil,by simpa using q1⟩,?_⟩
  rintro i n acc H2 ⟨rfl,hi',ha,m2,h2,dacc,p2,k2,hr2,da,q2⟩
  by_cases hlt:i<items.length
  ·rw [JC hlt] at q2
   unfold Dl at q2
   split at q2
   ·rename_i hs
    obtain ⟨hgo,hy⟩:=(r1 i m2 h2 H2 p2 k2 hr2 hs).1 hlt
    refine .inr ⟨hgo,by omega,fun y H3 hyl=>?_⟩
    obtain ⟨k3,hr3,d,ed,rd⟩:=hy y H3 hyl
    have ed':d=items[i]:=by rw [A8 hlt] at ed;exact (Option.some.inj ed).symm
    subst ed'
    split at q2
    ·exact q2.elim
    ·rename_i ρ3 es
     have er3:ER X.K m2 H3 (CK cs ρ) (Bs cs σ):=er1.keep p2 (k2.trans k3)
     refine hg m2 H3 _ y (CK cs ρ) σ ρ3 _ rd er3 es fun σ4 sub4 er4=>⟨sub4,m2,ρ3,h2,hr3,er4,?_⟩
     rw [Out.bind_assoc] at q2
     refine Hr (Post.ahead (AG _) k3 q2) fun b h5 v m5 H5 _ p5 k5 hr5 r5 q5=>?_
     cases r5
     cases b with
     |false=>
      simp only [BP,if_false] at q5 ⊢
      exact ⟨items.length - (i+1),by omega,rfl,hlt,by omega,m5,h5,dacc,p2.trans p5,(k2.trans k3).trans k5,hr5,DVs.keep p5 (k3.trans k5) da,q5⟩
     |true=>
      simp only [if_true] at q5 ⊢
      rw [Out.bind_assoc] at q5
      refine ⟨m5,ρ3,h5,hr5,er4.keep p5 k5,Hr q5 fun z h6 w m6 H6 _ p6 k6 hr6 r6 q6=>?_⟩
      refine ⟨items.length - (i+1),by omega,rfl,hlt,by simp;omega,m6,h6,dacc++[z],(p2.trans p5).trans p6,((k2.trans k3).trans k5).trans k6,hr6,(DVs.keep (p5.trans p6) ((k3.trans k5).trans k6) da).app (.cons r6 .nil),?_⟩
      rw [Out.bind_assoc] at q6
      simp only [Out.bind_ok] at q6
      simpa using q6
   ·exact q2.elim
  ·have he:i=items.length:=Nat.le_antisymm hi' (G7 hlt)
   subst he
   rw [List.drop_length] at q2
   unfold Dl at q2
   split at q2
   ·rename_i hs
    simp only [Out.bind_ok,Fy] at q2
    obtain ⟨z1,z2⟩:=Hm hr2 da q2
    exact .inl ⟨(r1 _ m2 h2 H2 p2 k2 hr2 hs).2 rfl,z1,z2⟩
   ·exact q2.elim
 ·exact q1.elim
theorem DH (hcalm:X.calm=true) (S:Fd X scope Nc cs) (hi:EA X E tg iter it) (hg:IQ X.K cs gg sg)
 (hb:∀(C D:Addr) (cells:List (Str×Addr)) (fp:List Addr) (s₀:Shared) (H₀:Hp) (pins:List (Addr×Obj)),PG (A5 X Nc scope C D cells fp s₀ H₀ pins) tg gg∧Hs (A5 X Nc scope C D cells fp s₀ H₀ pins) E0 ifs t∧Ev (A5 X Nc scope C D cells fp s₀ H₀ pins) E0 elt f)
 (hsf:∀x,foldedSetIterable iter X.env x=pure x:=by intro _;rfl):Ev X E (.ListComp elt [⟨tg,iter,ifs,0⟩] scope pos) (Bh cs it sg t f):=by
 exact B4 (VB (g:=gg) (tc:=Es X.K E0 t) (te:=tD X.K E0 f) hcalm S hi hb hsf) (O6 hg)
theorem VD {i:Nat} {x:Str} {pos' pos2:Pos} (hcalm:X.calm=true) (hN:X.N.Nodup) (hix:X.N[i]?=some x) (hx:G9 X.env.scope x) (S:Fd X scope Nc cs) (hi:EA X E tg iter it) (hg:IQ X.K cs gg sg)
 (hb:∀(C D:Addr) (cells:List (Str×Addr)) (fp:List Addr) (s₀:Shared) (H₀:Hp) (pins:List (Addr×Obj)),PG (A5 X Nc scope C D cells fp s₀ H₀ pins) tg gg∧Hs (A5 X Nc scope C D cells fp s₀ H₀ pins) E0 ifs t∧Ev (A5 X Nc scope C D cells fp s₀ H₀ pins) E0 elt f)
 (hsf:∀x,foldedSetIterable iter X.env x=pure x:=by intro _;rfl) (hsw:swapsWith (.ListComp elt [⟨tg,iter,ifs,0⟩] scope pos) (some (.Name x pos')) pos2.line X.env=pure true:=by rfl)
 (hf:X.fn x=true∨X.env.scope.names.lookup x=some .local:=by first |exact .inl rfl |exact .inr rfl |assumption):Ex X E (.Assign [.Name x pos'] (.ListComp elt [⟨tg,iter,ifs,0⟩] scope pos) pos2) (AA i (Bh cs it sg t f)):=by
 rintro pins s σ H D I ⟨m,ρ,h,hr,er,p⟩
 have hq:Kf cs (tM X.K (Ge X.K) E it) gg (Es X.K E0 t) (tD X.K E0 f) σ H (fun v H1=>D.nx (σ.set i (some v)) H1):=O6 hg σ H _ ⟨m,ρ,h,hr,er,PostS.bind p fun y h1 v m1 H1 _ p1 k1 hr1 r1 q1=>(q1.here hr1) _ ((er.keep p1 k1).set r1)⟩
 rw [exec_Assign_Name_used _ _ _ _ hsw]
 refine wpAny_bind (wpAny_standAt (wpAny_bind ?_))
 show wpAny _ X.A (do let _ ←comprehension (.ListComp elt [⟨tg,iter,ifs,0⟩] scope pos) scope X.env _ (newList []) false (eval iter X.env) (some (assign (.Name x pos') X.env))) _ _ s
 refine wpAny_bind (wpAny_mono (O4 (QQ:=fun _ s'=>SP X pins D .next s') hcalm S hi hb hsf I hq fun s6 C Dd H7 m6 hn hC h0 hL hc hp inv q=>?_) (fun _ s' z=>wpAny_pure (wpAny_pure z)) fun _ _ z=>z)
 have I6:Inv X pins σ H7 s6:=inv s6.heap ⟨rfl,fun _ _=>rfl⟩
 refine wpAny_assign_Name (JJ I6 hN hix hx (v:=.ref Dd) rfl (fun s7 I7 z3_=>?_) hf)
 obtain ⟨a,sb7,ha⟩:=z3_
 have nCa:C≠a:=by
  rcases ha with z |z
  ·rw [z];exact hL
  ·exact Ne.symm (hc x a z)
 obtain ⟨o,es,ep,e1,e2⟩:=hn
 refine ⟨m6,⟨o,es,ep,(sb7.2 C nCa).trans e1,e2⟩,fun h' sb=>?_⟩
 exact ⟨_,H7,I7.turned (t':=s7.toks) (it:=C) (fun b o hb e=>(sb.2 b hb).trans e) hC hL (.inr h0) hc hp,q⟩
end
section
variable {X:Cx} {E:XK}
def DY:D→HD→Option String
 |.non,_=>some "NoneType"
 |.bl _,_=>some "bool"
 |.int _,_=>some "int"
 |.str _,_=>some "str"
 |.tup _,_=>some "tuple"
 |.loc l,h=>match h[l]? with
  |some (.lst _)=>some "list"
  |_=>none
 |_,_=>none
theorem VE {m:List Addr} {H:Hp} {h:HD} {d:D} {v:V} {t:String} (hr:HR X.K m h H) (r:DV X.K m H d v) (e:DY d h=some t):Eo X.K H v (.type t):=by
 cases d with
 |non=>simp only [DY,Option.some.injEq,DV] at e r;subst e r;exact .non
 |bl b=>simp only [DY,Option.some.injEq,DV] at e r;subst e r;exact .bl _
 |int i=>simp only [DY,Option.some.injEq,DV] at e r;subst e r;exact .int _
 |str x=>simp only [DY,Option.some.injEq,DV] at e r;subst e r;exact .str _
 |tup ds=>simp only [DY,Option.some.injEq,DV] at e r;subst e;obtain ⟨a,vs,rfl,ha,_⟩:=r;exact .tup ha
 |loc l=>
  simp only [DV] at r
  obtain ⟨a,rfl,ha⟩:=r
  simp only [DY] at e
  split at e
  ·rename_i ds el
   cases e
   obtain ⟨vs,hv,_⟩:=hr.cells l _ a el ha
   exact .lst hv
  ·cases e
 |_=>simp [DY] at e
def subL:List (String×String×Bool):=[("NoneType","int",false),("bool","int",true),("int","int",true),("str","int",false),("tuple","int",false),("list","int",false),("NoneType","bool",false),("bool","bool",true),("int","bool",false),("str","bool",false),("tuple","bool",false),("list","bool",false),("NoneType","tuple",false),("bool","tuple",false),("int","tuple",false),("str","tuple",false),("tuple","tuple",true),("list","tuple",false),("NoneType","str",false),("bool","str",false),("int","str",false),("str","str",true),("tuple","str",false),("list","str",false),("NoneType","list",false),("bool","list",false),("int","list",false),("str","list",false),("tuple","list",false),("list","list",true),("dict","int",false),("dict","bool",false),("dict","tuple",false),("dict","str",false),("dict","list",false)]
def Kg (t c:String):Option Bool:=(subL.find? fun p=>p.1==t&&p.2.1==c).map fun p=>p.2.2
theorem VF {K:PySem.W.Frag}:∀p∈subL,PySem.W.kitOne K (.type p.1) (.type p.2.1)=some p.2.2:=by
 unfold subL
 simp only [List.forall_mem_cons]
 exact ⟨rfl,rfl,rfl,rfl,rfl,rfl,rfl,rfl,rfl,rfl,rfl,rfl,rfl,rfl,rfl,rfl,rfl,rfl,rfl,rfl,rfl,rfl,rfl,rfl,rfl,rfl,rfl,rfl,rfl,rfl,rfl,rfl,rfl,rfl,rfl,fun _ h=>nomatch h⟩
theorem O7 {K:PySem.W.Frag} {t c:String} {b:Bool} (h:Kg t c=some b):PySem.W.kitOne K (.type t) (.type c)=some b:=by
 unfold Kg at h
 rw [qaU] at h
 obtain ⟨p,hp,rfl⟩:=h
 have e:=List.find?_some hp
 rw [CF,beq_iff_eq,beq_iff_eq] at e
 rw [←e.1,←e.2]
 exact VF p (Lg hp)
def BA:D→D→HD→Out D:=fun x y h=>match y,DY x h with
 |.ty T,some t=>match Kg t T with
  |some b=>.ok (.bl b) h
  |none=>.stuck
 |_,_=>.stuck
theorem Kh {x:Str} {T:String} {pos:Pos} (hg:Gl X x) (hm:X.mg x=none) (hv:bootBuiltins x=some (.type T)) (hn:x≠"__name__":=by decide) (hd:(x==("__debug__":Str))=false:=by decide):Ev X E (.Name x pos) (mC (.ty T)):=
 Hh (SD (v:=.ty T) hg hm hv rfl hn hd) fun _ _=>by simp [DV]
theorem VG {h h2 h':Heap} {it:Addr} (k:∀b o,h.get? b=some o→h2.get? b=some o) (hit:h.objs.size≤it) (hk:∀b o,b∉[it]→h2.get? b=some o→h'.get? b=some o):∀b o,h.get? b=some o→h'.get? b=some o:=fun b o e=>
 hk b o (by rw [qaI];exact BF (AV (Av e) hit)) (k b o e)
def Gf:D→Option Int
 |.int i=>some i
 |_=>none
def O8:D→HD→Out D:=fun x h=>match BD x h with
 |some ds=>match Ax (ds.map Gf) with
  |some ns=>.ok (.int ns.sum) h
  |none=>.stuck
 |none=>.stuck
theorem O9 {m:List Addr} {H:Hp}:∀{ds:List D} {vs:List V} {ns:List Int},DVs X.K m H ds vs→Ax (ds.map Gf)=some ns→vs=ns.map V.int
 |[],vs,ns,r,e=>by
  simp only [DVs] at r
  simp [Ax] at e
  subst r e
  rfl
 |d::ds,vs,ns,r,e=>by
  simp only [DVs] at r
  obtain ⟨v,w,rfl,rv,rw'⟩:=r
  rw [Bn] at e
  cases d with
  |int i=>
   simp only [Gf,Ax,qaU] at e
   obtain ⟨ns',e1,rfl⟩:=e
   simp only [DV] at rv
   subst rv
   rw [O9 rw' e1]
   rfl
  |_=>simp [Gf,Ax] at e
theorem VH (hc:X.calm=true):DR X (.builtin "all") (fun xs H Q=>∃(p:Addr) (bs:List Bool),xs=[.ref p]∧SqL X.K H p (bs.map V.bl)∧Q (.bl (bs.all id)) H):=by
 intro pins s σ H xs us Q I r h
 obtain ⟨p,bs,rfl,hs,q⟩:=h
 obtain ⟨u,rfl,rx⟩:=En r
 cases rx
 have hh:X.A.in1.handled=none:=I.ok.hd hc
 obtain ⟨its,rv,pl,hz⟩:=I.list hs
 have hl:=rv.length
 rw [CS] at hl
 have hlt:p<s.heap.objs.size:=by obtain ⟨_,e,_⟩:=pl.isList;exact Av e
 have item:∀(i:Nat) (v:Value),its.toArray[i]?=some v→v=.bool (bs.getD i true):=fun i v e=>by
  have e':its[i]?=some v:=by simpa using e
  have hi:i<its.length:=(qa4.mp e').1
  have hn:(bs.map V.bl)[i]?=some (V.bl (bs.getD i true)):=by
   rw [Cb,A8 (by omega)]
   simp [Ej,A8 (show i<bs.length by omega)]
  obtain ⟨u,h1,h2⟩:=rv.get hn
  rw [e'] at h1
  cases h1
  exact h2
 refine call_all_walk (wpAny_pyIter_list pl.isList ?_)
 refine ⟨s.heap.objs.size,[s.heap.objs.size,p],[s.heap.objs.size],its.toArray.size,_,_,fun i=>bs.getD i true,rfl,Walks.list (A:=X.A.in1) hh _ p (BF hlt) its.toArray,⟨⟨_,Bp _ rfl,rfl,rfl⟩,pl.isList.push _⟩,fun i v s' Q' E' e hQ=>?_,fun h' tk hk=>?_⟩
 ·rw [item i v e]
  exact wpAny_truthy_bool hQ
 ·have e:(List.range its.toArray.size).all (fun i=>bs.getD i true)=bs.all id:=by
   rw [A9,←hl]
   apply qaV.mpr
   simp only [qaO,qbG,id]
   constructor
   ·intro h b hb
    obtain ⟨i,hi,rfl⟩:=List.getElem_of_mem hb
    have:=h i hi
    simpa [Ej,A8 hi] using this
   ·intro h i hi
    have:=h bs[i] (Ii hi)
    simpa [Ej,A8 hi] using this
  rw [e]
  exact ⟨.bl _,H,I.kept (VG (fun b o e=>AE _ e) (AK _) hk),rfl,q⟩
def Ht:D→Option Bool
 |.bl b=>some b
 |_=>none
def DZ:D→HD→Out D:=fun x h=>match x with
 |.loc l=>match h[l]? with
  |some (.lst ds)=>match Ax (ds.map Ht) with
   |some bs=>.ok (.bl (bs.all id)) h
   |none=>.stuck
  |_=>.stuck
 |_=>.stuck
theorem Pa {m:List Addr} {H:Hp}:∀{ds:List D} {vs:List V} {bs:List Bool},DVs X.K m H ds vs→Ax (ds.map Ht)=some bs→vs=bs.map V.bl
 |[],vs,ns,r,e=>by
  simp only [DVs] at r
  simp [Ax] at e
  subst r e
  rfl
 |d::ds,vs,ns,r,e=>by
  simp only [DVs] at r
  obtain ⟨v,w,rfl,rv,rw'⟩:=r
  rw [Bn] at e
  cases d with
  |bl i=>
   simp only [Ht,Ax,qaU] at e
   obtain ⟨ns',e1,rfl⟩:=e
   simp only [DV] at rv
   subst rv
   rw [Pa rw' e1]
   rfl
  |_=>simp [Ht,Ax] at e
theorem Mb (hc:X.calm=true):CI X (.builtin "all") (Am DZ):=by
 refine ⟨_,VH hc,fun m H h E ds vs Q hr r q=>FL r q fun d v ev rv q=>?_⟩
 unfold DZ at q
 split at q
 ·rename_i l
  split at q
  ·rename_i xs el
   split at q
   ·rename_i bs eb
    simp only [DV] at rv
    obtain ⟨a,rfl,ha⟩:=rv
    obtain ⟨ws,hv,dv⟩:=hr.cells _ _ a el ha
    have:=Pa dv eb
    subst this
    exact ⟨a,bs,ev,SqL.of hv,Bf hr q (by simp [DV])⟩
   ·exact q.elim
  ·exact q.elim
 ·exact q.elim
def Hu:D→D→HD→Out D:=fun x y h=>match x with
 |.loc l=>match h[l]? with
  |some (.lst ds)=>if ds.length<sizeLine then .ok .non (h.set l (.lst (ds++[y]))) else .stuck
  |_=>.stuck
 |_=>.stuck
def CB:D→HD→Out D:=fun x h=>match x with
 |.loc l=>match h[l]? with
  |some (.lst _)=>.ok x h
  |_=>.stuck
 |_=>.stuck
def Ff (f g:ME):ME:=fun ρ h=>((f ρ h).bind CB).bind fun x h1=>(g ρ h1).bind fun y h2=>Hu x y h2
theorem Ki {o e:Expr} {f g:ME} {apos cpos:Pos} (ho:Ev X E o f) (he:Ev X E e g)
 (hbase:attributeBase o "append" X.env (eval o X.env)=eval o X.env:=by rfl)
 (hfew:((backTo cpos (starEach [e] X.env)).all (fun x=>!x.1)&&(backToKw cpos (keywordEach [] X.env)).all (fun x=>x.1.isSome)
  &&decide ([e].length+([]:List Keyword).length+(if ([]:List Keyword).isEmpty then 0 else 1)<30))=true:=by rfl)
 (hline:(apos.endLine==cpos.line)=true:=by rfl) (hs:starEach [e] X.env=(false,eval e X.env)::starEach [] X.env:=by rfl) (hplain:(backTo cpos (starEach [] X.env)).any (·.1)=false:=by rfl):
 Ev X E (.Call (.Attribute o "append" apos) [e] [] cpos) (Ff f g):=
 B4 (UT PySem.F.plainAttrs_list PySem.F.slot_list_append PySem.F.type_list_append UX ho (Ac he Af hs) hbase hfew hline hs hplain) fun σ H Q z1_=>by
  obtain ⟨m,ρ,h,hr,er,p⟩:=z1_
  refine ⟨m,ρ,h,hr,er,?_⟩
  unfold Ff at p
  rw [Out.bind_assoc] at p
  refine Post.bind p fun x h1 v m1 H1 eo p1 k1 hr1 r1 q1=>?_
  clear eo
  unfold CB at q1
  split at q1
  ·rename_i l
   split at q1
   ·rename_i ds el
    simp only [Out.bind_ok] at q1
    have r1':=r1
    simp only [rD,DV] at r1'
    obtain ⟨a,rfl,ha⟩:=r1'
    obtain ⟨ws,hv,dv⟩:=hr1.cells l _ a el ha
    refine ⟨.inl ⟨rfl,ws,SqL.of hv⟩,m1,ρ,h1,hr1,er.keep p1 k1,?_⟩
    have q2:Post X.K (rD X.K) m1 H1 E Q ((Aa g Ae ρ h1).bind fun ys h2=>match ys with
     |[y]=>Hu (.loc l) y h2
     |_=>.stuck):=by
     unfold Aa Ae
     rw [Out.bind_assoc]
     exact q1
    refine Post.bind q2 fun ys h2 vs m2 H2 eo p2 k2 hr2 r2 q3=>?_
    clear eo
    split at q3
    ·rename_i y
     simp only [Ep,DVs] at r2
     obtain ⟨yv,w,rfl,ry,rfl⟩:=r2
     unfold Hu at q3
     simp only at q3
     split at q3
     ·rename_i ds2 el2
      split at q3
      ·rename_i hz
       have ha2:=IA p2 ha
       obtain ⟨ws2,hv2,dv2⟩:=hr2.cells l _ a el2 ha2
       refine ⟨a,ws2,yv,rfl,rfl,hv2,by rw [←dv2.len];exact hz,?_⟩
       refine q3 .non m2 _ (AG _) (.set hv2 rfl) (hr2.setCell ha2 hv2 rfl ⟨_,B3,?_⟩) (by simp [rD,DV])
       exact (dv2.app (.cons ry .nil)).keep (AG _) (.set hv2 rfl)
      ·exact q3.elim
     ·exact q3.elim
    ·exact q3.elim
   ·exact q1.elim
  ·exact q1.elim
def Hv:D→D→D→HD→Out (Fl×Ai)→Out (Fl×Ai):=fun o i v h k=>match o,i with
 |.loc l,.int n=>match h[l]? with
  |some (.lst ds)=>match Dz ds.length n with
   |some j=>match k with
    |.ok a _=>.ok a (h.set l (.lst (ds.set j v)))
    |_=>.stuck
   |none=>.stuck
  |_=>.stuck
 |_,_=>.stuck
def Kj (fo fi fv:ME):MS:=fun ρ h=>(fv ρ h).bind fun v h1=>(fo ρ h1).bind fun o h2=>(fi ρ h2).bind fun i h3=>Hv o i v h3 (.ok (.nx,ρ) h3)
theorem VI {o i e:Expr} {fo fi fv:ME} {pos pos':Pos} (ho:Ev X E o fo) (hi:Ev X E i fi) (he:Ev X E e fv)
 (ha:∀v,assign (.Subscript o i pos') X.env v=(do
  let ov ←holding [v] (eval o X.env)
  let iv ←holding [v,ov] (eval i X.env)
  standAt pos'
  holding [v,ov,iv] (setItem ov iv v)
  release [v,ov,iv] []):=by intro _;rfl)
 (hs:swapsWithSole [.Subscript o i pos'] e pos.line X.env=pure false:=by rfl) (hw:swappedStores [.Subscript o i pos'] e X.env=pure none:=by rfl)
 (h1:(assignEach [.Subscript o i pos'] X.env).map (·.2)=[assign (.Subscript o i pos') X.env]:=by rfl):Ex X E (.Assign [.Subscript o i pos'] e pos) (Kj fo fi fv):=
 FI (Oc he (Td ho hi UM ha) hs hw h1) fun Dn σ H ⟨m,ρ,h,hr,er,p⟩=>⟨m,ρ,h,hr,er,PostS.bind p fun v h1 vv m1 H1 eo1 p1 k1 hr1 r1 q1=>by
  refine ⟨m1,ρ,h1,hr1,er.keep p1 k1,PostS.bind q1 fun ov h2 vo m2 H2 eo2 p2 k2 hr2 r2 q2=>?_⟩
  refine ⟨m2,ρ,h2,hr2,(er.keep p1 k1).keep p2 k2,PostS.bind q2 fun iv h3 vi m3 H3 eo3 p3 k3 hr3 r3 q3=>?_⟩
  clear eo1 eo2 eo3
  unfold Hv at q3
  split at q3
  ·rename_i l n
   split at q3
   ·rename_i ds el
    split at q3
    ·rename_i j ej
     have ro:=DV.keep p3 k3 r2
     simp only [DV] at ro
     obtain ⟨a,rfl,ha⟩:=ro
     have ri:=r3
     simp only [rD,DV] at ri
     subst ri
     obtain ⟨ws,hv,dv⟩:=hr3.cells l _ a el ha
     refine ⟨a,ws,n,j,rfl,rfl,hv,by rw [←dv.len];exact ej,?_⟩
     have rvv:=DV.keep p3 k3 (DV.keep p2 k2 r1)
     have hr4:HR X.K m3 (h3.set l (.lst (ds.set j v))) (An H3 a (.lst (ws.set j vv))):=hr3.setCell ha hv rfl ⟨_,B3,(dv.set j rvv).keep (AG _) (.set hv rfl)⟩
     exact q3 m3 _ (AG _) (.set hv rfl) hr4 σ ((((er.keep p1 k1).keep p2 k2).keep p3 k3).keep (AG _) (.set hv rfl))
    ·exact q3.elim
   ·exact q3.elim
  ·exact q3.elim⟩
end
def As (n:Nat) (g:MS):List D→HD→Out D:=fun ds h=>(g (ds.map some++List.replicate (n - ds.length) none) h).bind fun x h1=>match x with
 |(.nx,_)=>.ok .non h1
 |(.rt d,_)=>.ok d h1
 |_=>.stuck
open AutoSeq1 (wpAny_loadPart')
section
variable {prog:Program} {w:World} {A:Around} {E:Value→Shared→Prop} {s:Shared}
theorem VJ {it l:Addr} {i:Nat} {items:Array Value} {x:Value} {Q:Value→Shared→Prop} (hit:s.heap.IsTupleIter it l i)
 (hl:s.heap.IsTuple l items) (hx:items[i]?=some x)
 (hQ:∀h',h'.IsTupleIter it l (i+1)→Heap.SameBut it s.heap h'→Q x {s with heap:=h'}):
 wpAny (model prog w) A (Builtin.SmallTypes.nextOf (.ref it)) Q E s:=by
 obtain ⟨o,ho,hc,hd⟩:=id hit
 obtain ⟨ol,hol,_,nl,hdl⟩:=hl
 unfold Builtin.SmallTypes.nextOf
 refine wpAny_bind (wpAny_callSpecial?_slot (name:=Str.ofString "__next__") hit.typeIs F.slot_tuple_iterator_next
  (wpAny_call_entry F.slot_tuple_iterator_next hit.typeIs F.entry_tuple_iterator_next ?_ (F.args_tuple_iterator_next_1 _)))
 show wpAny _ _ (field (.ref it) 0 >>=_) _ _ s
 refine wpAny_bind (wpAny_field ho hd (x:=.ref l) rfl ?_)
 show wpAny _ _ (if (Value.ref l==Value.none)=true then _ else _) _ _ s
 rw [if_neg (show ¬((Value.ref l==Value.none)=true) from Bw)]
 show wpAny _ _ (field (.ref it) 1 >>=_) _ _ s
 refine wpAny_bind (wpAny_field ho hd (x:=.int i 0) rfl ?_)
 show wpAny _ _ (seqItems? (.ref l) >>=_) _ _ s
 refine wpAny_bind (wpAny_seqItems hol hdl ?_)
 simp only [Int.toNat_natCast,hx]
 refine wpAny_bind (wpAny_setField ho hd (by simp) (wpAny_pure ⟨x,rfl,wpAny_pure (hQ _ ?_ (Heap.SameBut.update ..))⟩))
 exact ⟨_,H0 _ ho (Obj.isFreed_of_fields (Obj.data_mapFields hd _)),(Obj.cls_mapFields ..).trans hc,by
  rw [Obj.data_mapFields hd];simp [rawInt]⟩
theorem VL {it l:Addr} {i:Nat} {items:Array Value} {Q:Value→Shared→Prop} (hh:A.handled=none)
 (hit:s.heap.IsTupleIter it l i) (hl:s.heap.IsTuple l items) (hx:items[i]?=none)
 (hE:∀h' e,Heap.ExtBut it s.heap h'→(∃o,h'.get? e=some o∧o.cls=.type "StopIteration")→E (.ref e) {s with heap:=h'}):
 wpAny (model prog w) A (Builtin.SmallTypes.nextOf (.ref it)) Q E s:=by
 obtain ⟨o,ho,hc,hd⟩:=id hit
 obtain ⟨ol,hol,_,nl,hdl⟩:=hl
 unfold Builtin.SmallTypes.nextOf
 refine wpAny_bind (wpAny_callSpecial?_slot (name:=Str.ofString "__next__") hit.typeIs F.slot_tuple_iterator_next
  (wpAny_call_entry F.slot_tuple_iterator_next hit.typeIs F.entry_tuple_iterator_next ?_ (F.args_tuple_iterator_next_1 _)))
 show wpAny _ _ (field (.ref it) 0 >>=_) _ _ s
 refine wpAny_bind (wpAny_field ho hd (x:=.ref l) rfl ?_)
 show wpAny _ _ (if (Value.ref l==Value.none)=true then _ else _) _ _ s
 rw [if_neg (show ¬((Value.ref l==Value.none)=true) from Bw)]
 show wpAny _ _ (field (.ref it) 1 >>=_) _ _ s
 refine wpAny_bind (wpAny_field ho hd (x:=.int i 0) rfl ?_)
 show wpAny _ _ (seqItems? (.ref l) >>=_) _ _ s
 refine wpAny_bind (wpAny_seqItems hol hdl ?_)
 simp only [Int.toNat_natCast,hx]
 refine wpAny_bind (wpAny_rule (wpAny_bind (wpAny_setField ho hd (by simp) ?_)))
 show wpAny _ _ (newExc (.type "StopIteration") [] >>=_) _ _ _
 refine wpAny_bind ?_
 simp only [newExc,newTuple]
 refine wpAny_bind (wpAny_newObj_type ?_ (by size_fits))
 refine wpAny_bind (m:=firstArgMember _ _) (wpAny_of_eq (a:=Value.none) (by first |rfl |(simp only [firstArgMember];rfl)) ?_)
 refine wpAny_newObj_type ?_ (by size_fits)
 simp only [raiseNew]
 refine wpAny_bind (wpAny_handled ?_)
 first |rw [show A.in1.handled=none from hh] |rw [hh]
 refine wpAny_bind (wpAny_pure (wpAny_throw ?_))
 exact hE _ _ (((Heap.SameBut.update ..).extBut.push _).push _) ⟨_,Bp _ rfl,rfl⟩
end
theorem Mc {prog:Program} {w:World} {A:Around} (hh:A.handled=none) (it l:Addr) (hne:l≠it) (items:Array Value):
 Draws prog w A it [it,l] items.size (fun i v=>items[i]?=some v) (fun i h=>h.IsTupleIter it l i∧h.IsTuple l items) where
 live:=fun _ _ st=>let ⟨o,ho,_⟩:=st.1;⟨o,ho⟩
 frame:=fun _ _ _ st hk=>⟨st.1.at fun o e=>hk it (by simp) o e,st.2.at fun o e=>hk l (by simp) o e⟩
 item:=fun i s Q E hi st hQ=>by
  refine VJ st.1 st.2 (x:=items[i]) (by simp [hi]) fun h' hit' hs'=>?_
  exact hQ _ h' s.toks (by simp [hi]) ⟨hit',st.2.extBut hs'.extBut hne⟩ hs'
 done:=fun s Q E st hE=>VL hh st.1 st.2 (by simp) hE
theorem VM (l:Addr) (items:Array Value) (n:Nat) (dct:Option Addr) (sl:Array (Option Value)):
 Meets (Builtin.«enumerate.__new__» ⟨[.type "enumerate",.ref l],[]⟩) (fun _ R s=>s.heap.get? l=some {cls:=.type "tuple",dict:=dct,data:=.seq items n,slots:=sl}∧
  R (.ok (.ret (.ref (s.heap.push {cls:=.type "tuple_iterator",data:=.fields #[.ref l,.int 0 0]}).objs.size)))
    {s with heap:=(s.heap.push {cls:=.type "tuple_iterator",data:=.fields #[.ref l,.int 0 0]}).push {cls:=.type "enumerate",data:=.fields #[.none,.bool false,.ref s.heap.objs.size,rawInt 0,.none,.none]}}):=
 .of_wp fun prog w A R s h=>by
  obtain ⟨hp,g,d,tk,os⟩:=s;obtain ⟨hl,h⟩:=h
  have hsub:=sub_enumerate
  have hL:Heap.IsTuple (Shared.heap ⟨hp,g,d,tk,os⟩) l items:=⟨_,hl,rfl,n,rfl⟩
  wp_walk using wpAny_loadPart' hl
  refine wpAny_stack_any fun st=>wpAny_pure ?_
  split
  ·rename_i c _ _ _ _ _
   cases (c==Value.type "enumerate")
   ·wp_walk using wpAny_loadPart' hl,wpAny_pyIter_tuple hL
    exact ⟨_,rfl,h⟩
   ·wp_walk using wpAny_loadPart' hl,wpAny_pyIter_tuple hL
    exact ⟨_,rfl,h⟩
  ·wp_walk using wpAny_loadPart' hl,wpAny_pyIter_tuple hL
   exact ⟨_,rfl,h⟩
section
variable {prog:Program} {w:World} {A:Around} {E:Value→Shared→Prop} {s:Shared}
theorem VN {l:Addr} {items:Array Value} {Q:Value→Shared→Prop} (hL:s.heap.IsTuple l items)
 (h:∀h',IsEnum h' (s.heap.objs.size+1) s.heap.objs.size 0 .none→h'.IsTupleIter s.heap.objs.size l 0→h'.objs.size=s.heap.objs.size+2→
  (∀b o,s.heap.get? b=some o→h'.get? b=some o)→Q (.ref (s.heap.objs.size+1)) {s with heap:=h'}):
 wpAny (model prog w) A (call (.type "enumerate") [.ref l]) Q E s:=by
 obtain ⟨⟨c,dct,dt,sl⟩,hl,hc,n,hd⟩:=hL
 replace hc:c=.type "tuple":=hc
 replace hd:dt=.seq items n:=hd
 subst hc hd
 refine callType_new F.called_enumerate (by decide) (F.typeCall_enumerate_1 _) (F.newCall_enumerate_1 _) (fun obj=>F.args_object_init_2 obj _) F.entry_enumerate_new
  (VM l items n dct sl) ⟨hl,?_⟩
 have hz:(s.heap.push {cls:=.type "tuple_iterator",data:=.fields #[.ref l,.int 0 0]}).objs.size=s.heap.objs.size+1:=CG ..
 show _∧_
 rw [hz]
 have he:IsEnum ((s.heap.push {cls:=.type "tuple_iterator",data:=.fields #[.ref l,.int 0 0]}).push
  {cls:=.type "enumerate",data:=.fields #[.none,.bool false,.ref s.heap.objs.size,rawInt 0,.none,.none]}) (s.heap.objs.size+1) s.heap.objs.size 0 .none:=by
  have:=Bp (s.heap.push {cls:=.type "tuple_iterator",data:=.fields #[.ref l,.int 0 0]})
   (o:={cls:=.type "enumerate",data:=.fields #[.none,.bool false,.ref s.heap.objs.size,rawInt 0,.none,.none]}) rfl
  rw [hz] at this;exact this
 refine ⟨⟨_,he,rfl⟩,h _ he ⟨_,AE _ (Bp _ rfl),rfl,rfl⟩ (by rw [CG,hz]) fun b o x=>AE _ (AE _ x)⟩
end
def Pb (K:PySem.W.Frag) (t:Addr) (xs:List V):It:=⟨fun i H=>i<xs.length∧SqT K H t xs,fun i H x H'=>∃p v,H p=none∧x=.ref p∧xs[i]?=some v∧H'=An H p (.tup [.int i,v]),fun i H=>i=xs.length∧SqT K H t xs⟩
theorem VO {P:Program} {w:World} {K:PySem.W.Frag} {elts:List Expr} {kt:Nat} {tpos:Pos} (e it t:Addr) (hei:e≠it) (hte:t≠e) (hti:t≠it) (xs:List V):
 FC P w K (.Tuple elts kt tpos) (Pb K t xs) [e,it] e (fun i h=>(∃old,IsEnum h e it i old)∧h.IsTupleIter it t i) where
 mem:=by simp
 obj:=fun i h st b hb=>by
  obtain ⟨⟨old,h1⟩,o,h2,hc,hd⟩:=st
  rcases qa8.mp hb with z |z
  ·subst z;exact ⟨_,h1,fun v z=>by cases z⟩
  ·rw [qaI] at z
   subst z
   exact ⟨o,h2,fun v z=>by rw [hd] at z;cases z⟩
 keep:=fun i h h' st k=>by
  obtain ⟨⟨old,h1⟩,h2⟩:=st
  exact ⟨⟨old,k e (by simp) _ h1⟩,h2.at fun o z=>k it (by simp) o z⟩
 item:=by
  intro X hP hw hK hc i pins s σ H E I hf st hg
  subst hP hw hK
  obtain ⟨⟨old,he⟩,hit⟩:=st
  obtain ⟨hi,hq⟩:=hg
  obtain ⟨its,rv,p,hz⟩:=I.tuple hq
  have hT:s.heap.IsTuple t its.toArray:=p
  have hl:=rv.length
  obtain ⟨e0,e1,e2,e3,e4,e5⟩:=hf e (by simp)
  obtain ⟨i0,i1,i2,i3,i4,i5⟩:=hf it (by simp)
  have hx:xs[i]?=some xs[i]:=A8 hi
  refine wpAny_pyNext_enum_itemD (Mc (A:=X.A.in1) (I.ok.hd hc) it t hti its.toArray) he ⟨hit,hT⟩ (by rw [A9];omega) hei (by simp [hei,Ne.symm hte]) fun x h1 tk hPx ho hs1 hTup hsz hk=>?_
  obtain ⟨u,hu,ru⟩:=rv.get hx
  have hux:u=x:=by
   have:its[i]?=some x:=by simpa using hPx
   rw [hu] at this
   exact Option.some.inj this
  subst hux
  refine ⟨.ref s.heap.objs.size,rfl,wpAny_letOwnedTupleGo_enum ho fun h2 he2 sb=>?_⟩
  have hfr:H s.heap.objs.size=none:=I.hok.fresh (AK _)
  have kk:∀b o,b∉[e,it]→s.heap.get? b=some o→h2.get? b=some o:=fun b o hb z=>by
   have n1:b≠e:=fun q=>hb (by simp [q])
   have n2:b≠it:=fun q=>hb (by simp [q])
   exact (sb.2 b n1).trans (hk b o n1 n2 z)
  have na:s.heap.objs.size≠e:=Fe (Av he)
  have hnew:h2.get? s.heap.objs.size=some {cls:=.type "tuple",data:=.seq #[.int i tk,u]}:=(sb.2 _ na).trans hTup
  have ntr:∀b w,H b=some w→b∉[e,it]:=fun b w z hb=>by
   rcases qa8.mp hb with q |q
   ·rw [q,e0] at z;cases z
   ·rw [qaI.mp q,i0] at z;cases z
  have nal:∀b o,s.heap.get? b=some o→b≠s.heap.objs.size:=fun b o z=>BF (Av z)
  have it2:h2.IsTupleIter it t (i+1):=by
   obtain ⟨o,q,r⟩:=hs1.1
   exact ⟨o,(sb.2 it (Ne.symm hei)).trans q,r⟩
  refine ⟨.ref s.heap.objs.size,An H s.heap.objs.size (.tup [.int i,xs[i]]),?_,rfl,⟨s.heap.objs.size,xs[i],hfr,rfl,hx,rfl⟩,⟨⟨u,he2⟩,it2⟩,fun b hb=>?_⟩
  ·show Inv X pins σ _ {s with heap:=h2,gens:=s.gens,drawn:=s.drawn,toks:=tk+1}
   refine I.step (g':=s.gens) (d':=s.drawn) (t':=tk+1) (h':=h2) (ch:=[e,it]) (fun b hb=>?_) (fun b o _ _ hc z _=>kk b o hc z) (fun b o _ _ hc z _=>⟨o.slots,kk b o hc z⟩) (fun b o _ z n=>by rw [Ao (nal b o z)];exact n)
    (fun b o hc z=>⟨o,kk b o hc z⟩) (fun b ys z=>by rw [Ao (Bz z hfr)];exact z) (fun b o u z=>by rw [Ao (Bz z hfr)];exact z) (fun b ps z=>⟨#[],by rw [Ao (Bz z hfr),z];simp⟩) (fun m hm=>?_) (fun b w z=>?_) I.bare
   ·rcases qa8.mp hb with q |q
    ·subst q;exact ⟨e3,e1,e4,e5⟩
    ·rw [qaI] at q;subst q;exact ⟨i3,i1,i4,i5⟩
   ·obtain ⟨o,es,ep,q,r⟩:=hm
    exact ⟨o,es,ep,kk _ o (by simp [Ne.symm e1,Ne.symm i1]) q,r⟩
   ·by_cases hb:b=s.heap.objs.size
    ·subst hb
     rw [B3] at z
     cases z
     exact ⟨by simp only [E5,Fz];rw [sizeLine_eq];decide,[.int i tk,u],.cons ⟨tk,rfl⟩ (.cons ru .nil),⟨_,hnew,rfl,0,rfl⟩,fun o e=>by rw [hnew] at e;cases e;rfl⟩
    ·rw [Ao hb] at z
     refine (I.hok b w z).stay (fun c v hc q=>kk c v ?_ q) (fun c q=>by rw [Ao (Bz q hfr)];exact q) fun c ys q=>by rw [Ao (Bz q hfr)];exact q
     rcases hc with rfl |hc
     ·exact ntr c _ z
     ·exact ntr c _ hc
  ·have nb:b≠s.heap.objs.size:=by
    rcases qa8.mp hb with q |q
    ·rw [q];exact na.symm
    ·rw [qaI.mp q]
     obtain ⟨o,z,_⟩:=hit
     exact nal _ _ z
   rw [Ao nb]
   exact (hf b hb).1
 done:=by
  intro X hP hw hK hc i pins s σ H E I hf st hg
  subst hP hw hK
  obtain ⟨⟨old,he⟩,hit⟩:=st
  obtain ⟨hi,hq⟩:=hg
  obtain ⟨its,rv,p,hz⟩:=I.tuple hq
  have hT:s.heap.IsTuple t its.toArray:=p
  have hl:=rv.length
  obtain ⟨i0,i1,i2,i3,i4,i5⟩:=hf it (by simp)
  have hin:i=its.toArray.size:=by rw [A9];omega
  refine wpAny_pyNext_enum_endD (Mc (A:=X.A.in1) (I.ok.hd hc) it t hti its.toArray) he (hin ▸ ⟨hit,hT⟩) fun h' eb=>⟨rfl,I.turned (t':=s.toks) (fun b o hb z=>eb b o hb z) i0 i1 i3 i4 i5⟩
 self:=fun A i s Q E st h=>by
  obtain ⟨⟨old,he⟩,_⟩:=st
  exact wpAny_pyIter_enum he h
section
variable {X:Cx} {E:XK}
def D0 (ds:List D):List D:=ds.mapIdx fun i d=>.tup [.int (i:Nat),d]
def Pc:List D→HD→Out (List D×A0):=fun ds h=>match ds with
 |[.tup xs]=>.ok (D0 xs,[]) h
 |_=>.stuck
def Pd (fa:MA):MI:=fun ρ h=>(fa ρ h).bind Pc
end
end LS
namespace LS
open PySem PySem.Spec PyProof.Rows L2
section
variable {prog:Program} {w:World} {A:Around} {E:Value→Shared→Prop} {s:Shared}
end
section
variable {X:Cx} {E:XK} {e:Expr} {f:ME}
def Md:D→HD→Out D:=fun x h=>match x with
 |.tup [a,b]=>.ok (.tup [b,a]) h
 |_=>.stuck
def Pe (f:ME):ME:=fun ρ h=>(f ρ h).bind Md
end
structure CSc (X:Cx) (scope:Scope) (Nc:List Str) (cs:List (Option Nat)):Prop where
 kind:scope.kind=.function
 loc:(scope.names.all fun y=>y.2 != .local||scope.names.lookup y.1==some .local)=true
 free:(scope.names.all fun y=>y.2 != .free||(X.env.kindOf y.1==some .cell||X.env.kindOf y.1==some .free))=true
 nd:(scope.names.map (·.1)).Nodup
 len:cs.length=Nc.length
 out:((Nc.zip cs).all fun p=>match p.2 with
  |none=>true
  |some j=>X.N[j]?==some p.1&&scope.names.lookup p.1==some .free)=true
theorem CSc.ok {X:Cx} {scope:Scope} {Nc:List Str} {cs:List (Option Nat)} (S:CSc X scope Nc cs):Fd X scope Nc cs:=by
 refine ⟨S.kind,fun y hy e=>?_,fun y hy e=>?_,S.nd,S.len,fun i x j h1 h2=>?_⟩
 ·have:=qaO.mp S.loc y hy
  rw [e] at this
  simpa using this
 ·have:=qaO.mp S.free y hy
  rw [e] at this
  simpa using this
 ·have hz:(Nc.zip cs)[i]?=some (x,some j):=by
   rw [List.getElem?_zip_eq_some]
   exact ⟨h1,h2⟩
  have:=qaO.mp S.out (x,some j) (Fw hz)
  simpa using this
structure Dn (K:PySem.W.Frag) (mg:Str→Option Value) (x:Str) (ps:List Str) (st:Stmt) (f:Addr) (fd:FuncData):Prop where
 fn:Fun K x x st f fd
 bd:Binds K fd ps []
 mg:mg x=some (.ref f)
section
variable {X:Cx} {E:XK}
theorem Pf {a:Expr} {f:ME} {pos:Pos} (ha:Ev X E a f):Ev X E (.UnaryOp .USub a pos) (fun ρ h=>(f ρ h).bind fun x h1=>match x with
 |.int i=>.ok (.int (-i)) h1
 |_=>.stuck):=
 B4 (Tx TH ha) fun σ H Q z1_=>by obtain ⟨m,ρ,h,hr,er,p⟩:=z1_;exact (⟨m,ρ,h,hr,er,Post.bind p fun x h1 v m1 H1 eo p1 k1 hr1 r1 q1=>by
  clear eo
  split at q1
  ·simp only [rD,DV] at r1
   subst r1
   exact ⟨_,rfl,Bf hr1 q1 (by simp [DV])⟩
  ·exact q1.elim⟩)
def Kk (f:ME):ME:=fun ρ h=>(f ρ h).bind fun x h1=>match x with
    |.int i=>.ok (.int (-i)) h1
    |_=>.stuck
theorem Hw {i j:Nat} {x y:Str} {px py tp:Pos} {kt:Nat} (hc:X.calm=true) (h1:PG X (.Name x px) (Co i)) (h2:PG X (.Name y py) (Co j)):PG X (.Tuple [.Name x px,.Name y py] kt tp) (F6 X.K 2 (Dy (Co i) (Dy (Co j) F5))):=
 Lu hc (FB h1 (FB h2 Ls))
end
def CMl (i j:Int):Prop:=CMul i j∨(Builtin.Int.intBits i≤16777216∧Builtin.Int.intBits j≤16777216)
instance (i j:Int):Decidable (CMl i j):=by unfold CMl;infer_instance
theorem CMl.ok {i j:Int} (h:CMl i j):IntMulOk i j:=by
 rcases h with h |⟨h1,h2⟩
 ·exact h.ok
 ·unfold IntMulOk
  intro z
  simp only [CF,decide_eq_true_eq] at z
  have:=z.2
  unfold Builtin.Int.intTooBig at this
  simp only [decide_eq_true_eq] at this
  have hb:(bitsLine:Int)=134217728:=by first |rfl |decide
  omega
variable {X:Cx}
theorem op_mul':OpR X (binaryOp .Mult) (rI CMl fun i j=>.int (i*j)):=JN fun _ _ _ _ _ _ _ hc q=>mul_int q hc.ok
def Dm:D→D→HD→Out D
 |.int i,.int j,h=>if CMl i j then .ok (.int (i*j)) h else .stuck
 |.loc l,.int k,h=>match h[l]? with
  |some (.lst xs)=>if -(2^63)≤k∧k<2^63 then Cp (List.replicate k.toNat xs).flatten h else .stuck
  |_=>.stuck
 |_,_,_=>.stuck
theorem VP:BB X (binaryOp .Mult) Dm:=by
 refine ⟨_,op_mul'.or U0,fun m H h E x y v u Q hr rx ry q=>?_⟩
 unfold Dm at q
 split at q
 ·simp only [DV] at rx ry
  subst rx ry
  split at q
  ·rename_i hc
   exact .inl ⟨_,_,rfl,rfl,hc,Bf hr q (by simp [DV])⟩
  ·exact q.elim
 ·simp only [DV] at rx ry
  obtain ⟨a,rfl,ha⟩:=rx
  subst ry
  split at q
  ·rename_i k _ xs e
   split at q
   ·rename_i hk
    obtain ⟨vs,h1,d1⟩:=hr.cells _ _ a e ha
    obtain ⟨z,q'⟩:=Hm hr (d1.rep k.toNat) q
    refine .inr ⟨a,k,vs,rfl,rfl,h1,hk.1,hk.2,?_,q'⟩
    rw [JT] at z
    rw [Nat.mul_comm];exact z
   ·exact q.elim
  ·exact q.elim
 ·exact q.elim
end LS
namespace Att
open PySem PySem.W PySem.Calls PyProof.Rows
theorem VQ {ns:List Int} (h:WData.layable (.list (ns.map WData.int))=true):∀n∈ns,Builtin.Int.intBits n≤2^20:=by
 have hw:WData.weight (.list (ns.map WData.int))≤2^20:=(layableW_iff.mp h).2.2
 have key:∀(ns:List Int) (b:Nat),WData.weightAll (ns.map WData.int)≤b→∀n∈ns,Builtin.Int.intBits n≤b:=by
  intro ns
  induction ns with
  |nil=>intro b _ n hn;cases hn
  |cons m r ih=>
   intro b hb n hn
   have e:WData.weightAll ((m::r).map WData.int)=Builtin.Int.intBits m+1+WData.weightAll (r.map WData.int):=by
    simp only [Bn,WData.weightAll,WData.weight]
    rfl
   rw [e] at hb
   rcases qa8.mp hn with z |z
   ·subst z;omega
   ·exact ih b (by omega) n z
 exact key ns _ (by simpa only [WData.weight] using hw)
theorem attach_bits {l:OpenLaw} {n:Nat} {q:Program} {loose:List Str} {XP:(Str→Option Value)→Heap→Prop} {YP:World→Heap→Prop} {d:DefRec}
 (hn:l.most=some n) (hdf:d.params.defaults=[])
 (call:∀(w:World) (s₀ s₁:Shared) (mg mb:Str→Option Value) (fa:Addr) (o:Obj) (pm cd doc:Value) (a:Addr) (vs:List Value) (ns:List Int),(∀n∈ns,Builtin.Int.intBits n≤2^20)→
  Ground q loose [] XP w s₀ mg mb s₁.heap→YP w s₁.heap→
  s₁.heap.get? fa=some o→o.data=.func (docDef d.name d.params d.body d.scope pm cd doc)→s₁.heap.CodeRec cd d.name→mg d.name=some (.ref fa)→
  s₁.heap.get? a=some {cls:=.type "list",data:=.seq vs.toArray}→IntsAre vs ns→ns.length≤n→s₁.gens=#[]→
  codeAny (model l.prog w) callerA (.call (.ref fa) ⟨[.ref a],[]⟩) (fun r s'=>r=.ok (.ret (.bool true))∧OldK s₁.heap s'.heap∧s'.os=s₁.os∧AllBare s'.gens) s₁):
 WalkO q loose XP YP l.row.toRowW d [] (fun f vs=>PySem.call f vs):=by
 intro w s₀ s₁ mg mb G Y fa o pm cd doc dV kV ho hd hcd hD hmg hg args vals as hpre hlay hrd hwl hlo
 obtain rfl:dV=.none:=Dflts.none hD hdf
 obtain rfl:kV=.none:=Dflts.noKw hD
 obtain ⟨a,vs,ns,rfl,rfl,hobj,hints,hlen⟩:=U2 hn hpre hwl
 have hb:=VQ (layableW_arg hlay _ AO)
 refine enter_call (codeAny_mono (call w s₀ s₁ mg mb fa o pm cd doc a vs ns hb G Y ho (fd_plain hd) hcd hmg hobj hints hlen hg) fun r s' hq=>?_)
 obtain ⟨rfl,h2,h3,h4⟩:=hq
 exact ⟨.inl ⟨.bool true,.bool true,[],rfl,fun _=>rfl,.bool true,U3 l _,fun _=>⟨List.Pairwise.nil,fun _ hm=>(nomatch hm)⟩⟩,h2,h3,h4⟩
end Att
namespace LS
open PySem PySem.Spec PyProof.Rows L2
def Wp {α:Type} (o:Out α) (Q:α→HD→Prop):Prop:=match o with
 |.ok a h=>Q a h
 |_=>False
section
variable {α β:Type} {o:Out α} {Q Q':α→HD→Prop}
@[simp] theorem Bt (a:α) (h:HD):Wp (.ok a h) Q=Q a h:=rfl
@[simp] theorem Zbh:Wp .stuck Q=False:=rfl
theorem Au {o':Out α} (e:o=o') (h:Wp o' Q):Wp o Q:=e ▸ h
theorem AC {k:α→HD→Out β} {Q:β→HD→Prop}:Wp (o.bind k) Q=Wp o fun a h=>Wp (k a h) Q:=by cases o<;>rfl
theorem Wp.mono (h:Wp o Q) (f:∀a h,Q a h→Q' a h):Wp o Q':=by
 cases o with
 |ok a h'=>exact f _ _ h
 |_=>exact h.elim
theorem Wp.ex (h:Wp o Q):∃a h',o=.ok a h'∧Q a h':=by
 cases o with
 |ok a h'=>exact ⟨a,h',rfl,h⟩
 |_=>exact h.elim
end
def Sm (h h':HD):Prop:=∀(l:Nat) (c:Cell),h[l]?=some c→h'[l]?=some c
theorem Sm.refl (h:HD):Sm h h:=fun _ _ e=>e
theorem Sm.trans {h h1 h2:HD} (a:Sm h h1) (b:Sm h1 h2):Sm h h2:=fun l c e=>b l c (a l c e)
theorem Sm.app (h t:HD):Sm h (h++t):=fun l c e=>by
 rw [E3 (qa4.mp e).1];exact e
def Pu {α:Type} (o:Out α) (h:HD) (a:α):Prop:=Wp o fun x h'=>x=a∧Sm h h'
section
variable {α β:Type} {o:Out α} {h:HD} {a:α}
theorem Pu.wp {Q:α→HD→Prop} (p:Pu o h a) (k:∀h',Sm h h'→Q a h'):Wp o Q:=Wp.mono p fun x h' z1_=>by obtain ⟨e,s⟩:=z1_;subst e;exact k h' s
theorem Pu.ok:Pu (.ok a h) h a:=⟨rfl,.refl _⟩
theorem Pu.bind {k:α→HD→Out β} {b:β} (p:Pu o h a) (q:∀h',Sm h h'→Pu (k a h') h' b):Pu (o.bind k) h b:=by
 unfold Pu
 rw [AC]
 exact p.wp fun h' s=>Wp.mono (q h' s) fun x h2 z2_=>by obtain ⟨e,s2⟩:=z2_;exact (⟨e,s.trans s2⟩)
theorem Pu.noErr (p:Pu o h a):Pu (noErr o) h a:=by
 obtain ⟨x,h',e,q⟩:=Wp.ex p
 rw [e];exact q
end
def Pg (i j:Nat) (ρ:Ai) (ds:List D) (h:HD):Out (Fl×Ai):=match ds with
 |[x,y]=>.ok (.nx,(ρ.set i (some x)).set j (some y)) h
 |_=>.stuck
def Ph (o:Option Ai) (h:HD):Out (Fl×Ai):=match o with
 |some ρ1=>.ok (.nx,ρ1) h
 |none=>.stuck
def Kl (g:HD→Out D) (x:D) (h:HD):Out D:=match x with
 |.bl true=>g h
 |.bl false=>.ok (.bl false) h
 |_=>.stuck
def Me (g:HD→Out D) (x:D) (h:HD):Out D:=match x with
 |.bl true=>.ok (.bl true) h
 |.bl false=>g h
 |_=>.stuck
def Pk (x:D) (h:HD):Out D:=match x with
 |.bl b=>.ok (.bl (!b)) h
 |_=>.stuck
def Pl (x:D) (h:HD):Out D:=match x with
 |.int i=>.ok (.int (-i)) h
 |_=>.stuck
@[simp] theorem Zbi {i j:Nat} {ρ:Ai} {x y:D} {h:HD} {Q:Fl×Ai→HD→Prop}:Wp (Pg i j ρ [x,y] h) Q=Q (.nx,(ρ.set i (some x)).set j (some y)) h:=rfl
@[simp] theorem Zbj {ρ:Ai} {h:HD} {Q:Fl×Ai→HD→Prop}:Wp (Ph (some ρ) h) Q=Q (.nx,ρ) h:=rfl
@[simp] theorem Zbk {g:HD→Out D} {h:HD}:Kl g (.bl true) h=g h:=rfl
@[simp] theorem Zbl {g:HD→Out D} {h:HD}:Kl g (.bl false) h=.ok (.bl false) h:=rfl
@[simp] theorem Zbm {g:HD→Out D} {h:HD}:Me g (.bl true) h=.ok (.bl true) h:=rfl
@[simp] theorem Zbn {g:HD→Out D} {h:HD}:Me g (.bl false) h=g h:=rfl
@[simp] theorem Zbo {b:Bool} {h:HD}:Pk (.bl b) h=.ok (.bl (!b)) h:=rfl
@[simp] theorem Zbp {i:Int} {h:HD}:Pl (.int i) h=.ok (.int (-i)) h:=rfl
def Mf (g:MS) (Q:Fl×Ai→HD→Prop):Fl×Ai→HD→Prop
 |(.nx,ρ),h=>Wp (g ρ h) Q
 |y,h=>Q y h
def Hx (Q:D→HD→Prop):Fl×Ai→HD→Prop
 |(.nx,_),h=>Q .non h
 |(.rt d,_),h=>Q d h
 |_,_=>False
section
variable {ρ:Ai} {h:HD} {Q:Fl×Ai→HD→Prop} {QB:D→HD→Prop} {g g1 g2:MS} {f:ME} {t:MT}
@[simp] theorem Aj:Mf g Q (.nx,ρ) h=Wp (g ρ h) Q:=rfl
@[simp] theorem Zbq {d:D}:Mf g Q (.rt d,ρ) h=Q (.rt d,ρ) h:=rfl
@[simp] theorem Zbr:Hx QB (.nx,ρ) h=QB .non h:=rfl
@[simp] theorem Zbs {d:D}:Hx QB (.rt d,ρ) h=QB d h:=rfl
@[simp] theorem CC:Wp (Ak g1 g2 ρ h) Q=Wp (g1 ρ h) (Mf g2 Q):=by
  unfold Ak
  rw [AC]
  congr 1
  funext x h'
  obtain ⟨fl,ρ1⟩:=x
  cases fl<;>rfl
theorem Bu {n:Nat} {ds:List D}:Wp (As n g ds h) QB=Wp (g (ds.map some++List.replicate (n - ds.length) none) h) (Hx QB):=by
 unfold As
 rw [AC]
 congr 1
 funext x h'
 obtain ⟨fl,ρ1⟩:=x
 cases fl<;>rfl
@[simp] theorem Zbt:Wp (Br ρ h) Q=Q (.nx,ρ) h:=rfl
@[simp] theorem Zbu:Wp (Dj f ρ h) Q=Wp (f ρ h) fun _ h1=>Q (.nx,ρ) h1:=by unfold Dj;rw [AC];rfl
@[simp] theorem Zbv:Wp (AM f ρ h) Q=Wp (f ρ h) fun d h1=>Q (.rt d,ρ) h1:=by unfold AM;rw [AC];rfl
@[simp] theorem VR {i:Nat}:Wp (AA i f ρ h) Q=Wp (f ρ h) fun d h1=>Q (.nx,ρ.set i (some d)) h1:=by unfold AA;rw [AC];rfl
@[simp] theorem Zbw:Wp (Bo t g1 g2 ρ h) Q=Wp (t ρ h) fun b h1=>Wp (if b=true then g1 ρ h1 else g2 ρ h1) Q:=by unfold Bo;rw [AC]
@[simp] theorem Zbx {i j:Nat} {fa:MA}:Wp (FM i j fa ρ h) Q=Wp (fa ρ h) fun ds h1=>Wp (Pg i j ρ ds h1) Q:=by unfold FM;rw [AC];rfl
@[simp] theorem Zby {sg:MG}:Wp (FN sg f ρ h) Q=Wp (f ρ h) fun d h1=>Wp (Ph (sg d ρ) h1) Q:=by unfold FN;rw [AC];rfl
@[simp] theorem Zbz {fo fi fv:ME}:Wp (Kj fo fi fv ρ h) Q=Wp (fv ρ h) fun v h1=>Wp (fo ρ h1) fun o h2=>Wp (fi ρ h2) fun i h3=>Wp (Hv o i v h3 (.ok (.nx,ρ) h3)) Q:=by
  unfold Kj;simp only [AC]
end
section
variable {ρ:Ai} {h:HD} {Q:D→HD→Prop} {QB:Bool→HD→Prop} {QA:List D→HD→Prop} {f g k:ME} {t u:MT} {fa:MA} {op op':D→D→HD→Out D} {F:List D→HD→Out D}
@[simp] theorem Km {d:D} {r:Ai}:Wp (Ab 0 (some d::r) h) Q=Q d h:=rfl
@[simp] theorem Kn {i:Nat} {x:Option D} {r:Ai}:Wp (Ab (i+1) (x::r) h) Q=Wp (Ab i r h) Q:=rfl
@[simp] theorem ZbA {d:D}:Wp (mC d ρ h) Q=Q d h:=rfl
@[simp] theorem Ko:Wp (Ah op f g ρ h) Q=Wp (f ρ h) fun x h1=>Wp (g ρ h1) fun y h2=>Wp (op x y h2) Q:=by unfold Ah;simp only [AC]
@[simp] theorem Pm:Wp (Ag F fa ρ h) Q=Wp (fa ρ h) fun ds h1=>Wp (F ds h1) Q:=by unfold Ag;rw [AC]
@[simp] theorem Mg:Wp (Ae ρ h) QA=QA [] h:=rfl
@[simp] theorem Pn:Wp (Aa f fa ρ h) QA=Wp (f ρ h) fun x h1=>Wp (fa ρ h1) fun xs h2=>QA (x::xs) h2:=by unfold Aa;simp only [AC];rfl
@[simp] theorem ZbB:Wp (A2 fa ρ h) Q=Wp (fa ρ h) fun xs h1=>Wp (if xs.length≤sizeLine then .ok (.tup xs) h1 else .stuck) Q:=by unfold A2;simp only [AC]
@[simp] theorem ZbC:Wp (BC fa ρ h) Q=Wp (fa ρ h) fun xs h1=>Wp (Cp xs h1) Q:=by unfold BC;simp only [AC]
@[simp] theorem Mh:Wp (Bk f ρ h) QB=Wp (f ρ h) fun x h1=>Wp (IB x h1) QB:=by unfold Bk;rw [AC]
@[simp] theorem ZbD:Wp (CA f ρ h) QB=Wp (f ρ h) fun x h1=>Wp (Ew x h1) QB:=by unfold CA;rw [AC]
@[simp] theorem ZbE:Wp (CW t ρ h) QB=Wp (t ρ h) fun b h1=>QB (!b) h1:=by unfold CW;rw [AC];rfl
@[simp] theorem ZbF:Wp (JW t u ρ h) QB=Wp (t ρ h) fun b h1=>Wp (if b=true then u ρ h1 else .ok false h1) QB:=by unfold JW;rw [AC]
@[simp] theorem ZbG:Wp (DU t u ρ h) QB=Wp (t ρ h) fun b h1=>Wp (if b=true then .ok true h1 else u ρ h1) QB:=by unfold DU;rw [AC]
@[simp] theorem ZbH:Wp (Ey f g ρ h) Q=Wp (f ρ h) fun x h1=>Wp (Kl (g ρ) x h1) Q:=by unfold Ey;rw [AC];rfl
@[simp] theorem ZbI:Wp (OK f g ρ h) Q=Wp (f ρ h) fun x h1=>Wp (Me (g ρ) x h1) Q:=by unfold OK;rw [AC];rfl
@[simp] theorem ZbJ:Wp (J1 f ρ h) Q=Wp (f ρ h) fun x h1=>Wp (Pk x h1) Q:=by unfold J1;rw [AC];rfl
@[simp] theorem ZbK:Wp (Kk f ρ h) Q=Wp (f ρ h) fun x h1=>Wp (Pl x h1) Q:=by unfold Kk;rw [AC];rfl
@[simp] theorem ZbL:Wp (J2 t f g ρ h) Q=Wp (t ρ h) fun b h1=>Wp (if b=true then f ρ h1 else g ρ h1) Q:=by unfold J2;rw [AC]
@[simp] theorem ZbM:Wp (Hk op op' f g k ρ h) Q=Wp (f ρ h) fun x h1=>Wp (g ρ h1) fun y h2=>Wp (op x y h2) fun z h3=>Wp (Kl (fun h=>(k ρ h).bind fun w h4=>op' y w h4) z h3) Q:=by unfold Hk;simp only [AC];rfl
@[simp] theorem ZbN:Wp (Pe f ρ h) Q=Wp (f ρ h) fun x h1=>Wp (Md x h1) Q:=by unfold Pe;rw [AC]
@[simp] theorem ZbO:Wp (Ff f g ρ h) Q=Wp (f ρ h) fun x h1=>Wp (CB x h1) fun x h1=>Wp (g ρ h1) fun y h2=>Wp (Hu x y h2) Q:=by unfold Ff;simp only [AC]
@[simp] theorem ZbP:Wp (BM ρ h) QB=QB true h:=rfl
theorem Bi {xs:List D} (hn:xs.length≤sizeLine) (q:∀l h',Sm h h'→h'[l]?=some (.lst xs)→l=h.length→h'=h++[.lst xs]→Q (.loc l) h'):Wp (Cp xs h) Q:=by
 unfold Cp
 rw [if_pos hn]
 exact q h.length _ (.app _ _) (by simp) rfl rfl
end
section
variable {ρ:Ai} {h:HD} {QI:(List D×A0)→HD→Prop} {f:ME} {fa:MA}
@[simp] theorem ZbQ:Wp (Cr f ρ h) QI=Wp (f ρ h) fun d h1=>Wp (Hn d h1) QI:=by unfold Cr;rw [AC]
@[simp] theorem ZbR:Wp (Cg fa ρ h) QI=Wp (fa ρ h) fun d h1=>Wp (Ho d h1) QI:=by unfold Cg;rw [AC]
@[simp] theorem ZbS:Wp (EB fa ρ h) QI=Wp (fa ρ h) fun d h1=>Wp (Hq d h1) QI:=by unfold EB;rw [AC]
@[simp] theorem ZbT:Wp (Pd fa ρ h) QI=Wp (fa ρ h) fun d h1=>Wp (Pc d h1) QI:=by unfold Pd;rw [AC]
theorem EF {n:Nat} (hn:n≤1000):Ho [.int (n:Int)] h=.ok ((List.range n).map fun k=>D.int ((k:Nat):Int),[]) h:=by
 have:(-(2^62):Int)≤(n:Int)∧(n:Int)<2^62:=by omega
 unfold Ho
 simp only
 rw [if_pos this]
 simp [FP]
end
theorem Mi {α:Type} {src:A0} {items:List D} {sg:MG} {t:MT} {f:ME} {ρc:Ai} (φ:α→D) (g:α→Bool) (e:α→D) (ρ1:α→Ai):
 ∀(xs:List α) (h:HD),(∀h',Sm h h'→BE src items h')→(∀x∈xs,sg (φ x) ρc=some (ρ1 x))→(∀x∈xs,∀h',Sm h h'→Pu (t (ρ1 x) h') h' (g x))→(∀x∈xs,g x=true→∀h',Sm h h'→Pu (f (ρ1 x) h') h' (e x))→
  Pu (Dl src items sg t f ρc (xs.map φ) h) h ((xs.filter g).map e)
 |[],h,hs,_,_,_=>by
  simp only [F0,List.filter_nil,Dl]
  rw [if_pos (hs h (.refl _))]
  exact .ok
 |x::xs,h,hs,hg,ht,hf=>by
  simp only [Bn,Dl]
  rw [if_pos (hs h (.refl _)),hg x AO]
  simp only
  refine Pu.bind (ht x AO h (.refl _)).noErr fun h1 s1=>?_
  have ih:∀h2,Sm h h2→Pu (Dl src items sg t f ρc (xs.map φ) h2) h2 ((xs.filter g).map e):=fun h2 s2=>Mi φ g e ρ1 xs h2 (fun h' s'=>hs h' (s2.trans s'))
   (fun y hy=>hg y (A1 _ hy)) (fun y hy h' s'=>ht y (A1 _ hy) h' (s2.trans s')) (fun y hy gy h' s'=>hf y (A1 _ hy) gy h' (s2.trans s'))
  cases hgx:g x with
  |false=>
   rw [if_neg Bw,Lj (by simp [hgx])]
   exact ih h1 s1
  |true=>
   rw [if_pos rfl,Lk hgx]
   refine Pu.bind (hf x AO hgx h1 s1).noErr fun h2 s2=>?_
   exact Pu.bind (ih h2 (s1.trans s2)) fun h3 _=>.ok
theorem Do {α:Type} {xs:List α}:xs.filter (fun _=>true)=xs:=List.filter_eq_self.mpr fun _ _=>rfl
section
variable {α:Type} {cs:List (Option Nat)} {it:MI} {sg:MG} {t:MT} {f:ME} {ρ:Ai} {h:HD} {src:A0} {xs:List α} {φ:α→D}
theorem FQ {Q:D→HD→Prop} (g:α→Bool) (e:α→D) (ρ1:α→Ai) (hi:Wp (it ρ h) fun x h'=>x=(xs.map φ,src)∧Sm h h'∧∀h2,Sm h' h2→BE src (xs.map φ) h2) (hn:xs.length≤sizeLine)
 (hg:∀x∈xs,sg (φ x) (CK cs ρ)=some (ρ1 x)) (ht:∀x∈xs,∀h',Sm h h'→Pu (t (ρ1 x) h') h' (g x)) (hf:∀x∈xs,g x=true→∀h',Sm h h'→Pu (f (ρ1 x) h') h' (e x))
 (q:∀l h',Sm h h'→h'[l]?=some (.lst ((xs.filter g).map e))→Q (.loc l) h'):Wp (Bh cs it sg t f ρ h) Q:=by
 unfold Bh
 rw [AC]
 refine Wp.mono hi fun x h1 z4_=>?_
 obtain ⟨ex,s1,hs⟩:=z4_
 subst ex
 rw [if_pos (by simpa using hn),AC]
 refine (Mi φ g e ρ1 xs h1 hs hg (fun x hx h' s'=>ht x hx h' (s1.trans s')) (fun x hx gx h' s'=>hf x hx gx h' (s1.trans s'))).wp fun h2 s2=>?_
 refine Bi ?_ fun l h3 s3 e3 _ _=>q l h3 ((s1.trans s2).trans s3) e3
 rw [CS]
 exact BK (GZ _ _) hn
theorem FR {β γ:Type} {f:β→Option γ} {g:β→γ}:∀{xs:List β},(∀x∈xs,f x=some (g x))→Ax (xs.map f)=some (xs.map g)
 |[],_=>rfl
 |x::xs,hf=>by
  simp only [Bn,hf x AO,Ax,FR (fun y hy=>hf y (A1 _ hy)),G8]
theorem VS (b:α→Bool) (ρ1:α→Ai) (hi:Wp (it ρ h) fun x h'=>x=(xs.map φ,src)∧Sm h h'∧∀h2,Sm h' h2→BE src (xs.map φ) h2) (hn:xs.length≤sizeLine)
 (hg:∀x∈xs,sg (φ x) (CK cs ρ)=some (ρ1 x)) (hf:∀x∈xs,∀h',Sm h h'→Pu (f (ρ1 x) h') h' (.bl (b x))):
 Pu (Ag (Am DZ) (Aa (Bh cs it sg BM f) Ae) ρ h) h (.bl (xs.all b)):=by
 unfold Pu
 rw [Pm,Pn]
 refine FQ (fun _=>true) (fun x=>.bl (b x)) ρ1 hi hn hg (fun x hx h' s'=>(.ok:Pu (.ok true h') h' true)) (fun x hx _ h' s'=>hf x hx h' s') fun l h' s' e'=>?_
 rw [Mg]
 rw [Do] at e'
 simp only [Am,DZ,e',DQ]
 rw [FR (f:=Ht∘fun x=>D.bl (b x)) (g:=b) (fun x _=>rfl)]
 refine ⟨?_,s'⟩
 simp [List.all_map]
end
def DI (I:Ai→HD→Prop) (Q:Fl×Ai→HD→Prop):Fl×Ai→HD→Prop
 |(.nx,ρ),h=>I ρ h
 |(.ct,ρ),h=>I ρ h
 |(.bk,ρ),h=>Q (.nx,ρ) h
 |(.rt d,ρ),h=>Q (.rt d,ρ) h
theorem Mj {α:Type} {src:A0} {items:List D} {sg:MG} {body:MS} {Q:Fl×Ai→HD→Prop} (φ:α→D) (I:List α→Ai→HD→Prop) (ho:∀xs ρ h,I xs ρ h→BE src items h)
 (step:∀x xs ρ h,I (x::xs) ρ h→∃ρ1,sg (φ x) ρ=some ρ1∧Wp (body ρ1 h) (DI (I xs) Q)) (done:∀ρ h,I [] ρ h→Q (.nx,ρ) h):∀(xs:List α) (ρ:Ai) (h:HD),I xs ρ h→Wp (ED src items sg body (xs.map φ) ρ h) Q
 |[],ρ,h,i=>by
  simp only [F0,ED]
  rw [if_pos (ho _ _ _ i)]
  exact done ρ h i
 |x::xs,ρ,h,i=>by
  simp only [Bn,ED]
  rw [if_pos (ho _ _ _ i)]
  obtain ⟨ρ1,e,w⟩:=step x xs ρ h i
  rw [e]
  simp only
  rw [AC]
  refine Wp.mono w fun y h' k=>?_
  obtain ⟨fl,ρ2⟩:=y
  cases fl with
  |nx=>exact Mj φ I ho step done xs ρ2 h' k
  |ct=>exact Mj φ I ho step done xs ρ2 h' k
  |bk=>exact k
  |rt d=>exact k
theorem DJ {α:Type} {src:A0} {it:MI} {sg:MG} {body:MS} {Q:Fl×Ai→HD→Prop} {ρ:Ai} {h:HD} {xs:List α} (φ:α→D) (I:List α→Ai→HD→Prop) (hi:Wp (it ρ h) fun x h'=>x=(xs.map φ,src)∧I xs ρ h') (ho:∀ys ρ h,I ys ρ h→BE src (xs.map φ) h)
 (step:∀x xs ρ h,I (x::xs) ρ h→∃ρ1,sg (φ x) ρ=some ρ1∧Wp (body ρ1 h) (DI (I xs) Q)) (done:∀ρ h,I [] ρ h→Q (.nx,ρ) h):Wp (Ci it sg body ρ h) Q:=by
 unfold Ci
 rw [AC]
 refine Wp.mono hi fun x h1 z5_=>?_
 obtain ⟨e,i⟩:=z5_
 subst e
 exact Mj φ I ho step done xs ρ h1 i
theorem VT {α β:Type} {f:α→Option β} {ys:List β}:∀{xs:List α},Ax (xs.map f)=some ys→∀{g:α→Option β},(∀x∈xs,∀y,f x=some y→g x=some y)→Ax (xs.map g)=some ys:=by
 intro xs
 induction xs generalizing ys with
 |nil=>intro e g _;exact e
 |cons x xs ih=>
  intro e g hg
  simp only [Bn] at e ⊢
  cases hx:f x with
  |none=>rw [hx] at e;simp [Ax] at e
  |some y=>
   rw [hx] at e
   rw [hg x AO y hx]
   simp only [Ax] at e ⊢
   cases hr:Ax (xs.map f) with
   |none=>rw [hr] at e;cases e
   |some zs=>rw [hr] at e;rw [ih hr (fun z hz=>hg z (A1 _ hz))];exact e
theorem Po {h:HD}:∀{n:Nat} {d:D} {p:PyData},AL [] n d=some p→AL h n d=some p
 |n,.non,p,e=>by simpa [AL] using e
 |n,.bl _,p,e=>by simpa [AL] using e
 |n,.int _,p,e=>by simpa [AL] using e
 |n,.str _,p,e=>by simpa [AL] using e
 |n+1,.tup ds,p,e=>by
  simp only [AL] at e ⊢
  cases hr:Ax (ds.map (AL [] n)) with
  |none=>rw [hr] at e;cases e
  |some zs=>rw [hr] at e;rw [VT hr (fun x _ y hy=>Po hy)];exact e
 |0,.tup ds,p,e=>by simp [AL] at e
 |n+1,.loc l,p,e=>by simp [AL] at e
 |0,.loc l,p,e=>by simp [AL] at e
 |n,.scr _,p,e=>by cases n<;>simp [AL] at e
 |n,.adr _,p,e=>by cases n<;>simp [AL] at e
 |n,.ty _,p,e=>by cases n<;>simp [AL] at e
 |n,.exc _ _,p,e=>by cases n<;>simp [AL] at e
 |n,.edic,p,e=>by cases n<;>simp [AL] at e
 |n,.glo _,p,e=>by cases n<;>simp [AL] at e
 |n,.clo _ _ _,p,e=>by cases n<;>simp [AL] at e
def Py (d:D) (p:PyData):Prop:=AL [] 8 d=some p∧SeqAt.shaped p=true
@[simp] theorem sz0:(0≤sizeLine)=True:=eq_true (Dv _)
@[simp] theorem sz1:(1≤sizeLine)=True:=eq_true (by unfold sizeLine;omega)
@[simp] theorem sz2:(2≤sizeLine)=True:=eq_true (by unfold sizeLine;omega)
@[simp] theorem IT:(3≤sizeLine)=True:=eq_true (by unfold sizeLine;omega)
@[simp] theorem sz4:(4≤sizeLine)=True:=eq_true (by unfold sizeLine;omega)
@[simp] theorem sz5:(5≤sizeLine)=True:=eq_true (by unfold sizeLine;omega)
section
variable {h:HD} {a b c:D} {ds es:List D} {i j:Int} {F1:D→HD→Out D} {F2:D→D→HD→Out D} {F3:D→D→D→HD→Out D}
@[simp] theorem VU:Am F1 [a] h=F1 a h:=rfl
@[simp] theorem ZbU:Bx F2 [a,b] h=F2 a b h:=rfl
@[simp] theorem ZbV:Vc F3 [a,b,c] h=F3 a b c h:=rfl
@[simp] theorem ZbW {b:Bool}:IB (.bl b) h=.ok b h:=rfl
@[simp] theorem ZbX {b:Bool}:Ew (.bl b) h=.ok b h:=rfl
@[simp] theorem ZbY:Ew .non h=.ok false h:=rfl
@[simp] theorem ZbZ:Ew (.int i) h=.ok (i != 0) h:=rfl
@[simp] theorem Zb0:Ew (.tup ds) h=.ok (!ds.isEmpty) h:=rfl
@[simp] theorem Zb1:BA (.int i) (.ty "int") h=.ok (.bl true) h:=rfl
@[simp] theorem Zb2:BA (.int i) (.ty "bool") h=.ok (.bl false) h:=rfl
@[simp] theorem Zb3:BA (.int i) (.ty "tuple") h=.ok (.bl false) h:=rfl
@[simp] theorem Zb4:BA (.tup ds) (.ty "tuple") h=.ok (.bl true) h:=rfl
@[simp] theorem Zb5:BA (.tup ds) (.ty "int") h=.ok (.bl false) h:=rfl
@[simp] theorem Zb6:Aq (.int i) (.int j) h=.ok (.int (i+j)) h:=rfl
@[simp] theorem VV {f:Int→Int→D}:FJ f (.int i) (.int j) h=.ok (f i j) h:=rfl
@[simp] theorem Zb7 {b c:Bool}:Vg (.bl b) (.bl c) h=.ok (.bl (b==c)) h:=rfl
@[simp] theorem Zb8 {b c:Bool}:ID (.bl b) (.bl c) h=.ok (.bl (!(b==c))) h:=rfl
@[simp] theorem Zb9:Bc (.tup ds) h=.ok (.int ds.length) h:=rfl
@[simp] theorem Zca {ns:List Int}:Bc (.scr ns) h=.ok (.int ns.length) h:=by simp [Bc,BD]
@[simp] theorem Zcb:Hn (.tup ds) h=.ok (ds,[]) h:=rfl
@[simp] theorem Zcc:CJ (.tup ds) h=.ok (.tup ds) h:=rfl
@[simp] theorem Zcd:Md (.tup [a,b]) h=.ok (.tup [b,a]) h:=rfl
@[simp] theorem Zce:IG (.int i) (.int j) h=.ok (.int (if j>i then j else i)) h:=rfl
@[simp] theorem Zcf:IH (.int i) (.int j) h=.ok (.int (if j<i then j else i)) h:=rfl
@[simp] theorem VW {b:Bool}:Gc (.bl b) h=.ok (.int (if b then 1 else 0)) h:=rfl
@[simp] theorem Zcg:Gc (.int i) h=.ok (.int i) h:=rfl
@[simp] theorem Zch {ρ:Ai} {k:Nat}:A3 k a ρ=some (ρ.set k (some a)):=rfl
@[simp] theorem Zci {ρ:Ai} {k l:Nat}:Dk k l (.tup [a,b]) ρ=some ((ρ.set k (some a)).set l (some b)):=rfl
@[simp] theorem Zcj {b c:Bool}:IE (.bl b) (.bl c) h=.ok (.bl (b==c)) h:=rfl
@[simp] theorem Zck {b c:Bool}:Ez (.bl b) (.bl c) h=.ok (.bl (!(b==c))) h:=rfl
@[simp] theorem Zcl:IE (.int i) (.int j) h=.ok (.bl (i==j)) h:=rfl
@[simp] theorem Zcm:Ez (.int i) (.int j) h=.ok (.bl (!(i==j))) h:=rfl
theorem Kq {l:Nat} (e:h[l]?=some (.lst ds)):CJ (.loc l) h=.ok (.tup ds) h:=by simp only [CJ,e]
theorem Hz {l:Nat} (e:h[l]?=some (.lst ds)):CB (.loc l) h=.ok (.loc l) h:=by simp only [CB,e]
theorem Kr {l:Nat} (e:h[l]?=some (.lst ds)) (hn:ds.length<sizeLine):Hu (.loc l) a h=.ok .non (h.set l (.lst (ds++[a]))):=by simp only [Hu,e];rw [if_pos hn]
theorem ix_tup {k:Nat} (e:ds[k]?=some a):AI (.tup ds) (.int (k:Nat)) h=.ok a h:=by
 have hk:k<ds.length:=(qa4.mp e).1
 have e1:CT ds ((k:Nat):Int)=some a:=by
  unfold CT Dz
  rw [if_pos (by omega),if_pos (by omega)]
  simpa using e
 simp only [AI,BD,e1]
theorem Mk {n k:Nat} {e:Nat→D} (hk:k<n):AI (.tup ((List.range n).map e)) (.int (k:Nat)) h=.ok (e k) h:=ix_tup (by simp [Ia,hk])
theorem VX {n:Nat} {e:Nat→D} (hk:0<n):AI (.tup ((List.range n).map e)) (.int 0) h=.ok (e 0) h:=Mk (k:=0) hk
@[simp] theorem Zcn:AI (.tup [a,b]) (.int 0) h=.ok a h:=rfl
@[simp] theorem Zco:AI (.tup [a,b]) (.int 1) h=.ok b h:=rfl
theorem VY {ns:List Int} {k:Nat} (e:ns[k]?=some i):AI (.scr ns) (.int (k:Nat)) h=.ok (.int i) h:=by
 have hk:k<ns.length:=(qa4.mp e).1
 have e1:CT (ns.map D.int) ((k:Nat):Int)=some (.int i):=by
  unfold CT Dz
  rw [if_pos (by omega),if_pos (by simpa using hk)]
  simp [e]
 simp only [AI,BD,e1]
theorem Gg {l k:Nat} (el:h[l]?=some (.lst ds)) (e:ds[k]?=some a):AI (.loc l) (.int (k:Nat)) h=.ok a h:=by
 have hk:k<ds.length:=(qa4.mp e).1
 have e1:CT ds ((k:Nat):Int)=some a:=by
  unfold CT Dz
  rw [if_pos (by omega),if_pos (by omega)]
  simpa using e
 simp only [AI,BD,el,e1]
theorem VZ {l k:Nat} {ρ:Ai} (el:h[l]?=some (.lst ds)) (hk:k<ds.length):Hv (.loc l) (.int (k:Nat)) a h (.ok (.nx,ρ) h)=.ok (.nx,ρ) (h.set l (.lst (ds.set k a))):=by
 have:Dz ds.length ((k:Nat):Int)=some k:=by
  unfold Dz
  rw [if_pos (by omega),if_pos (by omega)]
  simp
 simp only [Hv,el,this]
theorem V0 {neg:Bool} {k:Nat} {ks:List Nat}:FK neg (.int (k:Nat)) (.tup (ks.map fun i=>.int ((i:Nat):Int))) h=.ok (.bl (if neg then !ks.contains k else ks.contains k)) h:=by
 have e:Ax ((ks.map fun i=>D.int ((i:Nat):Int)).map Cq)=some (ks.map fun i=>V.int ((i:Nat):Int)):=by
  rw [DQ]
  exact FR (f:=Cq∘fun i=>D.int ((i:Nat):Int)) (fun x _=>rfl)
 have e2:Hd (V.int ((k:Nat):Int)) (ks.map fun i=>V.int ((i:Nat):Int))=ks.contains k:=by
  unfold Hd
  rw [List.any_map,List.contains_eq_any_beq]
  congr 1
  funext i
  change (((i:Nat):Int)==((k:Nat):Int))=_
  rw [qaV]
  simp
  omega
 simp only [FK,BD,e,Cq,e2]
end
noncomputable def Ml (cs:List (Option Nat)) (it:MI) (sg:MG) (t:MT) (f:ME):ME:=Ag (Am CJ) (Aa (Bh cs it sg t f) Ae)
noncomputable def Pp (cs:List (Option Nat)) (it:MI) (sg:MG) (t:MT) (f:ME):ME:=Ag (Am DZ) (Aa (Bh cs it sg t f) Ae)
section
variable {α:Type} {cs:List (Option Nat)} {it:MI} {sg:MG} {t:MT} {f:ME} {ρ:Ai} {h:HD} {src:A0} {xs:List α} {φ:α→D}
@[simp] theorem Zcp:Ag (Am CJ) (Aa (Bh cs it sg t f) Ae) ρ h=Ml cs it sg t f ρ h:=rfl
@[simp] theorem Zcq:Ag (Am DZ) (Aa (Bh cs it sg t f) Ae) ρ h=Pp cs it sg t f ρ h:=rfl
def D3 (o:Out (List D×A0)) (h:HD) (ds:List D) (src:A0):Prop:=Wp o fun x h'=>x=(ds,src)∧Sm h h'∧∀h2,Sm h' h2→BE src ds h2
theorem Mm (b:α→Bool) (ρ1:α→Ai) (hi:D3 (it ρ h) h (xs.map φ) src) (hg:∀x∈xs,sg (φ x) (CK cs ρ)=some (ρ1 x)) (hf:∀x∈xs,∀h',Sm h h'→Pu (f (ρ1 x) h') h' (.bl (b x))) (hn:xs.length≤sizeLine):
 Pu (Pp cs it sg BM f ρ h) h (.bl (xs.all b)):=VS b ρ1 hi hn hg hf
theorem Mo {ds:List D}:D3 (Cr (Ab 0) (some (.tup ds)::ρ) h) h ds []:=by
 simp [D3,Sm.refl,BE]
end
section
variable {h:HD} {i j:Int}
theorem Ks (h1:-18446744073709551616<j) (h2:j<18446744073709551616):Dm (.int i) (.int j) h=.ok (.int (i*j)) h:=by
 have:CMl i j:=.inl (.inr ⟨by omega,by omega⟩)
 simp only [Dm];rw [if_pos this]
theorem Mp (h1:-18446744073709551616<i) (h2:i<18446744073709551616):Dm (.int i) (.int j) h=.ok (.int (i*j)) h:=by
 have:CMl i j:=.inl (.inl ⟨by omega,by omega⟩)
 simp only [Dm];rw [if_pos this]
theorem V1 (h1:Builtin.Int.intBits i≤16777216) (h2:Builtin.Int.intBits j≤16777216):Dm (.int i) (.int j) h=.ok (.int (i*j)) h:=by
 have:CMl i j:=.inr ⟨h1,h2⟩
 simp only [Dm];rw [if_pos this]
theorem Gh (h1:0<j):DD (.int i) (.int j) h=.ok (.int (i % j)) h:=by
 simp only [DD,intD];rw [if_pos h1]
theorem V2 (h1:0<j) (h2:j<18446744073709551616):Kb (.int i) (.int j) h=.ok (.int (i / j)) h:=by
 have:CDv i j:=⟨h1,h2⟩
 simp only [Kb,intD];rw [if_pos this]
theorem V3 (h1:0<j) (h2:j<18446744073709551616):IF (.int i) (.int j) h=.ok (.tup [.int (i / j),.int (i % j)]) h:=by
 have:CDv i j:=⟨h1,h2⟩
 simp only [IF];rw [if_pos this]
end
theorem Pq {α:Type} {o:Out α} {Q:α→HD→Prop}:Wp (noErr o) Q=Wp o Q:=by cases o<;>rfl
theorem Pr {src:A0} {items:List D} {sg:MG} {t:MT} {f:ME} {ρc:Ai} (φ:Nat→D) (I:HD→Prop) (T:Nat→Bool→Prop) (R:Nat→D→Prop) (ρ1:Nat→Ai) (hs:∀h,I h→BE src items h):
 ∀(xs:List Nat) (h:HD),xs.Nodup→I h→(∀x∈xs,sg (φ x) ρc=some (ρ1 x))→(∀x∈xs,∀h,I h→Wp (t (ρ1 x) h) fun b h1=>T x b∧if b=true then Wp (f (ρ1 x) h1) (fun y h2=>I h2∧R x y) else I h1)→
  Wp (Dl src items sg t f ρc (xs.map φ) h) fun ys h'=>I h'∧∃(g:Nat→Bool) (e:Nat→D),ys=(xs.filter g).map e∧(∀x∈xs,g x=true→R x (e x))∧∀x∈xs,T x (g x)
 |[],h,_,i,_,_=>by
  simp only [F0,Dl]
  rw [if_pos (hs h i)]
  exact ⟨i,fun _=>true,fun _=>.non,rfl,by simp,by simp⟩
 |x::xs,h,hd,i,hg,ht=>by
  simp only [Bn,Dl]
  rw [if_pos (hs h i),hg x AO]
  simp only
  rw [AC,Pq]
  rw [qbS] at hd
  refine Wp.mono (ht x AO h i) fun b h1 z1_=>?_
  obtain ⟨tb,w⟩:=z1_
  have ih:∀h2,I h2→_:=fun h2 i2=>Pr φ I T R ρ1 hs xs h2 hd.2 i2 (fun y hy=>hg y (A1 _ hy)) (fun y hy=>ht y (A1 _ hy))
  cases b with
  |false=>
   rw [if_neg Bw] at w ⊢
   refine Wp.mono (ih h1 w) ?_
   rintro ys h' ⟨i',g,e,ey,hr,tr⟩
   refine ⟨i',fun y=>if y=x then false else g y,e,?_,?_,?_⟩
   ·rw [Lj (by simp),ey]
    congr 1
    refine List.filter_congr fun y hy=>?_
    rw [if_neg]
    intro z;subst z;exact hd.1 hy
   ·intro y hy gy
    rcases qa8.mp hy with z |z
    ·subst z;simp at gy
    ·refine hr y z ?_
     by_cases hz:y=x
     ·subst hz;exact absurd z hd.1
     ·simpa [hz] using gy
   ·intro y hy
    by_cases hz:y=x
    ·subst hz;simpa using tb
    ·simp only [if_neg hz]
     exact tr y (by rcases qa8.mp hy with z |z;exact absurd z hz;exact z)
  |true=>
   rw [if_pos rfl] at w ⊢
   rw [AC,Pq]
   refine Wp.mono w fun y h2 z3_=>?_
   obtain ⟨i2,ry⟩:=z3_
   rw [AC]
   refine Wp.mono (ih h2 i2) ?_
   rintro ys h' ⟨i',g,e,ey,hr,tr⟩
   refine ⟨i',fun z=>if z=x then true else g z,fun z=>if z=x then y else e z,?_,?_,?_⟩
   ·rw [Lk (by simp),Bn,if_pos rfl,ey]
    congr 1
    rw [show xs.filter (fun z=>if z=x then true else g z)=xs.filter g from List.filter_congr fun z hz=>by
     rw [if_neg]
     intro q;subst q;exact hd.1 hz]
    refine Ib fun z hz=>?_
    rw [if_neg]
    intro q;subst q;exact hd.1 (qb6.mp hz).1
   ·intro z hz gz
    by_cases q:z=x
    ·subst q;simpa using ry
    ·rcases qa8.mp hz with w |w
     ·exact absurd w q
     ·simp only [if_neg q] at gz ⊢
      exact hr z w gz
   ·intro z hz
    by_cases q:z=x
    ·subst q;simpa using tb
    ·simp only [if_neg q]
     exact tr z (by rcases qa8.mp hz with w |w;exact absurd w q;exact w)
theorem Pt {cs:List (Option Nat)} {it:MI} {sg:MG} {t:MT} {f:ME} {ρ:Ai} {h:HD} {src:A0} {xs:List Nat} {Q:D→HD→Prop} (φ:Nat→D) (I:HD→Prop) (T:Nat→Bool→Prop) (R:Nat→D→Prop) (ρ1:Nat→Ai) (hi:Wp (it ρ h) fun x h'=>x=(xs.map φ,src)∧I h') (hs:∀h,I h→BE src (xs.map φ) h)
 (hnew:∀h c,I h→I (h++[c])) (hd:xs.Nodup) (hn:xs.length≤sizeLine) (hg:∀x∈xs,sg (φ x) (CK cs ρ)=some (ρ1 x)) (ht:∀x∈xs,∀h,I h→Wp (t (ρ1 x) h) fun b h1=>T x b∧if b=true then Wp (f (ρ1 x) h1) (fun y h2=>I h2∧R x y) else I h1)
 (q:∀h' (g:Nat→Bool) (e:Nat→D),I h'→(∀x∈xs,g x=true→R x (e x))→(∀x∈xs,T x (g x))→Q (.tup ((xs.filter g).map e)) h'):Wp (Ml cs it sg t f ρ h) Q:=by
 unfold Ml
 rw [Pm,Pn]
 unfold Bh
 rw [AC]
 refine Wp.mono hi fun x h1 z5_=>?_
 obtain ⟨ex,i1⟩:=z5_
 subst ex
 rw [if_pos (by simpa using hn),AC]
 refine Wp.mono (Pr φ I T R ρ1 hs xs h1 hd i1 hg ht) fun ys h2 z6_=>?_
 obtain ⟨i2,g,e,ey,hr,tr⟩:=z6_
 subst ey
 refine Bi ?_ fun l h3 s3 e3 _ eh=>?_
 ·rw [CS]
  exact BK (GZ _ _) hn
 ·rw [Mg]
  simp only [Am,CJ,e3]
  refine q h3 g e ?_ hr tr
  rw [eh]
  exact hnew _ _ i2
theorem Mq {α:Type} {g:α→PyData}:∀{xs:List α},(∀x∈xs,(g x).canLay0=true)→PyData.canLayAll0 (xs.map g)=true
 |[],_=>rfl
 |x::xs,hx=>by
  rw [Bn,PyData.canLayAll0,hx x AO,Mq fun y hy=>hx y (A1 _ hy)];rfl
theorem Mr {α:Type} {g:α→PyData} {n:Nat}:∀{xs:List α},(∀x∈xs,(g x).depth≤n)→PyData.depthAll (xs.map g)≤n
 |[],_=>Dv _
 |x::xs,hx=>by
  rw [Bn,PyData.depthAll]
  exact Nat.max_le.mpr ⟨hx x AO,Mr fun y hy=>hx y (A1 _ hy)⟩
structure PyN (n:Nat) (d:D) (p:PyData):Prop where
 rd:∀k,n≤k→AL [] k d=some p
 ly:p.canLay0=true
 dp:p.depth≤n
theorem PyN.py {n:Nat} {d:D} {p:PyData} (h:PyN n d p) (hn:n≤8):Py d p:=⟨h.rd 8 hn,by
 unfold SeqAt.shaped
 rw [h.ly]
 have:=h.dp
 simp
 omega⟩
theorem V4 {i:Int}:PyN 0 (.int i) (.int i):=⟨fun k _=>by cases k<;>rfl,rfl,AK _⟩
theorem V5 {α:Type} {n:Nat} {xs:List α} {e:α→D} {g:α→PyData} (hx:∀x∈xs,PyN n (e x) (g x)):PyN (n+1) (.tup (xs.map e)) (.tuple (xs.map g)):=by
 refine ⟨fun k hk=>?_,?_,?_⟩
 ·obtain ⟨k,rfl⟩:∃m,k=m+1:=⟨k - 1,by omega⟩
  simp only [AL,DQ]
  rw [FR (f:=AL [] k∘e) (g:=g) (fun x h=>(hx x h).rd k (by omega))]
  rfl
 ·rw [PyData.canLay0];exact Mq fun x h=>(hx x h).ly
 ·rw [PyData.depth]
  exact Nat.succ_le_succ (Mr fun x h=>(hx x h).dp)
def KD {α:Type}:Sem α→Prop
 |.pure _=>True
 |.raise _=>True
 |.unsupported _=>True
 |.finish _=>True
 |.rule _ k=>KD (k ())
 |.at _ k=>KD (k ())
 |.load _ _ k=>∀o,KD (k o)
 |.update _ _ f k=>(∀o,(f o).dict=o.dict∧(o.isFreed=false→(f o).isFreed=false))∧KD (k ())
 |.loadIfAlive _ k=>∀o,KD (k o)
 |.point _ k=>KD (k ())
 |.register _ _=>True
 |.alloc _ k=>∀a,KD (k a)
 |.fresh k=>∀a,KD (k a)
 |.ask k=>∀a,KD (k a)
 |.choose _ _ k=>∀a,KD (k a)
 |.os _ _ k=>∀a,KD (k a)
 |.call ..=>False
 |.handled _ k=>∀a,KD (k a)
 |.genState _ k=>∀a,KD (k a)
 |.newGen _ k=>∀a,KD (k a)
 |.resume ..=>False
 |.yield ..=>True
 |.stack k=>∀a,KD (k a)
 |.fork ..=>True
 |.thread k=>∀a,KD (k a)
 |.await ..=>True
def Dicts (h h':Heap):Prop:=∀b o,h.get? b=some o→∃o',h'.get? b=some o'∧o'.dict=o.dict
theorem Dicts.refl (h:Heap):Dicts h h:=fun _ o e=>⟨o,e,rfl⟩
theorem Dicts.trans {h h1 h2:Heap} (a:Dicts h h1) (b:Dicts h1 h2):Dicts h h2:=fun c o e=>by
 obtain ⟨o1,e1,d1⟩:=a c o e
 obtain ⟨o2,e2,d2⟩:=b c o1 e1
 exact ⟨o2,e2,d2.trans d1⟩
theorem V6 {α:Type} {M:Model} {Γ:PySem.Ctx} {Q:α→Pos→Shared→Prop} {E:Value→Pos→Shared→Prop}:∀(t:Sem α) (p:Pos) (s:Shared),KD t→Sem.wp M Γ t Q E p s→Sem.wp M Γ t (fun a p s'=>Q a p s'∧Dicts s.heap s'.heap) (fun a p s'=>E a p s'∧Dicts s.heap s'.heap) p s:=by
 have lift:∀(t:Sem α) (p:Pos) (h0:Heap) (s:Shared),Dicts h0 s.heap→Sem.wp M Γ t (fun a p s'=>Q a p s'∧Dicts s.heap s'.heap) (fun a p s'=>E a p s'∧Dicts s.heap s'.heap) p s→Sem.wp M Γ t (fun a p s'=>Q a p s'∧Dicts h0 s'.heap) (fun a p s'=>E a p s'∧Dicts h0 s'.heap) p s:=
  fun t p h0 s d w=>Sem.wp_mono M Γ t (fun a p s' z=>⟨z.1,d.trans z.2⟩) (fun a p s' z=>⟨z.1,d.trans z.2⟩) p s w
 intro t
 induction t with
 |pure a=>exact fun p s _ w=>⟨w,.refl _⟩
 |raise e=>exact fun p s _ w=>⟨w,.refl _⟩
 |unsupported w=>exact fun p s _ w=>w.elim
 |finish w=>exact fun p s _ w=>w.elim
 |rule t k ih=>exact fun p s kd w=>ih () p s kd w
 |«at» t k ih=>exact fun p s kd w=>ih () t s kd w
 |load a x k ih=>exact fun p s kd ⟨o,e,w⟩=>⟨o,e,ih o p s (kd o) w⟩
 |update a x f k ih=>
  refine fun p s kd ⟨e,w⟩=>⟨e,lift _ p s.heap {s with heap:=s.heap.update a f} (fun b o eb=>?_) (ih () p _ kd.2 w)⟩
  by_cases hb:b=a
  ·subst hb
   obtain ⟨d1,d2⟩:=kd.1 o
   exact ⟨f o,H0 f eb (d2 (Heap.get?_some_iff.mp eb).2),d1⟩
  ·exact ⟨o,(Ek s.heap f (Ne.symm hb)).trans eb,rfl⟩
 |alloc o k ih=>exact fun p s kd w=>lift _ p s.heap {s with heap:=s.heap.push o} (fun b ob eb=>⟨ob,AE _ eb,rfl⟩) (ih _ p {s with heap:=s.heap.push o} (kd _) w)
 |loadIfAlive a k ih=>exact fun p s kd w=>ih _ p s (kd _) w
 |point l k ih=>exact fun p s kd w=>ih () p s kd w
 |register a k ih=>exact fun p s kd w=>w.elim
 |fresh k ih=>exact fun p s kd w=>ih _ p {s with toks:=s.toks+1} (kd _) w
 |ask k ih=>exact fun p s kd w=>ih _ p s (kd _) w
 |choose src n k ih=>exact fun p s kd ⟨z,w⟩=>⟨z,ih _ p {s with drawn:=s.drawn.bump src} (kd _) w⟩
 |os q l k ih=>exact fun p s kd w=>ih _ p {s with os:=(Os.step s.os q).1} (kd _) w
 |call c h g l k ih=>exact fun p s kd w=>kd.elim
 |handled o k ih=>exact fun p s kd w=>ih _ p s (kd _) w
 |newGen c k ih=>exact fun p s kd w=>ih _ p {s with gens:=s.gens.push (.fresh c)} (kd _) w
 |genState g k ih=>exact fun p s kd ⟨st,e,w⟩=>⟨st,e,ih _ p s (kd _) w⟩
 |resume g r l k ih=>exact fun p s kd w=>kd.elim
 |yield v g l k ih=>exact fun p s kd w=>w.elim
 |stack k ih=>exact fun p s kd w=>ih _ p s (kd _) w
 |fork c k ih=>exact fun p s kd w=>w.elim
 |thread k ih=>exact fun p s kd w=>ih _ p s (kd _) w
 |await a t b l k ih=>exact fun p s kd w=>w.elim
theorem IU {α:Type} {M:Model} {A:Around} {t:Sem α} {Q:α→Shared→Prop} {E:Value→Shared→Prop} {s:Shared} (kd:KD t) (h:wpAny M A t Q E s):wpAny M A t (fun a s'=>Q a s'∧Dicts s.heap s'.heap) (fun a s'=>E a s'∧Dicts s.heap s'.heap) s:=
 fun Γ p hΓ=>V6 t p s kd (h Γ p hΓ)
theorem KD.bind {α β:Type} {f:α→Sem β}:∀{t:Sem α},KD t→(∀a,KD (f a))→KD (t >>=f):=by
 intro t
 induction t with
 |pure a=>exact fun _ h=>h a
 |raise e=>exact fun _ _=>True.intro
 |unsupported w=>exact fun _ _=>True.intro
 |finish w=>exact fun _ _=>True.intro
 |rule t k ih=>exact fun kd h=>ih () kd h
 |«at» t k ih=>exact fun kd h=>ih () kd h
 |load a x k ih=>exact fun kd h o=>ih o (kd o) h
 |update a x g k ih=>exact fun kd h=>⟨kd.1,ih () kd.2 h⟩
 |alloc o k ih=>exact fun kd h a=>ih a (kd a) h
 |loadIfAlive a k ih=>exact fun kd h a=>ih a (kd a) h
 |point l k ih=>exact fun kd h=>ih () kd h
 |register a k ih=>exact fun kd h=>True.intro
 |fresh k ih=>exact fun kd h a=>ih a (kd a) h
 |ask k ih=>exact fun kd h a=>ih a (kd a) h
 |choose src n k ih=>exact fun kd h a=>ih a (kd a) h
 |os q l k ih=>exact fun kd h a=>ih a (kd a) h
 |call c h g l k ih=>exact fun kd h=>kd.elim
 |handled o k ih=>exact fun kd h a=>ih a (kd a) h
 |newGen c k ih=>exact fun kd h a=>ih a (kd a) h
 |genState g k ih=>exact fun kd h a=>ih a (kd a) h
 |resume g r l k ih=>exact fun kd h=>kd.elim
 |yield v g l k ih=>exact fun kd h=>True.intro
 |stack k ih=>exact fun kd h a=>ih a (kd a) h
 |fork c k ih=>exact fun kd h=>True.intro
 |thread k ih=>exact fun kd h a=>ih a (kd a) h
 |await a t b l k ih=>exact fun kd h=>True.intro
theorem FS {α:Type} {c:Prop} [Decidable c] {a b:Sem α} (ha:KD a) (hb:KD b):KD (if c then a else b):=by split<;>assumption
theorem Ms {a:Addr}:KD (load a):=fun _=>True.intro
theorem V7 {f:Array Value→Array Value} (o:Obj):(Obj.mapFields f o).dict=o.dict∧(o.isFreed=false→(Obj.mapFields f o).isFreed=false):=by
 obtain ⟨c,d,dt,sl⟩:=o
 cases dt<;>exact ⟨rfl,fun h=>h⟩
theorem V8 {v:Value}:KD (fieldsOf v):=by
 unfold fieldsOf
 split
 ·exact KD.bind Ms fun o=>by split<;>exact True.intro
 ·exact True.intro
theorem Kt {v:Value} {i:Nat}:KD (field v i):=by
 unfold field
 exact KD.bind V8 fun o=>by split<;>exact True.intro
theorem Mt {v x:Value} {i:Nat}:KD (setField v i x):=by
 unfold setField
 split
 ·unfold updateField
  refine KD.bind Ms fun o=>?_
  split
  ·exact FS ⟨V7,True.intro⟩ True.intro
  ·exact True.intro
 ·exact True.intro
theorem Mu {v:Value} {o:Option Addr}:KD (setFlight v o):=by
 unfold setFlight
 exact KD.bind Kt fun o=>FS Mt True.intro
theorem V9 {n:String} {vs:List Value}:KD (newFields n vs):=by
 unfold newFields newObj
 unfold newObjAsIs
 dsimp only
 split
 ·exact True.intro
 ·exact fun a=>True.intro
theorem Pv:∀{l:List Env},KD (readyFrames l)
 |[]=>True.intro
 |env::outer=>by
  unfold readyFrames
  split
  ·refine KD.bind Ms fun o=>FS True.intro (KD.bind ?_ fun b=>KD.bind ?_ fun v=>KD.bind ⟨fun o=>⟨rfl,fun h=>?_⟩,True.intro⟩ fun _=>Pv)
   ·unfold behindIsImport
    exact FS True.intro (FS True.intro (KD.bind Kt fun _=>True.intro))
   ·unfold keptBack
    split
    ·exact FS True.intro fun _=>True.intro
    ·exact True.intro
   ·obtain ⟨c,d,dt,sl⟩:=o
    cases dt<;>exact h
  ·exact True.intro
theorem Wa {env:Env}:KD (PySem.frameOf env):=by
 unfold PySem.frameOf
 refine KD.bind (fun _=>True.intro) fun l=>KD.bind ?_ fun o=>?_
 ·unfold frameObject
  split
  ·exact True.intro
  ·exact KD.bind Pv fun _=>True.intro
 ·split<;>exact True.intro
theorem Wb {f:Addr} {b:Bool}:KD (entryPlaceOf f b):=by
 unfold entryPlaceOf
 intro l
 show KD (match l.find? _ with |some (_,pos)=>_ |none=>_)
 split<;>exact True.intro
theorem Pw {e:Value} {env:Env}:KD (noteFrame e env):=by
 unfold noteFrame
 split
 ·refine KD.bind Kt fun hd=>?_
  have fin:∀f:Addr,KD (do setField e 1 (←EntryCells.newEntry hd (←PySem.frameOf env) .none (rawInt f) .none (←entryPlaceOf f (hd != .none)))):=fun f=>
   KD.bind Wa fun _=>KD.bind Wb fun _=>KD.bind V9 fun _=>Mt
  refine FS (KD.bind Kt fun x=>FS True.intro (KD.bind Mt fun _=>?_)) ?_
  ·exact fin _
  ·exact fin _
 ·exact True.intro
theorem Px {e:Value} {env:Env}:KD (leaving env e):=by
 unfold leaving
 exact KD.bind Pw fun _=>Mu
open Classical in
noncomputable def blank (p:Addr→Prop) (h:Heap):Heap:=⟨h.objs.mapIdx fun i o=>if p i then {o with data:=.freed} else o,h.life⟩
theorem Gi {p:Addr→Prop} {h:Heap} {b:Addr} (hp:p b):(blank p h).get? b=none:=by
 unfold blank Heap.get?
 simp only [Array.getElem?_mapIdx]
 cases e:h.objs[b]? with
 |none=>rfl
 |some o=>simp [hp]
theorem Gj {p:Addr→Prop} {h:Heap} {b:Addr} (hp:¬p b):(blank p h).get? b=h.get? b:=by
 unfold blank Heap.get?
 simp only [Array.getElem?_mapIdx]
 cases e:h.objs[b]? with
 |none=>rfl
 |some o=>simp [hp]
theorem Mv {p:Addr→Prop} {h:Heap}:(blank p h).StaysIn h:=fun b o e=>by
 by_cases hp:p b
 ·rw [Gi hp] at e;cases e
 ·rw [Gj hp] at e;exact e
inductive Ku (h0 h:Heap) (H:Hp) (a:Addr) (C:Value) (da:Option Addr):Prop where
 |mk (new:h0.get? a=none) (no:H a=none) (oe:Obj) (vs:Array Value) (a0:Value) (T:Addr) (oT:Obj) (ts:Array Value) (e1:h.get? a=some oe) (e2:oe.cls=C∧vs[0]?=some a0) (e3:oe.data=.fields vs) (e4:vs[1]?=some (.ref T)) (e5:h0.get? T=none) (e6:H T=none) (e7:T≠a) (e8:h.get? T=some oT) (e9:oT.data=.fields ts) (e10:ts[3]?=some .none) (e11:oe.dict=da):Ku h0 h H a C da
abbrev D7 (n:Str):Value:=.str n 0
inductive AD (P:Program) (w:World) (K:PySem.W.Frag) (outer:List Env) (H:Hp) (s:Shared) (E:XK) (e:Value) (s':Shared):Prop where
 |mk (a C:Addr) (n:Str) (da:Option Addr) (H':Hp) (ee:e=.ref a) (os:s'.os=s.os) (bare:AllBare s'.gens) (un:Un (frs outer) [] H H' s.heap s'.heap) (hok:HOk P w H' s'.heap) (fly:Ku s.heap s'.heap H' a (.ref C) da) (nm:PySem.W.nsIn K mainGlobals n=some (some (.ref C))) (q:E (D7 n) da H'):AD P w K outer H s E e s'
theorem Kv {h base:Heap} {p:Addr→Prop}:∀{l:List Env},h.FunFrames base l→(∀b∈frs l,p b)→h.FunFrames (blank p h) l
 |[],_,_=>trivial
 |env::rest,⟨k,⟨L,o,hf,_,ho,hd⟩,r⟩,hp=>⟨k,⟨L,o,hf,Gi (hp L (by unfold frs;rw [G5,hf];exact AO)),ho,hd⟩,
  Kv r fun b hb=>hp b (by
   unfold frs at hb ⊢
   rw [G5,hf]
   exact A1 _ hb)⟩
theorem Mw {P:Program} {w:World} {H:Hp} {h:Heap} {a:Addr} {o:HO} (x:ObjOk P w H h a o):∃ob,h.get? a=some ob:=by
 cases o with
 |lst xs=>obtain ⟨_,_,_,_,e⟩:=x;exact ⟨_,e⟩
 |tup xs=>obtain ⟨_,_,_,⟨_,e,_⟩,_⟩:=x;exact ⟨_,e⟩
 |own y=>exact x
 |xd fs=>obtain ⟨_,⟨_,_,_,e,_⟩,_⟩:=x;exact ⟨_,e⟩
 |frz ob u=>obtain ⟨e,_⟩:=x;exact ⟨_,e⟩
 |tbl ps=>exact ⟨_,x⟩
 |ext φ=>exact x.2.1
 |mex φ=>exact x.2.1
 |dct φ=>exact x.2.1
structure Lv (X:Cx) (E:XK):Prop where
 xe:∀e s',wpAny (model X.prog X.w) X.A (leaving X.env e) (fun _ s''=>AD X.prog X.w X.K X.outer X.H₀ X.s₀ E e s'') (fun e' s''=>AD X.prog X.w X.K X.outer X.H₀ X.s₀ E e' s'') s'→X.xe e s'
 stk:X.stack=X.env::X.outer
 fr:X.env.frame=some X.env.locals
 ex:X.ex=[]
theorem HA {P:Program} {w:World} {K:PySem.W.Frag} {mg:Str→Option Value} {base:Heap} {N:List Str} {qual:Str} {scope:Scope} {f:Addr} {cd:Value} {A:Around} {outer:List Env} {s:Shared} {H:Hp} {E:XK}:Lv (AS (AD P w K) P w K mg base N qual scope f cd A outer s H E) E:=
 ⟨fun _ _ h=>h,rfl,rfl,rfl⟩
section
variable {X:Cx} {E:XK}
theorem Lv.frs (lv:Lv X E):L2.frs X.stack=X.env.locals::X.fs:=by
 rw [lv.stk];unfold L2.frs;rw [G5,lv.fr];rfl
theorem Pz {pins:List (Addr×Obj)} {σ:L2.St} {H':Hp} {s':Shared} {h':Heap} {a T:Addr} {C:Value} (lv:Lv X E)
 (I:Inv X pins σ H' s')
 (na:X.s₀.heap.get? a=none) (nT:X.s₀.heap.get? T=none) (ha:H' a=none) (hT:H' T=none) {a0:Value}
 (L:Heap.LeftW (blank (fun b=>b=a∨b=T∨b∈frs X.stack) s'.heap) X.stack a C a0 s'.heap h') {da:Option Addr} {oa:Obj} (ea:s'.heap.get? a=some oa) (ed:oa.dict=da) (dd:Dicts s'.heap h'):
 Un X.fs [] X.H₀ H' X.s₀.heap h'∧HOk X.prog X.w H' h'∧Ku X.s₀.heap h' H' a C da:=by
 obtain ⟨stay,ff,⟨oe,vs,T2,oT,ts,e1,e2,e3,e4,e5,e6,e7,e8,e9⟩,ups⟩:=L
 have e11:oe.dict=da:=by
  obtain ⟨o',q1,q2⟩:=dd a oa ea
  rw [e1] at q1
  cases q1
  exact q2.trans ed
 have B:Un X.fs [] X.H₀ H' X.s₀.heap s'.heap:=by have:=I.base;rw [lv.ex] at this;exact this
 have stk:=I.stack
 have frNone:∀b∈frs X.stack,H' b=none:=fun b hb=>I.stkFree b hb
 have keepOf:∀b o,¬(b=a∨b=T∨b∈frs X.stack)→s'.heap.get? b=some o→h'.get? b=some o:=fun b o hb e=>stay b o (by rw [Gj hb];exact e)
 have notL:∀b o,X.s₀.heap.get? b=some o→b∉X.fs→b∉frs X.stack:=fun b o e hb z=>by
  rw [lv.frs] at z
  rcases qa8.mp z with z |z
  ·have:=Av e
   rw [z] at this
   exact absurd (AV this I.ok.above) (Cy _)
  ·exact hb z
 have old:∀b o,X.s₀.heap.get? b=some o→b≠a∧b≠T:=fun b o e=>⟨fun z=>(by rw [z,na] at e;cases e),fun z=>(by rw [z,nT] at e;cases e)⟩
 have noFields:∀b,b∈frs X.stack→∃o,s'.heap.get? b=some o∧∀vs,o.data≠.fields vs:=fun b hb=>(stk.mem hb).2
 have any:∀b o,X.s₀.heap.get? b=some o→s'.heap.get? b≠none→∃o',h'.get? b=some o':=fun b o e hn=>by
  cases e':s'.heap.get? b with
  |none=>exact absurd e' hn
  |some o'=>
   by_cases hb:b∈frs X.stack
   ·obtain ⟨o2,h2,d2⟩:=noFields b hb
    obtain ⟨sl,h3⟩:=ups b o2 h2 d2
    exact ⟨_,h3⟩
   ·exact ⟨o',keepOf b o' (fun z=>by rcases z with z |z |z;exact (old b o e).1 z;exact (old b o e).2 z;exact hb z) e'⟩
 refine ⟨⟨fun b o e n hb hx=>?_,fun b o e n hb hx=>?_,B.free,fun b o e hx=>?_,B.tups,B.frzs,B.tbls⟩,fun b o e=>?_,na,ha,oe,vs,a0,T2,oT,ts,e1,e2,e3,e4,?_,?_,e6,e7,e8,e9,e11⟩
 ·exact keepOf b o (fun z=>by rcases z with z |z |z;exact (old b o e).1 z;exact (old b o e).2 z;exact notL b o e hb z) (B.keep b o e n hb hx)
 ·obtain ⟨sl,h1⟩:=B.slot b o e n hb hx
  have hb':b∈frs X.stack:=by rw [lv.frs];exact A1 _ hb
  obtain ⟨o2,h2,d2⟩:=noFields b hb'
  rw [h1] at h2
  cases h2
  obtain ⟨sl2,h3⟩:=ups b _ h1 d2
  exact ⟨sl2,h3⟩
 ·obtain ⟨o',h1⟩:=B.there b o e hx
  exact any b o e (by rw [h1];simp)
 ·refine (I.hok b o e).stay (fun c u hc q=>keepOf c u (fun z=>?_) q) (fun _ q=>q) fun _ _ q=>q
  have hc':H' c≠none:=by
   rcases hc with rfl |hc
   ·rw [e];simp
   ·rw [hc];simp
  rcases z with z |z |z
  ·exact hc' (z ▸ ha)
  ·exact hc' (z ▸ hT)
  ·exact hc' (frNone c z)
 ·cases q:X.s₀.heap.get? T2 with
  |none=>rfl
  |some o=>
   exfalso
   obtain ⟨o',h1⟩:=B.there T2 o q (by simp)
   by_cases hb:T2∈frs X.stack
   ·obtain ⟨o2,h2,d2⟩:=noFields T2 hb
    obtain ⟨sl,h3⟩:=ups T2 o2 h2 d2
    rw [h3] at e7
    cases e7
    exact d2 _ e8
   ·rw [Gj (fun z=>by rcases z with z |z |z;exact (old T2 o q).1 z;exact (old T2 o q).2 z;exact hb z),h1] at e5
    cases e5
 ·cases q:H' T2 with
  |none=>rfl
  |some o=>
   exfalso
   by_cases hb:T2=a∨T2=T∨T2∈frs X.stack
   ·rcases hb with z |z |z
    ·rw [z,ha] at q;cases q
    ·rw [z,hT] at q;cases q
    ·rw [frNone T2 z] at q;cases q
   ·rw [Gj hb] at e5
    obtain ⟨ob,eb⟩:=Mw (I.hok T2 o q)
    rw [eb] at e5
    cases e5
theorem Lv.older (lv:Lv X E) {pins:List (Addr×Obj)} {σ:L2.St} {H1:Hp} {s1:Shared} (I:Inv X pins σ H1 s1):∀b,s1.heap.get? b=none→X.s₀.heap.get? b=none:=fun b hb=>by
 cases q:X.s₀.heap.get? b with
 |none=>rfl
 |some o=>
  obtain ⟨o',h1⟩:=I.base.there b o q (by rw [lv.ex];simp)
  rw [hb] at h1;cases h1
theorem Mx (lv:Lv X E):F7 (AD X.prog X.w X.K) X E:=by
 rintro pins σ H1 s1 e s' I ⟨a,C,n,da,H',ee,os,bare,un,hok,fly,nm,q⟩
 subst ee
 have I':Inv X pins σ H' s':=I.call' os un hok bare (fun b hb=>absurd hb (by simp))
 obtain ⟨fnew,fno,oe,vs,a0,T,oT,ts,e1,e2,e3,e4,e5,e6,e7,e8,e9,e10,e11⟩:=fly
 have fro:X.A.frames=some (X.env::X.outer):=by rw [←lv.stk];exact I'.ok.frames
 have stk:s'.heap.FunFrames X.base (X.env::X.outer):=by have:=I'.stack;rw [lv.stk] at this;exact this
 have run:=IU Px (wpAny_leaving_nextW (M:=model X.prog X.w) (E:=fun _ _=>False) (Q:=fun _ s''=>∃h',s''={s' with heap:=h'}∧Heap.LeftW (blank (fun b=>b=a∨b=T∨b∈frs X.stack) s'.heap) (X.env::X.outer) a (.ref C) a0 s'.heap h') (base:=blank (fun b=>b=a∨b=T∨b∈frs X.stack) s'.heap) (cls:=.ref C) (a0:=a0) fro (Kv stk fun b hb=>.inr (.inr (by rw [lv.stk];exact hb))) lv.fr
  ⟨oe,vs,T,oT,ts,e1,e2,e3,e4,Gi (.inr (.inl rfl)),e7,e8,e9,e10⟩ Mv (Gi (.inl rfl)) fun h' L=>⟨h',rfl,L⟩)
 refine lv.xe _ _ (wpAny_mono run (fun _ s'' z=>?_) fun _ _ z=>z.1.elim)
 obtain ⟨⟨h',rfl,L⟩,D⟩:=z
 obtain ⟨u1,u2,u3⟩:=Pz lv I' (lv.older I a fnew) (lv.older I T e5) fno e6 (by rw [lv.stk] at *;exact L) e1 e11 D
 exact ⟨a,C,n,da,H',rfl,I'.os,bare,u1,u2,u3,nm,q⟩
theorem Wc (lv:Lv X E) {pins:List (Addr×Obj)} {σ:L2.St} {H1:Hp} {s1:Shared} {a C:Addr} {n:Str} {da:Option Addr} {oe:Obj} {vs:Array Value} {a0:Value} (I':Inv X pins σ H1 s1)
 (e1:s1.heap.get? a=some oe) (ec:oe.cls=.ref C) (e3:oe.data=.fields vs) (v0:vs[0]?=some a0) (v1:vs[1]?=some .none) (ed:oe.dict=da) (new:X.s₀.heap.get? a=none) (fresh:H1 a=none) (nm:PySem.W.nsIn X.K mainGlobals n=some (some (.ref C))) (q:E (D7 n) da H1):X.xe (.ref a) s1:=by
 have fro:X.A.frames=some (X.env::X.outer):=by rw [←lv.stk];exact I'.ok.frames
 have stk:s1.heap.FunFrames X.base (X.env::X.outer):=by have:=I'.stack;rw [lv.stk] at this;exact this
 have run:=IU Px (wpAny_leaving_firstW (M:=model X.prog X.w) (E:=fun _ _=>False) (Q:=fun _ s''=>∃h',s''={s1 with heap:=h'}∧Heap.LeftW (blank (fun b=>b=a∨b=a∨b∈frs X.stack) s1.heap) (X.env::X.outer) a oe.cls a0 s1.heap h') (base:=blank (fun b=>b=a∨b=a∨b∈frs X.stack) s1.heap) (a0:=a0) fro (Kv stk fun b hb=>.inr (.inr (by rw [lv.stk];exact hb))) lv.fr
  e1 Mv (Gi (.inl rfl)) e3 v1 v0 fun h2 L=>⟨h2,rfl,L⟩)
 refine lv.xe _ _ (wpAny_mono run (fun _ s'' z=>?_) fun _ _ z=>z.1.elim)
 obtain ⟨⟨h',rfl,L⟩,D⟩:=z
 obtain ⟨u1,u2,u3⟩:=Pz lv I' new new fresh fresh (by rw [lv.stk] at *;exact L) e1 ed D
 rw [ec] at u3
 exact ⟨a,C,n,da,H1,rfl,I'.os,I'.bare,u1,u2,u3,nm,q⟩
theorem Wd (lv:Lv X E) {pins:List (Addr×Obj)} {σ:L2.St} {H1:Hp} {s1:Shared} {h':Heap} {a C:Addr} {n:Str} {vs:List Value} (I:Inv X pins σ H1 s1)
 (m:Heap.MadeExcOf s1.heap h' a (.ref C) vs) (nm:PySem.W.nsIn X.K mainGlobals n=some (some (.ref C))) (q:E (D7 n) none H1):X.xe (.ref a) {s1 with heap:=h'}:=by
 have I':Inv X pins σ H1 {s1 with heap:=h'}:=I.kept m.keeps
 obtain ⟨t,e1,e2,e3⟩:=m.there
 have fresh:H1 a=none:=by
  cases q:H1 a with
  |none=>rfl
  |some o=>
   obtain ⟨ob,eb⟩:=Mw (I.hok a o q)
   rw [m.new] at eb;cases eb
 exact Wc lv I' e1 rfl rfl rfl rfl rfl (lv.older I a m.new) fresh nm q
end
section
variable {P:Program} {w:World} {K:PySem.W.Frag} {mg:Str→Option Value} {base:Heap} {N:List Str} {qual:Str} {scope:Scope} {f:Addr} {cd:Value} {A:Around} {outer:List Env} {s:Shared} {H:Hp} {E:XK}
theorem AU:F7 (AD P w K) (AS (AD P w K) P w K mg base N qual scope f cd A outer s H E) E:=Mx HA
theorem Wf {pins:List (Addr×Obj)} {σ:L2.St} {H1:Hp} {s1:Shared} {h':Heap} {a C:Addr} {n:Str} {vs:List Value} (I:Inv (AS (AD P w K) P w K mg base N qual scope f cd A outer s H E) pins σ H1 s1)
 (m:Heap.MadeExcOf s1.heap h' a (.ref C) vs) (nm:PySem.W.nsIn K mainGlobals n=some (some (.ref C))) (q:E (D7 n) none H1):(AS (AD P w K) P w K mg base N qual scope f cd A outer s H E).xe (.ref a) {s1 with heap:=h'}:=Wd HA I m nm q
end
inductive PB (h:Heap) (C:Addr) (bmB:List Value) (newId:String):Prop where
 |mk (bm:List Value) (N:Addr) (nm q:Str) (bs:List Value) (hdct:Bool) (sn:List Str) (sub:List Value) (ab:Bool) (col:Option Bool) (dd:Option Addr) (k0 k1 k2 k3 k5:Option Value) (mN:Str→Option Value)
  (hC:h.get? C=some (excClassObj nm q C N bs bm hdct sn sub ab col dd k0 k1 k2 k3 k5 newId)) (hN:h.Ns N mN) (hni:mN "__init__"=none) (T:OwnTail h bmB bm):PB h C bmB newId
def My (K:PySem.W.Frag) (C:Addr) (bmB:List Value) (newId:String):Prop:=∀h:Heap,K.In h→PB h C bmB newId
def clsOf:Data→Option ClassData
 |.cls c=>some c
 |_=>none
theorem Wg {d:Data} {c:ClassData} (h:clsOf d=some c):d=.cls c:=by
 cases d<;>first |(cases h;rfl) |cases h
inductive PC {α:Type} (l:List α):Prop where
 |mk (a b c d e f:α) (q:l=[a,b,c,d,e,f]):PC l
theorem Wh {α:Type} {l:List α} (h:l.length=6):PC l:=by
 cases l with
 |nil=>cases h
 |cons a l=>cases l with
  |nil=>cases h
  |cons b l=>cases l with
   |nil=>cases h
   |cons c l=>cases l with
    |nil=>cases h
    |cons d l=>cases l with
     |nil=>cases h
     |cons e l=>cases l with
      |nil=>cases h
      |cons f l=>cases l with
       |nil=>exact ⟨a,b,c,d,e,f,rfl⟩
       |cons g l=>cases h
def Kw (K:PySem.W.Frag) (C:Addr) (bmB:List Value) (newId:String) (o:Obj) (cd:ClassData):Bool:=
 decide (o.cls=.type "type")&&(decide (cd.mro=.ref C::cd.mro.tail)&&(!cd.hasDel&&(PySem.W.tailIn K bmB cd.mro.tail&&(PySem.W.nsOkIn K cd.ns&&(PySem.W.nsIn K cd.ns "__init__"==some none&&(decide (o.slots.toList.length=6)&&decide (o.slots.toList[4]?=some (some (.builtin newId)))))))))
def Mz (K:PySem.W.Frag) (C:Addr) (bmB:List Value) (newId:String):Bool:=match K.lookup C with
 |some o=>(match clsOf o.data with
  |some cd=>Kw K C bmB newId o cd
  |none=>false)
 |none=>false
theorem Wi {K:PySem.W.Frag} {C:Addr} {bmB:List Value} {newId:String} (q:Mz K C bmB newId=true):My K C bmB newId:=by
 intro h X
 unfold Mz at q
 cases lk:K.lookup C with
 |none=>rw [lk] at q;cases q
 |some o=>
  rw [lk] at q
  replace q:(match clsOf o.data with |some cd=>Kw K C bmB newId o cd |none=>false)=true:=q
  cases ec:clsOf o.data with
  |none=>rw [ec] at q;cases q
  |some cd=>
   rw [ec] at q
   replace q:Kw K C bmB newId o cd=true:=q
   unfold Kw at q
   simp only [CF,decide_eq_true_eq,Bool.not_eq_true',beq_iff_eq] at q
   obtain ⟨e1,e2,e3,e4,e5,e6,e7,e8⟩:=q
   obtain ⟨cls,od,dt,⟨sl⟩⟩:=o
   obtain ⟨nm,bs,mro,ns,qn,hd,sn,sub,ab,col,del⟩:=cd
   replace ec:=Wg ec
   simp only at ec e1 e2 e3 e4 e5 e6 e7 e8
   obtain ⟨k0,k1,k2,k3,k4,k5,rfl⟩:=Wh e7
   cases mro with
   |nil=>cases e2
   |cons c bm=>
    cases e2
    cases Option.some.inj e8
    subst ec e1 e3
    exact ⟨_,_,_,_,_,_,_,_,_,_,_,_,_,_,_,_,h.nsMap ns,X _ _ lk,.of_isNs (PySem.W.isNs_of_in X e5),PySem.W.nsMap_none_of_in X e5 e6,PySem.W.tail_of_in X e4⟩
abbrev IV:List Value:=[.type "ValueError",.type "Exception",.type "BaseException",.type "object"]
def MB (X:Cx) (E:XK):Prop:=∀(pins:List (Addr×Obj)) (σ:L2.St) (H1:Hp) (s1:Shared) (h':Heap) (a C:Addr) (n:Str) (vs:List Value),Inv X pins σ H1 s1→Heap.MadeExcOf s1.heap h' a (.ref C) vs→PySem.W.nsIn X.K mainGlobals n=some (some (.ref C))→E (D7 n) none H1→X.xe (.ref a) {s1 with heap:=h'}
theorem PD {P:Program} {w:World} {K:PySem.W.Frag} {mg:Str→Option Value} {base:Heap} {N:List Str} {qual:Str} {scope:Scope} {f:Addr} {cd:Value} {A:Around} {outer:List Env} {s:Shared} {H:Hp} {E:XK}:
 MB (AS (AD P w K) P w K mg base N qual scope f cd A outer s H E) E:=fun pins σ H1 s1 h' a C n vs I m nm q=>Wf I m nm q
section
variable {X:Cx} {E:XK}
def HB (n:Str) (fa:MA):MS:=fun ρ h=>(fa ρ h).bind fun xs h1=>if xs.length≤sizeLine then .err (D7 n) [] h1 else .stuck
theorem Wj {x:Str} {C:Addr} {e:Expr} {es:List Expr} {fa:MA} {np cpos pos:Pos} (O:My X.K C IV "ValueError.__new__") (nmC:PySem.W.nsIn X.K mainGlobals x=some (some (.ref C))) (hg:Gl X x) (hc:X.calm=true) (th:MB X E) (ha:Cz X E (e::es) fa)
 (hdb:(x==("__debug__":Str))=false:=by decide) (he:starEach (e::es) X.env=(false,eval e X.env)::starEach es X.env:=by rfl) (hpl:(backTo cpos (starEach (e::es) X.env)).any (·.1)=false:=by rfl):
 Ex X E (.Raise (some (.Call (.Name x np) (e::es) [] cpos)) none pos) (HB x fa):=by
 rintro pins s σ H D I ⟨m,ρ,h,hr,er,p⟩
 have hm:X.mg x=some (.ref C):=PySem.W.mg_of I.mod.kin I.mod.glob nmC
 obtain ⟨bm,NN,nm,q,bs,hdct,sn,sub,ab,col,dd,k0,k1,k2,k3,k5,mN,hC,hN,hni,T⟩:=O X.base I.mod.kin
 refine wpAny_Raise_call_subT (C:=C) (nm:=nm) (q:=q) (N:=NN) (bs:=bs) (bm:=bm) (hdct:=hdct) (sn:=sn) (sub:=sub) (ab:=ab) (col:=col) (dd:=dd) (k0:=k0) (k1:=k1) (k2:=k2) (k3:=k3) (k5:=k5)
  PySem.F.excBase_ValueError (mN:=mN) (T.hasType PySem.F.excBase_ValueError.hasBase) (I.ok.hd hc) hpl hni (Ha I hg hm ⟨rfl,?_⟩ hdb)
 have hh:=ha cpos pins s σ H (fun vs H1=>vs.length≤sizeLine∧E (D7 x) none H1) I ⟨m,ρ,h,hr,er,PostS.bind p fun xs h1 vs m1 H1 _ p1 k1 hr1 r1 q1=>by
  split at q1
  ·rename_i hz
   exact ⟨by rw [←DVs.len r1];exact hz,q1 none m1 H1 (AG _) (.refl _) hr1 (fun f d z=>by cases z)⟩
  ·exact q1.elim⟩
 rw [he] at hh ⊢
 exact Calls.evalArgs_plain (AB hh fun us s1 z1_=>by obtain ⟨vs,H1,I1,r,hl,q1⟩:=z1_;exact (⟨rfl,by rw [←r.length];exact hl,I1.bk _ _ hC,hN.keeps I1.bk,T.keeps I1.bk,fun h' a z=>th pins σ H1 s1 h' a C x us I1 z nmC q1⟩))
inductive Fg (K:PySem.W.Frag) (F:List D→HD→Out D) (vs:List V) (H:Hp) (Q:VK) (E:XK):Prop where
 |mk (m:List Addr) (ds:List D) (h:HD) (hr:HR K m h H) (r:DVs K m H ds vs) (p:Post K (rD K) m H E Q (F ds h)):Fg K F vs H Q E
theorem IW {P:Program} {w:World} {K:PySem.W.Frag} {X:Cx}:F7 (AD P w K) X E0:=fun _ _ _ _ _ _ _ z2_=>by obtain ⟨_,_,_,_,_,_,_,_,_,_,_,_,q⟩:=z2_;exact (q.elim)
theorem Kx {K:PySem.W.Frag} {n:Nat} {F:List D→HD→Out D} (ar:Ar n F) {vs:List V} {H:Hp} {Q:VK} {E':XK} (h:Fg K F vs H Q E'):vs.length=n:=by
 obtain ⟨m,ds,hd,hr,r,p⟩:=h
 rw [←r.len]
 by_cases e:ds.length=n
 ·exact e
 ·rw [ar ds hd e] at p;exact p.elim
structure CaE (P:Program) (w:World) (K:PySem.W.Frag) (mg:Str→Option Value) (base:Heap) (x:Str) (k:Nat) (F:List D→HD→Out D):Prop where
 ex:∃(f:Addr) (fd:FuncData) (ps:List Str),FnOk P w K mg base (AD P w K) k f fd ps (Fg K F)∧Binds K fd ps []∧mg x=some (.ref f)∧PySem.W.keepIn K (.ref f)=true
theorem AJ {k k':Nat} {F:List D→HD→Out D} {fa:MA} {x:Str} {p pos:Pos} {e:Expr} {es:List Expr} (C:CaE X.prog X.w X.K X.mg X.base x k F) (hr:Room k' X.A) (hx:F7 (AD X.prog X.w X.K) X E) (ha:Cz X E (e::es) fa) (hk:k≤k':=by decide) (hg:Gl X x:=by rfl)
 (hdb:(x==("__debug__":Str))=false:=by decide) (he:starEach (e::es) X.env=(false,eval e X.env)::starEach es X.env:=by rfl) (hpl:(backTo pos (starEach es X.env)).any (·.1)=false:=by rfl):
 Ev X E (.Call (.Name x p) (e::es) [] pos) (Ag F fa):=by
 obtain ⟨f,fd,ps,G,hb,hm,hkp⟩:=C.ex
 exact B4 (Ul (E:=E) G (hr.mono hk) hg hm hkp hb .nil hx ha hdb he hpl) fun σ H Q z3_=>by obtain ⟨m,ρ,hd,hr,er,p⟩:=z3_;exact (⟨m,ρ,hd,hr,er,Post.bind p fun xs h1 vs m1 H1 e1 p1 k1 hr1 r1 q1=>by
  rw [Fy]
  exact ⟨m1,xs,h1,hr1,r1,q1⟩⟩)
theorem BN {P:Program} {w:World} {K:PySem.W.Frag} {mg:Str→Option Value} {base:Heap} {x qual:Str} {st:Stmt} {f:Addr} {fd:FuncData} {N ps:List Str} {k:Nat} {F:List D→HD→Out D} {g:MS} (Fn:Fun K x qual st f fd) (S:Bd N ps (defScope st)) (ar:Ar ps.length F)
 (hg:∀ds h,ds.length=ps.length→F ds h=As N.length g ds h)
 (hbody:∀(cdv:Value) (A:Around) (outer:List Env) (s:Shared) (H:Hp) (E:XK),Room k (A.deeper (envOfC qual (defScope st) s.heap.objs.size f cdv))→A4 (AS (AD P w K) P w K mg base N qual (defScope st) f cdv A outer s H E) E (defBody st) g):FnOk P w K mg base (AD P w K) (k+1) f fd ps (Fg K F):=by
 obtain ⟨oc,od,kV,doc,pm,an,cdv,ct,osl,rfl,lk,hcd⟩:=Fn.ex
 refine Ou lk hcd S (fun vs H Q E h=>Kx ar h) fun A outer s H vs Q E hr h=>?_
 refine ⟨_,hbody cdv A outer s H E hr,?_⟩
 have hl:=Kx ar h
 obtain ⟨m,ds,hd,hr1,r,p⟩:=h
 have hld:ds.length=ps.length:=by rw [r.len];exact hl
 refine ⟨m,ds.map some++List.replicate (N.length - ds.length) none,hd,hr1,ER.start r,?_⟩
 rw [hg ds hd hld] at p
 unfold As at p
 cases o:g (ds.map some++List.replicate (N.length - ds.length) none) hd with
 |stuck=>rw [o] at p;exact p
 |err C fs h1=>rw [o] at p;exact p
 |ok a h1=>
  rw [o] at p
  obtain ⟨fl,ρ1⟩:=a
  intro m1 H1 p1 k1 hr1
  cases fl with
  |nx=>exact fun σ er=>p .non m1 H1 p1 k1 hr1 (by simp [rD,DV])
  |bk=>exact False.elim p
  |ct=>exact False.elim p
  |rt d=>exact fun v rv=>p v m1 H1 p1 k1 hr1 rv
end
theorem DK {P:Program} {w:World} {K:PySem.W.Frag} {mg:Str→Option Value} {base:Heap} {N:List Str} {qual:Str} {scope:Scope} {f:Addr} {cd:Value} {A:Around} {outer:List Env} {s:Shared} {H:Hp} {E:XK}:
 PassesOwn (model P w) (AS (AD P w K) P w K mg base N qual scope f cd A outer s H E).A (AS (AD P w K) P w K mg base N qual scope f cd A outer s H E).env (AS (AD P w K) P w K mg base N qual scope f cd A outer s H E).xe:=by
 passes_own
section
variable {X:Cx} {E:XK}
abbrev MO:=Ai→HD→Out (Option Int)
abbrev Ky (X:Cx) (E:XK) (e:Option Expr) (f:MO):Prop:=PO X e (tM X.K (fun _ _ a b=>a=b) E f)
def Dp:MO:=fun _ h=>.ok none h
def CZ (f:ME):MO:=fun ρ h=>(f ρ h).bind fun x h1=>match x with
 |.int i=>.ok (some i) h1
 |_=>.stuck
theorem PF {e:Option Expr} {t t':TO} (h:PO X e t) (i:∀σ H Q,t' σ H Q→t σ H Q):PO X e t':=fun pins s σ H Q I q=>h pins s σ H Q I (i σ H Q q)
theorem Fh:Ky X E none Dp:=PF Uz fun σ H Q z1_=>by obtain ⟨m,ρ,h,hr,er,p⟩:=z1_;exact (p none m H (AG _) (.refl _) hr rfl)
theorem Fi {e:Expr} {f:ME} (he:Ev X E e f):Ky X E (some e) (CZ f):=PF (UA he) fun σ H Q z2_=>by obtain ⟨m,ρ,h,hr,er,p⟩:=z2_;exact (⟨m,ρ,h,hr,er,Post.bind p fun x h1 v m1 H1 eo p1 k1 hr1 r1 q1=>by
 clear eo
 split at q1
 ·rename_i i
  simp only [rD,DV] at r1
  exact ⟨i,r1,q1 (some i) m1 H1 (AG _) (.refl _) hr1 rfl⟩
 ·exact q1.elim⟩)
def FT (xs:List D) (lo hi:Option Int):List D:=(xs.drop (HT.sIx xs.length 0 lo)).take (HT.sIx xs.length xs.length hi - HT.sIx xs.length 0 lo)
def PH (x:D) (lo hi:Option Int) (h:HD):Out D:=match x with
 |.tup xs=>if HT.sIx xs.length 0 lo=0∧HT.sIx xs.length xs.length hi=xs.length then .stuck else .ok (.tup (FT xs lo hi)) h
 |_=>.stuck
def PJ (f:ME) (lo hi:MO):ME:=fun ρ h=>(f ρ h).bind fun x h1=>(lo ρ h1).bind fun l h2=>(hi ρ h2).bind fun u h3=>PH x l u h3
theorem DVs.cut {K:PySem.W.Frag} {m:List Addr} {H:Hp} {ds:List D} {vs:List V} (r:DVs K m H ds vs) (lo hi:Option Int):DVs K m H (FT ds lo hi) (Hc vs lo hi):=by
 unfold FT Hc
 rw [r.len]
 exact (r.drop _).take _
def PK (o i x y:D) (ρ:Ai) (h:HD):Out (Fl×Ai):=match x,y with
 |.int a,.int b=>Hv o i (.int (a+b)) h (.ok (.nx,ρ) h)
 |_,_=>.stuck
def PL (o i:D) (h:HD):Out D:=match o,i with
 |.loc l,.int n=>if 0≤n then (match h[l]? with
  |some (.lst ds)=>(match ds[n.toNat]? with
   |some d=>.ok d h
   |none=>.stuck)
  |_=>.stuck) else .stuck
 |_,_=>.stuck
def PM (fo fi fv:ME):MS:=fun ρ h=>(fo ρ h).bind fun o h1=>(fi ρ h1).bind fun i h2=>(PL o i h2).bind fun x h3=>(fv ρ h3).bind fun y h4=>PK o i x y ρ h4
end
theorem vals_ints:∀{ns:List Int} {its:List Value},Vals (ns.map V.int) its→∃ys:List (Int×Tok),its=ys.map (fun p=>Value.int p.1 p.2)∧ys.map (·.1)=ns
 |[],its,r=>by cases r;exact ⟨[],rfl,rfl⟩
 |n::ns,its,r=>by
  cases r with
  |cons r1 r2=>
   obtain ⟨t,rfl⟩:=r1
   obtain ⟨ys,rfl,e⟩:=vals_ints r2
   exact ⟨(n,t)::ys,rfl,by simp [e]⟩
section
variable {X:Cx}
def Wk:List Int→Int
 |[]=>0
 |n::ns=>ns.foldl min n
def PN (f:List Int→Int):D→HD→Out D:=fun x h=>match x with
 |.loc l=>match h[l]? with
  |some (.lst ds)=>match Ax (ds.map Gf) with
   |some ns=>if ns=[] then .stuck else .ok (.int (f ns)) h
   |none=>.stuck
  |_=>.stuck
 |_=>.stuck
end
def PP (K:PySem.W.Frag) (t:Addr):It:=⟨fun i H=>∃xs,SqL K H t xs∧i<xs.length,fun i H x H'=>∃p v,H p=none∧x=.ref p∧(∀xs:List V,SqL K H t xs→xs[i]?=some v)∧H'=An H p (.tup [.int i,v]),fun i H=>∃xs,SqL K H t xs∧i=xs.length⟩
theorem Wl {P:Program} {w:World} {K:PySem.W.Frag} {elts:List Expr} {kt:Nat} {tpos:Pos} (e it t:Addr) (hei:e≠it) (hte:t≠e) (hti:t≠it):
 FC P w K (.Tuple elts kt tpos) (PP K t) [e,it] e (fun i h=>(∃old,IsEnum h e it i old)∧h.IsListIter it t i) where
 mem:=by simp
 obj:=fun i h st b hb=>by
  obtain ⟨⟨old,h1⟩,o,h2,hc,hd⟩:=st
  rcases qa8.mp hb with z |z
  ·subst z;exact ⟨_,h1,fun v z=>by cases z⟩
  ·rw [qaI] at z
   subst z
   exact ⟨o,h2,fun v z=>by rw [hd] at z;cases z⟩
 keep:=fun i h h' st k=>by
  obtain ⟨⟨old,h1⟩,h2⟩:=st
  exact ⟨⟨old,k e (by simp) _ h1⟩,h2.at fun o z=>k it (by simp) o z⟩
 item:=by
  intro X hP hw hK hc i pins s σ H E I hf st hg
  subst hP hw hK
  obtain ⟨⟨old,he⟩,hit⟩:=st
  obtain ⟨xs,hq,hi⟩:=hg
  obtain ⟨its,rv,p,hz⟩:=I.list hq
  have hT:s.heap.IsList t its.toArray:=p.isList
  have hl:=rv.length
  obtain ⟨e0,e1,e2,e3,e4,e5⟩:=hf e (by simp)
  obtain ⟨i0,i1,i2,i3,i4,i5⟩:=hf it (by simp)
  have hx:xs[i]?=some xs[i]:=A8 hi
  refine wpAny_pyNext_enum_itemD (Draws.list (A:=X.A.in1) (I.ok.hd hc) it t hti its.toArray) he ⟨hit,hT⟩ (by rw [A9];omega) hei (by simp [hei,Ne.symm hte]) fun x h1 tk hPx ho hs1 hTup hsz hk=>?_
  obtain ⟨u,hu,ru⟩:=rv.get hx
  have hux:u=x:=by
   have:its[i]?=some x:=by simpa using hPx
   rw [hu] at this
   exact Option.some.inj this
  subst hux
  refine ⟨.ref s.heap.objs.size,rfl,wpAny_letOwnedTupleGo_enum ho fun h2 he2 sb=>?_⟩
  have hfr:H s.heap.objs.size=none:=I.hok.fresh (AK _)
  have kk:∀b o,b∉[e,it]→s.heap.get? b=some o→h2.get? b=some o:=fun b o hb z=>by
   have n1:b≠e:=fun q=>hb (by simp [q])
   have n2:b≠it:=fun q=>hb (by simp [q])
   exact (sb.2 b n1).trans (hk b o n1 n2 z)
  have na:s.heap.objs.size≠e:=Fe (Av he)
  have hnew:h2.get? s.heap.objs.size=some {cls:=.type "tuple",data:=.seq #[.int i tk,u]}:=(sb.2 _ na).trans hTup
  have ntr:∀b w,H b=some w→b∉[e,it]:=fun b w z hb=>by
   rcases qa8.mp hb with q |q
   ·rw [q,e0] at z;cases z
   ·rw [qaI.mp q,i0] at z;cases z
  have nal:∀b o,s.heap.get? b=some o→b≠s.heap.objs.size:=fun b o z=>BF (Av z)
  have it2:h2.IsListIter it t (i+1):=by
   obtain ⟨o,q,r⟩:=hs1.1
   exact ⟨o,(sb.2 it (Ne.symm hei)).trans q,r⟩
  refine ⟨.ref s.heap.objs.size,An H s.heap.objs.size (.tup [.int i,xs[i]]),?_,rfl,⟨s.heap.objs.size,xs[i],hfr,rfl,fun ys hy=>by rw [I.list_inj hy hq];exact hx,rfl⟩,⟨⟨u,he2⟩,it2⟩,fun b hb=>?_⟩
  ·show Inv X pins σ _ {s with heap:=h2,gens:=s.gens,drawn:=s.drawn,toks:=tk+1}
   refine I.step (g':=s.gens) (d':=s.drawn) (t':=tk+1) (h':=h2) (ch:=[e,it]) (fun b hb=>?_) (fun b o _ _ hc z _=>kk b o hc z) (fun b o _ _ hc z _=>⟨o.slots,kk b o hc z⟩) (fun b o _ z n=>by rw [Ao (nal b o z)];exact n)
    (fun b o hc z=>⟨o,kk b o hc z⟩) (fun b ys z=>by rw [Ao (Bz z hfr)];exact z) (fun b o u z=>by rw [Ao (Bz z hfr)];exact z) (fun b ps z=>⟨#[],by rw [Ao (Bz z hfr),z];simp⟩) (fun m hm=>?_) (fun b w z=>?_) I.bare
   ·rcases qa8.mp hb with q |q
    ·subst q;exact ⟨e3,e1,e4,e5⟩
    ·rw [qaI] at q;subst q;exact ⟨i3,i1,i4,i5⟩
   ·obtain ⟨o,es,ep,q,r⟩:=hm
    exact ⟨o,es,ep,kk _ o (by simp [Ne.symm e1,Ne.symm i1]) q,r⟩
   ·by_cases hb:b=s.heap.objs.size
    ·subst hb
     rw [B3] at z
     cases z
     exact ⟨by simp only [E5,Fz];rw [sizeLine_eq];decide,[.int i tk,u],.cons ⟨tk,rfl⟩ (.cons ru .nil),⟨_,hnew,rfl,0,rfl⟩,fun o e=>by rw [hnew] at e;cases e;rfl⟩
    ·rw [Ao hb] at z
     refine (I.hok b w z).stay (fun c v hc q=>kk c v ?_ q) (fun c q=>by rw [Ao (Bz q hfr)];exact q) fun c ys q=>by rw [Ao (Bz q hfr)];exact q
     rcases hc with rfl |hc
     ·exact ntr c _ z
     ·exact ntr c _ hc
  ·have nb:b≠s.heap.objs.size:=by
    rcases qa8.mp hb with q |q
    ·rw [q];exact na.symm
    ·rw [qaI.mp q]
     obtain ⟨o,z,_⟩:=hit
     exact nal _ _ z
   rw [Ao nb]
   exact (hf b hb).1
 done:=by
  intro X hP hw hK hc i pins s σ H E I hf st hg
  subst hP hw hK
  obtain ⟨⟨old,he⟩,hit⟩:=st
  obtain ⟨xs,hq,hi⟩:=hg
  obtain ⟨its,rv,p,hz⟩:=I.list hq
  have hT:s.heap.IsList t its.toArray:=p.isList
  have hl:=rv.length
  obtain ⟨i0,i1,i2,i3,i4,i5⟩:=hf it (by simp)
  have hin:i=its.toArray.size:=by rw [A9];omega
  refine wpAny_pyNext_enum_endD (Draws.list (A:=X.A.in1) (I.ok.hd hc) it t hti its.toArray) he (hin ▸ ⟨hit,hT⟩) fun h' eb=>⟨rfl,I.turned (t':=s.toks) (fun b o hb z=>eb b o hb z) i0 i1 i3 i4 i5⟩
 self:=fun A i s Q E st h=>by
  obtain ⟨⟨old,he⟩,_⟩:=st
  exact wpAny_pyIter_enum he h
section
variable {X:Cx} {E:XK}
theorem Wm {elts:List Expr} {kt:Nat} {tpos p pos:Pos} {a:Expr} {ta:TA} (hg:Gl X "enumerate") (hm:X.mg "enumerate"=none) (ha:PA X [a] ta) (hs:starEach [a] X.env=[(false,eval a X.env)]:=by rfl):
 PI X (.Tuple elts kt tpos) (.Call (.Name "enumerate" p) [a] [] pos) (fun σ H R=>ta σ H fun vs H1=>(∃t xs,vs=[.ref t]∧SqT X.K H1 t xs∧R (Pb X.K t xs) H1)∨∃t xs,vs=[.ref t]∧SqL X.K H1 t xs∧R (PP X.K t) H1):=by
 intro pins s σ H R I h
 refine Call_ (F4 I hg hm boot_enumerate (PyProof.Rows.callWith_type1 (AB (ha pos pins s σ H _ I h) fun us s1 z1_=>?_) hs rfl))
 obtain ⟨vs,H1,I1,r1,q1⟩:=z1_
 rcases q1 with ⟨t,xs,e,hq,q⟩ |⟨t,xs,e,hq,q⟩
 ·subst e
  cases r1 with
  |cons r rr=>
   cases rr
   cases r
   obtain ⟨its,rv,p,hz⟩:=I1.tuple hq
   have hT:s1.heap.IsTuple t its.toArray:=p
   have hlt:t<s1.heap.objs.size:=p.lt
   refine VN hT fun h' he hit hsz hk=>wpAny_pyIter_enum (s:={s1 with heap:=h'}) he ?_
   have I2:Inv X pins σ H1 {s1 with heap:=h'}:=I1.kept (t':=s1.toks) hk
   refine ⟨s1.heap.objs.size+1,[s1.heap.objs.size+1,s1.heap.objs.size],_,_,H1,rfl,I2,VO (s1.heap.objs.size+1) s1.heap.objs.size t (Nat.succ_ne_self _) (BF (Ic hlt)) (BF hlt) xs,⟨⟨.none,he⟩,hit⟩,fun b hb=>?_,q⟩
   rcases qa8.mp hb with z |z
   ·subst z;exact I1.fpOk (Nat.le_succ _) (I1.hok.fresh (Nat.le_succ _))
   ·rw [qaI] at z;subst z;exact I1.fpOk (AK _) (I1.hok.fresh (AK _))
 ·subst e
  cases r1 with
  |cons r rr=>
   cases rr
   cases r
   obtain ⟨its,rv,p,hz⟩:=I1.list hq
   have hT:s1.heap.IsList t its.toArray:=p.isList
   have hlt:t<s1.heap.objs.size:=by obtain ⟨_,z,_⟩:=hT;exact Av z
   refine call_enumerate_list hT fun h' he hit hsz hk=>wpAny_pyIter_enum (s:={s1 with heap:=h'}) he ?_
   have I2:Inv X pins σ H1 {s1 with heap:=h'}:=I1.kept (t':=s1.toks) hk
   refine ⟨s1.heap.objs.size+1,[s1.heap.objs.size+1,s1.heap.objs.size],_,_,H1,rfl,I2,Wl (s1.heap.objs.size+1) s1.heap.objs.size t (Nat.succ_ne_self _) (BF (Ic hlt)) (BF hlt),⟨⟨.none,he⟩,hit⟩,fun b hb=>?_,q⟩
   rcases qa8.mp hb with z |z
   ·subst z;exact I1.fpOk (Nat.le_succ _) (I1.hok.fresh (Nat.le_succ _))
   ·rw [qaI] at z;subst z;exact I1.fpOk (AK _) (I1.hok.fresh (AK _))
def IX:List D→HD→Out (List D×A0):=fun ds h=>match ds with
 |[.tup xs]=>.ok (D0 xs,[]) h
 |[.loc l]=>match h[l]? with
  |some (.lst xs)=>.ok (D0 xs,[(l,xs)]) h
  |_=>.stuck
 |_=>.stuck
def IY (fa:MA):MI:=fun ρ h=>(fa ρ h).bind IX
theorem PQ {elts:List Expr} {kt:Nat} {tpos p pos:Pos} {a:Expr} {fa:MA} (hg:Gl X "enumerate") (hm:X.mg "enumerate"=none) (ha:Cz X E [a] fa) (hs:starEach [a] X.env=[(false,eval a X.env)]:=by rfl):
 EA X E (.Tuple elts kt tpos) (.Call (.Name "enumerate" p) [a] [] pos) (IY fa):=
 IP (Wm hg hm ha hs) fun σ H R ⟨m,ρ,h,hr,er,p⟩=>⟨m,ρ,h,hr,er,Post.bind p fun x h1 v m1 H1 eo p1 k1 hr1 r1 q1=>by
  clear eo
  unfold IX at q1
  split at q1
  ·rename_i xs
   simp only [Ep,DVs,DV] at r1
   obtain ⟨v,w,rfl,⟨a,vs,rfl,ha,dv⟩,rfl⟩:=r1
   refine .inl ⟨a,vs,rfl,SqT.of ha,q1 _ m1 H1 (AG _) (.refl _) hr1 fun i m2 h2 H2 p2 k2 hr2 _=>⟨fun hi=>?_,fun hi=>?_⟩⟩
   ·have hi':i<xs.length:=by simpa [D0] using hi
    refine ⟨⟨by rw [←dv.len];exact hi',SqT.of (k2 _ _ ha rfl)⟩,fun y H3 ⟨pp,vv,hp,ey,ev,eH⟩=>?_⟩
    subst ey eH
    have hd:xs[i]?=some xs[i]:=A8 hi'
    obtain ⟨v2,e2,r2⟩:=dv.get hd
    rw [ev] at e2
    cases e2
    refine ⟨.new hp,hr2.new hp,.tup [.int i,xs[i]],?_,?_⟩
    ·simp [D0,hd]
    ·simp only [DV]
     exact ⟨pp,_,rfl,B3,.cons (by simp [DV]) (.cons (DV.keep p2 (k2.trans (.new hp)) r2) .nil)⟩
   ·exact ⟨by rw [←dv.len];simpa [D0] using hi,SqT.of (k2 _ _ ha rfl)⟩
  ·rename_i l
   split at q1
   ·rename_i xs el
    simp only [Ep,DVs,DV] at r1
    obtain ⟨v,w,rfl,⟨a,rfl,ha⟩,rfl⟩:=r1
    obtain ⟨vs,hv,dv⟩:=hr1.cells l _ a el ha
    refine .inr ⟨a,vs,rfl,SqL.of hv,q1 _ m1 H1 (AG _) (.refl _) hr1 fun i m2 h2 H2 p2 k2 hr2 hsr=>?_⟩
    obtain ⟨ws,hw,dw⟩:=hr2.cells l _ a (hsr _ AO) (IA p2 ha)
    refine ⟨fun hi=>?_,fun hi=>⟨ws,SqL.of hw,by rw [←dw.len];simpa [D0] using hi⟩⟩
    have hi':i<xs.length:=by simpa [D0] using hi
    refine ⟨⟨ws,SqL.of hw,by rw [←dw.len];exact hi'⟩,fun y H3 ⟨pp,vv,hp,ey,ev,eH⟩=>?_⟩
    subst ey eH
    have hd:xs[i]?=some xs[i]:=A8 hi'
    obtain ⟨v2,e2,r2⟩:=dw.get hd
    rw [ev ws (SqL.of hw)] at e2
    cases e2
    refine ⟨.new hp,hr2.new hp,.tup [.int i,xs[i]],?_,?_⟩
    ·simp [D0,hd]
    ·simp only [DV]
     exact ⟨pp,_,rfl,B3,.cons (by simp [DV]) (.cons (DV.keep (AG _) (.new hp) r2) .nil)⟩
   ·exact q1.elim
  ·exact q1.elim⟩
end
structure HC (z TI TO p q:Addr) (f g:List Addr):Prop where
 a1:TI≠z
 a2:TO≠z
 a3:p≠z
 a4:q≠z
 a5:TI≠TO
 a6:TI≠p
 a7:TI≠q
 a8:TO≠p
 a9:TO≠q
 b1:p≠q
 b2:z∉f
 b3:z∉g
 b4:TO∉f
 b5:TO∉g
 b6:p∉g
 b7:q∉f
section
variable {prog:Program} {w:World} {A:Around} {E:Value→Shared→Prop} {s:Shared} {z TI TO p q:Addr} {f g:List Addr} {n1 n2 k:Nat} {P1 P2:Nat→Value→Prop} {S1 S2:Nat→Heap→Prop} {a b:Value}
theorem Wn {Q:Value→Shared→Prop} (D1:Draws prog w A p f n1 P1 S1) (D2:Draws prog w A q g n2 P2 S2) (ap:HC z TI TO p q f g)
 (zz:IsZip s.heap z TI TO .none) (zi:IsPair s.heap TI (.ref p) (.ref q)) (zo:IsPair s.heap TO a b) (s1:S1 k s.heap) (s2:S2 k s.heap) (l1:k<n1) (l2:k<n2)
 (hQ:∀h' tk x y,P1 k x→P2 k y→IsZip h' z TI TO (rawInt s.heap.objs.size)→IsPair h' TO x y→S1 (k+1) h'→S2 (k+1) h'→IsPair h' s.heap.objs.size x y→
  (∀c o,c≠z→c≠TO→c≠p→c≠q→s.heap.get? c=some o→h'.get? c=some o)→Q (.ref s.heap.objs.size) {s with heap:=h',toks:=tk}):
 wpAny (model prog w) A (Builtin.«zip.__next__» ⟨[.ref z],[]⟩) (fun fin s'=>∃v,fin=.done (.ret v)∧Q v s') E s:=by
 show wpAny _ _ (field (.ref z) 2 >>=_) _ _ _
 refine wpAny_bind (wpAny_field zz rfl (x:=.bool false) rfl ?_)
 show wpAny _ _ (field (.ref z) 3 >>=_) _ _ _
 refine wpAny_bind (wpAny_field zz rfl (x:=.ref TI) rfl ?_)
 refine wpAny_bind (wpAny_seqItems zi rfl ?_)
 show wpAny _ _ (Builtin.SmallTypes.ownedTupleIsFree (.ref z) >>=_) _ _ _
 refine wpAny_bind ?_
 unfold Builtin.SmallTypes.ownedTupleIsFree
 refine wpAny_bind (wpAny_field zz rfl (x:=.none) rfl (wpAny_pure ?_))
 simp only [if_true]
 refine wpAny_bind (wpAny_rule ?_)
 refine wpAny_bind (wpAny_field zz rfl (x:=.ref TO) rfl ?_)
 refine wpAny_bind (wpAny_setField_rec zz (by simp) fun m1 zz1 t1=>?_)
 replace zz1:IsZip m1 z TI TO .ellipsis:=zz1
 refine wpAny_bind ?_
 simp only [List.zipIdx_cons,List.zipIdx_nil,List.forIn_cons,List.forIn_nil]
 refine wpAny_bind (wpAny_bind (wpAny_onRaise ?_))
 show wpAny _ _ (Builtin.SmallTypes.nextOf (.ref p) >>=_) _ _ _
 refine wpAny_bind (D1.item k _ _ _ l1 (D1.frame k _ _ s1 fun c hc o e=>t1.extBut _ _ (fun y=>ap.b2 (y ▸ hc)) e) fun x m2 tk2 px s12 t2=>wpAny_pure ?_)
 have zo2:IsPair m2 TO a b:=t2.extBut _ _ ap.a8 (t1.extBut _ _ ap.a2 zo)
 refine wpAny_bind (wpAny_seqItems zo2 rfl ?_)
 refine wpAny_bind (wpAny_updateSeq_pair zo2 fun m3 zo3 t3=>?_)
 replace zo3:IsPair m3 TO x b:=zo3
 refine wpAny_bind (wpAny_letGo (wpAny_pure ?_))
 refine wpAny_bind (wpAny_bind (wpAny_onRaise ?_))
 show wpAny _ _ (Builtin.SmallTypes.nextOf (.ref q) >>=_) _ _ _
 have s23:S2 k m3:=D2.frame k _ _ s2 fun c hc o e=>t3.extBut _ _ (fun y=>ap.b5 (y ▸ hc)) (t2.extBut _ _ (fun y=>ap.b6 (y ▸ hc)) (t1.extBut _ _ (fun y=>ap.b3 (y ▸ hc)) e))
 refine wpAny_bind (D2.item k _ _ _ l2 s23 fun y m4 tk4 py s24 t4=>wpAny_pure ?_)
 have zo4:IsPair m4 TO x b:=t4.extBut _ _ ap.a9 zo3
 refine wpAny_bind (wpAny_seqItems zo4 rfl ?_)
 refine wpAny_bind (wpAny_updateSeq_pair zo4 fun m5 zo5 t5=>?_)
 replace zo5:IsPair m5 TO x y:=zo5
 refine wpAny_bind (wpAny_letGo (wpAny_pure (wpAny_pure ?_)))
 refine wpAny_bind (wpAny_seqItems zo5 rfl ?_)
 refine wpAny_bind (wpAny_newTuple ?_)
 have sz:m5.objs.size=s.heap.objs.size:=by rw [t5.1,t4.1,t3.1,t2.1,t1.1]
 have zz5:IsZip m5 z TI TO .ellipsis:=t5.extBut _ _ ap.a2.symm (t4.extBut _ _ ap.a4.symm (t3.extBut _ _ ap.a2.symm (t2.extBut _ _ ap.a3.symm zz1)))
 have kp:∀c o,c≠z→c≠TO→c≠p→c≠q→s.heap.get? c=some o→m5.get? c=some o:=fun c o c1 c2 c3 c4 e=>t5.extBut _ _ c2 (t4.extBut _ _ c4 (t3.extBut _ _ c2 (t2.extBut _ _ c3 (t1.extBut _ _ c1 e))))
 have zlt:z<m5.objs.size:=Av zz5
 show wpAny _ _ (Builtin.SmallTypes.ownedTupleHandOut (.ref z) (.ref m5.objs.size) >>=_) _ _ _
 refine wpAny_bind ?_
 unfold Builtin.SmallTypes.ownedTupleHandOut
 have zz6:IsZip (m5.push {cls:=.type "tuple",data:=.seq #[x,y]}) z TI TO .ellipsis:=AE _ zz5
 refine wpAny_bind (wpAny_setField_rec zz6 (by simp) fun m7 zz7 t7=>?_)
 replace zz7:IsZip m7 z TI TO (rawInt m5.objs.size):=zz7
 refine wpAny_setField_rec zz7 (by simp) fun m8 zz8 t8=>?_
 replace zz8:IsZip m8 z TI TO (rawInt m5.objs.size):=zz8
 have up:∀c o,c≠z→m5.get? c=some o→m8.get? c=some o:=fun c o c1 e=>t8.extBut _ _ c1 (t7.extBut _ _ c1 (AE _ e))
 have nw:IsPair m8 m5.objs.size x y:=t8.extBut _ _ (B2 zlt) (t7.extBut _ _ (B2 zlt) (Bp _ rfl))
 rw [sz] at zz8 nw
 refine wpAny_pure ⟨_,rfl,?_⟩
 show Q (.ref m5.objs.size) _
 rw [sz]
 refine hQ m8 tk4 x y px py zz8 (up _ _ ap.a2 zo5) (D1.frame _ m2 m8 s12 fun c hc o e=>?_) (D2.frame _ m4 m8 s24 fun c hc o e=>?_) nw fun c o c1 c2 c3 c4 e=>up c o c1 (kp c o c1 c2 c3 c4 e)
 ·have n1:c≠TO:=fun y=>ap.b4 (y ▸ hc)
  exact up c o (fun y=>ap.b2 (y ▸ hc)) (t5.extBut _ _ n1 (t4.extBut _ _ (fun y=>ap.b7 (y ▸ hc)) (t3.extBut _ _ n1 e)))
 ·exact up c o (fun y=>ap.b3 (y ▸ hc)) (t5.extBut _ _ (fun y=>ap.b5 (y ▸ hc)) e)
theorem Wo {Q:Fin→Shared→Prop} (D1:Draws prog w A p f n1 P1 S1) (D2:Draws prog w A q g n2 P2 S2) (ap:HC z TI TO p q f g)
 (zz:IsZip s.heap z TI TO .none) (zi:IsPair s.heap TI (.ref p) (.ref q)) (zo:IsPair s.heap TO a b) (s1:S1 k s.heap) (s2:S2 k s.heap) (hk:k=n1∨(k<n1∧k=n2))
 (hE:∀h' tk e,(∀c o,c≠z→c≠TO→c≠p→c≠q→s.heap.get? c=some o→h'.get? c=some o)→(∃o,h'.get? e=some o∧o.cls=.type "StopIteration")→E (.ref e) {s with heap:=h',toks:=tk}):
 wpAny (model prog w) A (Builtin.«zip.__next__» ⟨[.ref z],[]⟩) Q E s:=by
 show wpAny _ _ (field (.ref z) 2 >>=_) _ _ _
 refine wpAny_bind (wpAny_field zz rfl (x:=.bool false) rfl ?_)
 show wpAny _ _ (field (.ref z) 3 >>=_) _ _ _
 refine wpAny_bind (wpAny_field zz rfl (x:=.ref TI) rfl ?_)
 refine wpAny_bind (wpAny_seqItems zi rfl ?_)
 show wpAny _ _ (Builtin.SmallTypes.ownedTupleIsFree (.ref z) >>=_) _ _ _
 refine wpAny_bind ?_
 unfold Builtin.SmallTypes.ownedTupleIsFree
 refine wpAny_bind (wpAny_field zz rfl (x:=.none) rfl (wpAny_pure ?_))
 simp only [if_true]
 refine wpAny_bind (wpAny_rule ?_)
 refine wpAny_bind (wpAny_field zz rfl (x:=.ref TO) rfl ?_)
 refine wpAny_bind (wpAny_setField_rec zz (by simp) fun m1 zz1 t1=>?_)
 replace zz1:IsZip m1 z TI TO .ellipsis:=zz1
 refine wpAny_bind ?_
 simp only [List.zipIdx_cons,List.zipIdx_nil,List.forIn_cons,List.forIn_nil]
 refine wpAny_bind (wpAny_bind (wpAny_onRaise ?_))
 show wpAny _ _ (Builtin.SmallTypes.nextOf (.ref p) >>=_) _ _ _
 have s11:=D1.frame k _ m1 s1 fun c hc o e=>t1.extBut _ _ (fun y=>ap.b2 (y ▸ hc)) e
 rcases hk with hk |⟨hk,hk2⟩
 ·subst hk
  refine wpAny_bind (D1.done _ _ _ s11 fun m2 e t2 he=>?_)
  obtain ⟨oe,e1,e2⟩:=he
  have zz2:IsZip m2 z TI TO .ellipsis:=t2 _ _ ap.a3.symm zz1
  have ne:e≠z:=fun y=>by subst y;rw [zz2] at e1;cases e1;simp at e2
  exact wpAny_setField_rec zz2 (by simp) fun m3 _ t3=>hE m3 _ e (fun c o c1 _ c3 _ y=>t3.extBut _ _ c1 (t2 _ _ c3 (t1.extBut _ _ c1 y))) ⟨oe,t3.extBut _ _ ne e1,e2⟩
 ·subst hk2
  refine wpAny_bind (D1.item k _ _ _ hk s11 fun x m2 tk2 px s12 t2=>wpAny_pure ?_)
  have zo2:IsPair m2 TO a b:=t2.extBut _ _ ap.a8 (t1.extBut _ _ ap.a2 zo)
  refine wpAny_bind (wpAny_seqItems zo2 rfl ?_)
  refine wpAny_bind (wpAny_updateSeq_pair zo2 fun m3 zo3 t3=>?_)
  refine wpAny_bind (wpAny_letGo (wpAny_pure ?_))
  refine wpAny_bind (wpAny_bind (wpAny_onRaise ?_))
  show wpAny _ _ (Builtin.SmallTypes.nextOf (.ref q) >>=_) _ _ _
  have s23:S2 k m3:=D2.frame k _ _ s2 fun c hc o e=>t3.extBut _ _ (fun y=>ap.b5 (y ▸ hc)) (t2.extBut _ _ (fun y=>ap.b6 (y ▸ hc)) (t1.extBut _ _ (fun y=>ap.b3 (y ▸ hc)) e))
  refine wpAny_bind (D2.done _ _ _ s23 fun m4 e t4 he=>?_)
  obtain ⟨oe,e1,e2⟩:=he
  have zz4:IsZip m4 z TI TO .ellipsis:=t4 _ _ ap.a4.symm (t3.extBut _ _ ap.a2.symm (t2.extBut _ _ ap.a3.symm zz1))
  have ne:e≠z:=fun y=>by subst y;rw [zz4] at e1;cases e1;simp at e2
  exact wpAny_setField_rec zz4 (by simp) fun m5 _ t5=>hE m5 _ e (fun c o c1 c2 c3 c4 y=>t5.extBut _ _ c1 (t4 _ _ c4 (t3.extBut _ _ c2 (t2.extBut _ _ c3 (t1.extBut _ _ c1 y))))) ⟨oe,t5.extBut _ _ ne e1,e2⟩
theorem Wq {Q:Option Value→Shared→Prop} (D1:Draws prog w A.in1 p f n1 P1 S1) (D2:Draws prog w A.in1 q g n2 P2 S2) (ap:HC z TI TO p q f g)
 (zz:IsZip s.heap z TI TO .none) (zi:IsPair s.heap TI (.ref p) (.ref q)) (zo:IsPair s.heap TO a b) (s1:S1 k s.heap) (s2:S2 k s.heap) (l1:k<n1) (l2:k<n2)
 (hQ:∀h' tk x y,P1 k x→P2 k y→IsZip h' z TI TO (rawInt s.heap.objs.size)→IsPair h' TO x y→S1 (k+1) h'→S2 (k+1) h'→IsPair h' s.heap.objs.size x y→
  (∀c o,c≠z→c≠TO→c≠p→c≠q→s.heap.get? c=some o→h'.get? c=some o)→Q (some (.ref s.heap.objs.size)) {s with heap:=h',toks:=tk}):
 wpAny (model prog w) A (pyNext (.ref z)) Q E s:=by
 have hT:s.TypeIs (.ref z) "zip":=⟨_,zz,rfl⟩
 unfold pyNext
 exact wpAny_bind (wpAny_attempt (wpAny_callSpecial?_slot (name:=Str.ofString "__next__") hT F.slot_zip_next (wpAny_call_entry F.slot_zip_next hT F.entry_zip_next
  (Wn D1 D2 ap zz zi zo s1 s2 l1 l2 fun h' tk x y c1 c2 c3 c4 c5 c6 c7 c8=>wpAny_pure (hQ h' tk x y c1 c2 c3 c4 c5 c6 c7 c8)) (F.args_zip_next_1 _))))
theorem Wr {Q:Option Value→Shared→Prop} (D1:Draws prog w A.in1 p f n1 P1 S1) (D2:Draws prog w A.in1 q g n2 P2 S2) (ap:HC z TI TO p q f g)
 (zz:IsZip s.heap z TI TO .none) (zi:IsPair s.heap TI (.ref p) (.ref q)) (zo:IsPair s.heap TO a b) (s1:S1 k s.heap) (s2:S2 k s.heap) (hk:k=n1∨(k<n1∧k=n2))
 (hQ:∀h' tk,(∀c o,c≠z→c≠TO→c≠p→c≠q→s.heap.get? c=some o→h'.get? c=some o)→Q none {s with heap:=h',toks:=tk}):wpAny (model prog w) A (pyNext (.ref z)) Q E s:=by
 have hT:s.TypeIs (.ref z) "zip":=⟨_,zz,rfl⟩
 unfold pyNext
 refine wpAny_bind (wpAny_attempt (wpAny_callSpecial?_slot (name:=Str.ofString "__next__") hT F.slot_zip_next (wpAny_call_entry F.slot_zip_next hT F.entry_zip_next
  (Wo D1 D2 ap zz zi zo s1 s2 hk fun h' tk e kp he=>?_) (F.args_zip_next_1 _))))
 obtain ⟨o,ho,hc⟩:=he
 refine wpAny_bind (wpAny_isInstance (T:="StopIteration") (b:=true) ⟨o,ho,hc⟩ isSubtype_stop ?_)
 exact wpAny_pure (hQ _ _ kp)
end
open AutoSeq1 (wpAny_loadPart')
def ItAt:Bool→Heap→Addr→Addr→Nat→Prop
 |true,h,it,l,i=>h.IsTupleIter it l i
 |false,h,it,l,i=>h.IsListIter it l i
def SqA:Bool→Heap→Addr→Array Value→Prop
 |true,h,l,xs=>h.IsTuple l xs
 |false,h,l,xs=>h.IsList l xs
def DL:Bool→PySem.W.Frag→Hp→Addr→List V→Prop
 |true,K,H,a,xs=>SqT K H a xs
 |false,K,H,a,xs=>SqL K H a xs
def Gk (k:Bool) (l:Addr):Obj:={cls:=.type (if k then "tuple_iterator" else "list_iterator"),data:=.fields #[.ref l,.int 0 0]}
theorem Kz {prog:Program} {w:World} {A:Around} (k:Bool) (hh:A.handled=none) (it l:Addr) (hne:l≠it) (items:Array Value):
 Draws prog w A it [it,l] items.size (fun i v=>items[i]?=some v) (fun i h=>ItAt k h it l i∧SqA k h l items):=by
 cases k
 ·exact Draws.list hh it l hne items
 ·exact Mc hh it l hne items
theorem ItAt.obj {k:Bool} {h:Heap} {it l:Addr} {i:Nat} (x:ItAt k h it l i):∃o,h.get? it=some o∧∀v,o.data≠.cell v:=by
 cases k
 ·obtain ⟨o,e,c,d⟩:=x
  exact ⟨o,e,fun v z=>by rw [d] at z;cases z⟩
 ·obtain ⟨o,e,c,d⟩:=x
  exact ⟨o,e,fun v z=>by rw [d] at z;cases z⟩
theorem ItAt.at {k:Bool} {h h':Heap} {it l:Addr} {i:Nat} (x:ItAt k h it l i) (f:∀o,h.get? it=some o→h'.get? it=some o):ItAt k h' it l i:=by
 cases k
 ·exact Heap.IsListIter.at x f
 ·exact Heap.IsTupleIter.at x f
section
variable {X:Cx} {pins:List (Addr×Obj)} {σ:L2.St} {H:Hp} {s:Shared}
theorem HE {k:Bool} {a:Addr} {xs:List V} (I:Inv X pins σ H s) (h:DL k X.K H a xs):∃its:List Value,Vals xs its∧SqA k s.heap a its.toArray∧a<s.heap.objs.size:=by
 cases k
 ·obtain ⟨its,r,p,_⟩:=I.list h
  have q:=p.isList
  exact ⟨its,r,q,by obtain ⟨_,e,_⟩:=q;exact Av e⟩
 ·obtain ⟨its,r,p,_⟩:=I.tuple h
  exact ⟨its,r,p,p.lt⟩
theorem PR {k:Bool} {a:Addr} {xs ys:List V} (I:Inv X pins σ H s) (h:DL k X.K H a xs) (h':DL k X.K H a ys):xs=ys:=by
 cases k
 ·exact I.list_inj h h'
 ·exact I.tuple_inj h h'
end
def PU (K:PySem.W.Frag) (k1 k2:Bool) (t u:Addr):It:=⟨fun i H=>∃xs ys,DL k1 K H t xs∧DL k2 K H u ys∧i<xs.length∧i<ys.length,
 fun i H x H'=>∃p v v',H p=none∧x=.ref p∧(∀xs:List V,DL k1 K H t xs→xs[i]?=some v)∧(∀ys:List V,DL k2 K H u ys→ys[i]?=some v')∧H'=An H p (.tup [v,v']),
 fun i H=>∃xs ys,DL k1 K H t xs∧DL k2 K H u ys∧(i=xs.length∨(i<xs.length∧i=ys.length))⟩
inductive PV (k1 k2:Bool) (z TI TO p q t u:Addr) (i:Nat) (h:Heap):Prop where
 |mk (zz:IsZip h z TI TO .none) (zi:IsPair h TI (.ref p) (.ref q)) (zo:∃a b,IsPair h TO a b) (x1:ItAt k1 h p t i) (x2:ItAt k2 h q u i):PV k1 k2 z TI TO p q t u i h
theorem Ws {P:Program} {w:World} {K:PySem.W.Frag} {elts:List Expr} {kt:Nat} {tpos:Pos} (k1 k2:Bool) (z TI TO p q t u:Addr) (ap:HC z TI TO p q [p,t] [q,u]) (n1:t≠p) (n2:u≠q):
 FC P w K (.Tuple elts kt tpos) (PU K k1 k2 t u) [z,TI,TO,p,q] z (PV k1 k2 z TI TO p q t u) where
 mem:=by simp
 obj:=fun i h st c hc=>by
  obtain ⟨zz,zi,⟨a,b,zo⟩,x1,x2⟩:=st
  simp only [qa8,Cw,or_false] at hc
  rcases hc with rfl |rfl |rfl |rfl |rfl
  ·exact ⟨_,zz,fun v y=>by cases y⟩
  ·exact ⟨_,zi,fun v y=>by cases y⟩
  ·exact ⟨_,zo,fun v y=>by cases y⟩
  ·exact x1.obj
  ·exact x2.obj
 keep:=fun i h h' st kp=>by
  obtain ⟨zz,zi,⟨a,b,zo⟩,x1,x2⟩:=st
  exact ⟨kp z (by simp) _ zz,kp TI (by simp) _ zi,⟨a,b,kp TO (by simp) _ zo⟩,x1.at fun o e=>kp p (by simp) o e,x2.at fun o e=>kp q (by simp) o e⟩
 item:=by
  intro X hP hw hK hc i pins s σ H E I hf st hg
  subst hP hw hK
  obtain ⟨zz,zi,⟨a,b,zo⟩,x1,x2⟩:=st
  obtain ⟨xs,ys,hq1,hq2,l1,l2⟩:=hg
  obtain ⟨it1,rv1,sq1,lt1⟩:=HE I hq1
  obtain ⟨it2,rv2,sq2,lt2⟩:=HE I hq2
  have e1:=rv1.length
  have e2:=rv2.length
  have hh:X.A.in1.handled=none:=I.ok.hd hc
  refine Wq (Kz k1 hh p t n1 it1.toArray) (Kz k2 hh q u n2 it2.toArray) ap zz zi zo ⟨x1,sq1⟩ ⟨x2,sq2⟩ (by rw [A9];omega) (by rw [A9];omega) fun h1 tk x y px py zz1 zo1 N6 CQ nw kp=>?_
  refine ⟨.ref s.heap.objs.size,rfl,wpAny_letOwnedTupleGo_zip zz1 fun h2 zz2 sb=>?_⟩
  have hx:xs[i]?=some xs[i]:=A8 l1
  have hy:ys[i]?=some ys[i]:=A8 l2
  obtain ⟨u1,hu1,ru1⟩:=rv1.get hx
  obtain ⟨u2,hu2,ru2⟩:=rv2.get hy
  have hux:u1=x:=by
   have:it1[i]?=some x:=by simpa using px
   rw [hu1] at this
   exact Option.some.inj this
  have huy:u2=y:=by
   have:it2[i]?=some y:=by simpa using py
   rw [hu2] at this
   exact Option.some.inj this
  subst hux huy
  have hfr:H s.heap.objs.size=none:=I.hok.fresh (AK _)
  have kk:∀c o,c∉[z,TI,TO,p,q]→s.heap.get? c=some o→h2.get? c=some o:=fun c o hc e=>by
   simp only [qa8,Cw,or_false,not_or] at hc
   exact (sb.2 c hc.1).trans (kp c o hc.1 hc.2.2.1 hc.2.2.2.1 hc.2.2.2.2 e)
  have nal:∀c o,s.heap.get? c=some o→c≠s.heap.objs.size:=fun c o e=>BF (Av e)
  have na:s.heap.objs.size≠z:=Ne.symm (nal z _ zz)
  have hnew:h2.get? s.heap.objs.size=some {cls:=.type "tuple",data:=.seq #[u1,u2]}:=(sb.2 _ na).trans nw
  have ntr:∀c o,H c=some o→c∉[z,TI,TO,p,q]:=fun c o e hc=>by
   rw [(hf c hc).1] at e;cases e
  refine ⟨.ref s.heap.objs.size,An H s.heap.objs.size (.tup [xs[i],ys[i]]),?_,rfl,⟨s.heap.objs.size,xs[i],ys[i],hfr,rfl,fun zs hz=>by rw [PR I hz hq1];exact hx,fun zs hz=>by rw [PR I hz hq2];exact hy,rfl⟩,
   ⟨zz2,(sb.2 TI ap.a1).trans (kp TI _ ap.a1 ap.a5 ap.a6 ap.a7 zi),⟨u1,u2,(sb.2 TO ap.a2).trans zo1⟩,N6.1.at fun o e=>(sb.2 p ap.a3).trans e,CQ.1.at fun o e=>(sb.2 q ap.a4).trans e⟩,fun c hc=>?_⟩
  ·show Inv X pins σ _ {s with heap:=h2,gens:=s.gens,drawn:=s.drawn,toks:=tk}
   refine I.step (g':=s.gens) (d':=s.drawn) (t':=tk) (h':=h2) (ch:=[z,TI,TO,p,q]) (fun c hc=>?_) (fun c o _ _ hc e _=>kk c o hc e) (fun c o _ _ hc e _=>⟨o.slots,kk c o hc e⟩) (fun c o _ e n=>by rw [Ao (nal c o e)];exact n)
    (fun c o hc e=>⟨o,kk c o hc e⟩) (fun c zs e=>by rw [Ao (Bz e hfr)];exact e) (fun c o v e=>by rw [Ao (Bz e hfr)];exact e) (fun c ps e=>⟨#[],by rw [Ao (Bz e hfr),e];simp⟩) (fun m hm=>?_) (fun c o e=>?_) I.bare
   ·obtain ⟨_,c1,_,c3,c4,c5⟩:=hf c hc
    exact ⟨c3,c1,c4,c5⟩
   ·obtain ⟨o,es,ep,e,r⟩:=hm
    exact ⟨o,es,ep,kk _ o (fun hc=>(hf _ hc).2.1 rfl) e,r⟩
   ·by_cases hb:c=s.heap.objs.size
    ·subst hb
     rw [B3] at e
     cases e
     exact ⟨by simp only [E5,Fz];rw [sizeLine_eq];decide,[u1,u2],.cons ru1 (.cons ru2 .nil),⟨_,hnew,rfl,0,rfl⟩,fun o e=>by rw [hnew] at e;cases e;rfl⟩
    ·rw [Ao hb] at e
     refine (I.hok c o e).stay (fun d v hd e'=>kk d v ?_ e') (fun d e'=>by rw [Ao (Bz e' hfr)];exact e') fun d zs e'=>by rw [Ao (Bz e' hfr)];exact e'
     rcases hd with rfl |hd
     ·exact ntr d _ e
     ·exact ntr d _ hd
  ·have nc:c≠s.heap.objs.size:=by
    simp only [qa8,Cw,or_false] at hc
    rcases hc with rfl |rfl |rfl |rfl |rfl
    ·exact nal _ _ zz
    ·exact nal _ _ zi
    ·exact nal _ _ zo
    ·obtain ⟨o,e,_⟩:=x1.obj;exact nal _ _ e
    ·obtain ⟨o,e,_⟩:=x2.obj;exact nal _ _ e
   rw [Ao nc]
   exact (hf c hc).1
 done:=by
  intro X hP hw hK hc i pins s σ H E I hf st hg
  subst hP hw hK
  obtain ⟨zz,zi,⟨a,b,zo⟩,x1,x2⟩:=st
  obtain ⟨xs,ys,hq1,hq2,hl⟩:=hg
  obtain ⟨it1,rv1,sq1,lt1⟩:=HE I hq1
  obtain ⟨it2,rv2,sq2,lt2⟩:=HE I hq2
  have e1:=rv1.length
  have e2:=rv2.length
  have hh:X.A.in1.handled=none:=I.ok.hd hc
  refine Wr (Kz k1 hh p t n1 it1.toArray) (Kz k2 hh q u n2 it2.toArray) ap zz zi zo ⟨x1,sq1⟩ ⟨x2,sq2⟩ (by simp only [A9];omega) fun h' tk kp=>⟨rfl,?_⟩
  have kk:∀c o,c∉[z,TI,TO,p,q]→s.heap.get? c=some o→h'.get? c=some o:=fun c o hc e=>by
   simp only [qa8,Cw,or_false,not_or] at hc
   exact kp c o hc.1 hc.2.2.1 hc.2.2.2.1 hc.2.2.2.2 e
  have ntr:∀c o,H c=some o→c∉[z,TI,TO,p,q]:=fun c o e hc=>by
   rw [(hf c hc).1] at e;cases e
  show Inv X pins σ _ {s with heap:=h',gens:=s.gens,drawn:=s.drawn,toks:=tk}
  refine I.step (g':=s.gens) (d':=s.drawn) (t':=tk) (h':=h') (ch:=[z,TI,TO,p,q]) (fun c hc=>?_) (fun c o _ _ hc e _=>kk c o hc e) (fun c o _ _ hc e _=>⟨o.slots,kk c o hc e⟩) (fun c o _ e n=>n)
   (fun c o hc e=>⟨o,kk c o hc e⟩) (fun c zs e=>e) (fun c o v e=>e) (fun c ps e=>⟨#[],by rw [e];simp⟩) (fun m hm=>?_) (fun c o e=>?_) I.bare
  ·obtain ⟨_,c1,_,c3,c4,c5⟩:=hf c hc
   exact ⟨c3,c1,c4,c5⟩
  ·obtain ⟨o,es,ep,e,r⟩:=hm
   exact ⟨o,es,ep,kk _ o (fun hc=>(hf _ hc).2.1 rfl) e,r⟩
  ·refine (I.hok c o e).stay (fun d v hd e'=>kk d v ?_ e') (fun d e'=>e') fun d zs e'=>e'
   rcases hd with rfl |hd
   ·exact ntr d _ e
   ·exact ntr d _ hd
 self:=fun A i s Q E st h=>by cases st with |mk zz zi zo x1 x2=>exact wpAny_pyIter_zip zz h
abbrev zA (h:Heap) (k1:Bool) (t:Addr):Heap:=h.push (Gk k1 t)
abbrev zB (h:Heap) (k1 k2:Bool) (t u:Addr):Heap:=(zA h k1 t).push (Gk k2 u)
abbrev zC (h:Heap) (k1 k2:Bool) (t u:Addr):Heap:=(zB h k1 k2 t u).push {cls:=.type "tuple",data:=.seq #[.ref h.objs.size,.ref (zA h k1 t).objs.size]}
abbrev zD (h:Heap) (k1 k2:Bool) (t u:Addr):Heap:=(zC h k1 k2 t u).push {cls:=.type "tuple",data:=.seq #[.none,.none]}
abbrev zE (h:Heap) (k1 k2:Bool) (t u:Addr):Heap:=(zD h k1 k2 t u).push {cls:=.type "zip",data:=.fields #[.none,.bool false,.bool false,.ref (zB h k1 k2 t u).objs.size,.ref (zC h k1 k2 t u).objs.size]}
theorem SqA.push {k:Bool} {h:Heap} {l:Addr} {xs:Array Value} (x:SqA k h l xs) (o:Obj):SqA k (h.push o) l xs:=by
 cases k
 ·exact Heap.IsList.push x o
 ·exact Heap.IsTuple.push x o
theorem PX {prog:Program} {w:World} {A:Around} {E:Value→Shared→Prop} {s:Shared} {k:Bool} {l:Addr} {xs:Array Value} {Q:Value→Shared→Prop} (x:SqA k s.heap l xs) (hQ:Q (.ref s.heap.objs.size) {s with heap:=s.heap.push (Gk k l)}):
 wpAny (model prog w) A (pyIter (.ref l)) Q E s:=by
 cases k
 ·exact wpAny_pyIter_list x hQ
 ·exact wpAny_pyIter_tuple x hQ
theorem Wt (k1 k2:Bool) (t u:Addr) (xs ys:Array Value):
 Meets (Builtin.«zip.__new__» ⟨[.type "zip",.ref t,.ref u],[]⟩) (fun _ R s=>SqA k1 s.heap t xs∧SqA k2 s.heap u ys∧
  R (.ok (.ret (.ref (zD s.heap k1 k2 t u).objs.size))) {s with heap:=zE s.heap k1 k2 t u}):=
 .of_wp fun prog w A R s h=>by
  obtain ⟨hp,g,d,tk,os⟩:=s;obtain ⟨hl1,hl2,h⟩:=h
  have hsub:=sub_zip
  have hL1:SqA k1 (Shared.heap ⟨hp,g,d,tk,os⟩) t xs:=hl1
  have hL2:SqA k2 (Shared.heap ⟨hp.push (Gk k1 t),g,d,tk,os⟩) u ys:=SqA.push hl2 _
  wp_walk using PX hL1,PX hL2
  exact ⟨_,rfl,h⟩
theorem ItAt.new {k:Bool} {h:Heap} {it l:Addr} (e:h.get? it=some (Gk k l)):ItAt k h it l 0:=by
 cases k
 ·exact ⟨_,e,rfl,rfl⟩
 ·exact ⟨_,e,rfl,rfl⟩
theorem Wu {prog:Program} {w:World} {A:Around} {E:Value→Shared→Prop} {s:Shared} {k1 k2:Bool} {t u:Addr} {xs ys:Array Value} {Q:Value→Shared→Prop} (h1:SqA k1 s.heap t xs) (h2:SqA k2 s.heap u ys)
 (h:∀h',IsZip h' (s.heap.objs.size+4) (s.heap.objs.size+2) (s.heap.objs.size+3) .none→IsPair h' (s.heap.objs.size+2) (.ref s.heap.objs.size) (.ref (s.heap.objs.size+1))→
  IsPair h' (s.heap.objs.size+3) .none .none→ItAt k1 h' s.heap.objs.size t 0→ItAt k2 h' (s.heap.objs.size+1) u 0→(∀c o,s.heap.get? c=some o→h'.get? c=some o)→Q (.ref (s.heap.objs.size+4)) {s with heap:=h'}):
 wpAny (model prog w) A (call (.type "zip") [.ref t,.ref u]) Q E s:=by
 refine callType_new F.called_zip (by decide) (F.typeCall_zip_2 _ _) (F.newCall_zip_2 _ _) (fun obj=>F.args_object_init_3 obj _ _) F.entry_zip_new
  (Wt k1 k2 t u xs ys) ⟨h1,h2,?_⟩
 have y1:(zA s.heap k1 t).objs.size=s.heap.objs.size+1:=CG ..
 have y2:(zB s.heap k1 k2 t u).objs.size=s.heap.objs.size+2:=by rw [CG,y1]
 have y3:(zC s.heap k1 k2 t u).objs.size=s.heap.objs.size+3:=by rw [CG,y2]
 have y4:(zD s.heap k1 k2 t u).objs.size=s.heap.objs.size+4:=by rw [CG,y3]
 have g5:(zE s.heap k1 k2 t u).get? (zD s.heap k1 k2 t u).objs.size=some _:=Bp _ rfl
 have g4:(zE s.heap k1 k2 t u).get? (zC s.heap k1 k2 t u).objs.size=some _:=AE _ (Bp _ rfl)
 have g3:(zE s.heap k1 k2 t u).get? (zB s.heap k1 k2 t u).objs.size=some _:=AE _ (AE _ (Bp _ rfl))
 have g2:(zE s.heap k1 k2 t u).get? (zA s.heap k1 t).objs.size=some (Gk k2 u):=AE _ (AE _ (AE _ (Bp _ rfl)))
 have g1:(zE s.heap k1 k2 t u).get? s.heap.objs.size=some (Gk k1 t):=AE _ (AE _ (AE _ (AE _ (Bp _ rfl))))
 show _∧_
 rw [y2,y3,y4] at g5
 rw [y1,y2] at g3
 rw [y3] at g4
 rw [y1] at g2
 rw [y4]
 exact ⟨⟨_,g5,rfl⟩,h _ g5 g3 g4 (.new g1) (.new g2) fun c o x=>AE _ (AE _ (AE _ (AE _ (AE _ x))))⟩
section
variable {X:Cx} {E:XK}
theorem Wv {elts:List Expr} {kt:Nat} {tpos p pos:Pos} {a b:Expr} {ta:TA} (hg:Gl X "zip") (hm:X.mg "zip"=none) (ha:PA X [a,b] ta) (hs:starEach [a,b] X.env=[(false,eval a X.env),(false,eval b X.env)]:=by rfl) (hs2:starEach [b] X.env=[(false,eval b X.env)]:=by rfl):
 PI X (.Tuple elts kt tpos) (.Call (.Name "zip" p) [a,b] [] pos) (fun σ H R=>ta σ H fun vs H1=>∃k1 k2 t u xs ys,vs=[.ref t,.ref u]∧DL k1 X.K H1 t xs∧DL k2 X.K H1 u ys∧R (PU X.K k1 k2 t u) H1):=by
 intro pins s σ H R I h
 refine Call_ (F4 I hg hm PyProof.Rows.boot_zip (PyProof.Rows.callWith_type1 (AB (ha pos pins s σ H _ I h) fun us s1 ⟨vs,H1,I1,r1,q1⟩=>?_) (by rw [hs,hs2]) (by rw [hs2];rfl)))
 obtain ⟨k1,k2,t,u,xs,ys,e,hq1,hq2,q⟩:=q1
 subst e
 cases r1 with
 |cons r rr=>
  cases rr with
  |cons r' rr=>
   cases rr
   cases r
   cases r'
   obtain ⟨it1,rv1,sq1,lt1⟩:=HE I1 hq1
   obtain ⟨it2,rv2,sq2,lt2⟩:=HE I1 hq2
   refine Wu sq1 sq2 fun h' zz zi zo x1 x2 kp=>wpAny_pyIter_zip (s:={s1 with heap:=h'}) zz ?_
   have I2:Inv X pins σ H1 {s1 with heap:=h'}:=I1.kept (t':=s1.toks) kp
   have fr:∀c,s1.heap.objs.size≤c→CH X pins H1 c:=fun c hc=>I1.fpOk hc (I1.hok.fresh hc)
   have m0:s1.heap.objs.size≠s1.heap.objs.size+4:=Be (by omega)
   have ap:HC (s1.heap.objs.size+4) (s1.heap.objs.size+2) (s1.heap.objs.size+3) s1.heap.objs.size (s1.heap.objs.size+1) [s1.heap.objs.size,t] [s1.heap.objs.size+1,u]:=by
    generalize s1.heap.objs.size=n at lt1 lt2
    exact ⟨Be (by omega),Be (by omega),Be (by omega),Be (by omega),Be (by omega),B2 (by omega),B2 (by omega),B2 (by omega),B2 (by omega),Be (by omega),
     fun z=>by simp only [qa8,Cw,or_false] at z;rcases z with z |z;exact absurd z (B2 (by omega));exact absurd z (B2 (AV lt1 (E6 _ _))),
     fun z=>by simp only [qa8,Cw,or_false] at z;rcases z with z |z;exact absurd z (B2 (by omega));exact absurd z (B2 (AV lt2 (E6 _ _))),
     fun z=>by simp only [qa8,Cw,or_false] at z;rcases z with z |z;exact absurd z (B2 (by omega));exact absurd z (B2 (AV lt1 (E6 _ _))),
     fun z=>by simp only [qa8,Cw,or_false] at z;rcases z with z |z;exact absurd z (B2 (by omega));exact absurd z (B2 (AV lt2 (E6 _ _))),
     fun z=>by simp only [qa8,Cw,or_false] at z;rcases z with z |z;exact absurd z (Be (by omega));exact absurd z (B2 lt2),
     fun z=>by simp only [qa8,Cw,or_false] at z;rcases z with z |z;exact absurd z (B2 (by omega));exact absurd z (B2 (AV lt1 (E6 _ _)))⟩
   refine ⟨s1.heap.objs.size+4,[s1.heap.objs.size+4,s1.heap.objs.size+2,s1.heap.objs.size+3,s1.heap.objs.size,s1.heap.objs.size+1],_,_,H1,rfl,I2,Ws k1 k2 _ _ _ _ _ t u ap (BF lt1) (BF (Ic lt2)),⟨zz,zi,⟨_,_,zo⟩,x1,x2⟩,fun c hc=>?_,q⟩
   simp only [qa8,Cw,or_false] at hc
   rcases hc with rfl |rfl |rfl |rfl |rfl
   ·exact fr _ (E6 _ _)
   ·exact fr _ (E6 _ _)
   ·exact fr _ (E6 _ _)
   ·exact fr _ (AK _)
   ·exact fr _ (E6 _ _)
def HF (xs ys:List D):List D:=List.zipWith (fun a b=>.tup [a,b]) xs ys
def CL:D→HD→Option (List D×A0)
 |.tup xs,_=>some (xs,[])
 |.loc l,h=>match h[l]? with
  |some (.lst xs)=>some (xs,[(l,xs)])
  |_=>none
 |_,_=>none
def IZ:List D→HD→Out (List D×A0):=fun ds h=>match ds with
 |[x,y]=>match CL x h,CL y h with
  |some (xs,s1),some (ys,s2)=>.ok (HF xs ys,s1++s2) h
  |_,_=>.stuck
 |_=>.stuck
def KA (fa:MA):MI:=fun ρ h=>(fa ρ h).bind IZ
theorem PY {m:List Addr} {h:HD} {d:D} {v:V} {H:Hp} {xs:List D} {sr:A0} (hr:HR X.K m h H) (r:DV X.K m H d v) (e:CL d h=some (xs,sr)):
 ∃k t,v=.ref t∧∀m2 h2 H2,m <+:m2→Kp H H2→HR X.K m2 h2 H2→(∀p∈sr,h2[p.1]?=some (.lst p.2))→∃vs,DL k X.K H2 t vs∧DVs X.K m2 H2 xs vs:=by
 cases d with
 |tup zs=>
  simp only [CL,Option.some.injEq,Prod.mk.injEq] at e
  obtain ⟨rfl,rfl⟩:=e
  simp only [DV] at r
  obtain ⟨a,vs,rfl,ha,dv⟩:=r
  exact ⟨true,a,rfl,fun m2 h2 H2 p2 k2 hr2 _=>⟨vs,SqT.of (k2 _ _ ha rfl),dv.keep p2 k2⟩⟩
 |loc l=>
  simp only [CL] at e
  split at e
  ·rename_i zs el
   simp only [Option.some.injEq,Prod.mk.injEq] at e
   obtain ⟨rfl,rfl⟩:=e
   simp only [DV] at r
   obtain ⟨a,rfl,ha⟩:=r
   refine ⟨false,a,rfl,fun m2 h2 H2 p2 k2 hr2 hs=>?_⟩
   obtain ⟨ws,hw,dw⟩:=hr2.cells l _ a (hs _ AO) (IA p2 ha)
   exact ⟨ws,SqL.of hw,dw⟩
  ·cases e
 |_=>simp [CL] at e
theorem PZ {h:HD} {d:D} {xs:List D} {sr:A0} (e:CL d h=some (xs,sr)):∀p∈sr,h[p.1]?=some (.lst p.2):=by
 cases d with
 |tup zs=>
  simp only [CL,Option.some.injEq,Prod.mk.injEq] at e
  obtain ⟨rfl,rfl⟩:=e
  exact fun p hp=>nomatch hp
 |loc l=>
  simp only [CL] at e
  split at e
  ·rename_i zs el
   simp only [Option.some.injEq,Prod.mk.injEq] at e
   obtain ⟨rfl,rfl⟩:=e
   intro p hp
   rw [qaI] at hp
   subst hp
   exact el
  ·cases e
 |_=>simp [CL] at e
theorem Ww {elts:List Expr} {kt:Nat} {tpos p pos:Pos} {a b:Expr} {fa:MA} (hg:Gl X "zip") (hm:X.mg "zip"=none) (ha:Cz X E [a,b] fa) (hs:starEach [a,b] X.env=[(false,eval a X.env),(false,eval b X.env)]:=by rfl) (hs2:starEach [b] X.env=[(false,eval b X.env)]:=by rfl):
 EA X E (.Tuple elts kt tpos) (.Call (.Name "zip" p) [a,b] [] pos) (KA fa):=
 IP (Wv hg hm ha hs hs2) fun σ H R ⟨m,ρ,h,hr,er,p⟩=>⟨m,ρ,h,hr,er,Post.bind p fun x h1 v m1 H1 eo p1 k1 hr1 r1 q1=>by
  clear eo
  unfold IZ at q1
  split at q1
  ·rename_i d1 d2
   split at q1
   ·rename_i xs s1 ys s2 e1 e2
    simp only [Ep,DVs] at r1
    obtain ⟨v1,w1,rfl,rv1,v2,w2,rfl,rv2,rfl⟩:=r1
    obtain ⟨kd1,t,rfl,f1⟩:=PY hr1 rv1 e1
    obtain ⟨kd2,u,rfl,f2⟩:=PY hr1 rv2 e2
    obtain ⟨vs1,sq1,_⟩:=f1 m1 h1 H1 (AG _) (.refl _) hr1 (PZ e1)
    obtain ⟨vs2,sq2,_⟩:=f2 m1 h1 H1 (AG _) (.refl _) hr1 (PZ e2)
    refine ⟨kd1,kd2,t,u,vs1,vs2,rfl,sq1,sq2,q1 _ m1 H1 (AG _) (.refl _) hr1 fun i m2 h2 H2 p2 k2 hr2 hsr=>?_⟩
    obtain ⟨ws1,sw1,dw1⟩:=f1 m2 h2 H2 p2 k2 hr2 fun p hp=>hsr p (G0 _ hp)
    obtain ⟨ws2,sw2,dw2⟩:=f2 m2 h2 H2 p2 k2 hr2 fun p hp=>hsr p (BJ _ hp)
    have n1:=dw1.len
    have n2:=dw2.len
    have nl:(HF xs ys).length=min xs.length ys.length:=by simp [HF]
    refine ⟨fun hi=>?_,fun hi=>⟨ws1,ws2,sw1,sw2,by dsimp only at hi;omega⟩⟩
    dsimp only at hi
    have i1:i<xs.length:=by omega
    have i2:i<ys.length:=by omega
    refine ⟨⟨ws1,ws2,sw1,sw2,by omega,by omega⟩,fun y H3 z3_=>?_⟩
    obtain ⟨pp,vv,vv',hp,ey,ev,ev',eH⟩:=z3_
    subst ey eH
    have g1:xs[i]?=some xs[i]:=A8 i1
    have g2:ys[i]?=some ys[i]:=A8 i2
    obtain ⟨c1,z1,r1'⟩:=dw1.get g1
    obtain ⟨c2,z2,r2'⟩:=dw2.get g2
    rw [ev ws1 sw1] at z1
    rw [ev' ws2 sw2] at z2
    cases z1
    cases z2
    refine ⟨.new hp,hr2.new hp,.tup [xs[i],ys[i]],?_,?_⟩
    ·simp [HF,List.getElem?_zipWith,g1,g2]
    ·simp only [DV]
     exact ⟨pp,_,rfl,B3,.cons (DV.keep (AG _) (.new hp) r1') (.cons (DV.keep (AG _) (.new hp) r2') .nil)⟩
   ·exact q1.elim
  ·exact q1.elim⟩
end
end LS
namespace LS
open PySem PySem.Spec PyProof.Rows L2
section
variable {ρ:Ai} {h:HD} {QI:(List D×A0)→HD→Prop} {Q:D→HD→Prop} {QO:Option Int→HD→Prop} {QS:Fl×Ai→HD→Prop} {f fo fi fv:ME} {lo hi:MO} {fa:MA}
@[simp] theorem Zcr:Wp (IY fa ρ h) QI=Wp (fa ρ h) fun d h1=>Wp (IX d h1) QI:=by unfold IY;rw [AC]
@[simp] theorem Zcs:Wp (KA fa ρ h) QI=Wp (fa ρ h) fun d h1=>Wp (IZ d h1) QI:=by unfold KA;rw [AC]
@[simp] theorem Zct:Wp (PJ f lo hi ρ h) Q=Wp (f ρ h) fun x h1=>Wp (lo ρ h1) fun l h2=>Wp (hi ρ h2) fun u h3=>Wp (PH x l u h3) Q:=by unfold PJ;simp only [AC]
@[simp] theorem Zcu:Wp (Dp ρ h) QO=QO none h:=id rfl
@[simp] theorem Zcv:Wp (CZ f ρ h) QO=Wp (f ρ h) fun x h1=>Wp (match x with
  |.int i=>(.ok (some i) h1:Out (Option Int))
  |_=>.stuck) QO:=by unfold CZ;rw [AC]<;>rfl
@[simp] theorem Zcw:Wp (PM fo fi fv ρ h) QS=Wp (fo ρ h) fun o h1=>Wp (fi ρ h1) fun i h2=>Wp (PL o i h2) fun x h3=>Wp (fv ρ h3) fun y h4=>Wp (PK o i x y ρ h4) QS:=by unfold PM;simp only [AC]
theorem Wx {n:Nat} {e:Nat→D}:D0 ((List.range n).map e)=(List.range n).map fun k=>D.tup [.int ((k:Nat):Int),e k]:=by
 unfold D0
 apply Ij
 ·simp
 ·intro i h1 h2;simp
theorem P0 {n:Nat} {e:Nat→D}:IX [.tup ((List.range n).map e)] h=.ok ((List.range n).map fun k=>D.tup [.int ((k:Nat):Int),e k],[]) h:=by
 simp only [IX,Wx]
theorem Wy {n:Nat} {e e':Nat→D}:HF ((List.range n).map e) ((List.range n).map e')=(List.range n).map fun k=>D.tup [e k,e' k]:=by
 unfold HF
 apply Ij
 ·simp
 ·intro i h1 h2;simp
theorem Wz {n:Nat} {e e':Nat→D} {x y:D} {s1 s2:A0} (hx:CL x h=some ((List.range n).map e,s1)) (hy:CL y h=some ((List.range n).map e',s2)):
 IZ [x,y] h=.ok ((List.range n).map fun k=>D.tup [e k,e' k],s1++s2) h:=by
 simp only [IZ,hx,hy,Wy]
theorem P3 {ds:List D}:CL (.tup ds) h=some (ds,[]):=rfl
theorem FU {l:Nat} {ds:List D} (e:h[l]?=some (.lst ds)):Hn (.loc l) h=.ok (ds,[(l,ds)]) h:=by
 simp only [Hn,BD,e,OT]
theorem MC {l:Nat} {ds:List D} (e:h[l]?=some (.lst ds)):Bc (.loc l) h=.ok (.int ds.length) h:=by
 simp only [Bc,BD,e]
theorem P4 {a:D}:∀n:Nat,(List.replicate n [a]).flatten=List.replicate n a
 |0=>rfl
 |n+1=>by rw [Fx,FW,P4 n];rfl
theorem WA {l n:Nat} {a:D} (e:h[l]?=some (.lst [a])) (hn:n≤1000):Dm (.loc l) (.int (n:Nat)) h=Cp (List.replicate n a) h:=by
 have:(-(2^63):Int)≤(n:Int)∧(n:Int)<2^63:=by omega
 simp only [Dm,e]
 rw [if_pos this]
 simp [P4]
end
noncomputable def WB (cs:List (Option Nat)) (it:MI) (sg:MG) (t:MT) (f:ME):ME:=Ag (Am O8) (Aa (Bh cs it sg t f) Ae)
noncomputable def WC (F:List Int→Int) (cs:List (Option Nat)) (it:MI) (sg:MG) (t:MT) (f:ME):ME:=Ag (Am (PN F)) (Aa (Bh cs it sg t f) Ae)
section
variable {α:Type} {cs:List (Option Nat)} {it:MI} {sg:MG} {t:MT} {f:ME} {ρ:Ai} {h:HD} {src:A0} {xs:List α} {φ:α→D} {F:List Int→Int}
@[simp] theorem Zcx:Ag (Am O8) (Aa (Bh cs it sg t f) Ae) ρ h=WB cs it sg t f ρ h:=rfl
@[simp] theorem Zcy:Ag (Am (PN F)) (Aa (Bh cs it sg t f) Ae) ρ h=WC F cs it sg t f ρ h:=rfl
end
section
variable {X:Cx} {E:XK}
end
section
variable {X:Cx}
def P5:D→HD→Out D:=fun x h=>match x with
 |.loc l=>match h[l]? with
  |some (.lst ds)=>match Ax (ds.map Ht) with
   |some bs=>.ok (.bl (bs.any id)) h
   |none=>.stuck
  |_=>.stuck
 |_=>.stuck
end
noncomputable def WD (cs:List (Option Nat)) (it:MI) (sg:MG) (t:MT) (f:ME):ME:=Ag (Am P5) (Aa (Bh cs it sg t f) Ae)
section
variable {α:Type} {cs:List (Option Nat)} {it:MI} {sg:MG} {t:MT} {f:ME} {ρ:Ai} {h:HD} {src:A0} {xs:List α} {φ:α→D}
@[simp] theorem Zcz:Ag (Am P5) (Aa (Bh cs it sg t f) Ae) ρ h=WD cs it sg t f ρ h:=rfl
end
end LS
namespace LK
open LS
def WE (n:Nat) (r:Nat→Bool):Int:=((List.range n).map fun j=>if r j then (1:Int) else 0).sum
def cc (H:Nat) (f:Nat→Nat→Bool) (R:Nat→Bool) (j:Nat):Int:=WE H fun i=>Bool.xor (f i j) (R i)
def WG (W:Nat) (H:Int) (c:Nat→Int) (C:Nat→Bool):Int:=((List.range W).map fun j=>if C j then H - c j else c j).sum
def WH (W:Nat) (H:Int) (c:Nat→Int):Int:=((List.range W).map fun j=>if H - c j<c j then H - c j else c j).sum
def TT (H W:Nat) (f:Nat→Nat→Bool) (R C:Nat→Bool):Int:=WG W H (cc H f R) C
def ext (n:Nat) (R:Nat→Bool):Nat→Bool:=fun i=>if i=n then true else R i
def LL (s:Nat):Nat→List (Nat→Bool)
 |0=>[fun _=>false]
 |k+1=>LL s k++(LL s k).map (ext (s+k))
def I0 (H W:Nat) (f:Nat→Nat→Bool):Int:=Wk ((LL 1 (H - 1)).map fun R=>WH W H (cc H f R))
def WI (L:List Int) (k:Int):Int:=(L.map fun x=>if x=k then (1:Int) else 0).sum
def hk (H W:Nat) (f:Nat→Nat→Bool) (k:Int) (R:Nat→Bool):Int:=WI ((LL 0 W).map (TT H W f R)) k
def NN (H W:Nat) (f:Nat→Nat→Bool) (k:Int):Int:=((LL 1 (H - 1)).map (hk H W f k)).sum
end LK
namespace LS
open PySem PySem.Spec PyProof.Rows L2 PySem.W
structure EC (K:Frag) (C:Addr):Prop where
 ga:findIn K (.ref C) "__getattribute__"=some (some (.builtin "BaseException.__getattribute__"))
 gt:findIn K (.ref C) "__getattr__"=some none
 cl:(clsIn K C).isSome=true
 ac:findIn K (.ref C) "__class__"=some (some (.builtin "object.__class__"))
 sg:specialIn K (.builtin "object.__class__") "__get__"=some (some (.builtin "getset_descriptor.__get__"))
 tk:takesIn K (.builtin "object.__class__")=some true
 mo:mroIn K C (.type "object")=some true
 mb:mroIn K C (.type "BaseException")=some true
section
variable {prog:Program} {w:World} {A:Around} {E:Value→Shared→Prop} {s:Shared} {K:Frag} {x C:Addr} {ox:Obj} {od:Option Obj}
def TyAt (x C:Addr) (h:Heap):Prop:=∃o,h.get? x=some o∧o.cls=.ref C
theorem TyAt.type {M:Model} {h:Heap} (t:TyAt x C h):Looks M h (typeOf (.ref x)) (.ref C):=by
 obtain ⟨o,h1,h2⟩:=t
 exact h2 ▸ (Looks.ld h1).andThen .now
theorem WJ {M:Model} {h:Heap} (c:EC K C) (X:K.In h):Looks M h (Builtin.ObjectAttr.find (.ref x) (.ref C) "__class__") (.bind (.builtin "getset_descriptor.__get__") (.builtin "object.__class__")):=by
 have L1:=looks_findIn (M:=M) X c.ac
 have L2:Looks M h (Builtin.ObjectAttr.getOf (some (.builtin "object.__class__"))) (some (.builtin "getset_descriptor.__get__")):=looks_specialIn X c.sg
 have L3:=looks_takesIn (M:=M) X c.tk
 refine L1.andThen (L2.andThen ?_)
 exact (show Looks M h (Builtin.ObjectAttr.dataDescriptor? (some (.builtin "object.__class__")) (some (.builtin "getset_descriptor.__get__"))) (some (.builtin "getset_descriptor.__get__",.builtin "object.__class__")) from L3.andThen .now).andThen (Looks.tag .now)
theorem WK {R:Result→Shared→Prop} {tp:Value} (X:K.In s.heap) (I:TyAt x C s.heap) (hm:mroIn K C (.type "object")=some true)
 (h:R (.ok (.ret (.ref C))) s):codeAny (model prog w) A (.call (.builtin "getset_descriptor.__get__") ⟨[.builtin "object.__class__",.ref x,tp],[]⟩) R s:=by
 obtain ⟨hh,g,dr,t,os⟩:=s
 have L0:=I.type (M:=model prog w)
 have L1:=looks_mroIn (M:=model prog w) X hm
 refine codeAny_call_builtin KF.slot_gs.plain KF.entry_gs (KF.slot_gs.check _ _ _ _ _ _ _ _ KF.type_class (KF.args_gs _ _ _) ?_)
 unfold Builtin.«getset_descriptor.__get__» Builtin.Getset_descriptor.descrGet
 rw [dga_obj]
 refine wpAny_bind (wpAny_pure ?_)
 unfold Builtin.Getset_descriptor.descrGetter Builtin.Getset_descriptor.descrCheckInstance Builtin.Getset_descriptor.descrNameAndClass isInstance
 simp only [KF.owner_class]
 repeat lk
 refine ⟨Code.quiet_builtin _ (by decide +kernel),codeAny_builtin KF.entry_class ?_⟩
 unfold Builtin.«object.__class__» shownTypeOf
 repeat lk
 exact h
theorem WL {Q:Option Value→Shared→Prop} (c:EC K C) (X:K.In s.heap) (I:TyAt x C s.heap) (h:Q (some (.ref C)) {s with toks:=s.toks+1}):wpAny (model prog w) A (getAttr? (.ref x) "__class__") Q E s:=by
 obtain ⟨hh,g,d,t,os⟩:=s
 have L0:=I.type (M:=model prog w)
 have L1:=looks_findIn (M:=model prog w) X c.ga
 have L2:=looks_findIn (M:=model prog w) X c.gt
 have LF:=WJ (M:=model prog w) (x:=x) c X
 have LB:=looks_mroIn (M:=model prog w) X c.mb
 have ha:=F.args_bexc_ga (.ref x) (.str "__class__" t)
 have hk:builtinKind "BaseException.__getattribute__"=some .slot:=by decide +kernel
 have hsplit:splitId "BaseException.__getattribute__"=some ("BaseException","__getattribute__"):=by decide +kernel
 have hx2:(Value.builtin "BaseException.__getattribute__"==Value.builtin "object.__getattribute__")=false:=by decide +kernel
 have hx1:(onTheHeap (Value.ref C)&&Value.builtin "BaseException.__getattribute__"==Value.builtin "object.__getattribute__")=false:=by rw [hx2];rfl
 unfold getAttr? getAttrBy? getAttrBy
 refine wpAny_bind (wpAny_mkText (wpAny_bind (wpAny_attempt (wpAny_holding (wpAny_bind (L0.at (wpAny_bind (L1.at ?_))))))))
 dsimp only
 rw [hx1]
 simp only [BP,if_false]
 unfold getAttrByItsOwn hookBefore
 refine wpAny_bind ?_
 show wpAny _ _ (typeLookup (.ref C) "__getattr__") _ _ _
 refine L2.at ?_
 refine wpAny_bind (wpAny_attempt (wpAny_holding ?_))
 unfold callGetattribute boundAndCalled
 simp only [Bool.false_and,BP,if_false]
 rw [PySem.F.attr_ValueError.ga.bind (.ref x)]
 refine wpAny_bind (wpAny_pure (wpAny_call (codeAny_call_builtin PySem.F.attr_ValueError.ga.plain F.entry_bexc_ga ?_)))
 simp only [checkBuiltinCall,hk,hsplit]
 refine wpAny_bind ?_
 unfold isInstance
 refine wpAny_bind (L0.at (LB.at ?_))
 wp_step
 unfold Builtin.«object.__getattribute__»
 repeat lk
 refine wpAny_run (WK (s:=⟨hh,g,d,t+1,os⟩) X I c.mo ?_) (by intro z;cases z)
 refine wpAny_pure (wpAny_pure ?_)
 exact handed_on rfl (wpAny_pure h)
theorem WM (c:EC K C):KitX K (.ref x) (.ref C) (TyAt x C) where
 ty:=fun _ _ _ I=>I.type
 it:=fun _ _ X _=>by
  obtain ⟨cdD,hcD⟩:=qbN.mp c.cl
  unfold clsIn at hcD
  split at hcD
  ·rename_i c' d' cd' sl' ho
   intro A' Q' E' s' k q
   unfold isType loadHead
   exact wpAny_bind (wpAny_loadPart (k _ _ (X _ _ ho)) (wpAny_pure q))
  ·cases hcD
 ne:=fun h tp dd its n sl X htp=>by
  obtain ⟨cdD,hcD⟩:=qbN.mp c.cl
  refine Bool.eq_false_iff.mpr fun q=>?_
  have e:C=tp:=Value.ref.inj (beq_iff_eq.mp q)
  subst e
  unfold clsIn at hcD
  split at hcD
  ·rename_i c' d' cd' sl' ho
   have z:=(X _ _ ho).symm.trans htp
   cases z
  ·cases hcD
 ca:=fun X I k=>WL c X I k
end
def excNames:List Str:=["NoBoard","NoLine","NoSwitching","NoNumber","Unlike","NoNet","NoPlace","NoText","NoRow","TooMany","SwitchError"]
def BG (n n':Str):Bool:=n==n'||n'=="SwitchError"
def MD (K:Frag) (C:Addr):Bool:=
 findIn K (.ref C) "__getattribute__"==some (some (.builtin "BaseException.__getattribute__"))&&findIn K (.ref C) "__getattr__"==some none&&(clsIn K C).isSome&&
 findIn K (.ref C) "__class__"==some (some (.builtin "object.__class__"))&&specialIn K (.builtin "object.__class__") "__get__"==some (some (.builtin "getset_descriptor.__get__"))&&
 takesIn K (.builtin "object.__class__")==some true&&mroIn K C (.type "object")==some true&&mroIn K C (.type "BaseException")==some true
theorem WN {K:Frag} {C:Addr} (h:MD K C=true):EC K C:=by
 unfold MD at h
 simp only [CF,beq_iff_eq] at h
 obtain ⟨⟨⟨⟨⟨⟨⟨h1,h2⟩,h3⟩,h4⟩,h5⟩,h6⟩,h7⟩,h8⟩:=h
 exact ⟨h1,h2,h3,h4,h5,h6,h7,h8⟩
def EG (K:Frag) (n:Str):Option Addr:=match nsIn K mainGlobals n with
 |some (some (.ref C))=>some C
 |_=>none
theorem P6 {K:Frag} {n:Str} {C:Addr} (h:EG K n=some C):nsIn K mainGlobals n=some (some (.ref C)):=by
 unfold EG at h
 split at h
 ·rename_i e;cases h;exact e
 ·cases h
def MF (K:Frag) (n:Str) (C S:Addr):Bool:=
 MD K C&&kitOne K (.ref C) (.type "ValueError")==some true&&(n=="TooMany"||Mz K C IV "ValueError.__new__")&&exmOne K (.ref C) (.ref S)==some true&&
  excNames.all fun n'=>match EG K n' with
   |some C'=>kitOne K (.ref C) (.ref C')==some (BG n n')
   |none=>false
def etOk (K:Frag):Bool:=match EG K "SwitchError" with
 |some S=>excNames.all fun n=>match EG K n with
  |some C=>MF K n C S
  |none=>false
 |none=>false
structure ET (K:Frag) (n:Str) (C:Addr):Prop where
 ec:EC K C
 ve:kitOne K (.ref C) (.type "ValueError")=some true
 at_:n≠"TooMany"→My K C IV "ValueError.__new__"
 sw:∀S,nsIn K mainGlobals "SwitchError"=some (some (.ref S))→exmOne K (.ref C) (.ref S)=some true
 sub:∀n' C',n'∈excNames→nsIn K mainGlobals n'=some (some (.ref C'))→kitOne K (.ref C) (.ref C')=some (BG n n')
theorem KB {K:Frag} (h:etOk K=true) {n:Str} {C:Addr} (hn:n∈excNames) (hC:nsIn K mainGlobals n=some (some (.ref C))):ET K n C:=by
 unfold etOk at h
 split at h
 ·rename_i S hS
  have h1:=qaO.mp h n hn
  have e:EG K n=some C:=by unfold EG;rw [hC]
  rw [e] at h1
  have h1:MF K n C S=true:=h1
  unfold MF at h1
  simp only [CF,beq_iff_eq,Bool.or_eq_true] at h1
  obtain ⟨⟨⟨⟨a1,a2⟩,a3⟩,a4⟩,a5⟩:=h1
  refine ⟨WN a1,a2,fun z=>Wi (a3.resolve_left z),fun S' hS'=>?_,fun n' C' hn' hC'=>?_⟩
  ·have:=P6 hS
   rw [this] at hS'
   cases hS'
   exact a4
  ·have z:=qaO.mp a5 n' hn'
   have e':EG K n'=some C':=by unfold EG;rw [hC']
   rw [e'] at z
   exact beq_iff_eq.mp z
 ·cases h
section
variable {X:Cx} {E:XK}
theorem WO {x:Str} {a:Addr} {pos:Pos} (hg:Gl X x) (hn:nsIn X.K mainGlobals x=some (some (.ref a))) (hd:(x==("__debug__":Str))=false:=by decide):Ev X E (.Name x pos) (mC (.glo x)):=
 fun pins s σ H Q I z1_=>by obtain ⟨m,ρ,h,hr,er,p⟩:=z1_;exact (Ha I hg (mg_of I.mod.kin I.mod.glob hn) ⟨.ref a,H,I,rfl,p (.ref a) m H (AG _) (.refl _) hr (by simp only [rD,DV];exact ⟨a,rfl,hn⟩)⟩ hd)
def Gm {α:Type}:Out α→Prop
 |.err _ _ _=>False
 |_=>True
theorem Post.noE {α β:Type} {K:Frag} {R:List Addr→Hp→α→β→Prop} {m:List Addr} {H:Hp} {E E':XK} {Q:β→Hp→Prop} {o:Out α} (n:Gm o) (h:Post K R m H E Q o):Post K R m H E' Q o:=by
 cases o with
 |ok a h1=>exact h
 |err C fs h1=>exact False.elim n
 |stuck=>exact h
theorem KC {f:Value} {F:List D→HD→Out D} (hF:∀ds h,Gm (F ds h))
 (hc:∀(pins:List (Addr×Obj)) (s:Shared) (σ:L2.St) (H:Hp) (m:List Addr) (h:HD) (ds:List D) (vs:List V) (us:List Value) (Q:VK),Inv X pins σ H s→HR X.K m h H→DVs X.K m H ds vs→Vals vs us→Post X.K (rD X.K) m H E0 Q (F ds h)→
  wpAny (model X.prog X.w) X.A (call f us) (EP X pins σ Q) X.xe s):CI X f F:=
 ⟨fun vs H Q=>∃m h ds,HR X.K m h H∧DVs X.K m H ds vs∧Post X.K (rD X.K) m H E0 Q (F ds h),fun pins s σ H vs us Q I r z2_=>by obtain ⟨m,h,ds,hr,rd,q⟩:=z2_;exact (hc pins s σ H m h ds vs us Q I hr rd r q),fun m H h E ds vs Q hr rd q=>⟨m,h,ds,hr,rd,Post.noE (hF ds h) q⟩⟩
def AR:D→D→HD→Out D:=fun x y h=>match x with
 |.exc n _=>(match y with
  |.glo n'=>if n∈excNames∧n'∈excNames then .ok (.bl (BG n n')) h else .stuck
  |.ty T=>if n∈excNames∧T="ValueError" then .ok (.bl true) h else .stuck
  |_=>.stuck)
 |.edic=>(match y with
  |.ty T=>(match Kg "dict" T with
   |some b=>.ok (.bl b) h
   |none=>.stuck)
  |_=>.stuck)
 |_=>BA x y h
theorem WQ (pins:List (Addr×Obj)) (s:Shared) (σ:L2.St) (H:Hp) (m:List Addr) (h:HD) (x y:D) (v v':V) (u u':Value) (Q:VK) (I:Inv X pins σ H s) (hr:HR X.K m h H) (rx:DV X.K m H x v) (ry:DV X.K m H y v') (r:RelV v u) (r':RelV v' u')
 (q:Post X.K (rD X.K) m H E0 Q (BA x y h)):wpAny (model X.prog X.w) X.A (call (.builtin "isinstance") [u,u']) (EP X pins σ Q) X.xe s:=by
 unfold BA at q
 split at q
 ·rename_i T t et
  split at q
  ·rename_i b eb
   simp only [DV] at ry
   subst ry
   cases (show u'=Value.type T from r')
   exact T9 I r (VE hr rx et) (O7 eb) fun tk=>⟨.bl b,H,I.tok _,rfl,Bf hr q (by simp [DV])⟩
  ·exact q.elim
 ·exact q.elim
theorem Dc (et:etOk X.K=true):CI X (.builtin "isinstance") (Bx AR):=by
 refine KC (fun ds h=>?_) fun pins s σ H m h ds vs us Q I hr rd r q=>Ka rd q fun x y v v' ev rx ry q=>?_
 ·unfold Bx AR BA
  repeat' split
  all_goals trivial
 ·subst ev
  obtain ⟨u,u',rfl,r1,r2⟩:=Iw r
  unfold AR at q
  split at q
  ·rename_i n fs
   simp only [DV] at rx
   obtain ⟨a,C,da,rfl,hC,ha,_⟩:=rx
   cases (show u=Value.ref a from r1)
   obtain ⟨⟨o,ws,ho,hcl,hdi,hdat⟩,_⟩:=(show ObjOk X.prog X.w H s.heap a (.ext (FH C da a)) from I.hok a _ ha)
   have key:∀(c:Value) (b:Bool),EC X.K C→kitOne X.K (.ref C) c=some b→Q (.bl b) H→wpAny (model X.prog X.w) X.A (call (.builtin "isinstance") [.ref a,c]) (EP X pins σ Q) X.xe s:=by
    intro c b ec e q
    exact kia_one (WM ec) I.kIn ⟨o,ho,hcl⟩ e (fun z=>nomatch z) fun tk=>⟨.bl b,H,I.tok _,rfl,q⟩
   split at q
   ·rename_i n'
    split at q
    ·rename_i hn
     simp only [DV] at ry
     obtain ⟨C',rfl,hC'⟩:=ry
     cases (show u'=Value.ref C' from r2)
     have t:=KB et hn.1 hC
     exact key _ _ t.ec (t.sub n' C' hn.2 hC') (Bf hr q (by simp [DV]))
    ·exact q.elim
   ·rename_i T
    split at q
    ·rename_i hn
     simp only [DV] at ry
     subst ry
     cases (show u'=Value.type T from r2)
     obtain ⟨hn,rfl⟩:=hn
     have t:=KB et hn hC
     exact key _ _ t.ec t.ve (Bf hr q (by simp [DV]))
    ·exact q.elim
   ·exact q.elim
  ·split at q
   ·rename_i T
    split at q
    ·rename_i b eb
     simp only [DV] at rx ry
     obtain ⟨a,rfl,ha⟩:=rx
     subst ry
     cases (show u=Value.ref a from r1)
     cases (show u'=Value.type T from r2)
     obtain ⟨⟨_,o,ep,ho,hx,hd⟩,_⟩:=(show ObjOk X.prog X.w H s.heap a (.ext (LO a)) from I.hok a _ ha)
     exact kia_one kitx_dict I.kIn ⟨o,ho,hx.1⟩ (O7 eb) (fun z=>nomatch z) fun tk=>⟨.bl b,H,I.tok _,rfl,Bf hr q (by simp [DV])⟩
    ·exact q.elim
   ·exact q.elim
  ·exact WQ pins s σ H m h x y v v' u u' Q I hr rx ry r1 r2 q
end
section
variable {X:Cx} {E:XK}
def HG (chk:D→HD→Out D) (op:D→D→HD→Out D) (f g:ME):ME:=fun ρ h=>((f ρ h).bind chk).bind fun x h1=>(g ρ h1).bind fun y h2=>op x y h2
def P7 (X:Cx) (T:String) (x:V) (H:Hp):Prop:=∀(pins:List (Addr×Obj)) (σ:L2.St) (s:Shared) (u:Value),Inv X pins σ H s→RelV x u→s.TypeIs u T∧∀a,u=.ref a→∃ob,s.heap.get? a=some ob∧ob.dict=none
def WR (X:Cx) (T:String) (r:V→List V→Hp→VK→Prop) (to:TE) (t:TA):TE:=fun σ H Q=>to σ H fun x H1=>P7 X T x H1∧t σ H1 fun xs H2=>r x xs H2 Q
theorem WS {o e:Expr} {es:List Expr} {to:TE} {t:TA} {name:Str} {apos cpos:Pos} {T id:String} {r:V→List V→Hp→VK→Prop} (pa:PlainAttrs T) (slot:Slot T name id) (hty:typeOf (.builtin id)=pure (.type "method_descriptor")) (hm:LJ X id r) (ho:PE X o to) (ha:PA X (e::es) t)
 (hbase:attributeBase o name X.env (eval o X.env)=eval o X.env:=by rfl)
 (hfew:((backTo cpos (starEach (e::es) X.env)).all (fun x=>!x.1)&&(backToKw cpos (keywordEach [] X.env)).all (fun x=>x.1.isSome)
  &&decide ((e::es).length+([]:List Keyword).length+(if ([]:List Keyword).isEmpty then 0 else 1)<30))=true:=by rfl)
 (hline:(apos.endLine==cpos.line)=true:=by rfl) (hs:starEach (e::es) X.env=(false,eval e X.env)::starEach es X.env:=by rfl) (hplain:(backTo cpos (starEach es X.env)).any (·.1)=false:=by rfl):
 PE X (.Call (.Attribute o name apos) (e::es) [] cpos) (WR X T r to t):=by
 intro pins s σ H Q I h
 refine wpAny_Call_method_late hbase hfew hline rfl (AB (ho pins s σ H _ I h) fun v s1 z1_=>?_)
 obtain ⟨x,H1,I1,r1,ty,q1⟩:=z1_
 obtain ⟨h1,h2⟩:=ty pins σ s1 v I1 r1
 refine ⟨T,id,pa,slot,hty,h1,h2,?_⟩
 have hA:=ha cpos pins s1 σ H1 _ I1 q1
 rw [hs] at hA ⊢
 refine Calls.callWith_builtin (by show (false||(backTo cpos (starEach es X.env)).any (·.1))=false;rw [hplain]<;>rfl) (Calls.evalArgs_plain ?_)
 exact AB hA fun us s2 z2_=>by obtain ⟨vs,H2,I2,r2,q2⟩:=z2_;exact (hm pins s2 σ H2 x vs v us Q I2 r1 r2 q2)
structure P8 (X:Cx) (T:String) (chk:D→HD→Out D):Prop where
 two:∀x h,chk x h=.ok x h∨chk x h=.stuck
 ty:∀m H h x v,HR X.K m h H→DV X.K m H x v→chk x h=.ok x h→P7 X T v H
def MH (X:Cx) (id:String) (op:D→D→HD→Out D):Prop:=
 ∀(pins:List (Addr×Obj)) (s:Shared) (σ:L2.St) (H:Hp) (m:List Addr) (h:HD) (x y:D) (v yv:V) (u uy:Value) (Q:VK),Inv X pins σ H s→HR X.K m h H→DV X.K m H x v→DV X.K m H y yv→RelV v u→RelV yv uy→Post X.K (rD X.K) m H E0 Q (op x y h)→
  wpAny (model X.prog X.w) X.A (call (.builtin id) [u,uy]) (EP X pins σ Q) X.xe s
theorem P9 {o e:Expr} {f g:ME} {name:Str} {T id:String} {chk:D→HD→Out D} {op:D→D→HD→Out D} {apos cpos:Pos} (pa:PlainAttrs T) (slot:Slot T name id) (hty:typeOf (.builtin id)=pure (.type "method_descriptor"))
 (hc:P8 X T chk) (hn:∀x y h,Gm (op x y h)) (hm:MH X id op) (ho:Ev X E o f) (he:Ev X E e g)
 (hbase:attributeBase o name X.env (eval o X.env)=eval o X.env:=by rfl)
 (hfew:((backTo cpos (starEach [e] X.env)).all (fun x=>!x.1)&&(backToKw cpos (keywordEach [] X.env)).all (fun x=>x.1.isSome)
  &&decide ([e].length+([]:List Keyword).length+(if ([]:List Keyword).isEmpty then 0 else 1)<30))=true:=by rfl)
 (hline:(apos.endLine==cpos.line)=true:=by rfl) (hs:starEach [e] X.env=(false,eval e X.env)::starEach [] X.env:=by rfl) (hplain:(backTo cpos (starEach [] X.env)).any (·.1)=false:=by rfl):
 Ev X E (.Call (.Attribute o name apos) [e] [] cpos) (HG chk op f g):=by
 have hr:LJ X id (fun v vs H Q=>∃m h x y yv,vs=[yv]∧HR X.K m h H∧DV X.K m H x v∧DV X.K m H y yv∧Post X.K (rD X.K) m H E0 Q (op x y h)):=by
  rintro pins s σ H v vs u us Q I r rs ⟨m,h,x,y,yv,ev,hr,rx,ry,q⟩
  subst ev
  obtain ⟨uy,rfl,r2⟩:=En rs
  exact hm pins s σ H m h x y v yv u uy Q I hr rx ry r r2 q
 refine B4 (WS pa slot hty hr ho (Ac he Af hs) hbase hfew hline hs hplain) fun σ H Q z3_=>?_
 obtain ⟨m,ρ,h,hr,er,p⟩:=z3_
 refine ⟨m,ρ,h,hr,er,?_⟩
 unfold HG at p
 rw [Out.bind_assoc] at p
 refine Post.bind p fun x h1 v m1 H1 eo p1 k1 hr1 r1 q1=>?_
 clear eo
 rcases hc.two x h1 with ec |ec
 ·rw [ec] at q1
  simp only [Out.bind_ok] at q1
  refine ⟨hc.ty m1 H1 h1 x v hr1 r1 ec,m1,ρ,h1,hr1,er.keep p1 k1,?_⟩
  have q2:Post X.K (rD X.K) m1 H1 E Q ((Aa g Ae ρ h1).bind fun ys h2=>match ys with
   |[y]=>op x y h2
   |_=>.stuck):=by
   unfold Aa Ae
   rw [Out.bind_assoc]
   exact q1
  refine Post.bind q2 fun ys h2 vs m2 H2 eo p2 k2 hr2 r2 q3=>?_
  clear eo
  split at q3
  ·rename_i y
   simp only [Ep,DVs] at r2
   obtain ⟨yv,w,rfl,ry,rfl⟩:=r2
   exact ⟨m2,h2,x,y,yv,rfl,hr2,DV.keep p2 k2 r1,ry,Post.noE (hn x y h2) q3⟩
  ·exact q3.elim
 ·rw [ec] at q1
  exact q1.elim
theorem MK:P8 X "list" CB where
 two:=fun x h=>by
  unfold CB
  split
  ·split
   ·exact .inl rfl
   ·exact .inr rfl
  ·exact .inr rfl
 ty:=fun m H h x v hr r e=>by
  unfold CB at e
  split at e
  ·rename_i l
   split at e
   ·rename_i ds el
    simp only [DV] at r
    obtain ⟨a,rfl,ha⟩:=r
    obtain ⟨ws,hv,dv⟩:=hr.cells l _ a el ha
    exact fun pins σ s u I ru=>OD I ru (.inl ⟨rfl,ws,SqL.of hv⟩)
   ·cases e
  ·cases e
def HH (x:V) (xs:List V):Nat:=xs.countP fun y=>DT y x
theorem Qa {x:V}:∀{xs:List V} {us:List Value},Vals xs us→xs.all DA=true→us.countP (CU x)=HH x xs
 |_,_,.nil,_=>rfl
 |y::xs,u::us,.cons r t,f=>by
  rw [List.all_cons,CF] at f
  unfold HH
  rw [List.countP_cons,List.countP_cons,JR r f.1,Qa t f.2]
  rfl
def HI:D→D→HD→Out D:=fun x y h=>match BD x h with
 |none=>.stuck
 |some ds=>match Cq y,Ax (ds.map Cq) with
  |some v,some vs=>.ok (.int (HH v vs)) h
  |_,_=>.stuck
theorem WT (x y:D) (h:HD):Gm (HI x y h):=by
 unfold HI
 repeat' split
 all_goals trivial
def Gn:D→D→HD→Out D:=fun x y h=>(CB x h).bind fun _ _=>HI x y h
theorem WU:MH X "list.count" Gn:=by
 intro pins s σ H m h x y v yv u uy Q I hr rx ry r r2 q
 unfold Gn at q
 rcases (MK (X:=X)).two x h with ec |ec
 ·rw [ec] at q
  simp only [Out.bind_ok] at q
  unfold CB at ec
  split at ec
  ·rename_i l
   split at ec
   ·rename_i ds el
    unfold HI BD at q
    simp only [el] at q
    split at q
    ·rename_i w ws e1 e2
     simp only [DV] at rx
     obtain ⟨a,rfl,ha⟩:=rx
     cases (show u=Value.ref a from r)
     obtain ⟨vs,hv,dv⟩:=hr.cells l _ a el ha
     obtain ⟨h1,h2⟩:=J7 ry e1
     obtain ⟨h3,h4⟩:=J8 dv e2
     subst h1 h3
     obtain ⟨z,its,n,rr,hl,e⟩:=I.lstM hv
     refine call_meets F.slot_list_count ⟨_,e,rfl⟩ F.entry_list_count (F.args_list_count_2 _ _) (PySem.SeqAt.list_countAt a its.toArray n none #[] uy (CU yv)) ⟨e,fun w hw=>Iz r2 h2 rr h4 w (by simpa using hw),?_⟩
     refine ⟨.int _,H,I.tok _,⟨_,rfl⟩,?_⟩
     rw [show (its.toArray.toList.countP (CU yv))=HH yv vs by rw [←Qa rr h4]]
     exact Bf hr q (by simp [DV])
    ·exact q.elim
   ·cases ec
  ·cases ec
 ·rw [ec] at q;exact q.elim
def KG (x:V) (xs:List V):Option Nat:=xs.findIdx? fun y=>DT y x
def Gp:D→D→HD→Out D:=fun x y h=>match x with
 |.loc l=>(match h[l]? with
  |some (.lst ds)=>(match Cq y,Ax (ds.map Cq) with
   |some v,some vs=>(match KG v vs with
    |some j=>.ok (.int j) h
    |none=>.stuck)
   |_,_=>.stuck)
  |_=>.stuck)
 |_=>.stuck
theorem WV (x y:D) (h:HD):Gm (Gp x y h):=by
 unfold Gp
 repeat' split
 all_goals trivial
theorem WW (x y:D) (h:HD):Gm (Gn x y h):=by
 unfold Gn
 rcases (show CB x h=.ok x h∨CB x h=.stuck by
  unfold CB
  split
  ·split
   ·exact .inl rfl
   ·exact .inr rfl
  ·exact .inr rfl) with e |e
 ·rw [e];exact WT x y h
 ·rw [e];trivial
theorem Qb {xs:List V} {us:List Value} (r:Vals xs us) {x:V} (f:xs.all DA=true) {j:Nat} (hj:j<us.length):CU x us[j]=DT (xs[j]'(by rw [r.length];exact hj)) x:=by
 have hx:j<xs.length:=by rw [r.length];exact hj
 obtain ⟨u,e,ru⟩:=r.get (A8 hx)
 rw [A8 hj] at e
 cases e
 exact JR ru (qaO.mp f _ (Ii hx))
theorem WX:MH X "list.index" Gp:=by
 intro pins s σ H m h x y v yv u uy Q I hr rx ry r r2 q
 unfold Gp at q
 split at q
 ·rename_i l
  split at q
  ·rename_i ds el
   split at q
   ·rename_i w ws e1 e2
    split at q
    ·rename_i j ej
     simp only [DV] at rx
     obtain ⟨a,rfl,ha⟩:=rx
     cases (show u=Value.ref a from r)
     obtain ⟨vs,hv,dv⟩:=hr.cells l _ a el ha
     obtain ⟨h1,h2⟩:=J7 ry e1
     obtain ⟨h3,h4⟩:=J8 dv e2
     subst h1 h3
     obtain ⟨z,its,n,rr,hl,e⟩:=I.lstM hv
     unfold KG at ej
     rw [List.findIdx?_eq_some_iff_getElem] at ej
     obtain ⟨hj,hit,hno⟩:=ej
     have hji:j<its.length:=by rw [←hl];exact hj
     have hsl:(j:Int)<2^63 - 1:=by have:=Hb;omega
     refine call_meets F.slot_list_index ⟨_,e,rfl⟩ F.entry_list_index (F.args_list_index_2 _ _) (PySem.SeqAt.list_indexAt a its.toArray n none #[] uy (CU yv) j (by simpa using hji) hsl ?_ ?_) ⟨e,fun w hw=>Iz r2 h2 rr h4 w (by simpa using hw),?_⟩
     ·have:=Qb rr h4 (x:=yv) hji
      simp only [List.getElem_toArray]
      rw [this];exact hit
     ·intro k hk hkj
      have hk':k<its.length:=by simpa using hk
      have:=Qb rr h4 (x:=yv) hk'
      simp only [List.getElem_toArray]
      rw [this]
      simpa using hno k hkj
     ·exact ⟨.int _,H,I.tok _,⟨_,rfl⟩,Bf hr q (by simp [DV])⟩
    ·exact q.elim
   ·exact q.elim
  ·exact q.elim
 ·exact q.elim
end
theorem WY {pos:Pos} {l r:List Value} {cv:Value} (_:TriplesOk l) (e:codeAmong pos l=some cv):codeAmong pos (l++r)=some cv:=by
 rename_i ht
 clear ht
 fun_induction codeAmong pos l with
 |case1 line t col u c rest h=>rw [FY,FY,FY,codeAmong,if_pos h];exact e
 |case2 line t col u c rest h ih=>rw [FY,FY,FY,codeAmong,if_neg h];exact ih e
 |case3=>cases e
theorem Qc {pos p2:Pos} {c cv:Value}:∀{l:List Value},TriplesOk l→codeAmong p2 (l++[rawInt pos.line,rawInt pos.col,c])=some cv→codeAmong p2 l=some cv∨cv=c
 |[],_,e=>by
  simp only [Il,rawInt,codeAmong] at e
  split at e
  ·exact .inr (Option.some.inj e).symm
  ·cases e
 |.int i t::.int j u::c'::l,h,e=>by
  simp only [codeAmong,FY] at e ⊢
  split at e
  ·rename_i z
   rw [if_pos z];exact .inl e
  ·rename_i z
   rw [if_neg z];exact Qc (by simpa [TriplesOk] using h) e
theorem HR.tab {K:Frag} {m:List Addr} {h:HD} {H H':Hp} {P:Addr} (r:HR K m h H) (k:Kp H H') (s:∀b,b≠P→H b≠none→H' b=H b) (t:TabIs K H' P) (tt:TabIs K H P):HR K m h H':=by
 refine ⟨r.len,r.nd,fun l c a e q=>?_⟩
 have hm:a∈m:=Fw q
 have hn:H a≠none:=r.mem hm
 have:=r.cells l c a e q
 cases c with
 |lst ds=>
  obtain ⟨vs,e1,e2⟩:=this
  have ha:a≠P:=by
   rintro rfl
   obtain ⟨_,ps,z,_⟩:=tt
   rw [z] at e1;cases e1
  exact ⟨vs,by rw [s a ha hn];exact e1,e2.keep (AG _) k⟩
 |tab=>
  by_cases ha:a=P
  ·subst ha;exact t
  ·exact TabIs.keep this k (s a ha hn)
 |dic fz kvs=>
  obtain ⟨es,e1,e2⟩:=this
  have ha:a≠P:=by
   rintro rfl
   obtain ⟨_,ps,z,_⟩:=tt
   cases fz with
   |true=>obtain ⟨o,q⟩:=e1;rw [z] at q;cases q
   |false=>exact absurd (z.symm.trans e1) (by intro w;cases w)
  exact ⟨es,e1.same (s a ha hn),e2.keep (AG _) k⟩
structure LamX (X:Cx) (c P:Addr):Prop where
 code:X.env.code=.ref c
 tp:tabP X.K=some (c,P)
 hd:codeHdIn X.K c P=true
 qual:X.env.qual="law.<locals>."
 bm:∃bm o,X.mg "__builtins__"=some (.ref bm)∧bm≠builtinsNs∧X.base.get? bm=some o∧o.cls=.type "module"∧o.dict=some builtinsNs∧o.data=.plain
section
variable {X:Cx} {E:Value→Shared→Prop} {c P:Addr} {pins:List (Addr×Obj)} {σ:L2.St} {H:Hp} {s:Shared}
theorem LamX.builtins (L:LamX X c P) (I:Inv X pins σ H s) (t:TabIs X.K H P):s.heap.BuiltinsAt X.mg P:=by
 obtain ⟨bm,o,h1,h2,h3,h4,h5,h6⟩:=L.bm
 obtain ⟨e,n⟩:=I.bs bm o h3
 refine ⟨bm,o,h1,h2,fun z=>?_,fun z=>?_,e,h4,h5,h6⟩
 ·obtain ⟨og,es,ep,e1,e2,_⟩:=I.mod.glob
  rw [z,e1] at h3
  cases h3
  rw [e2] at h6;cases h6
 ·obtain ⟨_,ps,q,_⟩:=t
  rw [z,q] at n;cases n
abbrev Bv:Str:="law.<locals>.<lambda>"
theorem WZ {params:Arguments} {body:Expr} {scope:Scope} {pos:Pos} {clos:List (Str×Addr)} {Q:Value→Shared→Prop} {A:Around} (L:LamX X c P) (I:Inv X pins σ H s) (t:TabIs X.K H P) (hdef:defaultsOf params X.env=([],[])) (hcl:closureFor scope X.env=pure clos)
 (k:∀(f' c':Addr) (ctv pm:Value) (h':Heap) (tk:Nat) (H':Hp),Inv X pins σ H' {s with heap:=h',toks:=tk}→Kp H H'→TabIs X.K H' P→(∀b,b≠P→H b≠none→H' b=H b)→(∀b o,b≠P→s.heap.get? b=some o→h'.get? b=some o)→s.heap.objs.size≤f'→
  H' f'=none→h'.get? f'=some (kla_obj "<lambda>" Bv params body scope clos pm c' ctv)→(∃ps,H' P=some (.tbl ps)∧codeAmong pos ps.toList=some (.ref c'))→Q (.ref f') {s with heap:=h',toks:=tk}):
 wpAny (model X.prog X.w) A (eval (.Lambda params body scope pos) X.env) Q E s:=by
 have hB:=L.builtins I t
 have hg:s.heap.Ns mainGlobals X.mg:=I.mod.glob.keeps I.bk
 have hCd:CodeHd s.heap c P:=codeHd_of_K I.kIn L.hd
 obtain ⟨ht1,ps,hps,htr,hcs⟩:=id t
 have hP:s.heap.get? P=some (tabObj ps):=I.hok P _ hps
 have hgP:mainGlobals≠P:=fun z=>by
  obtain ⟨og,es,ep,e1,e2,_⟩:=I.mod.glob
  have:=(I.bs _ _ e1).2
  rw [z,hps] at this;cases this
 have hq:X.env.qual++"<lambda>"=Bv:=by rw [L.qual];decide +kernel
 refine kla_eval hdef ?_
 rw [hq]
 cases hc:codeAmong pos ps.toList with
 |some cv=>
  obtain ⟨c',rfl,hx⟩:=hcs pos cv hc
  refine kla_makeFunctionHit (mg:=X.mg) hcl I.ok.glob hg L.code hCd hP htr hc hB fun ctv h' tk hk hsz=>?_
  have hk2:∀b o,s.heap.get? b=some o→(h'.push (kla_obj "<lambda>" Bv params body scope clos ((X.mg "__name__").getD .none) c' ctv)).get? b=some o:=fun b o e=>AE _ (hk b o e)
  exact k _ c' ctv _ _ tk H (I.kept hk2) (.refl _) t (fun _ _ _=>rfl) (fun b o _ e=>hk2 b o e) hsz (I.hok.fresh hsz) (Bp _ rfl) ⟨ps,hps,hc⟩
 |none=>
  refine kla_makeFunction (mg:=X.mg) hcl I.ok.glob hg L.code hCd hP htr hc hgP hB fun c' ctv h' tk hx hge hlt hrec htb=>?_
  generalize ho:kla_obj "<lambda>" Bv params body scope clos ((X.mg "__name__").getD .none) c' ctv=fo
  have hk2:∀b o,b≠P→s.heap.get? b=some o→(h'.push fo).get? b=some o:=fun b o hb e=>AE _ (hx b o hb e)
  have hPs:P<s.heap.objs.size:=Av hP
  have hc'P:c'≠P:=Fe (AV hPs hge)
  have hc'n:H c'=none:=I.hok.fresh hge
  generalize hps':ps++#[rawInt pos.line,rawInt pos.col,.ref c']=ps' at htb
  have tl:ps'.toList=ps.toList++[rawInt pos.line,rawInt pos.col,.ref c']:=by rw [←hps'];simp
  have hH:∀b,b≠P→H b≠none→An (An H P (.tbl ps')) c' (.ext (Hf Bv c')) b=H b:=fun b hb hn=>by
   have:b≠c':=fun z=>hn (z ▸ hc'n)
   rw [Ao this,Ao hb]
  have hHP:An (An H P (.tbl ps')) c' (.ext (Hf Bv c')) P=some (.tbl ps'):=by rw [Ao (Ne.symm hc'P),B3]
  have kp:Kp H (An (An H P (.tbl ps')) c' (.ext (Hf Bv c'))):=fun b o e i=>by
   have:b≠P:=fun z=>by rw [z,hps] at e;cases e;cases i
   rw [hH b this (by rw [e];simp)];exact e
  have lt':∀b o,s.heap.get? b=some o→b≠c':=fun b o e=>BF (AV (Av e) hge)
  have un:Un X.fs [] H (An (An H P (.tbl ps')) c' (.ext (Hf Bv c'))) s.heap (h'.push fo):=by
   have neP:∀{b},H b=none→b≠P:=fun {b} n z=>by rw [z,hps] at n;cases n
   refine ⟨fun b o e n _ _=>hk2 b o (neP n) e,fun b o e n _ _=>⟨o.slots,hk2 b o (neP n) e⟩,fun b o e n _=>?_,fun b o e _=>?_,fun b xs e=>?_,fun b o u e=>?_,fun b qs e=>?_⟩
   ·rw [Ao (lt' b o e),Ao (neP n)];exact n
   ·by_cases hb:b=P
    ·subst hb;exact ⟨_,AE _ htb⟩
    ·exact ⟨o,hk2 b o hb e⟩
   ·rw [hH b (fun z=>by rw [z,hps] at e;cases e) (by rw [e];simp)];exact e
   ·rw [hH b (fun z=>by rw [z,hps] at e;cases e) (by rw [e];simp)];exact e
   ·by_cases hb:b=P
    ·subst hb
     rw [hps] at e;cases e
     exact ⟨_,by rw [hHP,←hps']⟩
    ·exact ⟨#[],by rw [hH b hb (by rw [e];simp),e];simp⟩
  have hok:HOk X.prog X.w (An (An H P (.tbl ps')) c' (.ext (Hf Bv c'))) (h'.push fo):=by
   intro b o e
   by_cases hb:b=c'
   ·subst hb
    rw [B3] at e
    cases e
    have r1:(h'.push fo).CodeRec (.ref b) Bv:=hrec.keeps fun b o e=>AE _ e
    refine ⟨r1,?_,fun h1 h2 z1 z2=>?_⟩
    ·obtain ⟨c2,oc,vs,t2,e1,e2,_⟩:=r1
     cases e1
     exact ⟨oc,e2⟩
    ·obtain ⟨c2,oc,vs,t2,e1,e2,e3⟩:=z1
     cases e1
     exact ⟨_,oc,vs,t2,rfl,z2 _ e2,e3⟩
   ·by_cases hbP:b=P
    ·subst hbP
     rw [hHP] at e
     cases e
     exact AE _ htb
    ·rw [Ao hb,Ao hbP] at e
     refine (I.hok b o e).stay (fun d u hd q=>hk2 d u ?_ q) (fun d q=>?_) fun d xs q=>?_
     ·rcases hd with rfl |hd
      ·exact hbP
      ·exact fun z=>by rw [z,hps] at hd;cases hd
     ·rw [hH d (fun z=>by rw [z,hps] at q;cases q) (by rw [q];simp)];exact q
     ·rw [hH d (fun z=>by rw [z,hps] at q;cases q) (by rw [q];simp)];exact q
  have hsz:s.heap.objs.size≤h'.objs.size:=E7 (Nat.lt_of_le_of_lt hge hlt)
  refine k _ c' ctv ((X.mg "__name__").getD .none) _ tk _ (I.un un hok) kp ⟨ht1,ps',hHP,?_,fun p2 cv e=>?_⟩ hH hk2 hsz ?_ (by rw [←ho];exact Bp _ rfl) ⟨ps',hHP,?_⟩
  ·rw [tl];exact TriplesOk_snoc _ _ _ _ htr
  ·rw [tl] at e
   rcases Qc htr e with z |z
   ·obtain ⟨c2,z1,z2⟩:=hcs p2 cv z
    exact ⟨c2,z1,kp _ _ z2 rfl⟩
   ·exact ⟨c',z,B3⟩
  ·have n1:h'.objs.size≠c':=Fe hlt
   have n2:h'.objs.size≠P:=Fe (AV hPs hsz)
   rw [Ao n1,Ao n2];exact I.hok.fresh hsz
  ·rw [tl];exact codeAmong_snoc _ htr hc
end
def Fj (P:Program) (w:World) (K:Frag) (mg:Str→Option Value) (base:Heap) (N:List Str) (scope:Scope) (a:Addr) (cd:Value) (cl:List (Str×Addr)) (A:Around) (outer:List Env) (s:Shared) (H:Hp) (E:XK):Cx where
 prog:=P
 w:=w
 K:=K
 mg:=mg
 base:=base
 A:=A.deeper (envX Bv scope s.heap.objs.size a cd cl)
 N:=N
 s₀:=s
 H₀:=H
 env:=envX Bv scope s.heap.objs.size a cd cl
 outer:=outer
 stack:=envX Bv scope s.heap.objs.size a cd cl::outer
 ex:=[]
 calm:=true
 fn:=fun _=>false
 pn:=[]
 xe:=fun e s'=>wpAny (model P w) (A.deeper (envX Bv scope s.heap.objs.size a cd cl)) (leaving (envX Bv scope s.heap.objs.size a cd cl) e) (fun _ s''=>AD P w K outer H s E e s'') (fun e' s''=>AD P w K outer H s E e' s'') s'
theorem W0 {P:Program} {w:World} {K:Frag} {mg:Str→Option Value} {base:Heap} {N:List Str} {scope:Scope} {a:Addr} {cd:Value} {cl:List (Str×Addr)} {A:Around} {outer:List Env} {s:Shared} {H:Hp} {E:XK}:
 Lv (Fj P w K mg base N scope a cd cl A outer s H E) E:=⟨fun _ _ h=>h,rfl,rfl,rfl⟩
theorem ML {P:Program} {w:World} {K:Frag} {mg:Str→Option Value} {base:Heap} {N:List Str} {scope:Scope} {a:Addr} {cd:Value} {cl:List (Str×Addr)} {A:Around} {outer:List Env} {s:Shared} {H:Hp} {E:XK}:
 F7 (AD P w K) (Fj P w K mg base N scope a cd cl A outer s H E) E:=Mx W0
structure Ja (h:Heap) (H:Hp) (outer:List Env) (N:List Str) (scope:Scope) (cl:List (Str×Addr)) (vs:List V):Prop where
 len:vs.length=N.length
 inj:∀x y c,cl.lookup x=some c→cl.lookup y=some c→x=y
 has:∀x,scope.names.lookup x=some .free→∃c,cl.lookup x=some c
 cell:∀x c,cl.lookup x=some c→(∃v,h.IsCell c v)∧H c=none∧c∉frs outer
 val:∀(i:Nat) (x:Str) (v:V),N[i]?=some x→vs[i]?=some v→scope.names.lookup x=some .free∧∃c u,cl.lookup x=some c∧h.IsCell c (some u)∧RelV v u
structure LamSc (scope:Scope):Prop where
 kind:scope.kind=.function
 co:scope.isCoroutine=false
 gen:scope.isGenerator=false
 only:(scope.names.all fun y=>y.2 != .cell)=true
theorem LamSc.nocell {scope:Scope} (S:LamSc scope):∀x∈scope.names,x.2≠.cell:=fun x hx e=>by
 have:=qaO.mp S.only x hx
 rw [e] at this
 simp at this
section
variable {P:Program} {w:World} {K:Frag} {mg:Str→Option Value} {base:Heap} {N:List Str} {scope:Scope} {a c':Addr} {pm ctv:Value} {params:Arguments} {body:Expr} {cl:List (Str×Addr)} {A:Around} {outer:List Env} {s:Shared} {H:Hp} {E:XK} {vs:List V}
theorem W1 {cd:Value} {h1:Heap} {t1:Nat} (S:LamSc scope) (hd:A.handled=none) (e0:FG P w K mg base A outer s H) (C:Ja s.heap H outer N scope cl vs) (ns:h1.Ns s.heap.objs.size (fun _=>none)) (hk:∀b o,s.heap.get? b=some o→h1.get? b=some o):
 Inv (Fj P w K mg base N scope a cd cl A outer s H E) [] (vs.map some) H {s with heap:=h1,toks:=t1}:=by
 have noA:∀b:Addr,b∉(Fj P w K mg base N scope a cd cl A outer s H E).ex:=fun b z=>absurd (show b∈([]:List Addr) from z) (by simp)
 refine ⟨⟨e0.mod,S.kind,rfl,rfl,AK _,C.inj,fun x hx=>?_,fun x c hf=>(by cases hf),fun _=>hd,Around.frames_deeper e0.frames,.inr ⟨rfl,rfl⟩,fun b z=>absurd z (noA b),e0.bs,e0.bsz,fun b _ _=>noA b,fun b z=>absurd z (noA b),e0.funs,e0.frf⟩,
  rfl,e0.bare,Un.kept hk,⟨_,ns,fun i x v e1 e2 _=>?_⟩,fun x c e=>?_,e0.hok.fresh (AK _),fun x c e=>(C.cell x c e).2.1,fun p hp=>absurd (show p∈([]:List (Addr×Obj)) from hp) (by simp),e0.hok.kept hk,?_⟩
 ·have hx':scope.names.lookup x=some .cell∨scope.names.lookup x=some .free:=hx
  rcases hx' with z |z
  ·exact absurd rfl (S.nocell _ (mem_of_lookup z))
  ·exact C.has x z
 ·rw [Cb] at e2
  cases ev:vs[i]? with
  |none=>rw [ev] at e2;cases e2
  |some v'=>
   rw [ev] at e2
   cases e2
   obtain ⟨hf,c,u,e3,e4,r⟩:=C.val i x v e1 ev
   exact ⟨u,r,.inr ⟨.inr hf,c,e3,e4.keeps hk⟩⟩
 ·obtain ⟨⟨v,q⟩,_⟩:=C.cell x c e
  exact ⟨v,q.keeps hk⟩
 ·show (vs.map some).length=N.length
  rw [CS];exact C.len
theorem W2 {k:Nat} {f:ME} {Q:VK} (S:LamSc scope) (hr:Room (k+1) A) (e0:FG P w K mg base A outer s H) (C:Ja s.heap H outer N scope cl vs) (ho:s.heap.get? a=some (kla_obj "<lambda>" Bv params body scope cl pm c' ctv)) (hcd:s.heap.CodeRec (.ref c') Bv)
 (hbind:bindArgs (kla_fn "<lambda>" Bv params body scope cl pm (.ref c') ctv) ⟨[],[]⟩=pure [])
 (hb:Room k (A.deeper (envX Bv scope s.heap.objs.size a (.ref c') cl))→Ev (Fj P w K mg base N scope a (.ref c') cl A outer s H E) E body f)
 (q:∃m ds h,HR K m h H∧DVs K m H ds vs∧Post K (rD K) m H E Q (f (ds.map some) h)):codeAny (model P w) A (.call (.ref a) ⟨[],[]⟩) (CR (AD P w K) outer P w H s Q E) s:=by
 refine kla_callFunE hr.depth ho rfl S.co S.gen rfl hcd ?_
 rw [hbind]
 have lim:s.heap.NoLimit:=e0.mod.nolimit.keeps fun b o e=>(e0.bs b o e).1
 refine wpAny_pure (wpAny_newFunctionEnv S.nocell (fun y hy=>by cases hy) (fun h₁ hns hsb=>⟨lim.fresh _ hsb,?_⟩) S.kind)
 have hk₁:∀b o,s.heap.get? b=some o→h₁.get? b=some o:=fun b o e=>hsb.extBut b o (Be (Av e)) (AE _ e)
 have I:Inv (Fj P w K mg base N scope a (.ref c') cl A outer s H E) [] (vs.map some) H {s with heap:=h₁,toks:=s.toks+0}:=W1 S hr.hd e0 C hns hk₁
 obtain ⟨m,ds,h,hr1,r,p⟩:=q
 have er:ER K m H (ds.map some) (vs.map some):=by
  refine ⟨by simp [r.len],fun i d e=>?_⟩
  rw [Cb] at e
  cases ed:ds[i]? with
  |none=>rw [ed] at e;cases e
  |some d'=>
   rw [ed] at e
   cases e
   obtain ⟨v,e1,r1⟩:=r.get ed
   exact ⟨v,by rw [Cb,e1];rfl,r1⟩
 refine kla_codeExpr (wpAny_mono (hb (hr.deeper _) [] _ _ H Q I ⟨m,ds.map some,h,hr1,er,p⟩) (fun u s' hs=>?_) fun e s' hs=>hs)
 obtain ⟨v,H',J,rv,qv⟩:=hs
 exact ⟨v,H',J.os,J.bare,J.base,J.hok,rv,qv⟩
end
structure RoomM (k:Nat) (A:Around):Prop where
 dp:A.depth+3*k+5<recursionLimit
 un:A.units+16*k+200<cLine
 gd:A.guards=some []
theorem RoomM.deeper {k:Nat} {A:Around} (r:RoomM (k+1) A) (env:Env):RoomM k (A.deeper env):=
 ⟨by have:=r.dp;show A.depth+1+3*k+5<_;omega,by have:=r.un;show A.units+3+16*k+200<_;omega,r.gd⟩
theorem RoomM.units {k:Nat} {A:Around} (r:RoomM k A):A.units+64<cLine:=by have:=r.un;omega
theorem RoomM.mono {j k:Nat} {A:Around} (r:RoomM k A) (h:j≤k):RoomM j A:=⟨by have:=r.dp;omega,by have:=r.un;omega,r.gd⟩
theorem RoomM.of {k:Nat} {A:Around} (r:Room k A) (e:Option Value):RoomM k (A.mark e):=⟨r.dp,r.un,r.gd⟩
def HJ (P:Program) (w:World) (K:Frag) (mg:Str→Option Value) (base:Heap) (N:List Str) (qual:Str) (scope:Scope) (f:Addr) (cd:Value) (A:Around) (outer:List Env) (s:Shared) (H:Hp):Cx:=
 {AS OE P w K mg base N qual scope f cd A outer s H E0 with calm:=false,xe:=fun _ _=>False}
theorem W3 {P:Program} {w:World} {K:Frag} {mg:Str→Option Value} {base:Heap} {N ps:List Str} {qual:Str} {scope:Scope} {f:Addr} {cd:Value} {A:Around} {outer:List Env} {s s1:Shared} {H:Hp} {us:List Value} {vs:List V}
 (S:Bd N ps scope) (e0:FG P w K mg base A outer s H) (hl:vs.length=ps.length) (r:Vals vs us)
 (x:InCallC s s.heap.objs.size (bindL (envOfC qual scope s.heap.objs.size f cd).kindOf (ps.zip us) fun _=>none) (cellsFrom (s.heap.objs.size+1) scope.names []) (bindC (envOfC qual scope s.heap.objs.size f cd).kindOf (ps.zip us) fun _=>none) s1):
 Inv (HJ P w K mg base N qual scope f cd A outer s H) [] (start N vs) H s1:=by
 have hpl:ps.length≤N.length:=by have:=congrArg List.length S.pre;rw [Ih] at this;omega
 obtain ⟨h1,tk,rfl,hk⟩:=x.done
 have noA:∀b:Addr,b∉(HJ P w K mg base N qual scope f cd A outer s H).ex:=fun b z=>absurd (show b∈([]:List Addr) from z) (by simp)
 refine ⟨⟨e0.mod,S.kind,rfl,rfl,AK _,fun y z c h1 h2=>?_,fun y hy=>?_,fun y c _ h=>?_,fun z=>(nomatch z),Around.frames_deeper e0.frames,.inr ⟨rfl,rfl⟩,fun b z=>absurd z (noA b),e0.bs,e0.bsz,fun b _ _=>noA b,fun b z=>absurd z (noA b),e0.funs,e0.frf⟩,
  rfl,e0.bare,Un.kept hk,⟨_,x.toInCall.ns,fun i y v h1 h2 h3=>?_⟩,fun y c h=>⟨_,x.cell y c h⟩,e0.hok.fresh (AK _),fun y c h=>?_,fun p hp=>absurd (show p∈([]:List (Addr×Obj)) from hp) (by simp),e0.hok.kept hk,?_⟩
 ·exact name_of_addr x.apart (PySem.mem_of_lookup h1) (PySem.mem_of_lookup h2)
 ·have hy:scope.names.lookup y=some .cell∨scope.names.lookup y=some .free:=hy
  rcases hy with hy |hy
  ·exact JQ hy
  ·exact absurd rfl (S.nofree _ (PySem.mem_of_lookup hy))
 ·exact E7 (x.above y c (PySem.mem_of_lookup h))
 ·have hi:i<vs.length:=by
   unfold L2.start at h2
   by_cases hi:i<vs.length
   ·exact hi
   ·rw [HZ (by simpa using hi)] at h2
    rw [Li] at h2
    split at h2<;>cases h2
  have ha:vs[i]?=some v:=by
   unfold L2.start at h2
   rw [E3 (by simpa using hi),Cb] at h2
   cases e:vs[i]? with
   |none=>rw [e] at h2;cases h2
   |some a=>rw [e] at h2;cases h2;rfl
  obtain ⟨u,hu,rv⟩:=r.get ha
  have hp:ps[i]?=some y:=by
   rw [←S.pre,List.getElem?_take_of_lt (by omega)];exact h1
  have ndP:ps.Nodup:=by rw [←S.pre];exact S.nd.sublist (List.take_sublist _ _)
  refine ⟨u,rv,?_⟩
  rcases S.par y (Fw hp) with k |k
  ·exact .inl ⟨k,LH ndP hp hu k⟩
  ·obtain ⟨c,e⟩:=JQ (n:=s.heap.objs.size+1) k
   refine .inr ⟨.inl k,c,e,?_⟩
   have q:=x.cell y c e
   rw [LI ndP hp hu (by show scope.names.lookup y≠_;rw [k];decide)] at q
   exact q
 ·exact e0.hok.fresh (E7 (x.above y c (PySem.mem_of_lookup h)))
 ·unfold L2.start
  show _=N.length
  rw [El,CS,List.length_replicate]
  omega
structure Qd (P:Program) (w:World) (K:Frag) (mg:Str→Option Value) (base:Heap) (k:Nat) (f:Addr) (fd:FuncData) (ps:List Str) (F:List D→HD→Out D):Prop where
 run:∀(A:Around) (outer:List Env) (s:Shared) (H:Hp) (args:Args) (us:List Value) (vs:List V) (Q:VK),RoomM k A→FG P w K mg base A outer s H→BindsTo s fd args (ps.zip us)→Vals vs us→J3 K F vs H Q E0→
  codeAny (model P w) A (.call (.ref f) args) (CR OE outer P w H s Q E0) s
theorem W4 {P:Program} {w:World} {K:Frag} {mg:Str→Option Value} {base:Heap} {x qual:Str} {st:Stmt} {f:Addr} {fd:FuncData} {N ps:List Str} {k:Nat} {F:List D→HD→Out D} {g:MS} (Fn:Fun K x qual st f fd) (S:Bd N ps (defScope st)) (ar:Ar ps.length F)
 (hg:∀ds h,ds.length=ps.length→F ds h=As N.length g ds h)
 (hbody:∀(cdv:Value) (A:Around) (outer:List Env) (s:Shared) (H:Hp),RoomM k (A.deeper (envOfC qual (defScope st) s.heap.objs.size f cdv))→A4 (HJ P w K mg base N qual (defScope st) f cdv A outer s H) E0 (defBody st) g):Qd P w K mg base (k+1) f fd ps F:=by
 obtain ⟨oc,od,kV,doc,pm,an,cdv,ct,osl,rfl,lk,hcd⟩:=Fn.ex
 refine ⟨fun A outer s H args us vs Q hr e0 hb r hsp=>?_⟩
 have hl:vs.length=ps.length:=ar.len hsp
 have KX:K.In s.heap:=e0.mod.kin.keeps fun b o e=>(e0.bs b o e).1
 have lim:s.heap.NoLimit:=e0.mod.nolimit.keeps fun b o e=>(e0.bs b o e).1
 have hkind:∀y∈ps.zip us,(defScope st).names.lookup y.1=some .local∨((defScope st).names.lookup y.1=some .cell∧((cellsFrom (s.heap.objs.size+1) (defScope st).names []).lookup y.1).isSome=true):=fun z1_ hy=>by
  obtain ⟨n,v⟩:=z1_
  rcases S.par n (JE hy).1 with q |q
  ·exact .inl q
  ·exact .inr ⟨q,PySem.W.cellsFrom_some _ _ _ (.inl q)⟩
 refine codeAny_call_function (by have:=hr.dp;omega) (KX _ _ lk) rfl S.co S.gen rfl (PySem.W.codeRec_of KX hcd) (hb _ _ _ _ ?_)
 refine wpAny_newFunctionEnv_cells S.kind hkind fun env he s1 x=>?_
 subst he
 refine ⟨lim.keeps x.toInCall.keep,codeAny_func ?_⟩
 have I:Inv (HJ P w K mg base N qual (defScope st) f cdv A outer s H) [] (start N vs) H s1:=W3 S e0 hl r x
 have fin:∀{σ':L2.St} {H':Hp} {v:V} {u:Value} {s':Shared},Inv (HJ P w K mg base N qual (defScope st) f cdv A outer s H) [] σ' H' s'→RelV v u→Q v H'→CE outer P w H s Q u s':=
  fun {σ' H' v u s'} J rv q=>⟨v,H',J.os,J.bare,J.base,J.hok,rv,q⟩
 have post:Hg K E0 g {nx:=fun _ H'=>Q .non H',rt:=Q} (start N vs) H:=by
  obtain ⟨m,ds,hd,hr1,r,p⟩:=hsp
  have hld:ds.length=ps.length:=by rw [r.len];exact hl
  refine ⟨m,ds.map some++List.replicate (N.length - ds.length) none,hd,hr1,ER.start r,?_⟩
  rw [hg ds hd hld] at p
  unfold As at p
  cases o:g (ds.map some++List.replicate (N.length - ds.length) none) hd with
  |stuck=>rw [o] at p;exact p
  |err C fs h1=>rw [o] at p;exact p
  |ok a h1=>
   rw [o] at p
   obtain ⟨fl,ρ1⟩:=a
   intro m1 H1 p1 k1 hr1
   cases fl with
   |nx=>exact fun σ er=>p .non m1 H1 p1 k1 hr1 (by simp [rD,DV])
   |bk=>exact False.elim p
   |ct=>exact False.elim p
   |rt d=>exact fun v rv=>p v m1 H1 p1 k1 hr1 rv
 refine wpAny_mono (hbody cdv A outer s H (hr.deeper _) [] s1 (start N vs) H _ I post) (fun fl s' hs=>?_) fun e s' hs=>hs.elim
 cases fl with
 |ret u=>
  obtain ⟨v,σ',H',J,rv,q⟩:=hs
  exact fin J rv q
 |next=>
  obtain ⟨σ',H',J,q⟩:=hs
  exact fin (v:=V.non) (u:=Value.none) J rfl q
 |brk=>
  obtain ⟨_,_,_,q⟩:=hs
  exact False.elim q
 |cont=>
  obtain ⟨_,_,_,q⟩:=hs
  exact False.elim q
structure CaM (P:Program) (w:World) (K:Frag) (mg:Str→Option Value) (base:Heap) (x:Str) (k:Nat) (F:List D→HD→Out D):Prop where
 ex:∃(f:Addr) (fd:FuncData) (ps:List Str),Qd P w K mg base k f fd ps F∧Binds K fd ps []∧mg x=some (.ref f)∧PySem.W.keepIn K (.ref f)=true∧Ar ps.length F
section
variable {X:Cx} {E:XK}
theorem W5 {k k':Nat} {F:List D→HD→Out D} {fa:MA} {x:Str} {p pos:Pos} {e:Expr} {es:List Expr} (C:CaM X.prog X.w X.K X.mg X.base x k F) (hr:RoomM k' X.A) (ha:Cz X E0 (e::es) fa) (hk:k≤k':=by decide) (hg:Gl X x:=by rfl)
 (hdb:(x==("__debug__":Str))=false:=by decide) (he:starEach (e::es) X.env=(false,eval e X.env)::starEach es X.env:=by rfl) (hpl:(backTo pos (starEach es X.env)).any (·.1)=false:=by rfl):
 Ev X E0 (.Call (.Name x p) (e::es) [] pos) (Ag F fa):=by
 obtain ⟨f,fd,ps,G,hb,hm,hkp,ar⟩:=C.ex
 rintro pins s σ H Q I ⟨m,ρ,hd,hr1,er,pp⟩
 refine wpAny_Call_Name_kw (Ha I hg hm ?_ hdb)
 have post:OG X.K E0 fa σ H (fun vs H1=>J3 X.K F vs H1 Q E0):=⟨m,ρ,hd,hr1,er,Post.bind pp fun xs h1 vs m1 H1 e1 p1 k1 hr1 r1 q1=>⟨m1,xs,h1,hr1,r1,q1⟩⟩
 refine PySem.W.callWith_K (h₀:=X.base) I.ok.mod.kin hkp (AB (ha pos pins s σ H _ I post) ?_) he hpl
 rintro us s1 ⟨vs,H1,I1,r,q⟩
 refine ⟨I1.kIn,?_⟩
 have hl:us.length=ps.length:=by rw [←r.length];exact ar.len q
 have hb':=hb s1 us I1.kIn (by rw [Fy];exact hl)
 rw [Fy] at hb'
 refine wpAny_call (codeAny_mono (G.run X.A X.stack s1 H1 ⟨us,[]⟩ us vs Q (hr.mono hk) I1.env0 hb' r q) fun r s' hq=>?_)
 cases r with
 |error e=>exact False.elim hq
 |ok fl=>
  cases fl with
  |ret u=>exact I1.after hq
  |next=>exact False.elim hq
  |brk=>exact False.elim hq
  |cont=>exact False.elim hq
end
theorem Qe {P:Program} {w:World} {fs:List Addr} {H H':Hp} {h0 h h':Heap} {a T:Addr} {C a0:Value} (B:Un fs [] H H' h0 h) (hok:HOk P w H' h) (na:h0.get? a=none) (nT:h0.get? T=none) (ha:H' a=none) (hT:H' T=none)
 (frNone:∀b∈fs,H' b=none) (noFields:∀b∈fs,∃o,h.get? b=some o∧∀vs,o.data≠.fields vs) (stay:(blank (fun b=>b=a∨b=T∨b∈fs) h).StaysIn h') (ups:∀b o,h.get? b=some o→(∀vs,o.data≠.fields vs)→∃sl,h'.get? b=some {o with slots:=sl})
 (tr:h'.TracedW (blank (fun b=>b=a∨b=T∨b∈fs) h) a C a0) {da:Option Addr} {oa:Obj} (ea:h.get? a=some oa) (ed:oa.dict=da) (dd:Dicts h h'):Un fs [] H H' h0 h'∧HOk P w H' h'∧Ku h0 h' H' a C da:=by
 obtain ⟨oe,vs,T2,oT,ts,e1,e2,e3,e4,e5,e6,e7,e8,e9⟩:=tr
 have e11:oe.dict=da:=by
  obtain ⟨o',q1,q2⟩:=dd a oa ea
  rw [e1] at q1
  cases q1
  exact q2.trans ed
 have keepOf:∀b o,¬(b=a∨b=T∨b∈fs)→h.get? b=some o→h'.get? b=some o:=fun b o hb e=>stay b o (by rw [Gj hb];exact e)
 have old:∀b o,h0.get? b=some o→b≠a∧b≠T:=fun b o e=>⟨fun z=>(by rw [z,na] at e;cases e),fun z=>(by rw [z,nT] at e;cases e)⟩
 have any:∀b o,h0.get? b=some o→h.get? b≠none→∃o',h'.get? b=some o':=fun b o e hn=>by
  cases e':h.get? b with
  |none=>exact absurd e' hn
  |some o'=>
   by_cases hb:b∈fs
   ·obtain ⟨o2,h2,d2⟩:=noFields b hb
    obtain ⟨sl,h3⟩:=ups b o2 h2 d2
    exact ⟨_,h3⟩
   ·exact ⟨o',keepOf b o' (fun z=>by rcases z with z |z |z;exact (old b o e).1 z;exact (old b o e).2 z;exact hb z) e'⟩
 refine ⟨⟨fun b o e n hb hx=>?_,fun b o e n hb hx=>?_,B.free,fun b o e hx=>?_,B.tups,B.frzs,B.tbls⟩,fun b o e=>?_,na,ha,oe,vs,a0,T2,oT,ts,e1,e2,e3,e4,?_,?_,e6,e7,e8,e9,e11⟩
 ·exact keepOf b o (fun z=>by rcases z with z |z |z;exact (old b o e).1 z;exact (old b o e).2 z;exact hb z) (B.keep b o e n hb hx)
 ·obtain ⟨sl,h1⟩:=B.slot b o e n hb hx
  obtain ⟨o2,h2,d2⟩:=noFields b hb
  rw [h1] at h2
  cases h2
  obtain ⟨sl2,h3⟩:=ups b _ h1 d2
  exact ⟨sl2,h3⟩
 ·obtain ⟨o',h1⟩:=B.there b o e hx
  exact any b o e (by rw [h1];simp)
 ·refine (hok b o e).stay (fun c u hc q=>keepOf c u (fun z=>?_) q) (fun _ q=>q) fun _ _ q=>q
  have hc':H' c≠none:=by
   rcases hc with rfl |hc
   ·rw [e];simp
   ·rw [hc];simp
  rcases z with z |z |z
  ·exact hc' (z ▸ ha)
  ·exact hc' (z ▸ hT)
  ·exact hc' (frNone c z)
 ·cases q:h0.get? T2 with
  |none=>rfl
  |some o=>
   exfalso
   obtain ⟨o',h1⟩:=B.there T2 o q (by simp)
   by_cases hb:T2∈fs
   ·obtain ⟨o2,h2,d2⟩:=noFields T2 hb
    obtain ⟨sl,h3⟩:=ups T2 o2 h2 d2
    rw [h3] at e7
    cases e7
    exact d2 _ e8
   ·rw [Gj (fun z=>by rcases z with z |z |z;exact (old T2 o q).1 z;exact (old T2 o q).2 z;exact hb z),h1] at e5
    cases e5
 ·cases q:H' T2 with
  |none=>rfl
  |some o=>
   exfalso
   by_cases hb:T2=a∨T2=T∨T2∈fs
   ·rcases hb with z |z |z
    ·rw [z,ha] at q;cases q
    ·rw [z,hT] at q;cases q
    ·rw [frNone T2 z] at q;cases q
   ·rw [Gj hb] at e5
    obtain ⟨ob,eb⟩:=Mw (hok T2 o q)
    rw [eb] at e5
    cases e5
theorem W6 {M:Model} {A:Around} {E:Value→Shared→Prop} {s:Shared} {base:Heap} {env:Env} {outer:List Env} {L e:Addr} {C a0:Value} {Q:Unit→Shared→Prop} (fr:A.frames=some (env::outer)) (lo:env.frame=some L) (fl:Heap.FlyingW base (env::outer) e C a0 s.heap)
 (q:∀h',Heap.HeldW base (env::outer) e C a0 L h'→s.heap.UpToSlots h'→Dicts s.heap h'→Q () {s with heap:=h'}):wpAny M A (noteFrame (.ref e) env) Q E s:=by
 refine wpAny_mono (IU Pw (wpAny_looks_onW (M:=M) (A:=A) (E:=fun _ _=>False) (Q:=fun _ s'=>∃h',s'={s with heap:=h'}∧Heap.HeldW base (env::outer) e C a0 L h'∧s.heap.UpToSlots h') fr lo fl fun h' z1 z2=>⟨h',rfl,z1,z2⟩)) (fun _ s' z=>?_) fun _ _ z=>z.1.elim
 obtain ⟨⟨h',rfl,z1,z2⟩,D⟩:=z
 exact q h' z1 z2 D
theorem W7 {M:Model} {A:Around} {E:Value→Shared→Prop} {s:Shared} {base:Heap} {l:List Env} {e L:Addr} {C a0:Value} {Q:Unit→Shared→Prop} (held:Heap.HeldW base l e C a0 L s.heap)
 (q:∀h',Heap.FlyingW base l e C a0 h'→s.heap.UpToSlots h'→Dicts s.heap h'→Q () {s with heap:=h'}):wpAny M A (setFlight (.ref e) none) Q E s:=by
 refine wpAny_mono (IU Mu (wpAny_landsW (M:=M) (A:=A) (E:=fun _ _=>False) (Q:=fun _ s'=>∃h',s'={s with heap:=h'}∧Heap.FlyingW base l e C a0 h'∧s.heap.UpToSlots h') held fun h' z1 z2=>⟨h',rfl,z1,z2⟩)) (fun _ s' z=>?_) fun _ _ z=>z.1.elim
 obtain ⟨⟨h',rfl,z1,z2⟩,D⟩:=z
 exact q h' z1 z2 D
theorem W8 {M:Model} {A:Around} {E:Value→Shared→Prop} {s:Shared} {base:Heap} {l:List Env} {e:Addr} {C a0:Value} {Q:Unit→Shared→Prop} (held:Heap.FlyingW base l e C a0 s.heap)
 (q:∀h',Heap.FlyingW base l e C a0 h'→s.heap.UpToSlots h'→Dicts s.heap h'→Q () {s with heap:=h'}):wpAny M A (setFlight (.ref e) none) Q E s:=by
 refine wpAny_mono (IU Mu (lands_againW (M:=M) (A:=A) (E:=fun _ _=>False) (Q:=fun _ s'=>∃h',s'={s with heap:=h'}∧Heap.FlyingW base l e C a0 h'∧s.heap.UpToSlots h') held fun h' z1 z2=>⟨h',rfl,z1,z2⟩)) (fun _ s' z=>?_) fun _ _ z=>z.1.elim
 obtain ⟨⟨h',rfl,z1,z2⟩,D⟩:=z
 exact q h' z1 z2 D
section
variable {X:Cx} {pins:List (Addr×Obj)} {σ:L2.St} {H:Hp} {s:Shared}
theorem Inv.track {a:Addr} {o:HO} (I:Inv X pins σ H s) (new:X.s₀.heap.get? a=none) (no:H a=none) (hL:a≠X.env.locals) (hc:∀x c,X.env.cells.lookup x=some c→c≠a) (hp:∀p∈X.pn++pins,p.1≠a) (ok:ObjOk X.prog X.w (An H a o) s.heap a o):
 Inv X pins σ (An H a o) s:=by
 have ne:∀b u,H b=some u→b≠a:=fun b u e=>Bz e no
 refine ⟨I.ok,I.os,I.bare,⟨I.base.keep,I.base.slot,fun b ob e n hx=>?_,I.base.there,fun b xs e=>?_,fun b ob u e=>?_,fun b ps e=>?_⟩,I.loc,I.cell,?_,fun x c e=>?_,fun p hp'=>?_,fun b u e=>?_,I.len⟩
 ·rw [Ao (fun z=>by rw [z,new] at e;cases e)];exact I.base.free b ob e n hx
 ·have:=I.base.tups b xs e
  rw [Ao (ne _ _ this)];exact this
 ·have:=I.base.frzs b ob u e
  rw [Ao (ne _ _ this)];exact this
 ·obtain ⟨more,this⟩:=I.base.tbls b ps e
  exact ⟨more,by rw [Ao (ne _ _ this)];exact this⟩
 ·rw [Ao (Ne.symm hL)];exact I.free
 ·rw [Ao (hc x c e)];exact I.freeC x c e
 ·obtain ⟨a1,a2,a3⟩:=I.pin p hp'
  exact ⟨a1,by rw [Ao (hp p hp')];exact a2,a3⟩
 ·by_cases hb:b=a
  ·subst hb
   rw [B3] at e
   cases e
   exact ok
  ·rw [Ao hb] at e
   exact (I.hok b u e).stay (fun _ _ _ q=>q) (fun c q=>by rw [Ao (ne _ _ q)];exact q) fun c xs q=>by rw [Ao (ne _ _ q)];exact q
theorem Inv.locals {σ':L2.St} {h':Heap} {m':Str→Option Value} {t':Nat} (I:Inv X pins σ H s) (hn':h'.Ns X.env.locals m') (hs:Heap.SameBut X.env.locals s.heap h')
 (hl:∀(i:Nat) (x:Str) (v:V),X.N[i]?=some x→σ'[i]?=some (some v)→JI X.env.scope x→∃u,RelV v u∧N9 X.env h' m' x u) (len:σ'.length=σ.length):Inv X pins σ' H {s with heap:=h',toks:=t'}:=by
 obtain ⟨m,hn,_⟩:=id I.loc
 obtain ⟨oL,_,_,hoL,_⟩:=id hn
 have neL:∀b o,X.s₀.heap.get? b=some o→b≠X.env.locals:=fun b o e=>Be (AV (Av e) I.ok.above)
 refine ⟨I.ok,I.os,I.bare,⟨fun b o e n hb hx=>?_,fun b o e n hb hx=>?_,I.base.free,fun b o e hx=>?_,I.base.tups,I.base.frzs,I.base.tbls⟩,⟨_,hn',hl⟩,fun y c e=>?_,I.free,I.freeC,fun p hp=>?_,fun b ob e=>?_,len.trans I.len⟩
 ·exact (hs.2 b (neL b o e)).trans (I.base.keep b o e n hb hx)
 ·obtain ⟨sl,e1⟩:=I.base.slot b o e n hb hx
  exact ⟨sl,(hs.2 b (neL b o e)).trans e1⟩
 ·obtain ⟨o',e1⟩:=I.base.there b o e hx
  exact ⟨o',(hs.2 b (neL b o e)).trans e1⟩
 ·obtain ⟨v,z⟩:=I.cell y c e
  exact ⟨v,z.sameBut hs (I.cne y c e)⟩
 ·obtain ⟨a1,a2,a3,a4⟩:=I.pin p hp
  exact ⟨(hs.2 _ a3).trans a1,a2,a3,a4⟩
 ·refine (I.hok b ob e).stay (fun c w' hc q=>(hs.2 c ?_).trans q) (fun _ q=>q) fun _ _ q=>q
  rintro rfl
  have hfree:=I.free
  rcases hc with rfl |hc
  ·rw [hfree] at e;cases e
  ·rw [hfree] at hc;cases hc
theorem W9 {M:Model} {A:Around} {E:Value→Shared→Prop} {n:Str} {pos:Pos} {i:Nat} {Q:Unit→Shared→Prop} (I:Inv X pins σ H s) (hN:X.N.Nodup) (hi:X.N[i]?=some n) (hl:X.env.kindOf n=some .local)
 (h:∀s',Inv X pins (σ.set i none) H s'→Q () s'):wpAny M A (do bindName X.env n .none;unbindBehindTheSuite X.env n pos) Q E s:=by
 have hp:(X.env.scope.kind==.class||(X.env.scope.kind==.module&&X.env.locals != X.env.globals))=false:=by rw [I.ok.kind];rfl
 refine wpAny_bind (wpAny_bindName (JJ (v:=.non) I hN hi (.inl hl) rfl (fun s1 I1 _=>?_) (.inr hl)))
 unfold unbindBehindTheSuite
 refine wpAny_onRaise ?_
 unfold unbindName
 refine wpAny_bind (wpAny_point (wpAny_bind ?_))
 unfold deleteName
 simp only [hl,hp]
 rw [if_neg (by decide)]
 obtain ⟨m1,hn1,hl1⟩:=I1.loc
 have hin:(m1 n).isSome=true:=by
  have hiσ:i < σ.length:=by rw [I.len];exact (qa4.mp hi).1
  obtain ⟨u,_,lk⟩:=hl1 i n .non hi (by rw [Cu hiσ]) (.inl hl)
  rcases lk with ⟨_,z⟩ |⟨z,_⟩
  ·rw [z];rfl
  ·rcases z with z |z<;>(rw [hl] at z;cases z)
 refine wpAny_bind (wpAny_nsDel_keeps hn1 fun h2 v hn2 hs2=>?_)
 simp only [hin,if_true,FZ,BP,if_false]
 refine wpAny_pure (wpAny_point (h _ (Inv.locals (t':=s1.toks) (I1.weak (σ':=σ.set i none) (by simp) fun j v' e=>?_) hn2 hs2 (fun j x v' e1 e2 e3=>?_) rfl)))
 ·by_cases hj:i=j
  ·subst hj
   have hiσ:i < σ.length:=by rw [I.len];exact (qa4.mp hi).1
   rw [Cu hiσ] at e;cases e
  ·rw [BV hj] at e ⊢;exact e
 ·have hj:i≠j:=by
   rintro rfl
   have hiσ:i < σ.length:=by rw [I.len];exact (qa4.mp hi).1
   rw [Cu hiσ] at e2;cases e2
  rw [BV hj] at e2
  obtain ⟨u,r,lk⟩:=hl1 j x v' e1 (by rw [BV hj];exact e2) e3
  have hx:x≠n:=fun z=>hj (Lo hN hi (z ▸ e1))
  refine ⟨u,r,?_⟩
  rcases lk with ⟨k1,k2⟩ |⟨k1,c,k2,k3⟩
  ·exact .inl ⟨k1,(if_neg hx).trans k2⟩
  ·exact .inr ⟨k1,c,k2,k3.sameBut hs2 (I1.cne x c k2)⟩
end
def Fm:List (Str×D)→Option (List (Str×Int))
 |[]=>some []
 |(f,.int i)::r=>(Fm r).map fun l=>(f,i)::l
 |_=>none
theorem Qf:∀{fs:List (Str×D)} {is:List (Str×Int)} {f:Str} {i:Int},Fm fs=some is→is.lookup f=some i→fs.lookup f=some (.int i)
 |[],is,f,i,e,l=>by cases e;cases l
 |(g,d)::r,is,f,i,e,l=>by
  cases d with
  |int j=>
   simp only [Fm] at e
   cases er:Fm r with
   |none=>rw [er] at e;cases e
   |some l2=>
    rw [er] at e
    cases e
    rw [FX] at l ⊢
    cases hb:f==g with
    |true=>rw [hb] at l;cases l;rfl
    |false=>rw [hb] at l;exact Qf er l
  |_=>cases e
open Classical in
noncomputable def KH (a:Addr) (vs:List V) (Fk:List D→HD→Out D) (f:ME):MS:=fun ρ h=>match (ρ[0]?:Option (Option D)),(h[0]?:Option Cell) with
 |some (some (.clo a' vs' ds)),some .tab=>if a'=a∧vs'=vs then (match f (ds.map some) h with
  |.ok _ h1=>.ok (.nx,ρ) h1
  |.err (.str n _) fs h1=>if n∈excNames then (match Fm fs with
   |some is=>(match Fk [.exc n is] h1 with
    |.ok d h2=>.ok (.nx,(ρ.set 1 (some d)).set 2 none) h2
    |_=>.stuck)
   |none=>.stuck) else .stuck
  |_=>.stuck) else .stuck
 |_,_=>.stuck
structure SaidX (X:Cx) (P a c':Addr) (lpos:Pos) (Nc:List Str) (params:Arguments) (body:Expr) (scope:Scope) (cl:List (Str×Addr)) (pm ctv:Value) (vs:List V):Prop where
 N:X.N=(["_law_call","_law_word","_law_e"]:List Str)
 k0:X.env.kindOf "_law_call"=some .local
 k1:X.env.kindOf "_law_word"=some .local
 k2:X.env.kindOf "_law_e"=some .local
 tp:∃c,tabP X.K=some (c,P)
 tb:∃ps,X.H₀ P=some (.tbl ps)∧TriplesOk ps.toList∧codeAmong lpos ps.toList=some (.ref c')
 ob:X.s₀.heap.get? a=some (kla_obj "<lambda>" Bv params body scope cl pm c' ctv)
 no:X.H₀ a=none
 nf:a∉X.fs
 clo:Ja X.s₀.heap X.H₀ X.outer Nc scope cl vs
section
variable {X:Cx} {E:XK} {P a c':Addr} {lpos:Pos} {Nc:List Str} {params:Arguments} {body:Expr} {scope:Scope} {cl:List (Str×Addr)} {pm ctv:Value} {vs:List V}
theorem Xa {M:Model} {A:Around} {E:Value→Shared→Prop} {s:Shared} {a:Addr} {o:Obj} {fd:FuncData} {Q:Value→Shared→Prop} {env:Env} {pos:Pos} (h0:s.heap.get? a=some o) (hd:o.data=.func fd) (h:wpAny M A (call (.ref a) []) Q E s):
 wpAny M A (callWith pos (.ref a) [] (backTo pos (starEach [] env)) []) Q E s:=
 callWith_of (P:=fun h=>h.get? a=some o) rfl (fun h e=>⟨.frame,.inl rfl,(Looks.ld (part:=none) e).andThen (by rw [hd];exact .now)⟩) (evalArgs_nil3 ⟨h0,h⟩)
theorem SaidX.cloNow (S:SaidX X P a c' lpos Nc params body scope cl pm ctv vs) (lv:Lv X E) {pins:List (Addr×Obj)} {σ:L2.St} {H:Hp} {s:Shared} (I:Inv X pins σ H s):Ja s.heap H X.stack Nc scope cl vs∧s.heap.get? a=some (kla_obj "<lambda>" Bv params body scope cl pm c' ctv):=by
 have B:Un X.fs [] X.H₀ H X.s₀.heap s.heap:=by have:=I.base;rw [lv.ex] at this;exact this
 have keep:∀c v,X.s₀.heap.IsCell c v→X.H₀ c=none→c∉X.fs→s.heap.IsCell c v:=fun c v z1_ n f=>by obtain ⟨o,e,d⟩:=z1_;exact (⟨o,B.keep c o e n f (by simp),d⟩)
 refine ⟨⟨S.clo.len,S.clo.inj,S.clo.has,fun x c e=>?_,fun i x v e1 e2=>?_⟩,B.keep a _ S.ob S.no S.nf (by simp)⟩
 ·obtain ⟨⟨v,q⟩,n,f⟩:=S.clo.cell x c e
  obtain ⟨o,e1,d⟩:=id q
  refine ⟨⟨v,keep c v q n f⟩,B.free c o e1 n (by simp),fun z=>?_⟩
  rw [lv.frs] at z
  rcases qa8.mp z with z |z
  ·exact absurd (AV (Av e1) I.ok.above) (by rw [z];exact Cy _)
  ·exact f z
 ·obtain ⟨hf,c,u,e3,e4,r⟩:=S.clo.val i x v e1 e2
  obtain ⟨_,n,f⟩:=S.clo.cell x c e3
  exact ⟨hf,c,u,e3,keep c _ e4 n f,r⟩
def FV (X:Cx) (e:Addr):Cx:={X with A:=X.A.mark (some (.ref e)),calm:=false,xe:=fun _ _=>False}
theorem Inv.marked {pins:List (Addr×Obj)} {σ:L2.St} {H:Hp} {s:Shared} {e:Addr} (I:Inv X pins σ H s):Inv (FV X e) pins σ H s:=
 ⟨⟨I.ok.mod,I.ok.kind,I.ok.glob,I.ok.blt,I.ok.above,I.ok.inj,I.ok.has,I.ok.cab,fun z=>(nomatch z),I.ok.frames,I.ok.stk,I.ok.exf,I.ok.bs,I.ok.bsz,I.ok.noex,I.ok.exfs,I.ok.funs,I.ok.frf⟩,I.os,I.bare,I.base,I.loc,I.cell,I.free,I.freeC,I.pin,I.hok,I.len⟩
theorem Inv.unmarked {pins:List (Addr×Obj)} {σ:L2.St} {H:Hp} {s:Shared} {e:Addr} (ok:X.Ok) (I:Inv (FV X e) pins σ H s):Inv X pins σ H s:=
 ⟨ok,I.os,I.bare,I.base,I.loc,I.cell,I.free,I.freeC,I.pin,I.hok,I.len⟩
theorem Xb {k:Nat} {Fk:List D→HD→Out D} {f:ME} {p4 p5 p6 p7 p8 p9 p10 p11 p12 p13 p14:Pos} (lv:Lv X E) (S:SaidX X P a c' lpos Nc params body scope cl pm ctv vs) (hr:Room (k+1) X.A) (et:etOk X.K=true) (hsw:∃Sw,nsIn X.K mainGlobals "SwitchError"=some (some (.ref Sw)))
 (hgS:X.env.kindOf "SwitchError"=some .globalImplicit) (hgK:X.env.kindOf "_law_kind"=some .globalImplicit)
 (hkind:CaM X.prog X.w X.K X.mg X.base "_law_kind" k Fk) (hL:LamSc scope) (hbind:bindArgs (kla_fn "<lambda>" Bv params body scope cl pm (.ref c') ctv) ⟨[],[]⟩=pure [])
 (hb:∀(s:Shared) (H:Hp) (E':XK),Room k (X.A.deeper (envX Bv scope s.heap.objs.size a (.ref c') cl))→Ev (Fj X.prog X.w X.K X.mg X.base Nc scope a (.ref c') cl X.A X.stack s H E') E' body f):
 Ex X E (.Try [.Expr (.Call (.Name "_law_call" p4) [] [] p5) p6] [.ExceptHandler (some (.Name "SwitchError" p7)) (some "_law_e") [.Assign [.Name "_law_word" p8] (.Call (.Name "_law_kind" p9) [.Name "_law_e" p10] [] p11) p12] p13] [] [] p14) (KH a vs Fk f):=by
 rintro pins s σ H Dn I ⟨m,ρ,h,hr1,er,p⟩
 refine Classical.byContradiction fun nG=>?_
 have hN0:X.N[0]?=some ("_law_call":Str):=by rw [S.N];rfl
 have hN1:X.N[1]?=some ("_law_word":Str):=by rw [S.N];rfl
 have hN2:X.N[2]?=some ("_law_e":Str):=by rw [S.N];rfl
 have nd:X.N.Nodup:=by rw [S.N];decide +kernel
 obtain ⟨Sw,hSw⟩:=hsw
 unfold KH at p
 split at p
 ·rename_i a' vs' ds e0 et0
  split at p
  ·rename_i hav
   obtain ⟨rfl,rfl⟩:=hav
   obtain ⟨C,ob⟩:=S.cloNow lv I
   obtain ⟨v0,hv0,rv0⟩:=er.2 0 _ e0
   simp only [DV] at rv0
   obtain ⟨rfl,rds⟩:=rv0
   obtain ⟨aP,haP,tab⟩:=hr1.at et0
   obtain ⟨⟨cc,htp⟩,ps2,hps2,htr2,hcs2⟩:=tab
   obtain ⟨cc',htp'⟩:=S.tp
   rw [htp'] at htp
   cases htp
   obtain ⟨ps,hps,htr,hca⟩:=S.tb
   obtain ⟨more,hmore⟩:=I.base.tbls P ps hps
   have hca2:codeAmong lpos ps2.toList=some (.ref c'):=by
    have e:=hmore.symm.trans hps2
    cases e
    rw [Array.toList_append]
    exact WY htr hca
   obtain ⟨c2,e2,hx2⟩:=hcs2 lpos _ hca2
   cases e2
   have hcd:s.heap.CodeRec (.ref c') Bv:=(I.hok c' _ hx2).1
   have run:∀(Q:VK) (E':XK),Post X.K (rD X.K) m H E' Q (f (ds.map some) h)→codeAny (model X.prog X.w) X.A (.call (.ref a') ⟨[],[]⟩) (CR (AD X.prog X.w X.K) X.stack X.prog X.w H s Q E') s:=fun Q E' q=>
    W2 hL hr I.env0 C ob hcd hbind (hb s H E') ⟨m,ds,h,hr1,rds,q⟩
   have start:∀{Q:Flow→Shared→Prop} {EE:Value→Shared→Prop},codeAny (model X.prog X.w) X.A (.call (.ref a') ⟨[],[]⟩) (fun r s'=>match r with |.ok (.ret u)=>Q .next s' |.error e=>EE e s' |_=>False) s→
    wpAny (model X.prog X.w) X.A (execs [.Expr (.Call (.Name "_law_call" p4) [] [] p5) p6] X.env) Q EE s:=fun {Q EE} hc=>by
    refine wpAny_execs_cons (wpAny_Expr_any (wpAny_Call_Name_kw ?_) I.quiet rfl)
    obtain ⟨m0,hn0,hl0⟩:=I.loc
    obtain ⟨u,ru,lk⟩:=hl0 0 "_law_call" (.ref a') hN0 hv0 (.inl S.k0)
    cases (show u=Value.ref a' from ru)
    rcases lk with ⟨hk,hm⟩ |⟨z,_⟩
    ·refine wpAny_Name (wpAny_loadName_local I.ok.kind hk hn0 hm (Xa ob rfl (wpAny_call (codeAny_mono hc fun r s' hq=>?_)))) (by decide)
     cases r with
     |error e=>exact hq
     |ok fl=>
      cases fl with
      |ret u=>exact wpAny_execs_nil hq
      |next=>exact hq.elim
      |brk=>exact hq.elim
      |cont=>exact hq.elim
    ·rcases z with z |z<;>(rw [S.k0] at z;cases z)
   refine nG (wpAny_Try_except (start ?_))
   clear nG
   refine Classical.byContradiction fun nG=>?_
   cases ho:f (ds.map some) h with
   |stuck=>rw [ho] at p;exact p.elim
   |ok d h1=>
    rw [ho] at p
    refine nG (codeAny_mono (run (fun v H'=>∃m',m <+:m'∧Kp H H'∧HR X.K m' h1 H') E0 (by rw [ho];exact fun v m' H' p1 k1 hr' _=>⟨m',p1,k1,hr'⟩)) fun r s' hq=>?_)
    cases r with
    |error e=>
     obtain ⟨_,_,_,_,_,_,_,_,_,_,_,_,q⟩:=hq
     exact q.elim
    |ok fl=>
     cases fl with
     |ret u=>
      obtain ⟨v,H',os,bare,un,hok,_,m',p1,k1,hr'⟩:=hq
      exact wpAny_execs_nil ⟨σ,H',I.call' os un hok bare (fun b hb=>absurd hb (by simp)),p m' H' p1 k1 hr' σ (er.keep p1 k1)⟩
     |next=>exact hq.elim
     |brk=>exact hq.elim
     |cont=>exact hq.elim
   |err Cv fs h1=>
    rw [ho] at p
    cases Cv with
    |str n t=>
     simp only at p
     split at p
     ·rename_i hn
      refine nG (codeAny_mono (run (fun _ _=>False) (fun C' da H'=>C'=.str n t∧∃m',m <+:m'∧Kp H H'∧HR X.K m' h1 H'∧XD X.K m' H' fs da) (by rw [ho];exact fun da m' H' p1 k1 hr' xd=>⟨rfl,m',p1,k1,hr',xd⟩)) fun r s1 hq=>?_)
      clear nG
      cases r with
      |ok fl=>
       cases fl with
       |ret u=>obtain ⟨_,_,_,_,_,_,_,z⟩:=hq;exact z.elim
       |next=>exact hq.elim
       |brk=>exact hq.elim
       |cont=>exact hq.elim
      |error e=>
       obtain ⟨ae,Cc,n',da,H',rfl,os,bare,un,hok,fly,nm,hE,m',p1,k1,hr',xd⟩:=hq
       refine Classical.byContradiction fun nG=>?_
       have hnn:n'=n:=by cases hE;rfl
       subst hnn
       have I1:Inv X pins σ H' s1:=I.call' os un hok bare (fun b hb=>absurd hb (by simp))
       obtain ⟨fnew,fno,oe,ws,a0,T,oT,ts,e1,e2,e3,e4,e5,e6,e7,e8,e9,e10,e11⟩:=fly
       have fro:X.A.frames=some (X.env::X.outer):=by rw [←lv.stk];exact I1.ok.frames
       have stk:s1.heap.FunFrames X.base (X.env::X.outer):=by have:=I1.stack;rw [lv.stk] at this;exact this
       have frN:∀b∈frs X.stack,H' b=none:=fun b hb=>I1.stkFree b hb
       have frO:∀b∈frs X.stack,∃o,s1.heap.get? b=some o∧∀vs,o.data≠.fields vs:=fun b hb=>(I1.stack.mem hb).2
       have fly0:Heap.FlyingW (blank (fun b=>b=ae∨b=T∨b∈frs X.stack) s1.heap) (X.env::X.outer) ae (.ref Cc) a0 s1.heap:=
        ⟨Mv,Gi (.inl rfl),Kv stk fun b hb=>.inr (.inr (by rw [lv.stk];exact hb)),oe,ws,T,oT,ts,e1,e2,e3,e4,Gi (.inr (.inl rfl)),e7,e8,e9,e10⟩
       refine nG (W6 fro lv.fr fly0 fun h4 held4 sm4 D4=>?_)
       clear nG
       refine W7 held4 fun h5 held5 sm5 D5=>?_
       refine Classical.byContradiction fun nG=>?_
       obtain ⟨un5,hok5,fly5⟩:=Qe un hok fnew e5 fno e6 frN frO held5.1 (sm4.trans sm5) held5.2.2.2 e1 e11 (D4.trans D5)
       have I5:Inv X pins σ H' {s1 with heap:=h5}:=I.call' (s':={s1 with heap:=h5}) os un5 hok5 bare (fun b hb=>absurd hb (by simp))
       have hmS:X.mg "SwitchError"=some (.ref Sw):=mg_of I.mod.kin I.mod.glob hSw
       have T5:=KB et hn nm
       obtain ⟨_,_,oe5,ws5,_,_,_,_,f1,f2,f3,_⟩:=id fly5
       refine nG (wpAny_handleBy_cons (codeAny_handlers_test ?_) (by intro q;cases q))
       clear nG
       refine Calls.Name_function_global I5.ok.kind hgS (Calls.loadGlobal_global (by rw [I5.ok.glob];exact I5.mod.glob.keeps I5.bk) hmS ?_) (by decide)
       refine (exm_one (M:=model X.prog X.w) I5.kIn (TyAt.type ⟨oe5,f1,f2.1⟩) (T5.sw Sw hSw)).here ?_
       simp only [if_true]
       refine codeAny_handlers_suite_as (W8 held5 fun h6 held6 sm6 D6=>?_)
       obtain ⟨un6,hok6,fly6⟩:=Qe un hok fnew e5 fno e6 frN frO held6.1 ((sm4.trans sm5).trans sm6) held6.2.2.2 e1 e11 ((D4.trans D5).trans D6)
       have I6:Inv X pins σ H' {s1 with heap:=h6}:=I.call' (s':={s1 with heap:=h6}) os un6 hok6 bare (fun b hb=>absurd hb (by simp))
       obtain ⟨_,_,oe6,ws6,_,_,_,_,g1,g2,g3,_,_,_,_,_,_,_,g11⟩:=id fly6
       have older:∀b,s.heap.get? b=none→X.s₀.heap.get? b=none:=lv.older I
       have xok:ObjOk X.prog X.w (An H' ae (.ext (FH Cc da ae))) h6 ae (.ext (FH Cc da ae)):=
        ⟨⟨oe6,ws6,g1,g2.1,fun d z=>g11.trans z,g3⟩,⟨oe6,g1⟩,fun ha hb' z2_ k'=>by obtain ⟨o,w',z1,z2,z3,z4⟩:=z2_;exact (⟨o,w',k' o z1,z2,z3,z4⟩)⟩
       have neL:ae≠X.env.locals:=fun z=>by
        obtain ⟨mL,⟨oL,_,_,hoL,_⟩,_⟩:=I.loc
        rw [←z,fnew] at hoL;cases hoL
       have neC:∀x c,X.env.cells.lookup x=some c→c≠ae:=fun x c ex z=>by
        obtain ⟨v,o,hoc,_⟩:=I.cell x c ex
        rw [z,fnew] at hoc;cases hoc
       have neP:∀q∈X.pn++pins,q.1≠ae:=fun q hq z=>by
        have:=(I.pin q hq).1
        rw [z,fnew] at this;cases this
       have I6':=LS.Inv.track I6 (older ae fnew) fno neL neC neP xok
       have kx:Kp H' (An H' ae (.ext (FH Cc da ae))):=.new fno
       refine JJ (v:=.ref ae) I6' nd hN2 (.inl S.k2) rfl (fun s7 I7 _=>?_) (.inr S.k2)
       split at p
       rename_i is his
       split at p
       ·rename_i d h2 hk2
        have hr7:HR X.K m' h1 (An H' ae (.ext (FH Cc da ae))):=hr'.new fno
        have er7:ER X.K m' (An H' ae (.ext (FH Cc da ae))) (ρ.set 2 (some (.exc n' is))) (σ.set 2 (some (.ref ae))):=
         ((er.keep p1 k1).keep (AG _) kx).set (by simp only [DV];exact ⟨ae,Cc,da,rfl,nm,B3,fun f i z=>by
           obtain ⟨b,fv,v,q1,q2,q3,q4⟩:=xd f _ (Qf his z)
           simp only [DV] at q4
           exact ⟨b,fv,q1,by rw [Ao (Bz q2 fno)];exact q2,by rw [q3,q4]⟩⟩)
        have hρ:2 < ρ.length:=by rw [er.1,I.len,S.N];decide
        have sx:A4 (FV X ae) E0 [.Assign [.Name "_law_word" p8] (.Call (.Name "_law_kind" p9) [.Name "_law_e" p10] [] p11) p12] (AA 1 (Ag Fk (Aa (Ab 2) Ae))):=
         AH (AX (X:=FV X ae) (i:=1) nd hN1 (Or.inl S.k1) (W5 (X:=FV X ae) hkind (RoomM.of hr _) (Ac (Ad (X:=FV X ae) (Lq (X:=FV X ae) hN2 (.inl S.k2))) Af) (Nat.le_succ _) hgK) (hf:=.inr S.k1))
        have post:Hg (FV X ae).K E0 (AA 1 (Ag Fk (Aa (Ab 2) Ae))) {nx:=fun σ' H''=>Dn.nx (σ'.set 2 none) H'',rt:=fun _ _=>False} (σ.set 2 (some (.ref ae))) (An H' ae (.ext (FH Cc da ae))):=by
         refine ⟨m',ρ.set 2 (some (.exc n' is)),h1,hr7,er7,?_⟩
         have ev:AA 1 (Ag Fk (Aa (Ab 2) Ae)) (ρ.set 2 (some (.exc n' is))) h1=.ok (.nx,(ρ.set 2 (some (.exc n' is))).set 1 (some d)) h2:=by
          unfold AA Ag Aa Ae Ab
          rw [Cu hρ]
          simp only [Out.bind_ok]
          rw [hk2]
          rfl
         rw [ev]
         intro m2 H2 p2 k2 hr2 σ' er2
         refine p m2 H2 (p1.trans p2) ((k1.trans kx).trans k2) hr2 _ ⟨by simp [er2.1.symm],fun i di e=>?_⟩
         by_cases hi:2=i
         ·subst hi
          rw [Cu (by simpa using hρ)] at e
          cases e
         ·rw [BV hi] at e
          obtain ⟨v,z1,z2⟩:=er2.2 i di (by
           by_cases h1i:1=i
           ·subst h1i
            rw [Cu (by omega)] at e
            rw [Cu (by simp;omega)];exact e
           ·rw [BV h1i] at e
            rw [BV h1i,BV hi];exact e)
          exact ⟨v,by rw [BV hi];exact z1,z2⟩
        refine wpAny_mono (sx pins s7 _ _ _ (Inv.marked I7) post) (fun fl s8 h8=>?_) fun _ _ z=>False.elim z
        cases fl with
        |next=>
         obtain ⟨σ',H'',I8,q8⟩:=h8
         exact W9 (Inv.unmarked I.ok I8) nd hN2 S.k2 fun s9 I9=>⟨_,H'',I9,q8⟩
        |ret u=>obtain ⟨_,_,_,_,_,z⟩:=h8;exact False.elim z
        |brk=>obtain ⟨_,_,_,z⟩:=h8;exact False.elim z
        |cont=>obtain ⟨_,_,_,z⟩:=h8;exact False.elim z
       ·exact p.elim
       ·exact p.elim
     ·exact p.elim
    |_=>exact p.elim
  ·exact p.elim
 ·exact p.elim
end
noncomputable def MM (Fk:List D→HD→Out D):Out D→Out D
 |.ok _ h1=>.ok (.str "told") h1
 |.err (.str n _) fs h1=>if n∈excNames then (match Fm fs with
  |some is=>(match Fk [.exc n is] h1 with
   |.ok d h2=>.ok d h2
   |_=>.stuck)
  |none=>.stuck) else .stuck
 |_=>.stuck
noncomputable def De (cs:List Nat) (Fk:List D→HD→Out D) (f:ME):ME:=fun ρ h=>match (h[0]?:Option Cell),Ax (cs.map fun j=>(ρ[j]?).join) with
 |some .tab,some ds=>MM Fk (f (ds.map some) h)
 |_,_=>.stuck
structure LSc (X:Cx) (scope:Scope) (Nc:List Str) (cs:List Nat):Prop where
 lam:LamSc scope
 nd:(scope.names.map (·.1)).Nodup
 free:(scope.names.all fun y=>y.2 != .free||(X.env.kindOf y.1==some .cell||X.env.kindOf y.1==some .free))=true
 len:cs.length=Nc.length
 out:((Nc.zip cs).all fun p=>X.N[p.2]?==some p.1&&scope.names.lookup p.1==some .free)=true
theorem LSc.at_ {X:Cx} {scope:Scope} {Nc:List Str} {cs:List Nat} (S:LSc X scope Nc cs) {i j:Nat} {x:Str} (h1:Nc[i]?=some x) (h2:cs[i]?=some j):X.N[j]?=some x∧scope.names.lookup x=some .free:=by
 have hz:(Nc.zip cs)[i]?=some (x,j):=by
  rw [List.getElem?_zip_eq_some]
  exact ⟨h1,h2⟩
 have:=qaO.mp S.out (x,j) (Fw hz)
 simpa using this
theorem LSc.fr {X:Cx} {scope:Scope} {Nc:List Str} {cs:List Nat} (S:LSc X scope Nc cs):∀y∈scope.names,y.2=.free→X.env.kindOf y.1=some .cell∨X.env.kindOf y.1=some .free:=fun y hy e=>by
 have:=qaO.mp S.free y hy
 rw [e] at this
 simpa using this
theorem Qg {K:Frag} {m:List Addr} {H:Hp} {ρ:Ai} {σ:L2.St} (er:ER K m H ρ σ):∀{cs:List Nat} {ds:List D},Ax (cs.map fun j=>(ρ[j]?).join)=some ds→∃vs,DVs K m H ds vs∧vs.length=cs.length∧∀(i:Nat) (v:V),vs[i]?=some v→∃j,cs[i]?=some j∧σ[j]?=some (some v)
 |[],ds,e=>by
  simp [Ax] at e
  subst e
  exact ⟨[],.nil,rfl,fun i v z=>by simp at z⟩
 |j::cs,ds,e=>by
  rw [Bn] at e
  cases ed:(ρ[j]?).join with
  |none=>rw [ed] at e;simp [Ax] at e
  |some d=>
   rw [ed] at e
   simp only [Ax,qaU] at e
   obtain ⟨ds',e1,rfl⟩:=e
   obtain ⟨vs,h1,h2,h3⟩:=Qg er e1
   obtain ⟨v,e2,r⟩:=er.2 j d (join_some.mp ed)
   refine ⟨v::vs,.cons r h1,by simp [h2],fun i v' z=>?_⟩
   cases i with
   |zero=>simp at z;subst z;exact ⟨j,rfl,e2⟩
   |succ i=>simpa using h3 i v' (by simpa using z)
section
variable {X:Cx} {E:XK} {c P:Addr} {Nc:List Str} {cs:List Nat} {params:Arguments} {body:Expr} {scope:Scope}
theorem Xd {α:Type} {l:List (Str×α)} {x:Str} {v:α} (h:(x,v)∈l):∃w,l.lookup x=some w:=by
 cases e:l.lookup x with
 |some w=>exact ⟨w,rfl⟩
 |none=>
  have:=List.lookup_eq_none_iff.mp e _ h
  simp at this
theorem Xe {k:Nat} {Fk:List D→HD→Out D} {f:ME} {fs:Addr} {fd:FuncData} {st:Stmt} {lpos p pos p1 p2 p3 p4 p5 p6 p7 p8 p9 p10 p11 p12 p13 p14 p15 p16:Pos} {j1:Nat} (L:LamX X c P) (fna:∀x,X.fn x=true) (hr:Room (k+2) X.A) (lv:Lv X E) (et:etOk X.K=true)
 (hsw:∃Sw,nsIn X.K mainGlobals "SwitchError"=some (some (.ref Sw)))
 (Fn:Fun X.K "_law_said" "_law_said" st fs fd) (hbd:Binds X.K fd ["_law_call"] []) (hm:X.mg "_law_said"=some (.ref fs)) (hkp:keepIn X.K (.ref fs)=true)
 (Sf:Bd ["_law_call","_law_word","_law_e"] ["_law_call"] (defScope st)) (hk0:(defScope st).names.lookup ("_law_call":Str)=some .local) (hk1:(defScope st).names.lookup ("_law_word":Str)=some .local) (hk2:(defScope st).names.lookup ("_law_e":Str)=some .local)
 (hgS:∀L' cd,(envOfC "_law_said" (defScope st) L' fs cd).kindOf "SwitchError"=some .globalImplicit) (hgK:∀L' cd,(envOfC "_law_said" (defScope st) L' fs cd).kindOf "_law_kind"=some .globalImplicit)
 (hst:defBody st=[.Assign [.Name "_law_word" p1] (.Constant (.str "told") j1 p2) p3,.Try [.Expr (.Call (.Name "_law_call" p4) [] [] p5) p6] [.ExceptHandler (some (.Name "SwitchError" p7)) (some "_law_e") [.Assign [.Name "_law_word" p8] (.Call (.Name "_law_kind" p9) [.Name "_law_e" p10] [] p11) p12] p13] [] [] p14,.Return (some (.Name "_law_word" p15)) p16])
 (hkind:CaM X.prog X.w X.K X.mg X.base "_law_kind" k Fk) (hg:Gl X "_law_said") (S:LSc X scope Nc cs) (hdef:defaultsOf params X.env=([],[]))
 (hbind:∀(cl:List (Str×Addr)) (pm cv ctv:Value),bindArgs (kla_fn "<lambda>" Bv params body scope cl pm cv ctv) ⟨[],[]⟩=pure [])
 (hb:∀(a:Addr) (cd:Value) (cl:List (Str×Addr)) (A:Around) (outer:List Env) (s:Shared) (H:Hp) (E':XK),Room k (A.deeper (envX Bv scope s.heap.objs.size a cd cl))→Ev (Fj X.prog X.w X.K X.mg X.base Nc scope a cd cl A outer s H E') E' body f)
 (he:starEach [.Lambda params body scope lpos] X.env=(false,eval (.Lambda params body scope lpos) X.env)::starEach [] X.env:=by rfl) (hpl:(backTo pos (starEach [] X.env)).any (·.1)=false:=by rfl):
 Ev X E (.Call (.Name "_law_said" p) [.Lambda params body scope lpos] [] pos) (De cs Fk f):=by
 rintro pins s σ H Q I ⟨m,ρ,h,hr1,er,pp⟩
 unfold De at pp
 split at pp
 ·rename_i ds et0 eds
  obtain ⟨aP,haP,tab⟩:=hr1.at et0
  obtain ⟨⟨cc,htp⟩,tabr⟩:=id tab
  rw [L.tp] at htp
  cases htp
  obtain ⟨vs,dvs,vlen,vat⟩:=Qg er eds
  obtain ⟨cl,hclos,hcl,hcl2⟩:=L8 (scope:=scope) (env:=X.env) fun y hy hf=>I.ok.has y.1 (S.fr y hy hf)
  refine wpAny_Call_Name_kw (Ha I hg hm ?_ (by decide))
  refine PySem.W.callWith_K (h₀:=X.base) I.ok.mod.kin hkp ?_ he hpl
  rw [he]
  show wpAny _ _ (spliced ((false,eval (.Lambda params body scope lpos) X.env)::[])) _ _ s
  refine Calls.spliced_cons (WZ L I tab hdef hclos fun a c' ctv pm h' tk H' I' kp tab' same keep hsz no ob code=>?_)
  refine wpAny_pure ⟨I'.kIn,wpAny_call ?_⟩
  generalize hs1:({s with heap:=h',toks:=tk}:Shared)=s1 at I'
  have hh1:s1.heap=h':=by rw [←hs1]
  have hrN:HR X.K m h H':=hr1.tab kp same tab' tab
  have frLt:∀b∈frs X.stack,b<s.heap.objs.size:=fun b hb=>by
   obtain ⟨_,o,ho,_⟩:=I.stack.mem hb
   exact Av ho
  have cof:∀x c,cl.lookup x=some c→X.env.cells.lookup x=some c:=fun x c e=>(hcl x c (mem_of_lookup e)).1
  have hasC:∀x,scope.names.lookup x=some .free→∃c,cl.lookup x=some c:=fun x e=>by
   obtain ⟨c,hc⟩:=hcl2 _ (mem_of_lookup e) rfl
   exact Xd hc
  have C1:Ja s1.heap H' X.stack Nc scope cl vs:=by
   refine ⟨by rw [vlen,S.len],fun x y c e1 e2=>I.ok.inj x y c (cof x c e1) (cof y c e2),hasC,fun x c e=>?_,fun i x v e1 e2=>?_⟩
   ·refine ⟨I'.cell x c (cof x c e),I'.freeC x c (cof x c e),fun z=>?_⟩
    rcases qa8.mp (I.stkSub c z) with z |z
    ·exact I.cne x c (cof x c e) z
    ·obtain ⟨_,o,ho,_⟩:=I.ok.funs.mem z
     exact absurd (AV (Av ho) (I.ok.cab x c (fna x) (cof x c e))) (Cy _)
   ·obtain ⟨j,ej,sj⟩:=vat i v e2
    obtain ⟨hN,hf⟩:=S.at_ e1 ej
    have hk:=S.fr _ (mem_of_lookup hf) rfl
    obtain ⟨m0,hn0,hl0⟩:=I'.loc
    obtain ⟨u,r,lk⟩:=hl0 j x v hN sj (by rcases hk with z |z;exact .inr (.inl z);exact .inr (.inr z))
    refine ⟨hf,?_⟩
    rcases lk with ⟨z,_⟩ |⟨_,c,e3,e4⟩
    ·rcases hk with y |y<;>(rw [z] at y;cases y)
    ·obtain ⟨c2,e5⟩:=hasC x hf
     have:=cof x c2 e5
     rw [e3] at this
     cases this
     exact ⟨c,u,e5,e4,r⟩
  obtain ⟨oc,od,kV,doc,pm2,an,cdv,ct,osl,rfl,lk,hcd⟩:=Fn.ex
  have e0:=I'.env0
  have KX:X.K.In s1.heap:=I'.kIn
  have lim:s1.heap.NoLimit:=I'.nolimit
  have hkind2:∀y∈(["_law_call"]:List Str).zip [Value.ref a],(defScope st).names.lookup y.1=some .local∨((defScope st).names.lookup y.1=some .cell∧((cellsFrom (s1.heap.objs.size+1) (defScope st).names []).lookup y.1).isSome=true):=fun y hy=>by
   have:y=(("_law_call":Str),Value.ref a):=by simpa using hy
   subst this
   exact .inl hk0
  have bt:=hbd s1 [.ref a] I'.kIn rfl
  rw [Fy] at bt
  refine codeAny_mono (R:=CR (AD X.prog X.w X.K) X.stack X.prog X.w H' s1 Q E) ?_ fun r s' hq=>?_
  ·refine codeAny_call_function hr.depth (KX _ _ lk) rfl Sf.co Sf.gen rfl (PySem.W.codeRec_of KX hcd) (bt _ _ _ _ ?_)
   refine wpAny_newFunctionEnv_cells Sf.kind hkind2 fun env he2 s2 x=>?_
   subst he2
   refine ⟨lim.keeps x.toInCall.keep,codeAny_func ?_⟩
   have I2:Inv (AS (AD X.prog X.w X.K) X.prog X.w X.K X.mg X.base ["_law_call","_law_word","_law_e"] "_law_said" (defScope st) fs cdv X.A X.stack s1 H' E) [] (L2.start ["_law_call","_law_word","_law_e"] [.ref a]) H' s2:=
    Ot Sf hr.hd e0 rfl (.cons rfl .nil) x
   obtain ⟨ps,hps,hca⟩:=code
   have tri:TriplesOk ps.toList:=by
    obtain ⟨_,ps',z1,z2,_⟩:=tab'
    rw [hps] at z1;cases z1;exact z2
   have SX:SaidX (AS (AD X.prog X.w X.K) X.prog X.w X.K X.mg X.base ["_law_call","_law_word","_law_e"] "_law_said" (defScope st) fs cdv X.A X.stack s1 H' E) P a c' lpos Nc params body scope cl pm ctv vs:=
    ⟨rfl,hk0,hk1,hk2,⟨c,L.tp⟩,⟨ps,hps,tri,hca⟩,by show s1.heap.get? a=_;rw [hh1];exact ob,no,fun z=>absurd (AV (frLt a z) hsz) (Cy _),C1⟩
   have hrS:Room (k+1) (AS (AD X.prog X.w X.K) X.prog X.w X.K X.mg X.base ["_law_call","_law_word","_law_e"] "_law_said" (defScope st) fs cdv X.A X.stack s1 H' E).A:=hr.deeper _
   have bx:=Ap (AX (X:=AS (AD X.prog X.w X.K) X.prog X.w X.K X.mg X.base ["_law_call","_law_word","_law_e"] "_law_said" (defScope st) fs cdv X.A X.stack s1 H' E) (E:=E) (i:=1) (pos:=p3) (pos':=p1) Sf.nd rfl (Or.inl hk1) (B8 (x:="told") (j:=j1) (pos:=p2)))
    (Ap (Xb (p4:=p4) (p5:=p5) (p6:=p6) (p7:=p7) (p8:=p8) (p9:=p9) (p10:=p10) (p11:=p11) (p12:=p12) (p13:=p13) (p14:=p14) HA SX hrS et hsw (hgS _ _) (hgK _ _) hkind S.lam (hbind cl pm (.ref c') ctv) (fun s H E'=>hb a (.ref c') cl _ _ s H E'))
     (AH (Ba (pos:=p16) (Ad (Lq (i:=1) (x:="_law_word") (pos:=p15) rfl (.inl hk1))))))
   rw [←hst] at bx
   have post:Hg X.K E (Ak (AA 1 (mC (.str "told"))) (Ak (KH a vs Fk f) (AM (Ab 1)))) {nx:=fun _ H''=>Q .non H'',rt:=Q} (L2.start ["_law_call","_law_word","_law_e"] [.ref a]) H':=by
    refine ⟨m,[some (.clo a vs ds),none,none],h,hrN,?_,?_⟩
    ·refine ⟨rfl,fun i d e=>?_⟩
     match i,e with
     |0,e=>cases e;exact ⟨.ref a,rfl,by unfold DV;exact ⟨rfl,DVs.keep (AG _) kp dvs⟩⟩
     |1,e=>cases e
     |2,e=>cases e
     |i+3,e=>cases e
    ·have p2:=Post.ahead (AG m) kp pp
     unfold Ak AA mC
     simp only [Out.bind_ok]
     unfold KH
     simp only [List.set_cons_succ,List.set_cons_zero,List.getElem?_cons_zero,et0,and_self,if_true]
     unfold MM at p2
     cases ho:f (ds.map some) h with
     |stuck=>rw [ho] at p2;exact p2.elim
     |ok d h1=>
      rw [ho] at p2
      exact fun m' H'' p1 k1 hr' v rv=>p2 v m' H'' p1 k1 hr' rv
     |err Cv fs h1=>
      rw [ho] at p2
      cases Cv with
      |str n t=>
       simp only at p2 ⊢
       split at p2
       ·rename_i hn
        simp only [hn,if_true]
        cases hi:Fm fs with
        |none=>rw [hi] at p2;exact p2.elim
        |some is=>
         rw [hi] at p2
         simp only at p2 ⊢
         cases hk:Fk [.exc n is] h1 with
         |stuck=>rw [hk] at p2;exact p2.elim
         |err _ _ _=>rw [hk] at p2;exact p2.elim
         |ok d h2=>
          rw [hk] at p2
          exact fun m' H'' p1 k1 hr' v rv=>p2 v m' H'' p1 k1 hr' rv
       ·exact p2.elim
      |_=>exact p2.elim
   refine wpAny_mono (bx [] s2 _ H' _ I2 post) (fun fl s' hs=>?_) fun e s' hs=>hs
   cases fl with
   |ret u=>
    obtain ⟨v,σ',H'',J,rv,q⟩:=hs
    exact ⟨v,H'',J.os,J.bare,J.base,J.hok,rv,q⟩
   |next=>
    obtain ⟨σ',H'',J,q⟩:=hs
    exact ⟨V.non,H'',J.os,J.bare,J.base,J.hok,rfl,q⟩
   |brk=>
    obtain ⟨_,_,_,q⟩:=hs
    exact False.elim q
   |cont=>
    obtain ⟨_,_,_,q⟩:=hs
    exact False.elim q
  ·cases r with
   |error e=>exact Mx lv pins σ H' s1 e s' I' hq
   |ok fl=>
    cases fl with
    |ret u=>exact I'.after hq
    |next=>exact False.elim hq
    |brk=>exact False.elim hq
    |cont=>exact False.elim hq
 ·exact pp.elim
end
def HK (mg:Str→Option Value) (base:Heap):Prop:=∃bm o,mg "__builtins__"=some (.ref bm)∧bm≠builtinsNs∧base.get? bm=some o∧o.cls=.type "module"∧o.dict=some builtinsNs∧o.data=.plain
theorem Xf {P:Program} {w:World} {K:Frag} {mg mb:Str→Option Value} {k:Nat} {fa a c T:Addr} {fd:FuncData} {x:Str} {F:List D→HD→Out D} {s₁:Shared} {vs:List Value} {ns:List Int}
 (KX:K.In s₁.heap) (hns:s₁.heap.Ns mainGlobals mg) (hb:s₁.heap.Ns builtinsNs mb) (hbb:∀x:Str,x≠"__name__"→mb x=bootBuiltins x) (hlim:s₁.heap.NoLimit) (hg:s₁.gens=#[]) (hbm:HK mg s₁.heap)
 (ha:s₁.heap.get? a=some {cls:=.type "list",data:=.seq vs.toArray}) (hi:IntsAre vs ns) (hl:ns.length≤sizeLine) (hr:Room k callerA)
 (htp:tabP K=some (c,T)) (hcd:codeHdIn K c T=true) (hT:s₁.heap.get? T=some (tabObj #[])) (hKT:K.lookup T=none)
 (FF:∀base:Heap,K.In base→base.Ns mainGlobals mg→HK mg base→FnOk P w K mg base (AD P w K) k fa fd [x] (Fg K F)) (hbind:∀(s:Shared) (u:Value),BindsTo s fd ⟨[u],[]⟩ [(x,u)])
 (hF:∃h',F [.scr ns] [.tab]=.ok (.bl true) h'):
 codeAny (model P w) callerA (.call (.ref fa) ⟨[.ref a],[]⟩) (fun r s'=>r=.ok (.ret (.bool true))∧OldK s₁.heap s'.heap∧s'.os=s₁.os∧AllBare s'.gens) s₁:=by
 have rv:=L2.vals_ints hi
 have lenV:=hi.length
 have aT:a≠T:=fun z=>by rw [z,hT] at ha;cases ha
 have core:∀H:Hp,(∀b,b=T∨H b=none∨∃o xs,H b=some (.frz o (.lst xs)))→H T=some (.tbl #[])→FzL K H a (ns.map V.int)→HOk P w H s₁.heap→(∀b,H b≠none→b=a∨b=T)→(H a≠none→K.lookup a=none)→
  codeAny (model P w) callerA (.call (.ref fa) ⟨[.ref a],[]⟩) (fun r s'=>r=.ok (.ret (.bool true))∧OldK s₁.heap s'.heap∧s'.os=s₁.os∧AllBare s'.gens) s₁:=by
  intro H hO hHT hS hok hA hK
  have base_of:∀{b:Addr} {o:Obj},s₁.heap.get? b=some o→H b=none→(Em s₁.heap H).get? b=some o:=fun e n=>Su e n
  have noA:∀{b:Addr} {o:Obj},s₁.heap.get? b=some o→(∀its n,o.data≠.seq its n)→(∀ws,o.data≠.fields ws)→H b=none:=fun {b o} e d1 d2=>by
   cases q:H b with
   |none=>rfl
   |some u=>
    rcases hA b (by rw [q];simp) with e' |e'
    ·subst e'
     rw [ha] at e;cases e
     exact absurd rfl (d1 _ _)
    ·subst e'
     rw [hT] at e;cases e
     exact absurd rfl (d2 _)
  have nsK:∀{b:Addr} {m:Str→Option Value},s₁.heap.Ns b m→(Em s₁.heap H).Ns b m:=fun {b m} ⟨o,es,ep,e,d,r⟩=>⟨o,es,ep,base_of e (noA e (fun _ _ z=>by rw [d] at z;cases z) (fun _ z=>by rw [d] at z;cases z)),d,r⟩
  have hKb:K.In (Em s₁.heap H):=fun b o e=>base_of (KX b o e) (by
   cases q:H b with
   |none=>rfl
   |some u=>
    rcases hA b (by rw [q];simp) with e' |e'
    ·subst e'
     rw [hK (by rw [q];simp)] at e;cases e
    ·subst e'
     rw [hKT] at e;cases e)
  have hM:Mod K mg (Em s₁.heap H):=⟨hKb,nsK hns,⟨mb,nsK hb,hbb⟩,let ⟨mc,h1,h2⟩:=hlim;⟨mc,nsK h1,h2⟩⟩
  have e0:FG P w K mg (Em s₁.heap H) callerA [] s₁ H:=⟨rfl,hM,fun b o e=>Sv e,Nat.le_of_eq (Ss _ _),trivial,fun b hb=>absurd (show b∈([]:List Addr) from hb) (by simp),hok,.of_eq hg⟩
  have hBM:HK mg (Em s₁.heap H):=by
   obtain ⟨bm,o,h1,h2,h3,h4,h5,h6⟩:=hbm
   exact ⟨bm,o,h1,h2,base_of h3 (noA h3 (fun _ _ z=>by rw [h6] at z;cases z) (fun _ z=>by rw [h6] at z;cases z)),h4,h5,h6⟩
  have hsp:Fg K F [.ref a] H (fun v _=>v=.bl true) fun _ _ _=>False:=by
   obtain ⟨h',e⟩:=hF
   refine ⟨[T],[.scr ns],[.tab],⟨rfl,by simp,fun l cc b e1 e2=>?_⟩,.cons (by simp only [DV];exact ⟨a,rfl,hS⟩) .nil,?_⟩
   ·cases l with
    |zero=>
     simp at e1 e2
     subst e1 e2
     exact ⟨⟨c,htp⟩,#[],hHT,trivial,fun pos cv z=>by simp [codeAmong] at z⟩
    |succ l=>simp at e1
   ·rw [e]
    intro v m' H' _ _ _ r
    simpa [rD,DV] using r
  refine codeAny_mono ((FF _ hKb (nsK hns) hBM).run callerA [] s₁ H ⟨[.ref a],[]⟩ [.ref a] [.ref a] _ _ hr e0 (hbind s₁ (.ref a)) (.cons rfl .nil) hsp) fun r s' h=>?_
  cases r with
  |error e=>
   obtain ⟨_,_,_,_,_,_,_,_,_,_,_,_,q⟩:=h
   exact q.elim
  |ok fl=>
   cases fl with
   |next=>exact False.elim h
   |brk=>exact False.elim h
   |cont=>exact False.elim h
   |ret u=>
    obtain ⟨v,H',os,bare,un,hok',r',q⟩:=h
    have q':v=.bl true:=q
    subst q'
    obtain rfl:u=Value.bool true:=r'
    obtain ⟨more,hT'⟩:=un.tbls T _ hHT
    have hT2:s'.heap.get? T=some (tabObj (#[]++more)):=hok' T _ hT'
    have keepO:∀b o,b≠T→s₁.heap.get? b=some o→s'.heap.get? b=some o:=fun b o hbT e=>by
     cases q:H b with
     |none=>exact un.keep b o e q (by intro z;exact absurd (show b∈([]:List Addr) from z) (by simp)) (by simp)
     |some u=>
      rcases hO b with z |z |⟨ob,xs,z⟩
      ·exact absurd z hbT
      ·rw [q] at z;cases z
      ·have z2:=un.frzs b ob _ z
       obtain ⟨e1,_⟩:=hok b _ z
       obtain ⟨e2,_⟩:=hok' b _ z2
       rw [e] at e1;cases e1
       exact e2
    have hC:=codeHd_of_K KX hcd
    refine ⟨rfl,⟨fun b o e=>?_,fun b o e=>?_⟩,os,bare⟩
    ·by_cases hbT:b=T
     ·subst hbT
      rw [hT] at e
      cases e
      exact .inr (.inl ⟨(hC.tab hT).isCodeTable,rfl,#[],more,rfl,hT2⟩)
     ·exact .inl (keepO b o hbT e)
    ·by_cases hbT:b=T
     ·subst hbT;exact ⟨_,hT2⟩
     ·exact ⟨o,keepO b o hbT e⟩
 cases hk:K.lookup a with
 |some o=>
  have e:=KX a o hk
  rw [ha] at e
  cases e
  refine core (fun b=>if b=T then some (.tbl #[]) else none) (fun b=>?_) (if_pos rfl) (.inr (.inr ⟨_,vs.toArray,_,hk,rfl,rfl,rfl,by rw [A9,lenV];exact hl,by simpa using rv⟩)) (fun b u z=>?_) (fun b z=>?_) fun z=>absurd (if_neg aT) z
  ·by_cases hb:b=T
   ·exact .inl hb
   ·exact .inr (.inl (if_neg hb))
  ·by_cases hb:b=T
   ·have z':=(if_pos hb).symm.trans z
    cases z'
    subst hb
    exact hT
   ·have z':=(if_neg hb).symm.trans z
    cases z'
  ·by_cases hb:b=T
   ·exact .inr hb
   ·exact absurd (if_neg hb) z
 |none=>
  refine core (fun b=>if b=T then some (.tbl #[]) else if b=a then some (.frz {cls:=.type "list",data:=.seq vs.toArray} (.lst (ns.map V.int))) else none) (fun b=>?_) (if_pos rfl) (.inl ⟨{cls:=.type "list",data:=.seq vs.toArray},(if_neg aT).trans (if_pos rfl)⟩) (fun b u z=>?_) (fun b z=>?_) fun _=>hk
  ·by_cases hb:b=T
   ·exact .inl hb
   ·by_cases hba:b=a
    ·exact .inr (.inr ⟨_,_,(if_neg hb).trans (if_pos hba)⟩)
    ·exact .inr (.inl ((if_neg hb).trans (if_neg hba)))
  ·by_cases hb:b=T
   ·have z':=(if_pos hb).symm.trans z
    cases z'
    subst hb
    exact hT
   ·have z1:=(if_neg hb).symm.trans z
    by_cases hba:b=a
    ·have z':=(if_pos hba).symm.trans z1
     cases z'
     subst hba
     exact ⟨ha,by rw [CS];exact hl,vs,_,rv,ha⟩
    ·have z':=(if_neg hba).symm.trans z1
     cases z'
  ·by_cases hb:b=T
   ·exact .inr hb
   ·by_cases hba:b=a
    ·exact .inl hba
    ·exact absurd ((if_neg hb).trans (if_neg hba)) z
open AutoSeq1 (wpAny_loadPart')
theorem Xg:fillsNumberSlot (.type "tuple") "mul"=pure false:=by
 first |exact noFill_tuple_mul' |(unfold fillsNumberSlot;kernel_rfl)
theorem Xh:seqRepeat? (.type "tuple")=pure (some (.builtin "tuple.__mul__")):=by
 unfold seqRepeat?
 rw [PySem.seqSlot_of (T:="tuple") (name:="__mul__") (id:="tuple.__mul__") F.slot_tuple_mul.lookup (by decide +kernel),PySem.seqSlot_of (T:="tuple") (name:="__rmul__") (id:="tuple.__rmul__") (by rw [typeLookup_type,builtinLookup_eq_fast];kernel_rfl) (by decide +kernel)]
 rfl
theorem Xi (a:Int) (t:Tok) (l:Addr) (items:Array Value) (n:Nat) (dd:Option Addr) (sl:Array (Option Value)):
 Meets (Builtin.«int.__rmul__» ⟨[.int a t,.ref l],[]⟩) (fun _ R s=>s.heap.get? l=some {cls:=.type "tuple",dict:=dd,data:=.seq items n,slots:=sl}∧R (.ok (.ret Value.notImplemented)) s):=
 .of_wp fun prog w A R s h=>by
  obtain ⟨hp,g,d,tk,os⟩:=s;obtain ⟨hl,h⟩:=h
  wp_walk;exact ⟨_,rfl,h⟩
theorem Xj (l:Addr) (items:Array Value) (n:Nat) (dd:Option Addr) (sl:Array (Option Value)) (x:Int) (u:Tok) (h1:1<x) (h2:x<2^63) (hne:items.isEmpty=false) (hz:items.size*x.toNat≤sizeLine):
 Meets (Builtin.«tuple.__mul__» ⟨[.ref l,.int x u],[]⟩) (fun _ R s=>s.heap.get? l=some {cls:=.type "tuple",dict:=dd,data:=.seq items n,slots:=sl}∧R (.ok (.ret (Value.ref s.heap.objs.size))) {s with heap:=s.heap.push {cls:=Value.type "tuple",data:=Data.seq (List.foldl (fun x1 x2=>x1++x2) #[] (List.replicate x.toNat items))}}):=
 .of_wp fun prog w A R s h=>by
  obtain ⟨hp,g,d,tk,os⟩:=s;obtain ⟨hl,h⟩:=h
  have c1:(decide (x < -2^63)||decide (x≥2^63))=false:=by simp;omega
  have c2:(items.isEmpty||x==1)=false:=by
   rw [hne,Bool.false_or]
   exact beq_eq_false_iff_ne.mpr (by omega)
  have c3:(decide (x≤0)||items.isEmpty)=false:=by
   rw [hne,Bool.or_false]
   exact decide_eq_false (by omega)
  have hx:(x.toNat:Int)=x:=Int.toNat_of_nonneg (by omega)
  have hz':(items.size:Int)*x≤sizeLine:=by rw [←hx];exact_mod_cast hz
  have c4:¬((items.size:Int)*x>(2^63 - 1) / 8):=by
   have:(sizeLine:Int)≤(2^63 - 1) / 8:=by decide
   omega
  have c5:Builtin.Tuple.tupleTooMany ((items.size:Int)*x)=false:=by
   unfold Builtin.Tuple.tupleTooMany
   exact decide_eq_false (by omega)
  have c6:(List.foldl (fun x1 x2=>x1++x2) #[] (List.replicate x.toNat items)).size≤sizeLine:=by
   have f0:=JS items.toList x.toNat []
   rw [Il] at f0
   have:List.foldl (fun x1 x2=>x1++x2) #[] (List.replicate x.toNat items)=(List.replicate x.toNat items.toList).flatten.toArray:=by simpa using f0
   rw [this,A9,JT,Nat.mul_comm]
   simpa using hz
  wp_walk using wpAny_loadPart' hl
  rw [c1]
  simp only [BP,if_false]
  refine wpAny_bind ?_
  unfold Builtin.Tuple.tupleItemsOf
  wp_walk using wpAny_loadPart' hl
  rw [c2]
  simp only [BP,if_false]
  rw [c3]
  simp only [BP,if_false]
  rw [if_neg c4,c5]
  simp only [BP,if_false]
  refine wpAny_bind (wpAny_newObj_type (wpAny_pure ⟨_,rfl,h⟩) c6)
theorem Xk (l:Addr) (items:Array Value) (n:Nat) (dd:Option Addr) (sl:Array (Option Value)) (u:Tok):
 Meets (Builtin.«tuple.__mul__» ⟨[.ref l,.int 1 u],[]⟩) (fun _ R s=>s.heap.get? l=some {cls:=.type "tuple",dict:=dd,data:=.seq items n,slots:=sl}∧R (.ok (.ret (Value.ref l))) s):=
 .of_wp fun prog w A R s h=>by
  obtain ⟨hp,g,d,tk,os⟩:=s;obtain ⟨hl,h⟩:=h
  have c1:(decide ((1:Int) < -2^63)||decide ((1:Int)≥2^63))=false:=by decide
  have c2:(items.isEmpty||(1:Int)==1)=true:=by simp
  wp_walk using wpAny_loadPart' hl
  exact ⟨_,rfl,h⟩
theorem Xl (l:Addr) (items:Array Value) (n:Nat) (dd:Option Addr) (sl:Array (Option Value)) (x:Int) (u:Tok) (h1:-(2^63)≤x) (h2:x≤0) (hne:items.isEmpty=false):
 Meets (Builtin.«tuple.__mul__» ⟨[.ref l,.int x u],[]⟩) (fun _ R s=>s.heap.get? l=some {cls:=.type "tuple",dict:=dd,data:=.seq items n,slots:=sl}∧R (.ok (.ret (Value.ref s.heap.objs.size))) {s with heap:=s.heap.push {cls:=Value.type "tuple",data:=Data.seq #[]}}):=
 .of_wp fun prog w A R s h=>by
  obtain ⟨hp,g,d,tk,os⟩:=s;obtain ⟨hl,h⟩:=h
  have c1:(decide (x < -2^63)||decide (x≥2^63))=false:=by simp;omega
  have c2:(items.isEmpty||x==1)=false:=by
   rw [hne,Bool.false_or]
   exact beq_eq_false_iff_ne.mpr (by omega)
  have c3:(decide (x≤0)||items.isEmpty)=true:=by
   rw [hne,Bool.or_false]
   exact decide_eq_true h2
  wp_walk using wpAny_loadPart' hl
  rw [c1]
  simp only [BP,if_false]
  refine wpAny_bind ?_
  unfold Builtin.Tuple.tupleItemsOf
  wp_walk using wpAny_loadPart' hl
  rw [c2]
  simp only [BP,if_false]
  rw [c3]
  simp only [if_true]
  refine wpAny_bind (wpAny_newObj_type (wpAny_pure ⟨_,rfl,h⟩) (by show (#[]:Array Value).size≤sizeLine;simp))
section
variable {X:Cx} {E:XK}
def Xm (K:Frag):R2:=fun x y H Q=>∃l k xs,x=.ref l∧y=.int k∧H l=some (.tup xs)∧xs≠[]∧-(2^63)≤k∧k<2^63∧xs.length*k.toNat≤sizeLine∧(k=1→Q (.ref l) H)∧
 ∀p,H p=none→Q (.ref p) (An H p (.tup (List.replicate k.toNat xs).flatten))
theorem Inv.tnew {pins:List (Addr×Obj)} {σ:L2.St} {H:Hp} {s:Shared} {ys:List V} {its:List Value} {t':Nat} (I:Inv X pins σ H s) (hv:Vals ys its) (hz:ys.length≤sizeLine):
 Inv X pins σ (An H s.heap.objs.size (.tup ys)) {s with heap:=s.heap.push {cls:=.type "tuple",data:=.seq its.toArray},toks:=t'}:=
 I.laid (fun _ _ q=>AE _ q) (AK _) ⟨hz,its,hv,⟨_,Bp _ rfl,rfl,0,rfl⟩,NoDict.new⟩
theorem op_repT:OpR X (binaryOp .Mult) (Xm X.K):=by
 intro pins s σ H x y v u Q I rx ry h
 obtain ⟨l,k,xs,rfl,rfl,hH,hne,h1,h2,hz,q1,q⟩:=h
 cases rx
 obtain ⟨t,rfl⟩:=ry
 obtain ⟨z,its,r,⟨o,ho,hc,n,hd⟩,_⟩:=(show ObjOk X.prog X.w H s.heap l (.tup xs) from I.hok l _ hH)
 obtain ⟨oc,dd,dat,sl⟩:=o
 simp only at hc hd
 subst hc hd
 have hl:=r.length
 have hine:its.toArray.isEmpty=false:=by
  cases its with
  |nil=>exfalso;cases xs with
   |nil=>exact hne rfl
   |cons _ _=>simp at hl
  |cons a b=>simp
 have mul:∀{Q':Value→Shared→Prop},wpAny (model X.prog X.w) X.A (call (.builtin "tuple.__mul__") [.ref l,.int k t]) Q' X.xe s→wpAny (model X.prog X.w) X.A (binaryOp .Mult (.ref l) (.int k t)) Q' X.xe s:=fun {Q'} hq=>
  wpAny_binaryOp_repeat_ref (T:="tuple") (U:="int") (by decide) ⟨_,ho,rfl⟩ (fun s'=>typeIs_int s' k t) Xg F.fills_int_mul F.slot_int_rmul Xh F.slot_int_index.lookup
   (call_meets F.slot_int_rmul (typeIs_int s k t) F.entry_int_rmul (F.args_int_rmul_2 _ _) (Xi k t l its.toArray n dd sl) ⟨ho,rfl,⟨_,ho,rfl⟩,hq⟩)
 refine mul ?_
 rcases Int.lt_trichotomy k 1 with hk |hk |hk
 ·refine call_meets F.slot_tuple_mul ⟨_,ho,rfl⟩ F.entry_tuple_mul (F.args_tuple_mul_2 _ _) (Xl l its.toArray n dd sl k t h1 (by omega) hine) ⟨ho,?_⟩
  have e:(List.replicate k.toNat xs).flatten=[]:=by
   have:k.toNat=0:=by omega
   rw [this];rfl
  have:=q _ I.fresh
  rw [e] at this
  exact ⟨.ref _,_,LS.Inv.tnew (its:=[]) (t':=s.toks) I .nil (Dv _),rfl,this⟩
 ·subst hk
  refine call_meets F.slot_tuple_mul ⟨_,ho,rfl⟩ F.entry_tuple_mul (F.args_tuple_mul_2 _ _) (Xk l its.toArray n dd sl t) ⟨ho,?_⟩
  exact ⟨.ref l,H,I,rfl,q1 rfl⟩
 ·refine call_meets F.slot_tuple_mul ⟨_,ho,rfl⟩ F.entry_tuple_mul (F.args_tuple_mul_2 _ _) (Xj l its.toArray n dd sl k t hk h2 hine (by rw [A9,←hl];exact hz)) ⟨ho,?_⟩
  have f0:=JS its k.toNat []
  rw [Il] at f0
  have f1:List.foldl (fun x1 x2=>x1++x2) #[] (List.replicate k.toNat its.toArray)=(List.replicate k.toNat its).flatten.toArray:=f0
  rw [f1]
  exact ⟨.ref _,_,LS.Inv.tnew (t':=s.toks) I (r.rep k.toNat) (by rw [JT,Nat.mul_comm];exact hz),rfl,q _ I.fresh⟩
noncomputable def Cj:D→D→HD→Out D:=fun x y h=>match x,y with
 |.tup xs,.int k=>@ite _ (xs≠[]∧-(2^63)≤k∧k<2^63∧xs.length*k.toNat≤sizeLine) (Classical.propDecidable _) (.ok (.tup (List.replicate k.toNat xs).flatten) h) .stuck
 |_,_=>Dm x y h
theorem D8:BB X (binaryOp .Mult) Cj:=by
 obtain ⟨r0,hr0,i0⟩:=VP (X:=X)
 refine ⟨_,op_repT.or hr0,fun m H h E x y v u Q hr rx ry q=>?_⟩
 unfold Cj at q
 split at q
 ·rename_i xs k
  split at q
  ·rename_i hc
   obtain ⟨hne,h1,h2,hz⟩:=hc
   simp only [DV] at rx ry
   obtain ⟨a,vs,rfl,ha,dv⟩:=rx
   subst ry
   refine .inl ⟨a,k,vs,rfl,rfl,ha,?_,h1,h2,by rw [←dv.len];exact hz,fun e=>?_,?_⟩
   ·intro e;have:=dv.len;rw [e] at this;exact hne (List.length_eq_zero_iff.mp this)
   ·subst e
    refine Bf hr q ?_
    simp only [DV]
    exact ⟨a,vs,rfl,ha,by simpa using dv⟩
   ·exact Hl hr (DVs.rep dv k.toNat) q
  ·exact q.elim
 ·exact .inr (i0 m H h E x y v u Q hr rx ry q)
end
end LS
namespace LS
open PySem PySem.Spec PyProof.Rows L2 PySem.W
section
variable {X:Cx} {E:XK}
abbrev MJ:=Str→Ai→HD→Out Str
def Xn:MJ:=fun acc _ h=>if acc.length≤sizeLine then .ok acc h else .stuck
def Xo (y:Str) (r:MJ):MJ:=fun acc ρ h=>if (acc++y).length≤sizeLine then r (acc++y) ρ h else .stuck
def Qh (f:ME) (r:MJ):MJ:=fun acc ρ h=>(f ρ h).bind fun d h1=>match d with
 |.int i=>if i.natAbs.log2<1920∧(acc++(toString i:Str)).length≤sizeLine then r (acc++(toString i:Str)) ρ h1 else .stuck
 |_=>.stuck
def MN (fj:MJ):ME:=fun ρ h=>(fj Str.empty ρ h).bind fun x h1=>.ok (.str x) h1
def BX:D→HD→Out D:=fun x h=>match AL h 8 x with
 |some p=>if p.showable=true∧p.hasDict=false∧p.depth≤40∧p.shown.length≤sizeLine then .ok (.str p.shown) h else .stuck
 |none=>.stuck
theorem HL (hu:X.A.units+64<cLine) (hg:X.A.guards=some []):CI X (.builtin "repr") (Am BX):=by
 refine KC (fun ds h=>?_) fun pins s σ H m h ds vs us Q I hr rd r q=>FL rd q fun x v ev rx q=>?_
 ·unfold Am BX
  repeat' split
  all_goals trivial
 ·subst ev
  obtain ⟨u,rfl,ru⟩:=En r
  unfold BX at q
  split at q
  ·rename_i p e
   split at q
   ·rename_i hc
    obtain ⟨h1,h2,h3,h4⟩:=hc
    obtain ⟨as,hd⟩:=L5 I.hok hr 8 x v u p rx ru e
    have fin:∀(h':Heap) (t tk:Tok),(∀b o,s.heap.get? b=some o→h'.get? b=some o)→EP X pins σ Q (.str p.shown t) {s with heap:=h',toks:=tk}:=fun h' t tk hk=>⟨.str p.shown,H,I.kept hk,⟨t,rfl⟩,Bf hr q (by simp [DV])⟩
    cases hd with
    |list a1 a2 a3 a4=>exact repr_of_reads' (.list a1 a2 a3 a4) h1 (fun z=>by rw [h2] at z;cases z) hg (by omega) (fun _ _ e=>e) fin h4
    |tuple a1 a2 a3 a4=>exact repr_of_reads' (.tuple a1 a2 a3 a4) h1 (fun z=>by rw [h2] at z;cases z) hg (by omega) (fun _ _ e=>e) fin h4
    |dict a1 a2 a3 a4 a5=>cases h2
    |int i t=>
     have h1':i.natAbs.log2<1920:=by simpa [PyData.showable] using h1
     exact PySem.P.repr_of_int h1' (fin s.heap _ _ fun _ _ e=>e)
    |none=>exact PySem.P.repr_of_none (fin s.heap _ _ fun _ _ e=>e)
    |bool b=>exact PySem.P.repr_of_bool (fin s.heap _ _ fun _ _ e=>e)
    |str x t=>exact PySem.P.repr_of_str (fin s.heap _ _ fun _ _ e=>e) (by simpa [PyData.shown] using h4)
   ·exact q.elim
  ·exact q.elim
def Ck:D→D→HD→Out D:=fun x y h=>match x,y with
 |.str a,.str b=>.ok (.bl (a==b)) h
 |_,_=>IE x y h
def BH:D→D→HD→Out D:=fun x y h=>match x,y with
 |.str a,.str b=>.ok (.bl (!(a==b))) h
 |_,_=>Ez x y h
theorem EH (hu:X.A.units+64<cLine):BB X (compareOp .Eq) Ck:=by
 obtain ⟨r0,hr0,i0⟩:=Vj (X:=X) hu
 refine ⟨_,op_eq.or hr0,fun m H h E x y v u Q hr rx ry q=>?_⟩
 unfold Ck at q
 split at q
 ·simp only [DV] at rx ry
  subst rx ry
  exact .inl ⟨rfl,by rw [JP];exact Bf hr q (by simp [DV])⟩
 ·exact .inr (i0 m H h E x y v u Q hr rx ry q)
theorem EI (hu:X.A.units+64<cLine):BB X (compareOp .NotEq) BH:=by
 obtain ⟨r0,hr0,i0⟩:=Vk (X:=X) hu
 refine ⟨_,op_ne.or hr0,fun m H h E x y v u Q hr rx ry q=>?_⟩
 unfold BH at q
 split at q
 ·simp only [DV] at rx ry
  subst rx ry
  exact .inl ⟨rfl,by rw [JP];exact Bf hr q (by simp [DV])⟩
 ·exact .inr (i0 m H h E x y v u Q hr rx ry q)
def KI:List Nat→List D→Ai→Option Ai
 |[],[],ρ=>some ρ
 |i::is,d::ds,ρ=>KI is ds (ρ.set i (some d))
 |_,_,_=>none
def Gq (is:List Nat):MG:=fun d ρ=>match d with
 |.tup ds=>KI is ds ρ
 |_=>none
def MP:List Nat→FA
 |[]=>F5
 |i::is=>Dy (Co i) (MP is)
theorem Qi:∀{is:List Nat} {ds:List D} {ρ ρ':Ai},KI is ds ρ=some ρ'→ds.length=is.length
 |[],[],_,_,_=>rfl
 |[],_::_,_,_,e=>by cases e
 |_::_,[],_,_,e=>by cases e
 |_::is,_::ds,_,_,e=>by simpa using Qi (is:=is) (ds:=ds) e
theorem Qj {K:Frag} {m:List Addr} {H:Hp}:∀{is:List Nat} {ds:List D} {vs:List V} {ρ ρ':Ai} {σ:L2.St} {Q:L2.St→Hp→Prop},DVs K m H ds vs→ER K m H ρ σ→KI is ds ρ=some ρ'→(∀σ',ER K m H ρ' σ'→Q σ' H)→MP is vs σ H Q
 |[],[],vs,ρ,ρ',σ,Q,r,er,e,q=>by
  simp only [DVs] at r
  subst r
  cases e
  exact ⟨rfl,q σ er⟩
 |[],_::_,_,_,_,_,_,_,_,e,_=>by cases e
 |_::_,[],_,_,_,_,_,_,_,e,_=>by cases e
 |i::is,d::ds,vs,ρ,ρ',σ,Q,r,er,e,q=>by
  simp only [DVs] at r
  obtain ⟨v,w,rfl,rv,rw'⟩:=r
  exact ⟨v,w,rfl,Qj rw' (er.set rv) e q⟩
theorem Qk {es:List Expr} {is:List Nat} {kt:Nat} {pos:Pos} (h:PG X (.Tuple es kt pos) (F6 X.K is.length (MP is))):IJ X (.Tuple es kt pos) (Gq is):=⟨_,h,fun m H d v ρ σ ρ' Q r er e q=>by
 unfold Gq at e
 split at e
 ·rename_i ds
  simp only [DV] at r
  obtain ⟨p,vs,rfl,hp,dv⟩:=r
  exact ⟨p,vs,rfl,SqT.of hp,by rw [←dv.len];exact Qi e,Qj dv er e q⟩
 ·cases e⟩
end
theorem MQ {K:Frag} (h:etOk K=true) {n:Str} (hn:n∈excNames):∃C,nsIn K mainGlobals n=some (some (.ref C)):=by
 unfold etOk at h
 split at h
 ·rename_i S hS
  have h1:=qaO.mp h n hn
  cases e:EG K n with
  |none=>rw [e] at h1;cases h1
  |some C=>exact ⟨C,P6 e⟩
 ·cases h
section
variable {X:Cx} {E:XK}
theorem EJ {x:Str} {pos:Pos} (et:etOk X.K=true) (hn:x∈excNames) (hg:Gl X x:=by rfl) (hd:(x==("__debug__":Str))=false:=by decide):Ev X E (.Name x pos) (mC (.glo x)):=by
 obtain ⟨a,h⟩:=MQ et hn
 exact WO hg h hd
theorem Ql {x:Str} {e:Expr} {es:List Expr} {fa:MA} {np cpos pos:Pos} (et:etOk X.K=true) (hn:x∈excNames) (hne:x≠"TooMany") (hg:Gl X x) (hc:X.calm=true) (th:MB X E) (ha:Cz X E (e::es) fa)
 (hdb:(x==("__debug__":Str))=false:=by decide) (he:starEach (e::es) X.env=(false,eval e X.env)::starEach es X.env:=by rfl) (hpl:(backTo cpos (starEach (e::es) X.env)).any (·.1)=false:=by rfl):
 Ex X E (.Raise (some (.Call (.Name x np) (e::es) [] cpos)) none pos) (HB x fa):=by
 obtain ⟨C,h⟩:=MQ et hn
 exact Wj ((KB et hn h).at_ hne) h hg hc th ha hdb he hpl
end
theorem CaM.mono {P:Program} {w:World} {K:Frag} {mg:Str→Option Value} {base:Heap} {x:Str} {j k:Nat} {F:List D→HD→Out D} (C:CaM P w K mg base x j F) (h:j≤k):CaM P w K mg base x k F:=by
 obtain ⟨f,fd,ps,G,r⟩:=C.ex
 exact ⟨f,fd,ps,⟨fun A outer s H args us vs Q hr=>G.run A outer s H args us vs Q (hr.mono h)⟩,r⟩
structure SaidD (K:Frag) (mg:Str→Option Value) (st:Stmt) (fs:Addr) (fd:FuncData):Prop where
 fn:Fun K "_law_said" "_law_said" st fs fd
 bd:Binds K fd ["_law_call"] []
 mg:mg "_law_said"=some (.ref fs)
structure Qm (st:Stmt):Prop where
 sc:Bd ["_law_call","_law_word","_law_e"] ["_law_call"] (defScope st)
 k0:(defScope st).names.lookup ("_law_call":Str)=some .local
 k1:(defScope st).names.lookup ("_law_word":Str)=some .local
 k2:(defScope st).names.lookup ("_law_e":Str)=some .local
 gS:(defScope st).names.lookup ("SwitchError":Str)=some .globalImplicit
 gK:(defScope st).names.lookup ("_law_kind":Str)=some .globalImplicit
 tx:∃p1 j1 p2 p3 p4 p5 p6 p7 p8 p9 p10 p11 p12 p13 p14 p15 p16,defBody st=[.Assign [.Name "_law_word" p1] (.Constant (.str "told") j1 p2) p3,.Try [.Expr (.Call (.Name "_law_call" p4) [] [] p5) p6] [.ExceptHandler (some (.Name "SwitchError" p7)) (some "_law_e") [.Assign [.Name "_law_word" p8] (.Call (.Name "_law_kind" p9) [.Name "_law_e" p10] [] p11) p12] p13] [] [] p14,.Return (some (.Name "_law_word" p15)) p16]
theorem MR {X:Cx} {E:XK} {c P:Addr} {Nc:List Str} {cs:List Nat} {params:Arguments} {body:Expr} {scope:Scope} {k kk:Nat} {Fk:List D→HD→Out D} {f:ME} {fs:Addr} {fd:FuncData} {st:Stmt} {lpos p pos:Pos}
 (L:LamX X c P) (fna:∀x,X.fn x=true) (hr:Room kk X.A) (lv:Lv X E) (et:etOk X.K=true) (Sd:SaidD X.K X.mg st fs fd) (St:Qm st) (hkind:CaM X.prog X.w X.K X.mg X.base "_law_kind" k Fk) (S:LSc X scope Nc cs)
 (hb:∀(a:Addr) (cd:Value) (cl:List (Str×Addr)) (A:Around) (outer:List Env) (s:Shared) (H:Hp) (E':XK),Room k (A.deeper (envX Bv scope s.heap.objs.size a cd cl))→Ev (Fj X.prog X.w X.K X.mg X.base Nc scope a cd cl A outer s H E') E' body f)
 (hg:Gl X "_law_said") (hkk:k+2≤kk:=by decide) (hdef:defaultsOf params X.env=([],[]):=by rfl)
 (hbind:∀(cl:List (Str×Addr)) (pm cv ctv:Value),bindArgs (kla_fn "<lambda>" Bv params body scope cl pm cv ctv) ⟨[],[]⟩=pure []:=by exact fun _ _ _ _=>rfl)
 (he:starEach [.Lambda params body scope lpos] X.env=(false,eval (.Lambda params body scope lpos) X.env)::starEach [] X.env:=by rfl) (hpl:(backTo pos (starEach [] X.env)).any (·.1)=false:=by rfl):
 Ev X E (.Call (.Name "_law_said" p) [.Lambda params body scope lpos] [] pos) (De cs Fk f):=by
 obtain ⟨p1,j1,p2,p3,p4,p5,p6,p7,p8,p9,p10,p11,p12,p13,p14,p15,p16,hst⟩:=St.tx
 exact Xe L fna (hr.mono hkk) lv et (MQ et (by decide +kernel)) Sd.fn Sd.bd Sd.mg Sd.fn.kp St.sc St.k0 St.k1 St.k2 (fun _ _=>St.gS) (fun _ _=>St.gK) hst hkind hg S hdef hbind hb he hpl
theorem Xp {P:Program} {w:World} {K:Frag} {mg:Str→Option Value} {base:Heap} {x qual:Str} {st:Stmt} {f:Addr} {kV doc pm cdv ct oc:Value} {an od:Option Addr} {osl:Array (Option Value)} {N ps:List Str} {k:Nat} {F:List D→HD→Out D} {g:MS}
 (lk:K.lookup f=some ⟨oc,od,.func (PySem.W.fnOf x qual (defArgs st) (defBody st) (defScope st) .none kV doc pm an cdv ct),osl⟩) (hcd:PySem.W.codeIn K cdv qual=true) (S:Bd N ps (defScope st)) (ar:Ar ps.length F)
 (hg:∀ds h,ds.length=ps.length→F ds h=As N.length g ds h)
 (hbody:∀(A:Around) (outer:List Env) (s:Shared) (H:Hp) (E:XK),Room k (A.deeper (envOfC qual (defScope st) s.heap.objs.size f cdv))→A4 (AS (AD P w K) P w K mg base N qual (defScope st) f cdv A outer s H E) E (defBody st) g):
 FnOk P w K mg base (AD P w K) (k+1) f (PySem.W.fnOf x qual (defArgs st) (defBody st) (defScope st) .none kV doc pm an cdv ct) ps (Fg K F):=by
 refine Ou lk hcd S (fun vs H Q E h=>Kx ar h) fun A outer s H vs Q E hr h=>?_
 refine ⟨_,hbody A outer s H E hr,?_⟩
 have hl:=Kx ar h
 obtain ⟨m,ds,hd,hr1,r,p⟩:=h
 have hld:ds.length=ps.length:=by rw [r.len];exact hl
 refine ⟨m,ds.map some++List.replicate (N.length - ds.length) none,hd,hr1,ER.start r,?_⟩
 rw [hg ds hd hld] at p
 unfold As at p
 cases o:g (ds.map some++List.replicate (N.length - ds.length) none) hd with
 |stuck=>rw [o] at p;exact p
 |err C fs h1=>rw [o] at p;exact p
 |ok a h1=>
  rw [o] at p
  obtain ⟨fl,ρ1⟩:=a
  intro m1 H1 p1 k1 hr1
  cases fl with
  |nx=>exact fun σ er=>p .non m1 H1 p1 k1 hr1 (by simp [rD,DV])
  |bk=>exact False.elim p
  |ct=>exact False.elim p
  |rt d=>exact fun v rv=>p v m1 H1 p1 k1 hr1 rv
def ZcA (K:Frag) (T:Addr):Bool:=match tabP K with
 |some (c,T')=>T'==T&&codeHdIn K c T
 |none=>false
end LS
namespace LS
open PySem PySem.Spec PyProof.Rows L2
def We {α:Type} (o:Out α) (Q:α→HD→Prop) (R:Str→List (Str×D)→HD→Prop):Prop:=match o with
 |.ok a h=>Q a h
 |.err (.str n _) fs h=>R n fs h
 |_=>False
section
variable {α β:Type} {o:Out α} {Q Q':α→HD→Prop} {R R':Str→List (Str×D)→HD→Prop}
@[simp] theorem ZcB (a:α) (h:HD):We (.ok a h) Q R=Q a h:=rfl
@[simp] theorem ZcC (n:Str) (t:Tok) (fs:List (Str×D)) (h:HD):We (.err (.str n t) fs h:Out α) Q R=R n fs h:=rfl
@[simp] theorem ZcD:We .stuck Q R=False:=rfl
theorem CM {k:α→HD→Out β} {Q:β→HD→Prop}:We (o.bind k) Q R=We o (fun a h=>We (k a h) Q R) R:=by
 cases o with
 |ok a h=>rfl
 |err C fs h=>cases C<;>rfl
 |stuck=>rfl
theorem Wp.we (h:Wp o Q):We o Q R:=by
 cases o with
 |ok a h'=>exact h
 |_=>exact h.elim
theorem We.mono (h:We o Q R) (f:∀a h,Q a h→Q' a h) (g:∀n fs h,R n fs h→R' n fs h):We o Q' R':=by
 cases o with
 |ok a h'=>exact f _ _ h
 |err C fs h'=>cases C<;>first |exact g _ _ _ h |exact h.elim
 |stuck=>exact h
theorem Pu.we {h:HD} {a:α} (p:Pu o h a) (k:∀h',Sm h h'→Q a h'):We o Q R:=Wp.we (p.wp k)
end
def Er {α:Type} (o:Out α) (h:HD) (n:Str):Prop:=We o (fun _ _=>False) fun n' fs h'=>n'=n∧fs=[]∧Sm h h'
theorem Er.we {α:Type} {o:Out α} {h:HD} {n:Str} {Q:α→HD→Prop} {R:Str→List (Str×D)→HD→Prop} (e:Er o h n) (k:∀h',Sm h h'→R n [] h'):We o Q R:=We.mono e (fun _ _ z=>z.elim) fun n' fs h' z1_=>by obtain ⟨rfl,rfl,s⟩:=z1_;exact k h' s
theorem Jb {N:Nat} {g:MS} {ds:List D} {h:HD} {Q:D→HD→Prop} {R:Str→List (Str×D)→HD→Prop}:We (As N g ds h) Q R=We (g (ds.map some++List.replicate (N - ds.length) none) h) (Hx Q) R:=by
 unfold As
 cases o:g (ds.map some++List.replicate (N - ds.length) none) h with
 |ok a h1=>
  obtain ⟨fl,ρ⟩:=a
  cases fl<;>rfl
 |err C fs h1=>cases C<;>rfl
 |stuck=>rfl
section
variable {ρ:Ai} {h:HD} {Q:Fl×Ai→HD→Prop} {QD:D→HD→Prop} {QB:Bool→HD→Prop} {R:Str→List (Str×D)→HD→Prop} {g g1 g2:MS} {f:ME} {t:MT} {fa:MA} {F:List D→HD→Out D}
def MU (g2:MS) (Q:Fl×Ai→HD→Prop) (R:Str→List (Str×D)→HD→Prop):Fl×Ai→HD→Prop
 |(.nx,ρ),h=>We (g2 ρ h) Q R
 |y,h=>Q y h
@[simp] theorem ZcE:MU g2 Q R (.nx,ρ) h=We (g2 ρ h) Q R:=rfl
@[simp] theorem ZcF {d:D}:MU g2 Q R (.rt d,ρ) h=Q (.rt d,ρ) h:=rfl
@[simp] theorem ZcG:We (Ak g1 g2 ρ h) Q R=We (g1 ρ h) (MU g2 Q R) R:=by
  unfold Ak
  rw [CM]
  congr 1
  funext x h1
  obtain ⟨fl,ρ1⟩:=x
  cases fl<;>rfl
@[simp] theorem ZcH:We (Br ρ h) Q R=Q (.nx,ρ) h:=rfl
@[simp] theorem ZcI:We (Dj f ρ h) Q R=We (f ρ h) (fun _ h1=>Q (.nx,ρ) h1) R:=by unfold Dj;rw [CM];rfl
@[simp] theorem ZcJ:We (AM f ρ h) Q R=We (f ρ h) (fun d h1=>Q (.rt d,ρ) h1) R:=by unfold AM;rw [CM];rfl
@[simp] theorem ZcK {i:Nat}:We (AA i f ρ h) Q R=We (f ρ h) (fun d h1=>Q (.nx,ρ.set i (some d)) h1) R:=by unfold AA;rw [CM];rfl
@[simp] theorem ZcL:We (Bo t g1 g2 ρ h) Q R=We (t ρ h) (fun b h1=>We (if b=true then g1 ρ h1 else g2 ρ h1) Q R) R:=by unfold Bo;rw [CM]
@[simp] theorem ZcM:We (Ag F fa ρ h) QD R=We (fa ρ h) (fun ds h1=>We (F ds h1) QD R) R:=by unfold Ag;rw [CM]
@[simp] theorem ZcN {n:Str}:We (HB n fa ρ h) Q R=We (fa ρ h) (fun xs h1=>We (if xs.length≤sizeLine then (.err (D7 n) [] h1:Out (Fl×Ai)) else .stuck) Q R) R:=by unfold HB;rw [CM]
@[simp] theorem ZcO:We (CW t ρ h) QB R=We (t ρ h) (fun b h1=>QB (!b) h1) R:=by unfold CW;rw [CM];rfl
@[simp] theorem ZcP {u:MT}:We (JW t u ρ h) QB R=We (t ρ h) (fun b h1=>We (if b=true then u ρ h1 else .ok false h1) QB R) R:=by unfold JW;rw [CM]
@[simp] theorem ZcQ {u:MT}:We (DU t u ρ h) QB R=We (t ρ h) (fun b h1=>We (if b=true then .ok true h1 else u ρ h1) QB R) R:=by unfold DU;rw [CM]
@[simp] theorem ZcR:We (CA f ρ h) QB R=We (f ρ h) (fun x h1=>We (Ew x h1) QB R) R:=by unfold CA;rw [CM]
@[simp] theorem ZcS:We (Bk f ρ h) QB R=We (f ρ h) (fun x h1=>We (IB x h1) QB R) R:=by unfold Bk;rw [CM]
@[simp] theorem ZcT {QA:List D→HD→Prop}:We (Ae ρ h) QA R=QA [] h:=rfl
@[simp] theorem ZcU {QA:List D→HD→Prop}:We (Aa f fa ρ h) QA R=We (f ρ h) (fun x h1=>We (fa ρ h1) (fun xs h2=>QA (x::xs) h2) R) R:=by
  unfold Aa;simp only [CM];rfl
@[simp] theorem ZcV {d:D} {r:Ai}:We (Ab 0 (some d::r) h) QD R=QD d h:=rfl
@[simp] theorem ZcW {i:Nat} {x:Option D} {r:Ai}:We (Ab (i+1) (x::r) h) QD R=We (Ab i r h) QD R:=rfl
@[simp] theorem ZcX {d:D}:We (mC d ρ h) QD R=QD d h:=rfl
@[simp] theorem ZcY {op:D→D→HD→Out D} {f':ME}:We (Ah op f f' ρ h) QD R=We (f ρ h) (fun x h1=>We (f' ρ h1) (fun y h2=>We (op x y h2) QD R) R) R:=by unfold Ah;simp only [CM]
@[simp] theorem ZcZ {fj:MJ}:We (MN fj ρ h) QD R=We (fj Str.empty ρ h) (fun x h1=>QD (.str x) h1) R:=by unfold MN;rw [CM];rfl
end
def Et {α:Type} (o:Out α) (h:HD) (n:Str) (fs:List (Str×D)):Prop:=We o (fun _ _=>False) fun n' fs' h'=>n'=n∧fs'=fs∧Sm h h'
theorem Et.we {α:Type} {o:Out α} {h:HD} {n:Str} {fs:List (Str×D)} {Q:α→HD→Prop} {R:Str→List (Str×D)→HD→Prop} (e:Et o h n fs) (k:∀h',Sm h h'→R n fs h'):We o Q R:=We.mono e (fun _ _ z=>z.elim) fun n' fs h' z1_=>by obtain ⟨rfl,rfl,s⟩:=z1_;exact k h' s
theorem Qn {cs:List Nat} {Fk:List D→HD→Out D} {f:ME} {ρ:Ai} {h:HD} {ds:List D} {Q:D→HD→Prop} (ht:h[0]?=some .tab) (hd:Ax (cs.map fun j=>(ρ[j]?).join)=some ds)
 (q:We (f (ds.map some) h) (fun _ h1=>Q (.str "told") h1) fun n fs h1=>n∈excNames∧∃is,Fm fs=some is∧Wp (Fk [.exc n is] h1) Q):Wp (De cs Fk f ρ h) Q:=by
 unfold De
 rw [ht,hd]
 simp only
 unfold MM
 cases o:f (ds.map some) h with
 |ok a h1=>rw [o] at q;exact q
 |stuck=>rw [o] at q;exact q.elim
 |err C fs h1=>
  rw [o] at q
  cases C with
  |str n t=>
   obtain ⟨hn,is,hi,hk⟩:=(show n∈excNames∧∃is,Fm fs=some is∧Wp (Fk [.exc n is] h1) Q from q)
   simp only [hn,if_true,hi]
   cases e:Fk [.exc n is] h1 with
   |ok d h2=>rw [e] at hk;exact hk
   |_=>rw [e] at hk;exact hk.elim
  |_=>exact q.elim
def Rp (n L:Nat) (d:D):Prop:=∃p:PyData,(∀(h:HD) (m:Nat),AL h (n+m) d=some p)∧p.showable=true∧p.hasDict=false∧p.depth≤n∧p.shown.length≤L
theorem MV {n L:Nat}:∀{ds:List D},(∀d∈ds,Rp n L d)→∃ps:List PyData,(∀(h:HD) (m:Nat),Ax (ds.map (AL h (n+m)))=some ps)∧PyData.showableAll ps=true∧PyData.hasDictAll ps=false∧PyData.depthAll ps≤n∧ps.length=ds.length∧∀t∈PyData.shownAll ps,t.length≤L
 |[],_=>⟨[],fun _ _=>rfl,rfl,rfl,Dv _,rfl,fun t ht=>by cases ht⟩
 |d::ds,hd=>by
  obtain ⟨p,a1,a2,a3,a4,a5⟩:=hd d AO
  obtain ⟨ps,b1,b2,b3,b4,b5,b6⟩:=MV (fun x hx=>hd x (A1 _ hx))
  refine ⟨p::ps,fun h m=>?_,by simp [PyData.showableAll,a2,b2],by simp [PyData.hasDictAll,a3,b3],by simp only [PyData.depthAll];omega,by simp [b5],fun t ht=>?_⟩
  ·rw [Bn,a1 h m]
   simp only [Ax,b1 h m]
   rfl
  ·simp only [PyData.shownAll] at ht
   rcases qa8.mp ht with e |e
   ·rw [e];exact a5
   ·exact b6 t e
theorem Qo {L:Nat}:∀{ts:List Str},(∀t∈ts,t.length≤L)→piled ts≤ts.length*(L+2)
 |[],_=>by simp [piled]
 |t::ts,h=>by
  have h1:=h t AO
  have h2:=Qo (fun x hx=>h x (A1 _ hx)) (ts:=ts) (L:=L)
  simp only [piled] at *
  simp [Io]
  omega
theorem MW:∀{ps:List PyData},(PyData.shownAll ps).length=ps.length
 |[]=>rfl
 |p::ps=>by simp [PyData.shownAll,MW (ps:=ps)]
theorem Xq {n L k:Nat} {ds:List D} (h:∀d∈ds,Rp n L d) (hk:ds.length≤k):Rp (n+1) (k*(L+2)+3) (.tup ds):=by
 obtain ⟨ps,b1,b2,b3,b4,b5,b6⟩:=MV h
 refine ⟨.tuple ps,fun h m=>?_,by simpa [PyData.showable] using b2,by simpa [PyData.hasDict] using b3,by simp only [PyData.depth];omega,?_⟩
 ·rw [show n+1+m=(n+m)+1 by omega]
  simp only [AL,b1 h m]
  rfl
 ·simp only [PyData.shown,tupleText]
  have hl:(PyData.shownAll ps).length=ds.length:=by rw [MW,b5]
  have hj:(Str.join ", " (PyData.shownAll ps)).length≤k*(L+2):=by
   by_cases he:PyData.shownAll ps=[]
   ·rw [he];exact Dv _
   ·have h1:=join_length_add _ he
    have h2:=Qo b6
    have h3:(PyData.shownAll ps).length*(L+2)≤k*(L+2):=Lm _ (by rw [hl];exact hk)
    omega
  rw [strLen_append,strLen_append]
  have e1:((("(":String):Str)).length=1:=rfl
  have e2:(((if (PyData.shownAll ps).length==1 then ",)" else ")":String):Str)).length≤2:=by split<;>decide
  omega
theorem Xr {n L:Nat} {d:D} (h:Rp n L d) (hn:n≤8) (hl:L≤sizeLine):∃x:Str,∀hd,BX d hd=.ok (.str x) hd:=by
 obtain ⟨p,a1,a2,a3,a4,a5⟩:=h
 refine ⟨p.shown,fun hd=>?_⟩
 have e:=a1 hd (8 - n)
 rw [show n+(8 - n)=8 by omega] at e
 unfold BX
 rw [e]
 simp only
 rw [if_pos ⟨a2,a3,by omega,BK a5 hl⟩]
theorem Xs {i:Int} (h1:0≤i) (h2:i<10):Rp 0 2 (.int i):=by
 refine ⟨.int i,fun h m=>by cases m<;>rfl,?_,rfl,by simp [PyData.depth],?_⟩
 ·obtain ⟨k,rfl⟩:∃k:Nat,i=(k:Int):=⟨i.toNat,by omega⟩
  have hk:k<10:=by omega
  match k,hk with
  |0,_=>decide
  |1,_=>decide
  |2,_=>decide
  |3,_=>decide
  |4,_=>decide
  |5,_=>decide
  |6,_=>decide
  |7,_=>decide
  |8,_=>decide
  |9,_=>decide
 ·obtain ⟨k,rfl⟩:∃k:Nat,i=(k:Int):=⟨i.toNat,by omega⟩
  have hk:k<10:=by omega
  match k,hk with
  |0,_=>decide
  |1,_=>decide
  |2,_=>decide
  |3,_=>decide
  |4,_=>decide
  |5,_=>decide
  |6,_=>decide
  |7,_=>decide
  |8,_=>decide
  |9,_=>decide
section
variable {h:HD} {i j:Int} {ds:List D} {a b:D} {l:Nat} {x y:Str}
@[simp] theorem Zc0:BH (.str x) (.str y) h=.ok (.bl (!(x==y))) h:=rfl
@[simp] theorem Zc1:Ck (.str x) (.str y) h=.ok (.bl (x==y)) h:=rfl
@[simp] theorem Zc2:BH (.int i) (.int j) h=.ok (.bl (!(i==j))) h:=rfl
@[simp] theorem Xu:Ck (.int i) (.int j) h=.ok (.bl (i==j)) h:=rfl
@[simp] theorem Zc3 {c d:Bool}:BH (.bl c) (.bl d) h=.ok (.bl (!(c==d))) h:=rfl
@[simp] theorem Zc4 {c d:Bool}:Ck (.bl c) (.bl d) h=.ok (.bl (c==d)) h:=rfl
@[simp] theorem Zc5 {es:List D}:BH (.tup ds) (.tup es) h=Ez (.tup ds) (.tup es) h:=rfl
@[simp] theorem Zc6 {es:List D}:Ck (.tup ds) (.tup es) h=IE (.tup ds) (.tup es) h:=rfl
@[simp] theorem Zc7:Cj (.int i) (.int j) h=Dm (.int i) (.int j) h:=rfl
@[simp] theorem Xv:Cj (.loc l) b h=Dm (.loc l) b h:=rfl
@[simp] theorem Zc8:AR (.int i) b h=BA (.int i) b h:=rfl
@[simp] theorem Zc9 {c:Bool}:AR (.bl c) b h=BA (.bl c) b h:=rfl
@[simp] theorem Zda:AR .non b h=BA .non b h:=rfl
@[simp] theorem Zdb:AR (.str x) b h=BA (.str x) b h:=rfl
@[simp] theorem Zdc:AR (.tup ds) b h=BA (.tup ds) b h:=rfl
@[simp] theorem Xw:AR (.loc l) b h=BA (.loc l) b h:=rfl
@[simp] theorem Zdd {c:Bool}:BA (.bl c) (.ty "int") h=.ok (.bl true) h:=rfl
@[simp] theorem Zde {c:Bool}:BA (.bl c) (.ty "bool") h=.ok (.bl true) h:=rfl
@[simp] theorem Zdf {c:Bool}:BA (.bl c) (.ty "tuple") h=.ok (.bl false) h:=rfl
@[simp] theorem Zdg:BA .non (.ty "int") h=.ok (.bl false) h:=rfl
@[simp] theorem Zdh:BA .non (.ty "tuple") h=.ok (.bl false) h:=rfl
@[simp] theorem Zdi:BA (.str x) (.ty "int") h=.ok (.bl false) h:=rfl
@[simp] theorem Zdj:BA (.str x) (.ty "tuple") h=.ok (.bl false) h:=rfl
theorem Xx (e:h[l]?=some (.lst ds)):BA (.loc l) (.ty "int") h=.ok (.bl false) h:=by
 simp only [BA,DY,e];rfl
theorem Xy (e:h[l]?=some (.lst ds)):BA (.loc l) (.ty "tuple") h=.ok (.bl false) h:=by
 simp only [BA,DY,e];rfl
@[simp] theorem Zdk:AR .edic (.ty "int") h=.ok (.bl false) h:=rfl
@[simp] theorem Zdl:AR .edic (.ty "tuple") h=.ok (.bl false) h:=rfl
theorem EK {n n':Str} {fs:List (Str×Int)} (h1:n∈excNames) (h2:n'∈excNames):AR (.exc n fs) (.glo n') h=.ok (.bl (BG n n')) h:=if_pos ⟨h1,h2⟩
theorem Xz {n:Str} {fs:List (Str×Int)} (h1:n∈excNames):AR (.exc n fs) (.ty "ValueError") h=.ok (.bl true) h:=if_pos ⟨h1,rfl⟩
@[simp] theorem Zdm {ρ:Ai} {c d:D} {i j k l:Nat}:Gq [i,j,k,l] (.tup [a,b,c,d]) ρ=some ((((ρ.set i (some a)).set j (some b)).set k (some c)).set l (some d)):=rfl
theorem XA (hz:x.length+y.length≤1000):Aq (.str x) (.str y) h=.ok (.str (x++y)) h:=by
 simp only [Aq]
 rw [if_pos (by unfold sizeLine;omega)]
theorem HM {xs ys:List D} {k:Nat} (e1:h[l]?=some (.lst xs)) (e2:h[k]?=some (.lst ys)):Aq (.loc l) (.loc k) h=Cp (xs++ys) h:=by simp only [Aq,e1,e2]
theorem XB {vs:List V} {w:V} (e:h[l]?=some (.lst ds)) (e1:Ax (ds.map Cq)=some vs) (e2:Cq a=some w):Gn (.loc l) a h=.ok (.int (HH w vs)) h:=by
 simp only [Gn,CB,e,Out.bind_ok,HI,BD,e1,e2]
theorem XC {vs:List V} {w:V} {j:Nat} (e:h[l]?=some (.lst ds)) (e1:Ax (ds.map Cq)=some vs) (e2:Cq a=some w) (e3:KG w vs=some j):Gp (.loc l) a h=.ok (.int j) h:=by
 simp only [Gp,e,e1,e2,e3]
@[simp] theorem Zdn {chk:D→HD→Out D} {op:D→D→HD→Out D} {f g:ME} {ρ:Ai} {Q:D→HD→Prop}:Wp (HG chk op f g ρ h) Q=Wp (f ρ h) fun x h1=>Wp (chk x h1) fun x h2=>Wp (g ρ h2) fun y h3=>Wp (op x y h3) Q:=by unfold HG;simp only [AC]
@[simp] theorem sz6:(6≤sizeLine)=True:=eq_true (by unfold sizeLine;omega)
@[simp] theorem sz7:(7≤sizeLine)=True:=eq_true (by unfold sizeLine;omega)
@[simp] theorem sz8:(8≤sizeLine)=True:=eq_true (by unfold sizeLine;omega)
@[simp] theorem sz9:(9≤sizeLine)=True:=eq_true (by unfold sizeLine;omega)
@[simp] theorem Zdo:(10≤sizeLine)=True:=eq_true (by unfold sizeLine;omega)
theorem Qp {k:Nat} (hne:ds≠[]) (hz:ds.length*k≤1000) (hk:1<k:=by decide):Cj (.tup ds) (.int (k:Nat)) h=.ok (.tup (List.replicate k ds).flatten) h:=by
 simp only [Cj]
 have h1:k≤1000:=by
  have:1≤ds.length:=by
   cases ds with
   |nil=>exact absurd rfl hne
   |cons _ _=>simp
  have:=Lm k this
  omega
 rw [if_pos ⟨hne,by omega,by omega,by simp;unfold sizeLine;omega⟩]
 simp
end
section
variable {ρ:Ai} {h:HD} {Q:Str→HD→Prop} {R:Str→List (Str×D)→HD→Prop} {acc y:Str} {r:MJ} {f:ME} {n:Nat} {i:Int}
end
end LS
namespace LS
open PySem PySem.Spec PyProof.Rows L2 PySem.W
section
variable {X:Cx} {E:XK}
def HN:D→HD→Out D:=fun x h=>match BD x h with
 |some ds=>Cp ds h
 |none=>.stuck
theorem Qq:CI X (.type "list") (Am HN):=by
 refine ⟨_,UQ,fun m H h E ds vs Q hr r q=>FL r q fun d v ev rv q=>?_⟩
 unfold HN at q
 split at q
 ·rename_i ds' e
  obtain ⟨p,ws,rfl,hs,dv⟩:=J9 hr rv e
  exact ⟨p,ws,ev,hs,(Hm hr dv q).2⟩
 ·exact q.elim
theorem Qr {pos:Pos}:Ev X E (.Dict [] [] pos) (mC .edic):=fun pins s σ H Q I z1_=>by
 obtain ⟨m,ρ,h,hr,er,p⟩:=z1_
 have hf:H s.heap.objs.size=none:=I.hok.fresh (AK _)
 refine wpAny_Dict_empty ⟨.ref s.heap.objs.size,An H s.heap.objs.size (.ext (LO s.heap.objs.size)),I.laid (t':=s.toks) (fun _ _ q=>AE _ q) (AK _) ?_,rfl,?_⟩
 ·have ne:s.heap.objs.size≠sysModules:=by
   obtain ⟨og,_,_,eg,_⟩:=I.ok.mod.glob
   obtain ⟨ml,⟨ol,_,_,el,_⟩,_⟩:=I.loc
   have h1:(3:Nat)<X.base.objs.size:=Av eg
   have h2:(X.env.locals:Nat)<s.heap.objs.size:=Av el
   have h3:X.base.objs.size≤X.s₀.heap.objs.size:=I.ok.bsz
   have h4:X.s₀.heap.objs.size≤(X.env.locals:Nat):=I.ok.above
   have h5:(1:Nat)<s.heap.objs.size:=AV (AV (show 1<4 by decide) h1) (BK h3 (BK h4 (E7 h2)))
   exact fun z=>B2 h5 z
  exact ⟨⟨ne,_,_,Bp _ rfl,⟨rfl,rfl,rfl⟩,rfl⟩,⟨_,Bp _ rfl⟩,fun h1 h2 z2_ k=>by obtain ⟨ne,o,ep,z1,z2⟩:=z2_;exact (⟨ne,o,ep,k o z1,z2⟩)⟩
 ·exact p (.ref s.heap.objs.size) m _ (AG _) (.new hf) (hr.new hf) (by simp only [rD,DV];exact ⟨_,rfl,B3⟩)
def Zdp (T:List (Str×(List D→HD→Out D))) (fv:ME) (fa:MA):ME:=fun ρ h=>(fv ρ h).bind fun d h1=>match d with
 |.glo n=>(match T.lookup n with
  |some F=>(fa ρ h1).bind F
  |none=>.stuck)
 |_=>.stuck
def Zdq (P:Program) (w:World) (K:Frag) (mg:Str→Option Value) (base:Heap) (k:Nat) (T:List (Str×(List D→HD→Out D))):Prop:=∀n F,T.lookup n=some F→CaE P w K mg base n k F
theorem CaE.mono {P:Program} {w:World} {K:Frag} {mg:Str→Option Value} {base:Heap} {x:Str} {j k:Nat} {F:List D→HD→Out D} (C:CaE P w K mg base x j F) (h:j≤k):CaE P w K mg base x k F:=by
 obtain ⟨f,fd,ps,G,r⟩:=C.ex
 exact ⟨f,fd,ps,G.mono h,r⟩
end
def Zdr (K:Frag) (c:Addr):Bool:=match tabP K with
 |some (c',T)=>c'==c&&codeHdIn K c T
 |none=>false
section
variable {prog:Program} {w:World} {A:Around} {E:Str→Value→Shared→Prop}
end
section
variable {X:Cx} {E:XK}
def XE (K:PySem.W.Frag):V→Option Int→Option Int→Hp→VK→Prop:=fun x lo hi H Q=>∃a xs,x=.ref a∧SqT K H a xs∧HT.sIx xs.length 0 lo=0∧HT.sIx xs.length xs.length hi=xs.length∧Q (.ref a) H
theorem sl_whole:SlR X (XE X.K):=by
 rintro pins s σ H x v vl vu lo hi sl Q I rx hs pl pu ⟨a,xs,rfl,hx,w0,w1,q⟩
 cases rx
 obtain ⟨its,r,ht,hz⟩:=I.tuple hx
 have hl:its.toArray.size=xs.length:=by rw [A9];exact r.length.symm
 rw [←hl] at w0 w1
 obtain ⟨os,hos,hcs,hds⟩:=id hs
 refine ⟨"tuple",_,slot_tuple_getitem.lookup,ht.typeIs,?_⟩
 unfold getItem
 try with_reducible refine wpAny_holding ?_
 first |refine wpAny_bind (wpAny_pure ?_) |skip
 refine wpAny_bind (wpAny_sequenceKey ht.typeIs (by decide) (wpAny_bind (wpAny_callSpecial?_slot (name:=Str.ofString "__getitem__") ht.typeIs slot_tuple_getitem
  (wpAny_call_entry slot_tuple_getitem ht.typeIs entry_tuple_getitem ?_ (args_tuple_getitem _ _)))))
 show wpAny _ _ (Builtin.Tuple.tupleItemsOf (.ref a) >>=_) _ _ s
 refine wpAny_bind (tupleItemsOf_ ht (wpAny_bind (wpAny_typeOf (show s.TypeIs (.ref sl) "slice" from ⟨os,hos,hcs⟩) ?_)))
 rw [if_pos (by decide)]
 refine wpAny_bind (HT.sliceApplied_gen hs pl pu ?_)
 have hy:(((HT.sIx its.toArray.size 0 lo:Nat):Int)==0&&(1:Int)==1&&(HT.sIx its.toArray.size its.toArray.size hi - HT.sIx its.toArray.size 0 lo)==its.toArray.size)=true:=by
  rw [w0,w1]
  simp
 show wpAny _ _ (if (((HT.sIx its.toArray.size 0 lo:Nat):Int)==0&&(1:Int)==1&&(HT.sIx its.toArray.size its.toArray.size hi - HT.sIx its.toArray.size 0 lo)==its.toArray.size)=true then _ else _) _ _ s
 rw [if_pos hy]
 unfold Builtin.Tuple.tupleIsExact
 refine wpAny_bind (wpAny_bind (wpAny_typeOf ht.typeIs (wpAny_pure ?_)))
 rw [if_pos (by decide)]
 refine wpAny_bind (wpAny_rule ?_)
 have fin:EP X pins σ Q (.ref a) s:=⟨.ref a,H,I,rfl,q⟩
 first
  |exact wpAny_pure ⟨_,rfl,wpAny_pure fin⟩
  |exact wpAny_pure fin
def Fo (x:D) (lo hi:Option Int) (h:HD):Out D:=match x with
 |.tup xs=>.ok (.tup (FT xs lo hi)) h
 |_=>.stuck
def Df (f:ME) (lo hi:MO):ME:=fun ρ h=>(f ρ h).bind fun x h1=>(lo ρ h1).bind fun l h2=>(hi ρ h2).bind fun u h3=>Fo x l u h3
theorem XF {α:Type} {xs:List α} {lo hi:Option Int} (h0:HT.sIx xs.length 0 lo=0) (h1:HT.sIx xs.length xs.length hi=xs.length):(xs.drop (HT.sIx xs.length 0 lo)).take (HT.sIx xs.length xs.length hi - HT.sIx xs.length 0 lo)=xs:=by
 rw [h0,h1];simp
theorem Fp {e:Expr} {lo hi:Option Expr} {f:ME} {fl fh:MO} {p2 pos:Pos} (he:Ev X E e f) (hl:Ky X E lo fl) (hu:Ky X E hi fh):Ev X E (.Subscript e (.Slice lo hi none p2) pos) (Df f fl fh):=
 B4 (UC (sl_whole.or UF) he hl hu) fun σ H Q ⟨m,ρ,h,hr,er,p⟩=>⟨m,ρ,h,hr,er,Post.bind p fun x h1 v m1 H1 eo1 p1 k1 hr1 r1 q1=>
  ⟨m1,ρ,h1,hr1,er.keep p1 k1,Post.bind q1 fun l h2 l' m2 H2 eo2 p2 k2 hr2 r2 q2=>
   ⟨m2,ρ,h2,hr2,(er.keep p1 k1).keep p2 k2,Post.bind q2 fun u h3 u' m3 H3 eo3 p3 k3 hr3 r3 q3=>by
    clear eo1 eo2 eo3
    subst r2 r3
    have rx:=DV.keep p3 k3 (DV.keep p2 k2 r1)
    unfold Fo at q3
    split at q3
    ·rename_i xs
     have rx0:=rx
     simp only [DV] at rx
     obtain ⟨a,vs,rfl,ha,dv⟩:=rx
     by_cases hz:HT.sIx xs.length 0 l=0∧HT.sIx xs.length xs.length u=xs.length
     ·refine .inl ⟨a,vs,rfl,SqT.of ha,by rw [←dv.len];exact hz.1,by rw [←dv.len];exact hz.2,?_⟩
      have e:FT xs l u=xs:=XF hz.1 hz.2
      rw [e] at q3
      exact q3 (.ref a) m3 H3 (AG _) (.refl _) hr3 rx0
     ·rw [dv.len] at hz
      exact .inr ⟨a,vs,rfl,SqT.of ha,hz,Hl hr3 (dv.cut l u) q3⟩
    ·exact q3.elim⟩⟩⟩
theorem KJ {xs:List D} {k:Nat} {h:HD} (hk:k≤xs.length):Fo (.tup xs) none (some (k:Int)) h=.ok (.tup (xs.take k)) h:=by
 simp only [Fo]
 unfold FT
 rw [HT.sIx_nat,HT.sIx_none,List.drop_zero,show min k xs.length - 0=k from by omega]
theorem KL {xs:List D} {k:Nat} {i:Int} {h:HD} (hi:i=((k+1:Nat):Int)) (hk:k<xs.length):Fo (.tup xs) (some i) none h=.ok (.tup (xs.drop (k+1))) h:=by
 subst hi
 simp only [Fo]
 unfold FT
 rw [HT.sIx_nat,HT.sIx_none,show min (k+1) xs.length=k+1 from by omega]
 congr 2
 exact List.take_of_length_le (by simp)
theorem XG {xs:List D} {h:HD} (hk:1≤xs.length):Fo (.tup xs) none (some (-1)) h=.ok (.tup (xs.take (xs.length - 1))) h:=by
 have e:HT.sIx xs.length xs.length (some (-1))=xs.length - 1:=by
  simp only [HT.sIx]
  rw [if_pos (by decide)]
  omega
 simp only [Fo]
 unfold FT
 rw [e,HT.sIx_none,List.drop_zero,Nat.sub_zero]
end
section
variable {f:ME} {lo hi:MO} {ρ:Ai} {h:HD} {Q:D→HD→Prop}
@[simp] theorem Zds:Wp (Df f lo hi ρ h) Q=Wp (f ρ h) fun x h1=>Wp (lo ρ h1) fun l h2=>Wp (hi ρ h2) fun u h3=>Wp (Fo x l u h3) Q:=by unfold Df;simp only [AC]
end
section
variable {K:Frag} {mg:Str→Option Value} {h:Heap}
theorem XH {us:List Value} (h:us.length=0):us=[]:=List.length_eq_zero_iff.mp h
theorem Qs {us:List Value} (h:us.length=1):∃v0,us=[v0]:=by
 cases us with
 |nil=>cases h
 |cons v t=>
  obtain rfl:=XH (Nat.succ.inj h)
  exact ⟨v,rfl⟩
theorem Qt {us:List Value} (h:us.length=2):∃v0 v1,us=[v0,v1]:=by
 cases us with
 |nil=>cases h
 |cons v t=>
  obtain ⟨w0,rfl⟩:=Qs (Nat.succ.inj h)
  exact ⟨v,w0,rfl⟩
theorem XI {us:List Value} (h:us.length=3):∃v0 v1 v2,us=[v0,v1,v2]:=by
 cases us with
 |nil=>cases h
 |cons v t=>
  obtain ⟨w0,w1,rfl⟩:=Qt (Nat.succ.inj h)
  exact ⟨v,w0,w1,rfl⟩
theorem DM {x p0:Str} {st:Stmt} {f:Addr} {oc:Value} {od an:Option Addr} {osl:Array (Option Value)} {kV doc pm cdv ct:Value} (X:K.In h) (G:h.Ns mainGlobals mg) (l:K.lookup f=some ⟨oc,od,.func (fnOf x x (defArgs st) (defBody st) (defScope st) .none kV doc pm an cdv ct),osl⟩) (c:codeIn K cdv x=true) (k:keepIn K (.ref f)=true) (a:nsIn K mainGlobals x=some (some (.ref f)))
 (b:∀(kV doc pm:Value) (an:Option Addr) (cdv ct v0:Value),bindArgs (fnOf x x (defArgs st) (defBody st) (defScope st) .none kV doc pm an cdv ct) ⟨[v0],[]⟩=pure (([p0]:List Str).zip [v0])):Dn K mg x [p0] st f (fnOf x x (defArgs st) (defBody st) (defScope st) .none kV doc pm an cdv ct):=
 ⟨He l c k,(He l c k).binds (fun kV doc pm an cdv ct us hl=>by obtain ⟨v0,rfl⟩:=Qs hl;exact b kV doc pm an cdv ct v0),mg_of X G a⟩
theorem Fq {x p0 p1:Str} {st:Stmt} {f:Addr} {oc:Value} {od an:Option Addr} {osl:Array (Option Value)} {kV doc pm cdv ct:Value} (X:K.In h) (G:h.Ns mainGlobals mg) (l:K.lookup f=some ⟨oc,od,.func (fnOf x x (defArgs st) (defBody st) (defScope st) .none kV doc pm an cdv ct),osl⟩) (c:codeIn K cdv x=true) (k:keepIn K (.ref f)=true) (a:nsIn K mainGlobals x=some (some (.ref f)))
 (b:∀(kV doc pm:Value) (an:Option Addr) (cdv ct v0 v1:Value),bindArgs (fnOf x x (defArgs st) (defBody st) (defScope st) .none kV doc pm an cdv ct) ⟨[v0,v1],[]⟩=pure (([p0,p1]:List Str).zip [v0,v1])):Dn K mg x [p0,p1] st f (fnOf x x (defArgs st) (defBody st) (defScope st) .none kV doc pm an cdv ct):=
 ⟨He l c k,(He l c k).binds (fun kV doc pm an cdv ct us hl=>by obtain ⟨v0,v1,rfl⟩:=Qt hl;exact b kV doc pm an cdv ct v0 v1),mg_of X G a⟩
theorem Jc {x p0 p1 p2:Str} {st:Stmt} {f:Addr} {oc:Value} {od an:Option Addr} {osl:Array (Option Value)} {kV doc pm cdv ct:Value} (X:K.In h) (G:h.Ns mainGlobals mg) (l:K.lookup f=some ⟨oc,od,.func (fnOf x x (defArgs st) (defBody st) (defScope st) .none kV doc pm an cdv ct),osl⟩) (c:codeIn K cdv x=true) (k:keepIn K (.ref f)=true) (a:nsIn K mainGlobals x=some (some (.ref f)))
 (b:∀(kV doc pm:Value) (an:Option Addr) (cdv ct v0 v1 v2:Value),bindArgs (fnOf x x (defArgs st) (defBody st) (defScope st) .none kV doc pm an cdv ct) ⟨[v0,v1,v2],[]⟩=pure (([p0,p1,p2]:List Str).zip [v0,v1,v2])):Dn K mg x [p0,p1,p2] st f (fnOf x x (defArgs st) (defBody st) (defScope st) .none kV doc pm an cdv ct):=
 ⟨He l c k,(He l c k).binds (fun kV doc pm an cdv ct us hl=>by obtain ⟨v0,v1,v2,rfl⟩:=XI hl;exact b kV doc pm an cdv ct v0 v1 v2),mg_of X G a⟩
theorem SaidD.of {st:Stmt} {f:Addr} {fd:FuncData} (d:Dn K mg "_law_said" ["_law_call"] st f fd):SaidD K mg st f fd:=⟨d.fn,d.bd,d.mg⟩
end
open AutoSeq1 (wpAny_loadPart')
section
variable {prog:Program} {w:World} {A:Around} {E:Value→Shared→Prop} {s:Shared}
end
def Qu (r:Addr) (n:Nat) (h:Heap):Prop:=∃t u v,IsRange h r 0 (n:Int) 1 t u v
section
variable {X:Cx} {E:XK}
inductive XJ (vs:List V) (H:Hp) (Q:VK):Prop where
 |mk (n:Nat) (e:vs=[.int (n:Int)]) (hn:n≤1000) (q:∀p,H p=none→Q (.ref p) (An H p (.ext (Qu p n)))):XJ vs H Q
inductive XM (vs:List V) (H:Hp) (Q:VK):Prop where
 |mk (r:Addr) (n:Nat) (e:vs=[.ref r]) (hr:H r=some (.ext (Qu r n))) (hn:n≤1000) (q:∀p,H p=none→Q (.ref p) (An H p (.tup ((List.range n).map fun i=>V.int ((i:Nat):Int))))):XM vs H Q
noncomputable def XN:D→HD→Out D:=fun d h=>match d with
 |.int i=>@ite _ (0≤i∧i≤1000) (Classical.propDecidable _) (.ok (.tup ((List.range i.toNat).map fun k=>D.int ((k:Nat):Int))) h) .stuck
 |_=>.stuck
noncomputable def Zdt (f:ME):ME:=fun ρ h=>(f ρ h).bind XN
end
end LS
namespace LS
open PySem PySem.Spec PyProof.Rows L2 PySem.W
section
variable {X:Cx} {E:XK}
def XO:D→HD→Out D:=fun x h=>match x with
 |.tup _=>.ok x h
 |_=>.stuck
def Zdu:D→D→HD→Out D:=fun x y h=>(XO x h).bind fun _ _=>HI x y h
mutual
def MX:PyData→Bool
 |.list _=>false
 |.tuple xs=>MY xs
 |_=>true
def MY:List PyData→Bool
 |[]=>true
 |x::xs=>MX x&&MY xs
end
def MZ (h:HD):Nat→D→Option PyData
 |_,.non=>some .none
 |_,.bl b=>some (.bool b)
 |_,.int i=>some (.int i)
 |_,.str x=>some (.str x)
 |_,.edic=>some (.dict [])
 |n+1,.tup ds=>(Ax (ds.map (MZ h n))).map .tuple
 |n+1,.loc l=>match h[l]? with
  |some (.lst ds)=>(Ax (ds.map (MZ h n))).map .list
  |_=>none
 |_,_=>none
inductive XQ (h:Heap) (u:Value) (p:PyData):Prop where
 |mk (as:List Addr) (f1:Reads h u p as) (f2:MX p=true→sysModules∉as):XQ h u p
inductive XR (h:Heap) (us:List Value) (ps:List PyData):Prop where
 |mk (as:List Addr) (f1:ReadsAll h us ps as) (f2:MY ps=true→sysModules∉as):XR h us ps
variable {pins:List (Addr×Obj)} {σ:L2.St} {H:Hp} {s:Shared} {m:List Addr} {h:HD}
def Zdv:D→HD→Out D:=fun x h=>match MZ h 8 x with
 |some p=>if p.showable=true∧(p.hasDict=false∨MX p=true)∧p.depth≤40∧p.shown.length≤sizeLine then .ok (.str p.shown) h else .stuck
 |none=>.stuck
end
end LS
namespace HT
open PySem PyProof.Rows
def lexLe:List Int→List Int→Bool
 |[],[]=>true
 |[],_::_=>true
 |_::_,[]=>false
 |x::xs,y::ys=>if x=y then lexLe xs ys else decide (x≤y)
section
open PySem.SeqAt
open PySem.AutoSeq1 (wpAny_loadPart')
open PySem.MeetsSeq PySem.MeetsSeq2 PySem.MeetsSeq3
end
section
variable {prog:Program} {w:World} {A:Around} {E:Value→Shared→Prop} {s:Shared}
end
end HT
namespace L2
open PySem PySem.Spec PyProof.Rows
section
variable {X:Cx}
def Zdw (K:PySem.W.Frag):R2:=fun x y H Q=>∃a b ns ms,x=.ref a∧y=.ref b∧SqT K H a (ns.map V.int)∧SqT K H b (ms.map V.int)∧Q (.bl (HT.lexLe ns ms)) H
end
end L2
namespace LS
open PySem PySem.Spec PyProof.Rows L2
section
variable {X:Cx} {E:XK}
def Qv:D→Option (List Int)
 |.tup ds=>Ax (ds.map Gf)
 |_=>none
def Zdx (f:List Int→List Int→Bool):D→D→HD→Out D:=fun x y h=>match Qv x,Qv y with
 |some ns,some ms=>.ok (.bl (f ns ms)) h
 |_,_=>.stuck
end
section
variable {prog:Program} {w:World} {A:Around} {E:Value→Shared→Prop} {s:Shared}
end
section
variable {X:Cx} {E:XK} {e:Expr} {f:ME}
def XS:D→HD→Out D:=fun x h=>match x with
 |.tup ds=>.ok (.tup ds.reverse) h
 |_=>.stuck
def Zdy (f:ME):ME:=fun ρ h=>(f ρ h).bind XS
end
end LS
namespace LS
open PySem
section
variable {prog:Program} {w:World} {A:Around} {E:Value→Shared→Prop} {h:Heap} {g:Array GenState} {d:Drawn} {t:Nat} {os:OsState}
variable {nm q:Str} {C N:Addr} {bs bm bmB:List Value} {hdct:Bool} {sn:List Str} {sub:List Value} {ab:Bool} {col:Option Bool} {dd:Option Addr} {k0 k1 k2 k3 k5:Option Value} {B newId initId:String}
end
end LS
namespace LS
open PySem PySem.Spec PyProof.Rows L2
def Zdz (i j k:Nat):MG:=fun d ρ=>match d with
 |.tup [x,.tup [y,z]]=>some (((ρ.set i (some x)).set j (some y)).set k (some z))
 |_=>none
abbrev ZdA (K:PySem.W.Frag) (i j k:Nat):TG:=F6 K 2 (Dy (Co i) (Dy (F6 K 2 (Dy (Co j) (Dy (Co k) F5))) F5))
def CN (elt:Expr) (gens:List Comprehension) (scope:Scope) (pos:Pos) (d:Nat) (acc:Value) (env:Env):Sem Unit:=match gens[d+1]? with
 |some g=>eval g.iter env >>=fun x=>standAt g.iter.pos >>=fun _=>foldedSetIterable g.iter env x >>=fun y=>holding [y] (pyIter y) >>=fun it=>
  runOwn (.compStart (.ListComp elt gens scope pos) (d+1) it acc env) env >>=fun _=>pure ()
 |none=>eval elt env >>=fun x=>call (.builtin "list.append") [acc,x] >>=fun _=>pure ()
theorem XT {elt tg iter:Expr} {gens:List Comprehension} {ifs:List Expr} {scope:Scope} {pos:Pos} {d:Nat} {it acc:Value} {env:Env} (hg:gens[d]?=some ⟨tg,iter,ifs,0⟩) (ha:∀g,gens[d+1]?=some g→g.is_async=0):
 compTurn (.ListComp elt gens scope pos) d it acc env=standAt iter.pos >>=fun _=>pyNext it >>=fun r=>match r with
  |none=>pure (.done .next)
  |some v=>letOwnedTupleGo tg it v >>=fun _=>assign tg env v >>=fun _=>(forIn ifs true fun c r=>if r=true then do let ok ←isTrue c env (eval c env);pure (ForInStep.yield ok) else pure (ForInStep.yield r)) >>=fun ok=>
   if ok=true then CN elt gens scope pos d acc env >>=fun _=>again (.compLoop (.ListComp elt gens scope pos) d it acc env) else again (.compLoop (.ListComp elt gens scope pos) d it acc env):=by
 unfold compTurn CN
 simp only [hg]
 cases e:gens[d+1]? with
 |none=>rfl
 |some g=>
  obtain ⟨a,b,c,k⟩:=g
  have:k=0:=ha _ e
  subst this
  simp only [bind_assoc,pure_bind]
  rfl
section
variable {prog:Program} {w:World} {A:Around} {R:Result→Shared→Prop} {s:Shared} {elt tg iter:Expr} {gens:List Comprehension} {ifs:List Expr} {scope:Scope} {pos:Pos} {d:Nat} {it acc:Value} {env:Env}
theorem XU (hg:gens[d]?=some ⟨tg,iter,ifs,0⟩) (ha:∀g,gens[d+1]?=some g→g.is_async=0) (I:Nat→Shared→Prop)
 (turn:∀n s,I n s→wpAny (model prog w) A (pyNext it) (fun r s₁=>match r with
  |none=>R (.ok .next) s₁
  |some v=>wpAny (model prog w) A (letOwnedTupleGo tg it v) (fun _ s₁'=>wpAny (model prog w) A (assign tg env v) (fun _ s₂=>
   wpAny (model prog w) A (forIn ifs true fun c r=>if r=true then do let ok ←isTrue c env (eval c env);pure (ForInStep.yield ok) else pure (ForInStep.yield r)) (fun ok s₃=>
    if ok=true then wpAny (model prog w) A (CN elt gens scope pos d acc env) (fun _ s₅=>∃m,m<n∧I m s₅) (fun _ _=>False) s₃ else ∃m,m<n∧I m s₃) (fun _ _=>False) s₂) (fun _ _=>False) s₁') (fun _ _=>False) s₁) (fun _ _=>False) s)
 (n:Nat) (h:I n s):codeAny (model prog w) A (.compLoop (.ListComp elt gens scope pos) d it acc env) R s:=by
 refine codeAny_loop rfl I (fun n s hI=>?_) n h
 show wpAny _ A ((compTurn (.ListComp elt gens scope pos) d it acc env).onRaise (fun x=>do noteFrame x env;theTreesLotGoes x)) _ _ s
 refine wpAny_noted ?_
 rw [XT hg ha]
 refine wpAny_bind (wpAny_standAt (wpAny_bind (wpAny_mono (turn n s hI) (fun r s₁ h₁=>?_) fun _ _ h'=>h'.elim)))
 cases r with
 |none=>exact wpAny_pure h₁
 |some v=>
  refine wpAny_bind (wpAny_mono h₁ (fun _ s₁' h₁'=>?_) fun _ _ h'=>h'.elim)
  refine wpAny_bind (wpAny_mono h₁' (fun _ s₂ h₂=>wpAny_bind (wpAny_mono h₂ (fun ok s₃ h₃=>?_) fun _ _ h'=>h'.elim)) fun _ _ h'=>h'.elim)
  cases ok with
  |false=>exact wpAny_pure ⟨rfl,h₃⟩
  |true=>exact wpAny_bind (wpAny_mono h₃ (fun _ s₅ h₅=>wpAny_pure ⟨rfl,h₅⟩) fun _ _ h'=>h'.elim)
theorem Qw (hg:gens[d]?=some ⟨tg,iter,ifs,0⟩)
 (h0:codeAny (model prog w) A (.compLoop (.ListComp elt gens scope pos) d it acc env) R s)
 (h:wpAny (model prog w) A (pyIter it) (fun it' s'=>codeAny (model prog w) A (.compLoop (.ListComp elt gens scope pos) d it' acc env) R s') (fun _ _=>False) s):
 codeAny (model prog w) A (.compStart (.ListComp elt gens scope pos) d it acc env) R s:=by
 refine codeAny_of_tree ?_
 show wpAny _ _ ((compStart (.ListComp elt gens scope pos) d it acc env).onRaise (fun x=>do noteFrame x env;standAt theWindowsPlace)) _ _ s
 refine wpAny_notedAt ?_
 have hc:(clausesOf (.ListComp elt gens scope pos))[d]?=some ⟨tg,iter,ifs,0⟩:=hg
 unfold compStart
 rw [hc]
 show wpAny _ _ (ask >>=_) _ _ s
 refine wpAny_bind (wpAny_askSetting (wpAny_ite ?_))
 split
 ·first
   |exact wpAny_bind (wpAny_pure (wpAny_pure ⟨rfl,h0⟩))
   |exact wpAny_pure ⟨rfl,h0⟩
 ·refine wpAny_bind (wpAny_rule ?_)
  show wpAny _ _ (standAt iter.pos >>=_) _ _ s
  exact wpAny_bind (wpAny_standAt (wpAny_bind (wpAny_mono h (fun it' s' h'=>wpAny_pure ⟨rfl,h'⟩) fun _ _ x=>x.elim)))
end
abbrev Cs (its:List Value) (k:Nat):Obj:={cls:=.type "list",data:=.seq its.toArray k}
structure Gr (X:Cx) (D:Addr):Prop where
 lo:D≠X.env.locals
 ce:∀x c,X.env.cells.lookup x=some c→c≠D
 pn:∀p∈X.pn,p.1≠D
 ex:D∈X.ex
 fs:D∉X.fs
section
variable {X:Cx} {D:Addr} {its its':List Value} {k k':Nat} {rest:List (Addr×Obj)} {σ:L2.St} {H:Hp} {s:Shared} {h':Heap}
theorem Inv.repin (ao:Gr X D) (I:Inv X ((D,Cs its k)::rest) σ H s) (hr:∀p∈rest,p.1≠D) (sb:Heap.SameBut D s.heap h') (e:h'.get? D=some (Cs its' k')):Inv X ((D,Cs its' k')::rest) σ H {s with heap:=h'}:=by
 have hD:=(I.pin _ (BJ _ AO)).2.1
 have I1:Inv X rest σ H s:=I.pins_of fun p hp=>I.pin p (BJ _ (A1 _ hp))
 have I2:Inv X rest σ H {s with heap:=h'}:=I1.turned (t':=s.toks) (it:=D) (fun b o hb e=>(sb.2 b hb).trans e) hD ao.lo (.inl ao.ex) ao.ce fun p hp=>by
  rcases qaM.mp hp with z |z
  ·exact ao.pn p z
  ·exact hr p z
 refine I2.pins_of fun p hp=>?_
 rcases qa8.mp hp with rfl |z
 ·exact ⟨e,hD,ao.lo,ao.fs,fun v z=>by cases z⟩
 ·exact I2.pin p (BJ _ z)
def EM (X:Cx) (D:Addr) (em:Sem Unit) (te:L2.St→Hp→List V→(List V→Hp→Prop)→Prop):Prop:=
 ∀(rest:List (Addr×Obj)) (its:List Value) (k:Nat) (acc:List V) (σ:L2.St) (H:Hp) (s:Shared) (Q:List V→Hp→Prop),Inv X ((D,Cs its k)::rest) σ H s→(∀p∈rest,p.1≠D)→Vals acc its→te σ H acc Q→
  wpAny (model X.prog X.w) X.A em (fun _ s'=>∃its' k' acc' H',Inv X ((D,Cs its' k')::rest) σ H' s'∧Vals acc' its'∧Q acc' H') (fun _ _=>False) s
def Qx (te:TE):L2.St→Hp→List V→(List V→Hp→Prop)→Prop:=fun σ H acc Q=>acc.length<sizeLine∧te σ H fun y H'=>Q (acc++[y]) H'
theorem XW {elt:Expr} {gens:List Comprehension} {scope:Scope} {pos:Pos} {d:Nat} {te:TE} (ao:Gr X D) (xe:X.xe=fun _ _=>False) (hl:gens[d+1]?=none) (pe:PE X elt te):EM X D (CN elt gens scope pos d (.ref D) X.env) (Qx te):=by
 rintro rest its k acc σ H s Q I hr rv ⟨hz,h⟩
 unfold CN
 rw [hl]
 have z:=pe _ s σ H _ I h
 rw [xe] at z
 refine wpAny_bind (wpAny_mono z (fun y s1 z1=>?_) fun _ _ z=>z.elim)
 obtain ⟨yv,H1,I1,r1,q1⟩:=z1
 obtain ⟨ho,hD,_⟩:=I1.pin _ (BJ _ AO)
 have hlen:=rv.length
 refine wpAny_bind (wpAny_list_append_plain ⟨k,ho⟩ (fun h' z2 sb=>?_) (by rw [A9];omega))
 obtain ⟨k',hl'⟩:=z2
 refine wpAny_pure ⟨its++[y],k',acc++[yv],H1,Inv.repin ao I1 hr sb (by rw [hl'];simp [Cs]),rv.append (.cons r1 .nil),q1⟩
theorem XX {o o':Obj} {H':Hp} {b:Addr} (f:CH X ((D,o)::rest) H b) (n:H' b=none):CH X ((D,o')::rest) H' b:=by
 obtain ⟨_,f1,f2,f3,f4,f5⟩:=f
 refine ⟨n,f1,f2,f3,f4,fun p hp=>?_⟩
 rcases qaM.mp hp with z |z
 ·exact f5 p (G0 _ z)
 ·rcases qa8.mp z with rfl |z
  ·exact f5 (D,o) (BJ _ AO)
  ·exact f5 p (BJ _ (A1 _ z))
def Qy (wi:TI) (g:TG) (tc:TT) (te:L2.St→Hp→List V→(List V→Hp→Prop)→Prop):L2.St→Hp→List V→(List V→Hp→Prop)→Prop:=fun σ H acc Q=>wi σ H fun J H1=>∃W:Nat→Nat→List V→Hp→Prop,(∃n,W 0 n acc H1)∧∀i n acc H,W i n acc H→
 (J.stop i H∧Q acc H)∨
 (J.go i H∧∀x H',J.yld i H x H'→g x σ H' fun σ2 H2=>Sub σ σ2∧tc σ2 H2 fun b H3=>if b=true then te σ2 H3 acc fun acc' H4=>∃n',n' < n∧W (i+1) n' acc' H4 else ∃n',n' < n∧W (i+1) n' acc H3)
inductive M0 (X:Cx) (D:Addr) (rest:List (Addr×Obj)) (σ:L2.St) (W:Nat→Nat→List V→Hp→Prop) (tn:Nat→Heap→Prop) (fp:List Addr) (n:Nat) (s':Shared):Prop where
 |mk (i:Nat) (acc:List V) (H':Hp) (its:List Value) (k:Nat) (w:W i n acc H') (ii:Inv X ((D,Cs its k)::rest) σ H' s') (st:tn i s'.heap) (fr:∀b∈fp,H' b=none) (rv:Vals acc its):M0 X D rest σ W tn fp n s'
theorem Qz {elt tg iter:Expr} {gens:List Comprehension} {ifs:List Expr} {scope:Scope} {pos:Pos} {d:Nat} {g:TG} {tc:TT} {te:L2.St→Hp→List V→(List V→Hp→Prop)→Prop} {R:Result→Shared→Prop} {it:Addr} {fp:List Addr} {tn:Nat→Heap→Prop} {J:It} {W:Nat→Nat→List V→Hp→Prop} {QQ:List V→Hp→Prop}
 (xe:X.xe=fun _ _=>False) (xc:X.calm=true) (hg:gens[d]?=some ⟨tg,iter,ifs,0⟩) (ha:∀g,gens[d+1]?=some g→g.is_async=0) (pg:PG X tg g) (pt:Fc X ifs tc) (em:EM X D (CN elt gens scope pos d (.ref D) X.env) te)
 (T:FC X.prog X.w X.K tg J fp it tn) (f:∀b∈fp,∀o H',H' b=none→CH X ((D,o)::rest) H' b) (hr:∀p∈rest,p.1≠D)
 (turn:∀i n acc H,W i n acc H→(J.stop i H∧QQ acc H)∨
  (J.go i H∧∀x H',J.yld i H x H'→g x σ H' fun σ2 H2=>Sub σ σ2∧tc σ2 H2 fun b H3=>if b=true then te σ2 H3 acc fun acc' H4=>∃n',n' < n∧W (i+1) n' acc' H4 else ∃n',n' < n∧W (i+1) n' acc H3))
 (fin:∀its k acc H' s',Inv X ((D,Cs its k)::rest) σ H' s'→Vals acc its→QQ acc H'→R (.ok .next) s') (n:Nat) (h:M0 X D rest σ W tn fp n s):
 codeAny (model X.prog X.w) X.A (.compLoop (.ListComp elt gens scope pos) d (.ref it) (.ref D) X.env) R s:=by
 refine XU hg ha (M0 X D rest σ W tn fp) ?_ n h
 rintro n s5 ⟨i,acc,H5,its,k,w5,I5,Ei,fr5,rv5⟩
 have fk:∀{H':Hp},(∀b∈fp,H' b=none)→∀b∈fp,CH X ((D,Cs its k)::rest) H' b:=fun hn b hb=>f b hb _ _ (hn b hb)
 rcases turn i n acc H5 w5 with ⟨stop,qn⟩ |⟨go,step⟩
 ·refine wpAny_mono (T.done X rfl rfl rfl xc i _ s5 σ H5 (fun _ _=>False) I5 (fk fr5) Ei stop) (fun r s6 z=>?_) fun _ _ z=>z
  obtain ⟨rfl,I6⟩:=z
  exact fin its k acc H5 s6 I6 rv5 qn
 ·refine wpAny_mono (T.item X rfl rfl rfl xc i _ s5 σ H5 (fun _ _=>False) I5 (fk fr5) Ei go) (fun r s6 z=>?_) fun _ _ z=>z
  obtain ⟨u,rfl,h6⟩:=z
  refine wpAny_mono h6 (fun _ s7 z=>?_) fun _ _ z=>z
  obtain ⟨x,H7,I7,r7,y7,Fv,fr7⟩:=z
  have I7':Inv X ((D,Cs its k)::(rest++FD fp s7.heap)) σ H7 s7:=I7.pinned (fp:=fp) (fk fr7) (T.obj _ _ Fv)
  have hr':∀p∈rest++FD fp s7.heap,p.1≠D:=fun p hp=>by
   rcases qaM.mp hp with z |z
   ·exact hr p z
   ·obtain ⟨hb,_⟩:=Oe z
    exact Ne.symm ((f p.1 hb (Cs its k) H7 (fr7 p.1 hb)).2.2.2.2.2 (D,Cs its k) (BJ _ AO))
  have z2:=pg _ s7 σ H7 x u _ I7' r7 (step x H7 y7)
  rw [xe] at z2
  refine wpAny_mono z2 (fun _ s8 z=>?_) fun _ _ z=>z
  obtain ⟨σ8,H8,I8,sub8,q8⟩:=z
  have z3:=pt _ s8 σ8 H8 _ I8 q8
  rw [xe] at z3
  refine wpAny_mono z3 (fun ok s9 z=>?_) fun _ _ z=>z
  obtain ⟨H9,I9,q9⟩:=z
  have back:∀{sy:Shared} {Hy:Hp} {its':List Value} {k':Nat},Inv X ((D,Cs its' k')::(rest++FD fp s7.heap)) σ8 Hy sy→
   Inv X ((D,Cs its' k')::rest) σ Hy sy∧tn (i+1) sy.heap∧∀b∈fp,Hy b=none:=fun {sy Hy its' k'} Iy=>by
   have at_:∀b∈fp,∀o,s7.heap.get? b=some o→sy.heap.get? b=some o∧Hy b=none:=fun b hb o e=>by
    obtain ⟨z1,z2,_⟩:=Iy.pin (b,o) (BJ _ (A1 _ (BJ _ (Iv hb e))))
    exact ⟨z1,z2⟩
   refine ⟨(Iy.pins_of fun p hp=>Iy.pin p (BJ _ ?_)).weak sub8.1 fun j v z=>sub8.2 j v z,T.keep _ _ _ Fv fun b hb o e=>(at_ b hb o e).1,fun b hb=>?_⟩
   ·rcases qa8.mp hp with rfl |z
    ·exact AO
    ·exact A1 _ (G0 _ z)
   ·obtain ⟨o,e,_⟩:=T.obj _ _ Fv b hb
    exact (at_ b hb o e).2
  cases ok with
  |false=>
   simp only [BP,if_false] at q9 ⊢
   obtain ⟨n',hn',w'⟩:=q9
   obtain ⟨a1,a2,a3⟩:=back I9
   exact ⟨n',hn',i+1,acc,H9,its,k,w',a1,a2,a3,rv5⟩
  |true=>
   simp only [if_true] at q9 ⊢
   refine wpAny_mono (em _ its k acc σ8 H9 s9 _ I9 hr' rv5 q9) (fun _ s10 z=>?_) fun _ _ z=>z
   obtain ⟨its',k',acc',H10,I10,rv10,n',hn',w'⟩:=z
   obtain ⟨a1,a2,a3⟩:=back I10
   exact ⟨n',hn',i+1,acc',H10,its',k',w',a1,a2,a3,rv10⟩
theorem XY {elt tg iter:Expr} {gens:List Comprehension} {ifs:List Expr} {scope:Scope} {pos:Pos} {d:Nat} {wi:TI} {g:TG} {tc:TT} {te:L2.St→Hp→List V→(List V→Hp→Prop)→Prop}
 (xe:X.xe=fun _ _=>False) (xc:X.calm=true) (hg:gens[d+1]?=some ⟨tg,iter,ifs,0⟩) (ha:∀g,gens[d+1+1]?=some g→g.is_async=0) (hi:PI X tg iter wi) (pg:PG X tg g) (pt:Fc X ifs tc) (em:EM X D (CN elt gens scope pos (d+1) (.ref D) X.env) te)
 (hsf:∀x,foldedSetIterable iter X.env x=pure x):EM X D (CN elt gens scope pos d (.ref D) X.env) (Qy wi g tc te):=by
 rintro rest its k acc σ H s Q I hr rv h
 unfold CN
 rw [hg]
 have z:=hi _ s σ H _ I h
 rw [xe] at z
 refine wpAny_bind (wpAny_mono z (fun xv s1 h1=>?_) fun _ _ z=>z)
 refine wpAny_bind (wpAny_standAt (wpAny_bind (wpAny_of_eq (hsf xv) ?_)))
 refine wpAny_bind (wpAny_holding (wpAny_mono h1 (fun itv s2 h2=>?_) fun _ _ z=>z))
 obtain ⟨it,fp,tn,J,H2,e,I2,T,CQ,f2,W,⟨n0,w0⟩,turn⟩:=h2
 subst e
 refine wpAny_bind (wpAny_runOwn ?_)
 rw [Around.mark_none]
 have loop:=Qz (R:=fun r s'=>match r with |.ok f=>wpAny (model X.prog X.w) X.A (pure ()) (fun _ s'=>∃its' k' acc' H',Inv X ((D,Cs its' k')::rest) σ H' s'∧Vals acc' its'∧Q acc' H') (fun _ _=>False) s' |.error e=>cameBackBy (model X.prog X.w) X.A X.env (fun _ _=>False) e s')
  xe xc hg ha pg pt em T (fun b hb o H' hn=>XX (f2 b hb) hn) hr turn (fun its' k' acc' H' s' I' rv' q'=>wpAny_pure ⟨its',k',acc',H',I',rv',q'⟩) n0 ⟨0,acc,H2,its,k,w0,I2,CQ,fun b hb=>(f2 b hb).1,rv⟩
 exact Qw hg loop (T.self X.A 0 s2 _ _ CQ loop)
end
def M1 (cs:List (Option Nat)) (wi:TI) (g:TG) (tc:TT) (te:L2.St→Hp→List V→(List V→Hp→Prop)→Prop):TE:=fun σ H Q=>wi σ H fun J H1=>∃W:Nat→Nat→List V→Hp→Prop,(∃n,W 0 n [] H1)∧∀i n acc H,W i n acc H→
 (J.stop i H∧acc.length≤sizeLine∧∀p,H p=none→Q (.ref p) (An H p (.lst acc)))∨
 (J.go i H∧∀x H',J.yld i H x H'→g x (Bs cs σ) H' fun σ2 H2=>Sub (Bs cs σ) σ2∧tc σ2 H2 fun b H3=>if b=true then te σ2 H3 acc fun acc' H4=>∃n',n' < n∧W (i+1) n' acc' H4 else ∃n',n' < n∧W (i+1) n' acc H3)
section
variable {X:Cx} {elt tg iter:Expr} {ifs:List Expr} {gs:List Comprehension} {scope:Scope} {pos:Pos} {Nc:List Str} {cs:List (Option Nat)} {wi:TI} {g:TG} {tc:TT} {te:L2.St→Hp→List V→(List V→Hp→Prop)→Prop}
theorem XZ {use:Option (Value→Sem Unit)} {QQ:Value→Shared→Prop} {ppos:Pos} {pins:List (Addr×Obj)} {s:Shared} {σ:L2.St} {H:Hp} {Q:VK} (hcalm:X.calm=true) (S:Fd X scope Nc cs) (hi:PI X tg iter wi) (ha:∀g,gs[0]?=some g→g.is_async=0)
 (hb:∀(C D:Addr) (cells:List (Str×Addr)) (fp:List Addr) (s₀:Shared) (H₀:Hp) (pins:List (Addr×Obj)),Gr (A5 X Nc scope C D cells fp s₀ H₀ pins) D→PG (A5 X Nc scope C D cells fp s₀ H₀ pins) tg g∧Fc (A5 X Nc scope C D cells fp s₀ H₀ pins) ifs tc∧
  EM (A5 X Nc scope C D cells fp s₀ H₀ pins) D (CN elt (⟨tg,iter,ifs,0⟩::gs) scope pos 0 (.ref D) (A5 X Nc scope C D cells fp s₀ H₀ pins).env) te)
 (hsf:∀x,foldedSetIterable iter X.env x=pure x) (I:Inv X pins σ H s) (h:M1 cs wi g tc te σ H Q)
 (fin:∀(s6:Shared) (C D:Addr) (H7:Hp) (m6:Str→Option Value),s6.heap.Ns C m6→H7 C=none→X.s₀.heap.objs.size≤C→C≠X.env.locals→(∀x c,X.env.cells.lookup x=some c→c≠C)→(∀p∈X.pn++pins,p.1≠C)→
  (∀h',Heap.SameBut C s6.heap h'→Inv X pins σ H7 {s6 with heap:=h'})→Q (.ref D) H7→compPost (model X.prog X.w) X.A X.xe use QQ (.ref D) C (.ok .next) s6):
 wpAny (model X.prog X.w) X.A (comprehension (.ListComp elt (⟨tg,iter,ifs,0⟩::gs) scope pos) scope X.env ppos (newList []) false (eval iter X.env) use) QQ X.xe s:=by
 obtain ⟨cl,hclos,hcl,hcl2⟩:=L8 (scope:=scope) (env:=X.env) fun y hy hf=>I.ok.has y.1 (S.free y hy hf)
 refine wpAny_comprehension_free (use:=use) rfl hsf hclos S.kind S.loc (AB (hi pins s σ H _ I h) fun xv s1 h1=>AB h1 fun itv s2 h2=>?_)
 obtain ⟨it,fp,tn,J,H2,e,I2,T,CQ,f2,W,⟨n0,w0⟩,turn⟩:=h2
 subst e
 refine wpAny_newObj_type ?_
 generalize e3:({s2 with heap:=s2.heap.push {cls:=.type "list",data:=.seq ([]:List Value).toArray}}:Shared)=s3
 refine OY ?_
 have ob2:∀b∈fp,∃o,s2.heap.get? b=some o:=fun b hb=>let ⟨o,e,_⟩:=T.obj _ _ CQ b hb;⟨o,e⟩
 have I4:=O1 (fp:=fp) (cl:=cl) S I2 f2 ob2 hcl hcl2 e3.symm
 generalize e4:({s3 with heap:=pushCells (s3.heap.push {cls:=.type "dict",data:=.dict #[]}) scope.names}:Shared)=s4 at I4
 generalize ecl:cellsFrom (s3.heap.objs.size+1) scope.names cl=cells at I4
 have okc:=I4.ok
 have k3:∀b o,s2.heap.get? b=some o→s3.heap.get? b=some o:=fun b o e=>by subst e3;exact AE _ e
 have IT:s3.heap.objs.size=s2.heap.objs.size+1:=by subst e3;exact CG ..
 have k34:∀b o,s3.heap.get? b=some o→s4.heap.get? b=some o:=fun b o e=>by subst e4;exact pushCells_keeps _ _ b o (AE _ e)
 have hDfp:s2.heap.objs.size∉fp:=fun hm=>by
  obtain ⟨o,e⟩:=ob2 _ hm
  exact absurd (Av e) (Cy _)
 have hDex:s2.heap.objs.size∈(A5 X Nc scope s3.heap.objs.size s2.heap.objs.size cells fp s3 H2 pins).ex:=AO
 have ao:Gr (A5 X Nc scope s3.heap.objs.size s2.heap.objs.size cells fp s3 H2 pins) s2.heap.objs.size:=
  ⟨show s2.heap.objs.size≠s3.heap.objs.size from BF (by omega),fun x c e=>(okc.exf _ hDex).2 x c e,fun p hp=>BF (Av (I2.pin p hp).1),hDex,okc.exfs _ hDex⟩
 obtain ⟨pg,pt,em⟩:=hb s3.heap.objs.size s2.heap.objs.size cells fp s3 H2 pins ao
 have hD4:s4.heap.get? s2.heap.objs.size=some (Cs [] 0):=by
  refine k34 _ _ ?_
  subst e3
  exact Bp _ rfl
 have fC:∀b∈fp,∀(o:Obj) (H':Hp),H' b=none→CH (A5 X Nc scope s3.heap.objs.size s2.heap.objs.size cells fp s3 H2 pins) ((s2.heap.objs.size,o)::[]) H' b:=fun b hb o H' hn=>by
  have hbx:b∈(A5 X Nc scope s3.heap.objs.size s2.heap.objs.size cells fp s3 H2 pins).ex:=A1 _ hb
  refine ⟨hn,(okc.exf b hbx).1,okc.exfs b hbx,.inl hbx,(okc.exf b hbx).2,fun p hpp=>?_⟩
  rcases qaM.mp hpp with z |z
  ·exact (f2 b hb).2.2.2.2.2 p z
  ·rw [qaI] at z
   subst z
   intro e
   exact hDfp ((show s2.heap.objs.size=b from e) ▸ hb)
 have I4':Inv (A5 X Nc scope s3.heap.objs.size s2.heap.objs.size cells fp s3 H2 pins) ((s2.heap.objs.size,Cs [] 0)::[]) (Bs cs σ) H2 s4:=I4.pins_of fun p hp=>by
  rw [qaI] at hp
  subst hp
  exact ⟨hD4,I2.hok.fresh (AK _),ao.lo,ao.fs,fun v z=>by cases z⟩
 have Lf:tn 0 s4.heap:=T.keep _ _ _ CQ fun b hb o e=>k34 b o (k3 b o e)
 have loop:=Qz (X:=A5 X Nc scope s3.heap.objs.size s2.heap.objs.size cells fp s3 H2 pins) (QQ:=fun acc H5=>acc.length≤sizeLine∧∀p,H5 p=none→Q (.ref p) (An H5 p (.lst acc)))
  (R:=compPost (model X.prog X.w) X.A X.xe use QQ (.ref s2.heap.objs.size) s3.heap.objs.size) rfl hcalm (d:=0) (gens:=⟨tg,iter,ifs,0⟩::gs) rfl ha pg pt em T fC (fun p hp=>(nomatch hp)) turn (fun its k acc H5 s6 I6 rv5 qn=>?_) n0
   ⟨0,[],H2,[],0,w0,I4',Lf,fun b hb=>(f2 b hb).1,.nil⟩
 ·exact Qw (d:=0) rfl loop (T.self X.A 0 s4 _ _ Lf loop)
 ·obtain ⟨m6,hn6,_⟩:=I6.loc
  obtain ⟨ho6,hD6,_⟩:=I6.pin _ (BJ _ AO)
  have lt2:∀b,b<s2.heap.objs.size→b≠s3.heap.objs.size:=fun b hb=>BF (AV hb (by omega))
  refine fin s6 s3.heap.objs.size s2.heap.objs.size (An H5 s2.heap.objs.size (.lst acc)) m6 hn6 ?_ (BK I2.sz (by omega)) ?_ ?_ ?_ ?_ (qn.2 _ hD6)
  ·rw [Ao (Fe (by omega))]
   exact I6.free
  ·obtain ⟨m2,hn2,_⟩:=I2.loc
   exact Ne.symm (lt2 _ hn2.lt)
  ·intro x c hx
   obtain ⟨v,hv⟩:=I2.cell x c hx
   obtain ⟨o,ho,_⟩:=hv
   exact lt2 _ (Av ho)
  ·intro p hp
   exact lt2 _ (Av (I2.pin p hp).1)
  ·intro h' sb
   exact O2 I2 f2 e3.symm rfl I6 hD6 qn.1 rv5 ho6 sb
theorem X0 (hcalm:X.calm=true) (S:Fd X scope Nc cs) (hi:PI X tg iter wi) (ha:∀g,gs[0]?=some g→g.is_async=0)
 (hb:∀(C D:Addr) (cells:List (Str×Addr)) (fp:List Addr) (s₀:Shared) (H₀:Hp) (pins:List (Addr×Obj)),Gr (A5 X Nc scope C D cells fp s₀ H₀ pins) D→PG (A5 X Nc scope C D cells fp s₀ H₀ pins) tg g∧Fc (A5 X Nc scope C D cells fp s₀ H₀ pins) ifs tc∧
  EM (A5 X Nc scope C D cells fp s₀ H₀ pins) D (CN elt (⟨tg,iter,ifs,0⟩::gs) scope pos 0 (.ref D) (A5 X Nc scope C D cells fp s₀ H₀ pins).env) te)
 (hsf:∀x,foldedSetIterable iter X.env x=pure x:=by intro _;rfl):PE X (.ListComp elt (⟨tg,iter,ifs,0⟩::gs) scope pos) (M1 cs wi g tc te):=by
 intro pins s σ H Q I h
 rw [eval_ListComp]
 exact XZ (use:=none) hcalm S hi ha hb hsf I h fun s6 C D H7 m6 hn _ _ _ _ _ inv q=>⟨m6,hn,fun h' sb=>⟨.ref D,H7,inv h' sb,rfl,q⟩⟩
end
abbrev CO:=Ai→HD→List D→Out (List D)
abbrev QC:=L2.St→Hp→List V→(List V→Hp→Prop)→Prop
def Frs (js:List Nat) (σ:L2.St):Prop:=∀j∈js,σ[j]?=some none
def HP (K:PySem.W.Frag) (is js:List Nat) (gg:TG) (sg:MG):Prop:=
 ∀m H d v ρ σ ρ' Q,DV K m H d v→ER K m H ρ σ→Frs (is++js) σ→sg d ρ=some ρ'→(∀σ',Sub σ σ'→Frs js σ'→ER K m H ρ' σ'→Q σ' H)→gg v σ H Q
theorem X1 {σ σ':L2.St} {i:Nat} {v:V} (h:σ[i]?=some none) (s:Sub σ σ'):Sub σ (σ'.set i (some v)):=by
 refine ⟨by rw [s.1];simp,fun j w e=>?_⟩
 have hj:i≠j:=by
  rintro rfl
  rw [h] at e
  cases e
 rw [BV hj]
 exact s.2 j w e
theorem Frs.set {js:List Nat} {σ:L2.St} {i:Nat} {v:Option V} (h:Frs js σ) (n:i∉js):Frs js (σ.set i v):=fun j hj=>by
 have hn:i≠j:=by
  rintro rfl
  exact n hj
 rw [BV hn]
 exact h j hj
theorem KM {K:PySem.W.Frag} {i:Nat} {js:List Nat} (n:i∉js):HP K [i] js (Co i) (A3 i):=fun m H d v ρ σ ρ' Q r er f e q=>by
 simp only [A3,Option.some.injEq] at e
 subst e
 exact q _ (X1 (f i AO) (.refl _)) (Frs.set (fun j hj=>f j (A1 _ hj)) n) (er.set r)
noncomputable def EL (f:ME):CO:=fun ρ h acc=>if acc.length<sizeLine then (noErr (f ρ h)).bind fun y h2=>.ok (acc++[y]) h2 else .stuck
open Classical in
noncomputable def DN (src:A0) (items:List D) (sg:MG) (t:MT) (e:CO) (ρ:Ai):List D→HD→List D→Out (List D)
 |[],h,acc=>if BE src items h then .ok acc h else .stuck
 |d::ds,h,acc=>if BE src items h then match sg d ρ with
   |none=>.stuck
   |some ρ1=>(noErr (t ρ1 h)).bind fun b h1=>if b=true then (noErr (e ρ1 h1 acc)).bind fun acc2 h2=>DN src items sg t e ρ ds h2 acc2 else DN src items sg t e ρ ds h1 acc
  else .stuck
noncomputable def DO (it:MI) (sg:MG) (t:MT) (e:CO):CO:=fun ρ h acc=>(noErr (it ρ h)).bind fun x h1=>DN x.2 x.1 sg t e ρ x.1 h1 acc
noncomputable def Fs (cs:List (Option Nat)) (it:MI) (sg:MG) (t:MT) (e:CO):ME:=fun ρ h=>(it ρ h).bind fun x h1=>(DN x.2 x.1 sg t e (CK cs ρ) x.1 h1 []).bind Cp
def EN (K:PySem.W.Frag) (js:List Nat) (e:CO):QC:=fun σ H acc Q=>∃m ρ h dacc,HR K m h H∧ER K m H ρ σ∧DVs K m H dacc acc∧Frs js σ∧Post K (Ep K) m H E0 Q (e ρ h dacc)
theorem EM.imp {X:Cx} {D:Addr} {em:Sem Unit} {te te':QC} (h:EM X D em te) (f:∀σ H acc Q,te' σ H acc Q→te σ H acc Q):EM X D em te':=
 fun rest its k acc σ H s Q I hr rv z=>h rest its k acc σ H s Q I hr rv (f _ _ _ _ z)
theorem X2 {K:PySem.W.Frag} {js:List Nat} {f:ME} (σ:L2.St) (H:Hp) (acc:List V) (Q:List V→Hp→Prop):EN K js (EL f) σ H acc Q→Qx (tD K E0 f) σ H acc Q:=by
 rintro ⟨m,ρ,h,dacc,hr,er,da,_,p⟩
 unfold EL at p
 split at p
 ·rename_i hz
  refine ⟨by rw [←DVs.len da];exact hz,m,ρ,h,hr,er,Hr p fun y h1 v m1 H1 _ p1 k1 hr1 r1 q1=>?_⟩
  exact q1 _ m1 H1 (AG _) (.refl _) hr1 ((DVs.keep p1 k1 da).app (.cons r1 .nil))
 ·exact p.elim
inductive QE {β:Type} (K:PySem.W.Frag) (E:XK) (α:Type) (R:List Addr→Hp→α→β→Prop) (Q:β→Hp→Prop) (kk:List D→HD→Out α) (src:A0) (items:List D) (sg:MG) (t:MT) (e:CO) (ρ:Ai) (m1:List Addr) (H1:Hp) (i n:Nat) (acc:List V) (H2:Hp):Prop where
 |mk (en:n=items.length - i) (l:i≤items.length) (m2:List Addr) (h2:HD) (dacc:List D) (p:m1 <+:m2) (k:Kp H1 H2) (hr:HR K m2 h2 H2) (da:DVs K m2 H2 dacc acc) (q:Post K R m2 H2 E Q ((DN src items sg t e ρ (items.drop i) h2 dacc).bind kk)):QE K E α R Q kk src items sg t e ρ m1 H1 i n acc H2
theorem QF {K:PySem.W.Frag} {E:XK} {α β:Type} {R:List Addr→Hp→α→β→Prop} {Q:β→Hp→Prop} {kk:List D→HD→Out α} {is js:List Nat} {gg:TG} {sg:MG} {t:MT} {e:CO} {src:A0} {items:List D} {J:It} {ρ:Ai} {σ:L2.St} {m1:List Addr} {h1:HD} {H1:Hp} {dacc:List D} {acc:List V} {QQ:List V→Hp→Prop}
 (hg:HP K is js gg sg) (fr:Frs (is++js) σ) (er:ER K m1 H1 ρ σ) (r1:Ge K m1 H1 (items,src) J) (hr1:HR K m1 h1 H1) (da:DVs K m1 H1 dacc acc) (q:Post K R m1 H1 E Q ((DN src items sg t e ρ items h1 dacc).bind kk))
 (fin:∀m h H dacc acc,m1 <+:m→Kp H1 H→HR K m h H→DVs K m H dacc acc→Post K R m H E Q (kk dacc h)→QQ acc H):
 ∃W:Nat→Nat→List V→Hp→Prop,(∃n,W 0 n acc H1)∧∀i n acc H,W i n acc H→(J.stop i H∧QQ acc H)∨
  (J.go i H∧∀x H',J.yld i H x H'→gg x σ H' fun σ2 H2=>Sub σ σ2∧Es K E0 t σ2 H2 fun b H3=>if b=true then EN K js e σ2 H3 acc fun acc' H4=>∃n',n' < n∧W (i+1) n' acc' H4 else ∃n',n' < n∧W (i+1) n' acc H3):=by
 refine ⟨QE K E α R Q kk src items sg t e ρ m1 H1,⟨items.length,rfl,Dv _,m1,h1,dacc,AG _,.refl _,hr1,da,q⟩,?_⟩
 rintro i n acc H2 ⟨rfl,hi',m2,h2,dacc,p2,k2,hr2,da,q2⟩
 by_cases hlt:i<items.length
 ·rw [JC hlt] at q2
  unfold DN at q2
  split at q2
  ·rename_i hs
   obtain ⟨hgo,hy⟩:=(r1 i m2 h2 H2 p2 k2 hr2 hs).1 hlt
   refine .inr ⟨hgo,fun y H3 hyl=>?_⟩
   obtain ⟨k3,hr3,d,ed,rd⟩:=hy y H3 hyl
   have ed':d=items[i]:=by rw [A8 hlt] at ed;exact (Option.some.inj ed).symm
   subst ed'
   split at q2
   ·exact q2.elim
   ·rename_i ρ3 es
    refine hg m2 H3 _ y ρ σ ρ3 _ rd (er.keep p2 (k2.trans k3)) fr es fun σ4 sub4 fr4 er4=>⟨sub4,m2,ρ3,h2,hr3,er4,?_⟩
    rw [Out.bind_assoc] at q2
    refine Hr (Post.ahead (AG _) k3 q2) fun b h5 v m5 H5 _ p5 k5 hr5 r5 q5=>?_
    cases r5
    cases b with
    |false=>
     simp only [BP,if_false] at q5 ⊢
     exact ⟨items.length - (i+1),by omega,rfl,hlt,m5,h5,dacc,p2.trans p5,(k2.trans k3).trans k5,hr5,DVs.keep p5 (k3.trans k5) da,q5⟩
    |true=>
     simp only [if_true] at q5 ⊢
     rw [Out.bind_assoc] at q5
     refine ⟨m5,ρ3,h5,dacc,hr5,er4.keep p5 k5,DVs.keep p5 (k3.trans k5) da,fr4,Hr q5 fun z h6 w m6 H6 _ p6 k6 hr6 r6 q6=>?_⟩
     exact ⟨items.length - (i+1),by omega,rfl,hlt,m6,h6,z,(p2.trans p5).trans p6,((k2.trans k3).trans k5).trans k6,hr6,r6,q6⟩
  ·exact q2.elim
 ·have he:i=items.length:=Nat.le_antisymm hi' (G7 hlt)
  subst he
  rw [List.drop_length] at q2
  unfold DN at q2
  split at q2
  ·rename_i hs
   exact .inl ⟨(r1 _ m2 h2 H2 p2 k2 hr2 hs).2 rfl,fin m2 h2 H2 dacc acc p2 k2 hr2 da q2⟩
  ·exact q2.elim
theorem X3 {K:PySem.W.Frag} {is js:List Nat} {it:MI} {gg:TG} {sg:MG} {t:MT} {e:CO} (hg:HP K is js gg sg) (σ:L2.St) (H:Hp) (acc:List V) (Q:List V→Hp→Prop):EN K (is++js) (DO it sg t e) σ H acc Q→Qy (tM K (Ge K) E0 it) gg (Es K E0 t) (EN K js e) σ H acc Q:=by
 rintro ⟨m,ρ,h,dacc,hr,er,da,fr,p⟩
 unfold DO at p
 refine ⟨m,ρ,h,hr,er,Hr p fun x h1 J m1 H1 _ p1 k1 hr1 r1 q1=>?_⟩
 refine QF (E:=E0) (kk:=fun a h=>.ok a h) hg fr (er.keep p1 k1) r1 hr1 (DVs.keep p1 k1 da) ?_ fun m2 h2 H2 dacc2 acc2 p2 k2 hr2 da2 q2=>q2 _ m2 H2 (AG _) (.refl _) hr2 da2
 have:∀o:Out (List D),(o.bind fun a h=>.ok a h)=o:=fun o=>by cases o<;>rfl
 rw [this]
 exact q1
section
variable {X:Cx} {E:XK} {D:Addr} {elt tg iter:Expr} {ifs:List Expr} {gs gens:List Comprehension} {scope:Scope} {pos:Pos} {Nc:List Str} {cs:List (Option Nat)} {it:MI} {gg:TG} {sg:MG} {t:MT} {f:ME} {e:CO} {d:Nat} {is js:List Nat}
theorem X4 (ao:Gr X D) (xe:X.xe=fun _ _=>False) (hl:gens[d+1]?=none) (pe:Ev X E0 elt f):EM X D (CN elt gens scope pos d (.ref D) X.env) (EN X.K js (EL f)):=(XW ao xe hl pe).imp X2
theorem M3 (xe:X.xe=fun _ _=>False) (xc:X.calm=true) (hg:gens[d+1]?=some ⟨tg,iter,ifs,0⟩) (ha:∀g,gens[d+1+1]?=some g→g.is_async=0) (hi:EA X E0 tg iter it) (pg:PG X tg gg) (gk:HP X.K is js gg sg) (pt:Hs X E0 ifs t) (em:EM X D (CN elt gens scope pos (d+1) (.ref D) X.env) (EN X.K js e))
 (hsf:∀x,foldedSetIterable iter X.env x=pure x:=by intro _;rfl):EM X D (CN elt gens scope pos d (.ref D) X.env) (EN X.K (is++js) (DO it sg t e)):=(XY xe xc hg ha hi pg pt em hsf).imp (X3 gk)
theorem X5 (hc:∀j∈is++js,cs[j]?=some none) (hg:HP X.K is js gg sg):∀σ H Q,tD X.K E (Fs cs it sg t e) σ H Q→M1 cs (tM X.K (Ge X.K) E it) gg (Es X.K E0 t) (EN X.K js e) σ H Q:=by
 rintro σ H Q ⟨m,ρ,h,hr,er,p⟩
 refine ⟨m,ρ,h,hr,er,Post.bind p fun x h1 J m1 H1 _ p1 k1 hr1 r1 q1=>?_⟩
 exact QF (QQ:=fun acc H=>acc.length≤sizeLine∧∀p,H p=none→Q (.ref p) (An H p (.lst acc))) hg (fun j hj=>by unfold Bs;rw [Cb,hc j hj];rfl) ((er.keep p1 k1).comp cs) r1 hr1 .nil q1 fun m2 h2 H2 dacc2 acc2 p2 k2 hr2 da2 q2=>Hm (X:=X) hr2 da2 q2
theorem X6 (hcalm:X.calm=true) (S:Fd X scope Nc cs) (hi:EA X E tg iter it) (ha:∀g,gs[0]?=some g→g.is_async=0) (hc:∀j∈is++js,cs[j]?=some none) (hg:HP X.K is js gg sg)
 (hb:∀(C D:Addr) (cells:List (Str×Addr)) (fp:List Addr) (s₀:Shared) (H₀:Hp) (pins:List (Addr×Obj)),Gr (A5 X Nc scope C D cells fp s₀ H₀ pins) D→PG (A5 X Nc scope C D cells fp s₀ H₀ pins) tg gg∧Hs (A5 X Nc scope C D cells fp s₀ H₀ pins) E0 ifs t∧
  EM (A5 X Nc scope C D cells fp s₀ H₀ pins) D (CN elt (⟨tg,iter,ifs,0⟩::gs) scope pos 0 (.ref D) (A5 X Nc scope C D cells fp s₀ H₀ pins).env) (EN X.K js e))
 (hsf:∀x,foldedSetIterable iter X.env x=pure x:=by intro _;rfl):Ev X E (.ListComp elt (⟨tg,iter,ifs,0⟩::gs) scope pos) (Fs cs it sg t e):=
 B4 (X0 (g:=gg) (tc:=Es X.K E0 t) (te:=EN X.K js e) hcalm S hi ha hb hsf) (X5 hc hg)
end
theorem M4 {α:Type} {src:A0} {items:List D} {sg:MG} {t:MT} {e:CO} {ρ:Ai} (φ:α→D) (g:α→Bool) (es:α→List D) (ρ1:α→Ai):
 ∀(xs:List α) (h:HD) (acc:List D),(∀h',Sm h h'→BE src items h')→(∀x∈xs,sg (φ x) ρ=some (ρ1 x))→(∀x∈xs,∀h',Sm h h'→Pu (t (ρ1 x) h') h' (g x))→(∀x∈xs,g x=true→∀h' acc,Sm h h'→acc.length+(es x).length≤sizeLine→Pu (e (ρ1 x) h' acc) h' (acc++es x))→
  acc.length+((xs.filter g).flatMap es).length≤sizeLine→Pu (DN src items sg t e ρ (xs.map φ) h acc) h (acc++(xs.filter g).flatMap es)
 |[],h,acc,hs,_,_,_,_=>by
  simp only [F0,List.filter_nil,DN]
  rw [if_pos (hs h (.refl _))]
  simpa using (.ok:Pu (.ok acc h) h acc)
 |x::xs,h,acc,hs,hg,ht,hf,hz=>by
  simp only [Bn,DN]
  rw [if_pos (hs h (.refl _)),hg x AO]
  simp only
  refine Pu.bind (ht x AO h (.refl _)).noErr fun h1 s1=>?_
  have ih:∀h2 acc,Sm h h2→acc.length+((xs.filter g).flatMap es).length≤sizeLine→Pu (DN src items sg t e ρ (xs.map φ) h2 acc) h2 (acc++(xs.filter g).flatMap es):=fun h2 acc s2 z2=>M4 φ g es ρ1 xs h2 acc (fun h' s'=>hs h' (s2.trans s'))
   (fun y hy=>hg y (A1 _ hy)) (fun y hy h' s'=>ht y (A1 _ hy) h' (s2.trans s')) (fun y hy gy h' a s' z'=>hf y (A1 _ hy) gy h' a (s2.trans s') z') z2
  cases hgx:g x with
  |false=>
   rw [Lj (by simp [hgx])] at hz ⊢
   rw [if_neg Bw]
   exact ih h1 acc s1 hz
  |true=>
   rw [Lk hgx,List.flatMap_cons] at hz ⊢
   rw [El] at hz
   rw [if_pos rfl]
   refine Pu.bind (hf x AO hgx h1 acc s1 (by omega)).noErr fun h2 s2=>?_
   have:=ih h2 (acc++es x) (s1.trans s2) (by rw [El];omega)
   rwa [E4] at this
theorem X7 {f:ME} {ρ:Ai} {h:HD} {acc:List D} {y:D} (hf:Pu (f ρ h) h y) (hz:acc.length+1≤sizeLine):Pu (EL f ρ h acc) h (acc++[y]):=by
 unfold EL
 rw [if_pos (by omega)]
 exact Pu.bind hf.noErr fun h2 s2=>.ok
theorem M5 {α β:Type} {y:α→β}:∀{xs:List α},xs.flatMap (fun x=>[y x])=xs.map y
 |[]=>rfl
 |x::xs=>by rw [List.flatMap_cons,M5,Bn];rfl
section
variable {α β:Type} {cs:List (Option Nat)} {it:MI} {sg:MG} {t:MT} {f:ME} {e:CO} {ρ:Ai} {h:HD} {src:A0} {xs:List α} {φ:α→D} {acc:List D}
theorem M6 (g:α→Bool) (es:α→List D) (ρ1:α→Ai) (hi:D3 (it ρ h) h (xs.map φ) src) (hg:∀x∈xs,sg (φ x) ρ=some (ρ1 x)) (ht:∀x∈xs,∀h',Sm h h'→Pu (t (ρ1 x) h') h' (g x)) (hf:∀x∈xs,g x=true→∀h' acc,Sm h h'→acc.length+(es x).length≤sizeLine→Pu (e (ρ1 x) h' acc) h' (acc++es x))
 (hz:acc.length+((xs.filter g).flatMap es).length≤sizeLine):Pu (DO it sg t e ρ h acc) h (acc++(xs.filter g).flatMap es):=by
 unfold DO Pu
 have:Wp (noErr (it ρ h)) fun x h'=>x=(xs.map φ,src)∧Sm h h'∧∀h2,Sm h' h2→BE src (xs.map φ) h2:=by
  unfold D3 at hi
  cases eo:it ρ h with
  |ok a h1=>rw [eo] at hi;exact hi
  |err C fs h1=>rw [eo] at hi;exact hi
  |stuck=>rw [eo] at hi;exact hi
 rw [AC]
 refine Wp.mono this fun x h1 z=>?_
 obtain ⟨rfl,s1,hs⟩:=z
 exact (M4 φ g es ρ1 xs h1 acc hs hg (fun x hx h' s'=>ht x hx h' (s1.trans s')) (fun x hx gx h' a s' z'=>hf x hx gx h' a (s1.trans s') z') hz).wp fun h2 s2=>⟨rfl,s1.trans s2⟩
theorem X8 (y:α→D) (ρ1:α→Ai) (hi:D3 (it ρ h) h (xs.map φ) src) (hg:∀x∈xs,sg (φ x) ρ=some (ρ1 x)) (hf:∀x∈xs,∀h',Sm h h'→Pu (f (ρ1 x) h') h' (y x)) (hz:acc.length+(xs.map y).length≤sizeLine):
 Pu (DO it sg BM (EL f) ρ h acc) h (acc++xs.map y):=by
 have:=M6 (t:=BM) (e:=EL f) (acc:=acc) (fun _=>true) (fun x=>[y x]) ρ1 hi hg (fun x hx h' s'=>(.ok:Pu (.ok true h') h' true)) (fun x hx _ h' acc s' z'=>X7 (hf x hx h' s') z') (by rw [Do,M5];exact hz)
 rwa [Do,M5] at this
theorem X9 {Q:D→HD→Prop} (g:α→Bool) (es:α→List D) (ρ1:α→Ai) (hi:D3 (it ρ h) h (xs.map φ) src) (hg:∀x∈xs,sg (φ x) (CK cs ρ)=some (ρ1 x)) (ht:∀x∈xs,∀h',Sm h h'→Pu (t (ρ1 x) h') h' (g x)) (hf:∀x∈xs,g x=true→∀h' acc,Sm h h'→acc.length+(es x).length≤sizeLine→Pu (e (ρ1 x) h' acc) h' (acc++es x))
 (hz:((xs.filter g).flatMap es).length≤sizeLine) (q:∀l h',Sm h h'→h'[l]?=some (.lst ((xs.filter g).flatMap es))→Q (.loc l) h'):Wp (Fs cs it sg t e ρ h) Q:=by
 unfold Fs
 rw [AC]
 refine Wp.mono hi fun x h1 z=>?_
 obtain ⟨rfl,s1,hs⟩:=z
 rw [AC]
 refine (M4 φ g es ρ1 xs h1 [] hs hg (fun x hx h' s'=>ht x hx h' (s1.trans s')) (fun x hx gx h' a s' z'=>hf x hx gx h' a (s1.trans s') z') (by simpa using hz)).wp fun h2 s2=>?_
 rw [Il]
 exact Bi hz fun l h3 s3 e3 _ _=>q l h3 ((s1.trans s2).trans s3) e3
noncomputable def Yb (cs:List (Option Nat)) (it:MI) (sg:MG) (t:MT) (e:CO):ME:=Ag (Am CJ) (Aa (Fs cs it sg t e) Ae)
noncomputable def Yc (cs:List (Option Nat)) (it:MI) (sg:MG) (t:MT) (e:CO):ME:=Ag (Am DZ) (Aa (Fs cs it sg t e) Ae)
@[simp] theorem ZdB:Ag (Am CJ) (Aa (Fs cs it sg t e) Ae) ρ h=Yb cs it sg t e ρ h:=rfl
@[simp] theorem ZdC:Ag (Am DZ) (Aa (Fs cs it sg t e) Ae) ρ h=Yc cs it sg t e ρ h:=rfl
end
end LS
namespace LS
open PySem
inductive TlN (h:Heap) (ns:List Str) (bB:List Value):List Value→Prop
 |base:TlN h ns bB bB
 |own {a:Addr} {c0:Value} {dd:Option Addr} {cd:ClassData} {sl:Array (Option Value)} {m:Str→Option Value} {tl:List Value} (ha:h.get? a=some {cls:=c0,dict:=dd,data:=.cls cd,slots:=sl}) (hm:h.Ns cd.ns m) (no:∀n∈ns,m n=none) (r:TlN h ns bB tl):TlN h ns bB (.ref a::tl)
theorem TlN.keeps {h h':Heap} {ns:List Str} {bB tl:List Value} (T:TlN h ns bB tl) (k:∀b o,h.get? b=some o→h'.get? b=some o):TlN h' ns bB tl:=by
 induction T with
 |base=>exact .base
 |own ha hm no _ ih=>exact .own (k _ _ ha) (hm.keeps k) no ih
theorem TlN.has {h:Heap} {ns:List Str} {bB tl:List Value} {v:Value} (T:TlN h ns bB tl) (hv:bB.contains v=true):tl.contains v=true:=by
 induction T with
 |base=>exact hv
 |own ha hm no _ ih=>rw [List.contains_cons,ih,Bool.or_true]
section
variable {M:Model} {A:Around} {E:Value→Shared→Prop} {h:Heap} {g:Array GenState} {d:Drawn} {t:Nat} {os:OsState}
theorem TlN.look {ns:List Str} {bB tl:List Value} {n:Str} {y:Option Value} {Q:Option Value→Shared→Prop} (T:TlN h ns bB tl) (hn:n∈ns) (e:lookupAlong bB n=pure y) (q:Q y ⟨h,g,d,t,os⟩):wpAny M A (lookupAlong tl n) Q E ⟨h,g,d,t,os⟩:=by
 induction T with
 |base=>rw [e];exact wpAny_pure q
 |own ha hm no _ ih=>
  rw [lookupAlong_cons];refine wpAny_bind (wpAny_classOwn_cls ha hm ?_);rw [no n hn]
  exact ih
variable {nm q:Str} {C N x:Addr} {bs bm bB:List Value} {hd:Bool} {sn:List Str} {sub:List Value} {ab:Bool} {col:Option Bool} {dd:Option Addr} {k0 k1 k2 k3 k5:Option Value} {B newId sa owner:String} {ns:List Str} {mN mA:Str→Option Value} {name:Str} {v:Value}
end
section
variable {prog:Program} {w:World} {A:Around} {E:Value→Shared→Prop} {h:Heap} {g:Array GenState} {d:Drawn} {t:Nat} {os:OsState}
variable {nm q:Str} {C N x:Addr} {bs bm bB:List Value} {sn:List Str} {sub:List Value} {ab:Bool} {col:Option Bool} {dd:Option Addr} {k0 k1 k2 k3 k5:Option Value} {B newId sa owner:String} {ns:List Str} {mN mA:Str→Option Value} {name:Str} {v:Value}
structure ZdD (h h':Heap) (x C:Addr) (name:Str) (v:Value) (mA:Str→Option Value):Prop where
 inst:h'.Inst x C (fun y=>if y=name then some v else mA y)
 keep:∀b o,b≠x→(∀o0 dx,h.get? x=some o0→o0.dict=some dx→b≠dx)→h.get? b=some o→h'.get? b=some o
 new:∀o0,h.get? x=some o0→o0.dict=none→∃o1,h'.get? x=some o1∧o1.dict=some h.objs.size
 same:∀o0,h.get? x=some o0→∃o1,h'.get? x=some o1∧o1.cls=o0.cls∧o1.data=o0.data∧o1.slots=o0.slots∧∀dx,o0.dict=some dx→o1.dict=some dx
end
section
variable {prog:Program} {w:World} {A:Around} {E:Value→Shared→Prop} {h:Heap} {g:Array GenState} {d:Drawn} {t:Nat} {os:OsState}
variable {nm q:Str} {C N x:Addr} {bs bm bB:List Value} {sn:List Str} {sub:List Value} {ab:Bool} {col:Option Bool} {dd:Option Addr} {k0 k1 k2 k3 k5:Option Value} {B newId:String} {ns:List Str} {mN mA:Str→Option Value} {name:Str} {v:Value}
end
end LS
namespace LS
open PySem PySem.Spec PyProof.Rows L2
def tmNames:List Str:=["__init__","__setattr__","__getattribute__","__getattr__","many","most"]
def QG (K:PySem.W.Frag) (ns:List Str) (bB:List Value):List Value→Bool
 |[]=>bB==[]
 |v::r=>(v::r)==bB||match v with
  |.ref a=>(match K.lookup a with
   |some o=>(match clsOf o.data with
    |some cd=>PySem.W.nsOkIn K cd.ns&&(ns.all (fun n=>PySem.W.nsIn K cd.ns n==some none)&&QG K ns bB r)
    |none=>false)
   |none=>false)
  |_=>false
theorem TlN.tail {h:Heap} {ns:List Str} {bB tl:List Value} (T:TlN h ns bB tl) (hi:("__init__":Str)∈ns):OwnTail h bB tl:=by
 induction T with
 |base=>exact .base
 |own ha hm no _ ih=>exact .own ha hm (no _ hi) ih
inductive Yd (h:Heap) (C fI:Addr):Prop where
 |mk (bm:List Value) (N:Addr) (nm q:Str) (bs:List Value) (sn:List Str) (sub:List Value) (ab:Bool) (col:Option Bool) (dd:Option Addr) (k0 k1 k2 k3 k5:Option Value) (mN:Str→Option Value)
  (hC:h.get? C=some (excClassObj nm q C N bs bm true sn sub ab col dd k0 k1 k2 k3 k5 "ValueError.__new__")) (hN:h.Ns N mN) (hi:mN "__init__"=some (.ref fI)) (no:∀n∈tmNames.tail,mN n=none) (T:TlN h tmNames IV bm):Yd h C fI
def Ye (K:PySem.W.Frag) (C fI:Addr) (o:Obj) (cd:ClassData):Bool:=
 decide (o.cls=.type "type")&&(decide (cd.mro=.ref C::cd.mro.tail)&&(!cd.hasDel&&(QG K tmNames IV cd.mro.tail&&(PySem.W.nsOkIn K cd.ns&&(PySem.W.nsIn K cd.ns "__init__"==some (some (.ref fI))&&(tmNames.tail.all (fun n=>PySem.W.nsIn K cd.ns n==some none)&&(decide (o.slots.toList.length=6)&&(decide (o.slots.toList[4]?=some (some (.builtin "ValueError.__new__")))&&cd.hasDict))))))))
def tmX (K:PySem.W.Frag) (C fI:Addr):Bool:=match K.lookup C with
 |some o=>(match clsOf o.data with
  |some cd=>Ye K C fI o cd
  |none=>false)
 |none=>false
def Yg (C t0:Addr) (da:Option Addr):Obj:={cls:=.ref C,dict:=da,data:=.fields #[.ref t0,.none,.none,.none,.bool false,.none]}
def KN (C e:Addr) (da:Option Addr) (h:Heap):Prop:=∃t0,h.get? e=some (Yg C t0 da)
def ZdE (d:Addr) (m:Str→Option Value) (h:Heap):Prop:=h.Ns1 d m
def one (n:Str) (u:Value):Str→Option Value:=fun y=>if y=n then some u else none
section
variable {X:Cx} {pins:List (Addr×Obj)} {σ:L2.St} {H:Hp} {s:Shared} {E:Value→Shared→Prop} {A:Around} {C fI e da:Addr} {n:Str} {u:Value}
def del (H:Hp) (a:Addr):Hp:=fun b=>if b=a then none else H b
theorem QH {H:Hp} {a b:Addr} (h:b≠a):del H a b=H b:=by unfold del;rw [if_neg h]
theorem Kp.del {H:Hp} {a:Addr} {φ:Heap→Prop} (h:H a=some (.mex φ)):Kp H (LS.del H a):=fun b o e i=>by
 rw [QH]
 ·exact e
 ·intro z
  rw [z,h] at e;cases e;cases i
theorem HR.del {K:PySem.W.Frag} {m:List Addr} {h:HD} {H:Hp} {a:Addr} {φ:Heap→Prop} (r:HR K m h H) (e:H a=some (.mex φ)):HR K m h (LS.del H a):=r.same (.del e) fun b hb=>QH fun z=>by
 subst z
 obtain ⟨l,hl,el⟩:=List.getElem_of_mem hb
 have hl':l<h.length:=by rw [←r.len];exact hl
 have c:=r.cells l h[l] m[l] (A8 hl') (A8 hl)
 rw [el] at c
 cases hc:h[l] with
 |lst ds=>rw [hc] at c;obtain ⟨vs,q,_⟩:=c;rw [e] at q;cases q
 |tab=>rw [hc] at c;obtain ⟨_,ps,q,_⟩:=c;rw [e] at q;cases q
 |dic fz kvs=>
  rw [hc] at c
  obtain ⟨es,q,_⟩:=c
  cases fz with
  |true=>obtain ⟨o,q⟩:=q;rw [e] at q;cases q
  |false=>exact absurd (e.symm.trans q) (by intro z;cases z)
end
end LS
namespace LS
open PySem PySem.Spec PyProof.Rows L2 PySem.Calls PySem.W
def swX (K:PySem.W.Frag) (S:Addr):Bool:=PySem.W.readsIn K S (.type "type")&&(match PySem.W.findCls K (.ref S) (.type "type") "__init__" with
 |some (.val (.builtin b))=>b=="ValueError.__init__"
 |_=>false)
def ZdF (H₀:Hp) (C:Addr) (ta:TA):TE:=fun σ H Q=>∃e,H₀ e≠none∧H e=some (.mex (KN C e none))∧ta σ (del H e) fun vs H1=>∃x,vs=[.ref e,.str x]∧(H1 e=none→Q .non (An H1 e (.mex (KN C e none))))
section
variable {X:Cx} {C fI S:Addr} {ta:TA} {a1 a2:Expr} {p1 p2 p5:Pos}
end
end LS
namespace LS
open PySem PySem.Spec PyProof.Rows L2 PySem.Calls
section
variable {X:Cx} {C fI S:Addr}
end
noncomputable abbrev QJ:ME:=MN (Qh (Ab 1) (Xo " are more than " (Qh (Ab 2) Xn)))
inductive QK (K:PySem.W.Frag) (C:Addr) (vs:List V) (H:Hp) (Q:VK) (E:XK):Prop
 |mk (e:Addr) (a b:Int) (m:List Addr) (h h2:HD) (x:Str) (ev:vs=[.ref e,.int a,.int b]) (hr:HR K m h H) (hH:H e=some (.mex (KN C e none))) (hj:QJ [none,some (.int a),some (.int b)] h=.ok (.str x) h2)
  (q:∀m1 H1 da,m <+:m1→Kp (del H e) H1→HR K m1 h2 H1→H1 e=none→H1 da=none→da≠e→Q .non (An (An H1 e (.mex (KN C e (some da)))) da (.xd [("many",.int a),("most",.int b)]))):QK K C vs H Q E
section
variable {P:Program} {w:World} {K:PySem.W.Frag} {mg:Str→Option Value} {base:Heap} {C f S:Addr} {k:Nat} {qual:Str} {scope:Scope} {p1 p2 p3 p4 p5 p6 q1 q2 q3 q4 r1 r2 r3 r4:Pos} {js:Expr}
abbrev ZdG (js:Expr) (p1 p2 p3 p5 p6 q1 q2 q3 q4 r1 r2 r3 r4:Pos):List Stmt:=[.Expr (.Call (.Attribute (.Name "SwitchError" p1) "__init__" p2) [.Name "self" p3,js] [] p5) p6,.Assign [.Attribute (.Name "self" q1) "many" q2] (.Name "many" q3) q4,.Assign [.Attribute (.Name "self" r1) "most" r2] (.Name "most" r3) r4]
end
noncomputable def ZdH (fa:MA):MS:=fun ρ h=>(fa ρ h).bind fun xs h1=>match xs with
 |[.int a,.int b]=>(match QJ [none,some (.int a),some (.int b)] h1 with
  |.ok (.str _) h2=>.err (D7 "TooMany") [("many",.int a),("most",.int b)] h2
  |_=>.stuck)
 |_=>.stuck
section
variable {X:Cx} {E:XK} {C fI:Addr} {fd:FuncData} {k:Nat}
end
def Yh (nm:Str):D→HD→Out D
 |.exc n fs,h=>if n="TooMany" then (match fs.lookup nm with
  |some i=>.ok (.int i) h
  |none=>.stuck) else .stuck
 |_,_=>.stuck
noncomputable def ZdI (f:ME) (nm:Str):ME:=fun ρ h=>(f ρ h).bind fun d h1=>Yh nm d h1
section
variable {X:Cx} {E:XK} {C fI:Addr}
end
end LS
namespace Tp
open PySem PySem.W PySem.Spec PySem.Calls PyProof.Rows
section
variable {α β:Type}
noncomputable def fN (n:Nat) (k:Nat→α):α:=@Nat.rec (fun _=>α) (k 0) (fun m _=>k (Nat.succ m)) n
theorem KO (n:Nat) (k:Nat→α):fN n k=k n:=by cases n<;>rfl
noncomputable def fL (l:List β):(List β→α)→α:=@List.rec β (fun _=>(List β→α)→α) (fun k=>k []) (fun a _ ih k=>ih fun l'=>k (a::l')) l
theorem Jd:∀(l:List β) (k:List β→α),fL l k=k l
 |[],_=>rfl
 |a::l,k=>Jd l fun l'=>k (a::l')
noncomputable def fE (l:List DictEntry):(List DictEntry→α)→α:=@List.rec DictEntry (fun _=>(List DictEntry→α)→α) (fun k=>k []) (fun a _ ih k=>ih fun l'=>@DictEntry.rec (fun _=>α) (fun x y z=>k (⟨x,y,z⟩::l')) a) l
theorem QL:∀(l:List DictEntry) (k:List DictEntry→α),fE l k=k l
 |[],_=>rfl
 |⟨_,_,_⟩::l,k=>QL l fun l'=>k (_::l')
noncomputable def fD (d:Data) (k:Data→α):α:=@Data.rec (fun _=>α) (k .plain) (fun v=>k (.prim v)) (fun x n=>@Array.rec Value (fun _=>α) (fun l=>fL l fun l=>fN n fun n=>k (.seq ⟨l⟩ n)) x)
 (fun x n=>@Array.rec DictEntry (fun _=>α) (fun l=>fE l fun l=>fN n fun n=>k (.dict ⟨l⟩ n)) x) (fun x n t=>k (.set x n t)) (fun b n=>k (.bytearray b n)) (fun v=>k (.cell v)) (fun f=>k (.func f)) (fun c=>k (.cls c))
 (fun x=>@Array.rec Value (fun _=>α) (fun l=>fL l fun l=>k (.fields ⟨l⟩)) x) (k .freed) d
theorem Yi (d:Data) (k:Data→α):fD d k=k d:=by
 cases d with
 |seq x n=>cases x;simp only [fD,Jd,KO]
 |dict x n=>cases x;simp only [fD,QL,KO]
 |fields x=>cases x;simp only [fD,Jd]
 |_=>rfl
noncomputable def fO (o:Obj) (k:Obj→α):α:=@Obj.rec (fun _=>α) (fun c d da sl=>fD da fun da=>k ⟨c,d,da,sl⟩) o
theorem QM (o:Obj) (k:Obj→α):fO o k=k o:=by cases o;simp only [fO,Yi]
noncomputable def fT (t:BT):(BT→α)→α:=@BT.rec (fun _=>(BT→α)→α) (fun k=>k .nil) (fun v _ _ il ir k=>fO v fun v=>il fun l=>ir fun r=>k (.node v l r)) t
theorem M7:∀(t:BT) (k:BT→α),fT t k=k t
 |.nil,_=>rfl
 |.node v l r,k=>by
  show fO v (fun v=>fT l fun l=>fT r fun r=>k (.node v l r))=_
  rw [QM,M7 l,M7 r]
noncomputable def fS (s:SharedT) (k:SharedT→α):α:=@SharedT.rec (fun _=>α) (fun t n li g d tk os=>fT t fun t=>fN n fun n=>fN tk fun tk=>@Drawn.rec (fun _=>α) (fun a b c e=>@Array.rec GenState (fun _=>α) (fun g=>fL g fun g=>k ⟨t,n,li,⟨g⟩,⟨a,b,c,e⟩,tk,os⟩) g) d) s
theorem M8 (s:SharedT) (k:SharedT→α):fS s k=k s:=by
 obtain ⟨t,n,li,⟨g⟩,⟨a,b,c,e⟩,tk,os⟩:=s
 simp only [fS,M7,KO,Jd]
noncomputable def fP (p:Pos) (k:Pos→α):α:=@Pos.rec (fun _=>α) (fun a b c d=>fN a fun a=>fN b fun b=>fN c fun c=>fN d fun d=>k ⟨a,b,c,d⟩) p
theorem M9 (p:Pos) (k:Pos→α):fP p k=k p:=by cases p;simp only [fP,KO]
end
section
variable (stp:SharedT→Thread→Option (SharedT×Thread)) (ok:Thread→Bool) (seg:Nat→SharedT→Thread→Option (Flow×SharedT×Code×Pos))
noncomputable def HQ (env:Env) (c:Code) (f:Nat):List (List Stmt)→SharedT→Pos→List Code→Option (SharedT×Pos×List Code)
 |[],s,pos,cs=>some (s,pos,cs)
 |l::ls,s,pos,cs=>match seg f s (piecesOf l env c pos [topFrame ⟨0,0,0,0⟩]) with
  |some (.next,s',c',pos')=>fS s' fun s'=>fP pos' fun pos'=>HQ env c f ls s' pos' (c'::cs)
  |_=>none
def KP:Nat→SharedT→Thread→Option (SharedT×Thread)
 |0,s,t=>some (s,t)
 |n+1,s,t=>match through t with
  |true=>none
  |false=>match ok t with
   |false=>none
   |true=>match stp s t with
    |some (s',t')=>KP n s' t'
    |none=>none
def KQ:Nat→SharedT→Thread→Option SharedT
 |0,_,_=>none
 |n+1,s,t=>match through t with
  |true=>some s
  |false=>match ok t with
   |false=>none
   |true=>match stp s t with
    |some (s',t')=>KQ n s' t'
    |none=>none
def cut:Nat→List Stmt→List (List Stmt)
 |0,l=>[l]
 |n+1,l=>match l with
  |[]=>[]
  |x::l=>[x]::cut n l
theorem QN:∀(n:Nat) (l:List Stmt),(cut n l).flatten=l
 |0,l=>by simp [cut]
 |_+1,[]=>rfl
 |n+1,x::l=>by simp [cut,QN n l]
theorem QP:∀(n:Nat) (l:List Stmt),(cut n l).length≤n+1
 |0,l=>AK _
 |_+1,[]=>Dv _
 |n+1,x::l=>Nat.succ_le_succ (QP n l)
def Na (p:Program):Env:={scope:=p.main.scope,locals:=mainNs,globals:=mainNs,cells:=[],code:=.ref 13,frame:=some 14}
def Gs (p:Program):Code:=.body (behindTheImports p) (Na p)
noncomputable def EO (p:Program) (S0:SharedT):Option (Thread×List Code×SharedT):=match KP stp ok 12 S0 (topStub p) with
 |some (sa,ta)=>match seg 1 sa (blockOf (behindTheImports p) (Na p) (Gs p) ⟨0,0,0,0⟩ [topFrame ⟨0,0,0,0⟩]) with
  |some (.next,sb,cb,pb)=>fS sb fun sb=>fP pb fun pb=>match HQ seg (Na p) (Gs p) 2000 (cut 400 (behindTheImports p)) sb pb [cb] with
   |some (sf,pf,cs)=>match KQ stp ok 2 sf ⟨doneF .next,Gs p,pf,[topFrame ⟨0,0,0,0⟩]⟩ with
    |some sg=>some (ta,cs,sg)
    |none=>none
   |none=>none
  |_=>none
 |none=>none
end
noncomputable def QR (P:Params) (os:OsState):SharedT:=⟨((boot_heap P).objs.toList.foldl (fun (x:BT×Nat) o=>(x.1.ins x.2 o,x.2+1)) (.nil,0)).1,11,(boot_heap P).life,⟨[]⟩,boot_drawn,boot_toks,os⟩
theorem Yj (P:Params) (os:OsState):(QR P os).abs=⟨boot_heap P,⟨[]⟩,boot_drawn,boot_toks,os⟩:=by kernel_rfl
section
variable {α:Type}
noncomputable def Nb (l:List Obj):(List Obj→α)→α:=@List.rec Obj (fun _=>(List Obj→α)→α) (fun k=>k []) (fun a _ ih k=>fO a fun a=>ih fun l'=>k (a::l')) l
theorem QT:∀(l:List Obj) (k:List Obj→α),Nb l k=k l
 |[],_=>rfl
 |a::l,k=>by show fO a (fun a=>Nb l fun l'=>k (a::l'))=_;rw [QM,QT]
noncomputable def fin (s:SharedT) (k:Shared→α):α:=Nb (s.tree.list s.n) fun l=>k ⟨⟨⟨l⟩,s.life⟩,s.gens,s.drawn,s.toks,s.os⟩
theorem Yk (s:SharedT) (k:Shared→α):fin s k=k s.abs:=QT _ _
end
section
variable {tb:String→Option Builtin} {p:Program} {w:World} {m0:Nat} {ann:Option Value}
theorem QU:∀{n:Nat} {s s':SharedT} {t t':Thread},KP (stepT (denote tb) p w) (stepOk m0 ann) n s t=some (s',t')→topGo tb p w m0 ann n s.abs t=some (s'.abs,t')
 |0,_,_,_,_,h=>by cases h;rfl
 |n+1,s,s',t,t',h=>by
  unfold KP at h
  unfold topGo
  cases he:through t with
  |true=>rw [he] at h;cases h
  |false=>
   rw [he] at h
   cases hk:stepOk m0 ann t with
   |false=>rw [hk] at h;cases h
   |true=>
    rw [hk] at h
    cases hs:stepT (denote tb) p w s t with
    |none=>rw [hs] at h;cases h
    |some r=>obtain ⟨s₂,t₂⟩:=r;rw [hs] at h;rw [stepT_spec hs];exact QU h
theorem QV:∀{n:Nat} {s s':SharedT} {t:Thread},KQ (stepT (denote tb) p w) (stepOk m0 ann) n s t=some s'→topRun tb p w m0 ann n s.abs t=some s'.abs
 |0,_,_,_,h=>by cases h
 |n+1,s,s',t,h=>by
  unfold KQ at h
  unfold topRun
  cases he:through t with
  |true=>rw [he] at h;cases h;rfl
  |false=>
   rw [he] at h
   cases hk:stepOk m0 ann t with
   |false=>rw [hk] at h;cases h
   |true=>
    rw [hk] at h
    cases hs:stepT (denote tb) p w s t with
    |none=>rw [hs] at h;cases h
    |some r=>obtain ⟨s₂,t₂⟩:=r;rw [hs] at h;rw [stepT_spec hs];exact QV h
theorem Nd {seg:Nat→SharedT→Thread→Option (Flow×SharedT×Code×Pos)} {env:Env} {c:Code} {f:Nat}:∀{ls:List (List Stmt)} {s sf:SharedT} {pos pf:Pos} {c0 cs:List Code},HQ seg env c f ls s pos c0=some (sf,pf,cs)→∀x∈c0,x∈cs
 |[],_,_,_,_,_,_,h,x,hx=>by cases h;exact hx
 |l::ls,s,sf,pos,pf,c0,cs,h,x,hx=>by
  unfold HQ at h
  split at h
  ·rw [M8,M9] at h;exact Nd h x (.tail _ hx)
  ·cases h
theorem QW {env:Env} {c:Code} {f:Nat}:∀{ls:List (List Stmt)} {s sf:SharedT} {pos pf:Pos} {c0 cs:List Code},HQ (segRunT tb p w m0 ann 1) env c f ls s pos c0=some (sf,pf,cs)→(∀x∈cs,x=c)→∀{N:Nat} {r:Shared},
 topRun tb p w m0 ann N sf.abs ⟨doneF .next,c,pf,[topFrame ⟨0,0,0,0⟩]⟩=some r→topRun tb p w m0 ann (ls.length*f+N) s.abs (restOf ls.flatten env c pos [topFrame ⟨0,0,0,0⟩])=some r
 |[],s,sf,pos,pf,c0,cs,h,hc,N,r,k=>by
  cases h
  rw [Fz,Nat.zero_mul,Nat.zero_add]
  exact piece_nil k
 |l::ls,s,sf,pos,pf,c0,cs,h,hc,N,r,k=>by
  unfold HQ at h
  split at h
  ·rename_i s' c' pos' e
   rw [M8,M9] at h
   have e1:=segRun_of e
   rw [hc c' (Nd h c' (.head _))] at e1
   have:=piece_app (rest:=ls.flatten) e1 (QW h hc k)
   rw [E5,Io,Nat.add_comm (ls.length*f) f,Im]
   exact this
  ·cases h
end
noncomputable def Yl {α:Type} (OS:Program→List Str→List Str→(Shared→Bool)→Bool→Shared→_) (IM:List Stmt→List Str) (p q:Program) (loose:List Str) (Yf:Shared→α) (H₀:Heap) (s:Shared):=
 ((staticsOk (IM p.main.body) H₀ s.heap&&namesBound p s.heap&&gensDone s&&laidKept H₀ s.heap),(OS q loose (IM p.main.body) (fun _=>true) true s:type_of% (openSeen q loose [] (fun _=>true) true s)),Yf s)
theorem left_of {p q:Program} {loose:List Str} {α:Type} {Yf:Shared→α} {Ya:World→α} {n:Nat} (e:opening p=plainProg p.main.scope.names) (fm:∀s,fenceModules? p s=some s)
 (size:∀w:World,((boot_heap w.params).isNs mainGlobals&&(Array.mk ([]:List GenState)).size==0,(boot_heap w.params).objs.size,(boot_heap w.params).nsMap mainGlobals "__annotations__")=(true,11,some (.ref 6)))
 (h:∀(w:World) (os:OsState),(EO (stepT (denote treeTable) p w) (stepOk 11 (some (.ref 6))) (segRunT treeTable p w 11 (some (.ref 6)) 1) p (QR w.params os)).map (fun r=>(r.1,r.2.1,fin r.2.2 (Yl openSeen importedModules p q loose Yf (boot_heap w.params))))=
  some (⟨denote treeTable (Gs p),Gs p,⟨0,0,0,0⟩,[topFrame ⟨0,0,0,0⟩]⟩,List.replicate n (Gs p),(true,openGood q loose,Ya w))):
 LeftO p q loose (fun _=>true) Yf Ya 1000000:=fun w=>by
 obtain ⟨⟨hp,gs,d,k,os⟩,e0,e'⟩:=qaU.mp (boot_open (N:=1000000) e rfl fm w)
 obtain ⟨rfl,rfl,rfl,rfl⟩:hp=boot_heap w.params∧gs=Array.mk []∧d=boot_drawn∧k=boot_toks:=by simpa using e'
 obtain ⟨z1,z2,z3⟩:_∧_∧_:=by simpa only [Prod.mk.injEq] using size w
 obtain ⟨⟨ta,cs,sg⟩,h1,h2⟩:=qaU.mp (h w os)
 dsimp only at h2
 rw [Yk] at h2
 obtain ⟨h3,h4⟩:=Prod.mk.inj h2
 obtain ⟨h5,h6⟩:=Prod.mk.inj h4
 obtain ⟨l1,h7⟩:=Prod.mk.inj h6
 obtain ⟨l2,l3⟩:=Prod.mk.inj h7
 have hcs:∀x∈cs,x=Gs p:=fun x hx=>by rw [h5] at hx;exact Lh hx
 have run:topRun treeTable p w 11 (some (.ref 6)) 1000000 ⟨boot_heap w.params,Array.mk [],boot_drawn,boot_toks,os⟩ (topStub p)=some sg.abs:=by
  rw [←Yj]
  unfold EO at h1
  split at h1
  ·rename_i sa ta' ea
   split at h1
   ·rename_i sb cb pb eb
    rw [M8,M9] at h1
    split at h1
    ·rename_i sf pf cs' ec
     split at h1
     ·rename_i sg' eg
      cases h1
      have hb:=segRun_of eb
      rw [hcs cb (Nd ec cb (.head _))] at hb
      have c1:=QW ec hcs (QV eg)
      rw [QN] at c1
      have c2:=piece_block hb c1
      have c3:=QU ea
      rw [h3] at c3
      have c4:=go_top c3 c2
      have hl:=QP 400 (behindTheImports p)
      have:=topRun_mono (1000000 - (12+(1+((cut 400 (behindTheImports p)).length*2000+2)))) _ _ _ _ c4
      rwa [show 12+(1+((cut 400 (behindTheImports p)).length*2000+2))+(1000000 - (12+(1+((cut 400 (behindTheImports p)).length*2000+2))))=1000000 by omega] at this
     ·cases h1
    ·cases h1
   ·cases h1
  ·cases h1
 have t:topFrom treeTable p w 1000000 ⟨boot_heap w.params,Array.mk [],boot_drawn,boot_toks,os⟩=some sg.abs:=by
  unfold topFrom
  dsimp only
  rw [z1,z2,z3,run]
  show (match staticsOk (importedModules p.main.body) (boot_heap w.params) sg.abs.heap&&namesBound p sg.abs.heap&&gensDone sg.abs&&laidKept (boot_heap w.params) sg.abs.heap with |true=>_ |false=>_)=_
  rw [l1]
 unfold openEnds
 rw [e0]
 show (topFrom treeTable p w 1000000 _).map _=_
 rw [t]
 exact congrArg some (Prod.ext l2 l3)
def QX (h:Heap) (a:Addr):Option (Addr×Obj):=match h.get? a with
 |some o=>(match o.cls,a==mainNs||a==cStatics with
  |.none,false=>none
  |_,_=>some (a,o))
 |none=>none
def KR (h:Heap):Frag:=(List.range h.objs.size).filterMap (QX h)
theorem lookup_mem {a:Addr} {o:Obj}:∀{l:Frag},l.lookup a=some o→(a,o)∈l
 |[],h=>by cases h
 |(b,o')::l,h=>by
  rw [FX] at h
  split at h
  ·rename_i q
   cases h
   rw [beq_iff_eq.mp q]
   exact .head _
  ·exact .tail _ (lookup_mem h)
theorem Ym (h:Heap):(KR h).In h:=fun a o e=>by
 obtain ⟨b,_,hb⟩:=List.mem_filterMap.mp (lookup_mem e)
 unfold QX at hb
 split at hb
 ·rename_i o' e'
  split at hb
  ·cases hb
  ·cases hb;exact e'
 ·cases hb
def blank (fd:FuncData):FuncData:={fd with kwdefaults:=.none,doc:=.none,pyModule:=.none,annotations:=none,code:=.none,closureTuple:=.none}
def Je (K:Frag) (n:Str):Option (FuncData×Bool×Bool):=match nsIn K mainGlobals n with
 |some (some (.ref f))=>(match K.lookup f with
  |some ⟨_,_,.func fd,_⟩=>some (blank fd,codeIn K fd.code n,keepIn K (.ref f))
  |_=>none)
 |_=>none
abbrev KS (n:Str) (st:Stmt):FuncData:=fnOf n n (L2.defArgs st) (L2.defBody st) (L2.defScope st) .none .none .none .none none .none .none
inductive KU (K:Frag) (n:Str) (st:Stmt):Prop where
 |mk (f:Addr) (od an:Option Addr) (sl:Array (Option Value)) (oc kV dc pm cd ct:Value) (a:nsIn K mainGlobals n=some (some (.ref f)))
  (l:K.lookup f=some ⟨oc,od,.func (fnOf n n (L2.defArgs st) (L2.defBody st) (L2.defScope st) .none kV dc pm an cd ct),sl⟩) (c:codeIn K cd n=true) (k:keepIn K (.ref f)=true):KU K n st
theorem Yn {K:Frag} {n:Str} {st:Stmt} (e:Je K n=some (KS n st,true,true)):KU K n st:=by
 unfold Je at e
 split at e
 ·rename_i f hf
  split at e
  ·rename_i oc od fd sl hl
   obtain ⟨e1,e2⟩:=Prod.mk.inj (Option.some.inj e)
   obtain ⟨e3,e4⟩:=Prod.mk.inj e2
   obtain ⟨x1,x2,x3,x4,x5,x6,x7,x8,x9,x10,x11,x12,x13,x14,x15⟩:=fd
   replace e1:FuncData.mk x1 x2 x3 x4 x5 x6 x7 x8 .none .none .none none .none .none x15=KS n st:=e1
   injection e1 with y1 y2 y3 y4 y5 y6 y7 y8 y9 y10 y11 y12 y13 y14 y15
   subst x1 x2 x3 x4 x5 x6 x7 x8 x15
   exact ⟨f,od,x12,sl,oc,x9,x10,x11,x13,x14,hf,hl,e3,e4⟩
  ·cases e
 ·cases e
def Jf (K:Frag) (x:Str):Option Int:=match nsIn K mainGlobals x with
 |some (some (.int v _))=>some v
 |_=>none
theorem Yo {K:Frag} {x:Str} {v:Int} (e:Jf K x=some v):∃t,nsIn K mainGlobals x=some (some (.int v t)):=by
 unfold Jf at e
 split at e
 ·rename_i t h;cases e;exact ⟨t,h⟩
 ·cases e
def Nf (K:Frag) (h:Heap):Option (Option Obj×Bool×Bool):=match LS.tabP K with
 |some (c,T)=>some (h.get? T,codeHdIn K c T,(K.lookup T).isNone)
 |none=>none
structure Want where
 fs:List (Str×Stmt)
 cs:List (Str×Int)
 bs:List Str
abbrev KV:=List (Option (FuncData×Bool×Bool))×List (Option Int)×List (Option (Option Value))×Bool×Option (Option Obj×Bool×Bool)
noncomputable def obsK (W:Want) (s:Shared):KV:=fL (KR s.heap) fun K=>
 (W.fs.map fun x=>Je K x.1,W.cs.map fun x=>Jf K x.1,W.bs.map (nsIn K mainGlobals),LS.etOk K,Nf K s.heap)
def valK (W:Want):KV:=(W.fs.map fun x=>some (KS x.1 x.2,true,true),W.cs.map fun x=>some x.2,W.bs.map fun _=>some none,true,some (some (tabObj #[]),true,true))
inductive Has (W:Want) (K:Frag) (c T:Addr):Prop where
 |mk (fs:∀(i:Nat) n st,W.fs[i]?=some (n,st)→KU K n st) (cs:∀(i:Nat) n v,W.cs[i]?=some (n,v)→∃t,nsIn K mainGlobals n=some (some (.int v t))) (bs:∀(i:Nat) n,W.bs[i]?=some n→nsIn K mainGlobals n=some none)
  (et:LS.etOk K=true) (tb:LS.tabP K=some (c,T)) (hd:codeHdIn K c T=true) (no:K.lookup T=none):Has W K c T
def Says (W:Want) (_:World) (h:Heap):Prop:=∃(K:Frag) (c T:Addr),K.In h∧Has W K c T∧h.get? T=some (tabObj #[])
theorem Says.keeps {W:Want} (w:World) (h h':Heap) (x:Says W w h) (k:∀b o,h.get? b=some o→h'.get? b=some o):Says W w h':=by
 obtain ⟨K,c,T,h1,h2,h3⟩:=x
 exact ⟨K,c,T,h1.keeps k,h2,k _ _ h3⟩
theorem Ng {α β:Type} {f g:α→β} {l:List α} (e:l.map f=l.map g) {i:Nat} {x:α} (h:l[i]?=some x):f x=g x:=by
 have:=congrArg (·[i]?) e
 simp only [Cb,h,G8,Option.some.injEq] at this
 exact this
theorem says_of {W:Want} (w:World) (s:Shared) (e:obsK W s=valK W):Says W w s.heap:=by
 unfold obsK valK at e
 rw [Jd] at e
 obtain ⟨e1,e⟩:=Prod.mk.inj e
 obtain ⟨e2,e⟩:=Prod.mk.inj e
 obtain ⟨e3,e⟩:=Prod.mk.inj e
 obtain ⟨e4,e5⟩:=Prod.mk.inj e
 unfold Nf at e5
 split at e5
 ·rename_i c T hT
  obtain ⟨a1,a2⟩:=Prod.mk.inj (Option.some.inj e5)
  obtain ⟨a2,a3⟩:=Prod.mk.inj a2
  exact ⟨_,c,T,Ym _,⟨fun i n st h=>Yn (Ng e1 h),fun i n v h=>Yo (Ng e2 h),fun i n h=>Ng e3 h,e4,hT,a2,Option.isNone_iff_eq_none.mp a3⟩,a1⟩
 ·cases e5
theorem tab_cd {K:Frag} {c T f:Addr} {oc kV dc pm cd ct:Value} {od an:Option Addr} {sl:Array (Option Value)} {st:Stmt} (h:LS.tabP K=some (c,T)) (a:nsIn K mainGlobals "law"=some (some (.ref f)))
 (l:K.lookup f=some ⟨oc,od,.func (fnOf "law" "law" (L2.defArgs st) (L2.defBody st) (L2.defScope st) .none kV dc pm an cd ct),sl⟩):cd=.ref c:=by
 unfold LS.tabP at h
 rw [a] at h
 dsimp only at h
 rw [l] at h
 dsimp only at h
 split at h
 ·split at h
  ·split at h
   ·cases h;rfl
   ·cases h
  ·cases h
 ·cases h
end Tp
namespace LS
open PySem PySem.W PySem.Spec PySem.Calls PyProof.Rows L2
theorem walk_hd {l:OpenLaw} {n k:Nat} {q:Program} {loose:List Str} {XP:(Str→Option Value)→Heap→Prop} {W:Tp.Want} {d:DefRec} {x:Str} {F:List D→HD→Out D}
 (hn:l.most=some n) (hn2:n≤sizeLine) (hdf:d.params.defaults=[]) (hr:Room k callerA)
 (Fn:∀(w:World) (K:Frag) (c T:Addr) (mg:Str→Option Value) (fa:Addr) (h:Heap),Tp.Has W K c T→K.In h→h.Ns mainGlobals mg→mg d.name=some (.ref fa)→
  ∃fd:FuncData,(∀(s:Shared) (u:Value),BindsTo s fd ⟨[u],[]⟩ [(x,u)])∧
   ∀base:Heap,K.In base→base.Ns mainGlobals mg→HK mg base→FnOk l.prog w K mg base (AD l.prog w K) k fa fd [x] (Fg K F))
 (hF:∀ns:List Int,ns.length≤n→(∀i∈ns,Builtin.Int.intBits i≤2^20)→∃h',F [.scr ns] [.tab]=.ok (.bl true) h'):
 WalkO q loose XP (Tp.Says W) l.row.toRowW d [] (fun f vs=>PySem.call f vs):=by
 refine Att.attach_bits hn hdf fun w s₀ s₁ mg mb fa o pm cd doc a vs ns hbits G Y ho hd hcd' hmg hobj hints hlen hg=>?_
 obtain ⟨K,c,T,KX,HS,hT⟩:=Y
 obtain ⟨fd,hb,hF'⟩:=Fn w K c T mg fa _ HS KX G.T.g hmg
 obtain ⟨bm,ob,b1,b2,b3,b4,b5,b6⟩:=G.T.bmain
 obtain ⟨_,_,_,_,h1,h2,h3⟩:=HS
 exact Xf KX G.T.g G.T.b G.T.builtins G.T.nolimit hg ⟨bm,ob,b1,b2,b3,b4,b5,b6⟩ hobj hints (BK hlen hn2) hr h1 h2 hT h3 hF' hb (hF ns hlen hbits)
end LS
namespace Tp
open PySem PySem.W PySem.Spec PySem.Calls PyProof.Rows
def Yp (K:Frag):Option (FuncData×List Bool):=match nsIn K mainGlobals "TooMany",nsIn K mainGlobals "SwitchError" with
 |some (some (.ref C)),some (some (.ref S))=>(match K.lookup C with
  |some o=>(match LS.clsOf o.data with
   |some cd=>(match nsIn K cd.ns "__init__" with
    |some (some (.ref f))=>(match K.lookup f with
     |some ⟨oc,_,.func fd,_⟩=>some (blank fd,[codeIn K fd.code "TooMany.__init__",LS.tmX K C f,LS.swX K S,keepIn K (.ref C),oc==.type "function"])
     |_=>none)
    |_=>none)
   |none=>none)
  |none=>none)
 |_,_=>none
abbrev Yq (st:Stmt):FuncData:=fnOf "__init__" "TooMany.__init__" (L2.defArgs st) (L2.defBody st) (L2.defScope st) .none .none .none .none none .none .none
inductive QY (K:Frag) (st:Stmt):Prop where
 |mk (C S f:Addr) (od an:Option Addr) (sl:Array (Option Value)) (kV dc pm cd ct:Value) (nC:nsIn K mainGlobals "TooMany"=some (some (.ref C))) (nS:nsIn K mainGlobals "SwitchError"=some (some (.ref S)))
  (l:K.lookup f=some ⟨.type "function",od,.func (fnOf "__init__" "TooMany.__init__" (L2.defArgs st) (L2.defBody st) (L2.defScope st) .none kV dc pm an cd ct),sl⟩) (c:codeIn K cd "TooMany.__init__"=true) (tm:LS.tmX K C f=true) (sw:LS.swX K S=true) (kp:keepIn K (.ref C)=true):QY K st
noncomputable def ZdJ (W:Want) (s:Shared):KV×Option (FuncData×List Bool):=fL (KR s.heap) fun K=>
 ((W.fs.map fun x=>Je K x.1,W.cs.map fun x=>Jf K x.1,W.bs.map (nsIn K mainGlobals),LS.etOk K,Nf K s.heap),Yp K)
def ZdK (W:Want) (st:Stmt):KV×Option (FuncData×List Bool):=(valK W,some (Yq st,[true,true,true,true,true]))
def SaysT (W:Want) (st:Stmt) (_:World) (h:Heap):Prop:=∃(K:Frag) (c T:Addr),K.In h∧(Has W K c T∧QY K st)∧h.get? T=some (tabObj #[])
theorem SaysT.keeps {W:Want} {st:Stmt} (w:World) (h h':Heap) (x:SaysT W st w h) (k:∀b o,h.get? b=some o→h'.get? b=some o):SaysT W st w h':=by
 obtain ⟨K,c,T,h1,h2,h3⟩:=x
 exact ⟨K,c,T,h1.keeps k,h2,k _ _ h3⟩
end Tp
namespace LS
open PySem PySem.W PySem.Spec PySem.Calls PyProof.Rows L2
structure TmK (P:Program) (w:World) (K:Frag) (mg:Str→Option Value) (base:Heap) (C f:Addr) (fd:FuncData) (oI:Obj):Prop where
 tm:tmX K C f=true
 F:FnOk P w K mg base (AD P w K) 1 f fd ["self","many","most"] (QK K C)
 hb:Binds K fd ["self","many","most"] []
 lI:K.lookup f=some oI
 cI:oI.cls=.type "function"
 kp:keepIn K (.ref C)=true
 nC:nsIn K mainGlobals "TooMany"=some (some (.ref C))
end LS
namespace LS
open PySem PySem.Spec PyProof.Rows L2
open Classical in
noncomputable def ZdL:D→HD→Out D
 |.int i,h=>if i.natAbs<4611686018427387904 then .ok (.str (toString i)) h else .stuck
 |_,_=>.stuck
section
variable {X:Cx}
def ZdM (i j k:Nat) (ta:TA):TS:=fun Dn σ H=>ta σ H fun vs H1=>∃u v w,vs=[u,v,w]∧Dn.nx (((σ.set i (some u)).set j (some v)).set k (some w)) H1
def Nh (i j k:Nat) (ρ:Ai):List D→HD→Out (Fl×Ai)
 |[u,v,w],h=>.ok (.nx,((ρ.set i (some u)).set j (some v)).set k (some w)) h
 |_,_=>.stuck
noncomputable def QZ (i j k:Nat) (fa:MA):MS:=fun ρ h=>(fa ρ h).bind fun ds h1=>Nh i j k ρ ds h1
end
@[simp] theorem ZdN {i j k:Nat} {fa:MA} {ρ:Ai} {h:HD} {Q:Fl×Ai→HD→Prop}:Wp (QZ i j k fa ρ h) Q=Wp (fa ρ h) fun ds h1=>Wp (Nh i j k ρ ds h1) Q:=by unfold QZ;rw [AC]
@[simp] theorem ZdO {i j k:Nat} {ρ:Ai} {u v w:D} {h:HD} {Q:Fl×Ai→HD→Prop}:Wp (Nh i j k ρ [u,v,w] h) Q=Q (.nx,((ρ.set i (some u)).set j (some v)).set k (some w)) h:=rfl
section
variable {X:Cx}
abbrev ZdP:=FJ fun i j=>.int (Builtin.bitXor i j)
end
section
variable {X:Cx} {E:XK} {D:Addr} {elt tg iter:Expr} {ifs:List Expr} {gs gens:List Comprehension} {scope:Scope} {pos:Pos} {Nc:List Str} {cs:List (Option Nat)} {it:MI} {gg:TG} {sg:MG} {t:MT} {f:ME} {e:CO} {d:Nat} {is js:List Nat}
end
def Yr:List Expr→Option (List (Int×Int))
 |[]=>some []
 |.Tuple [.Constant (.int a) _ _,.Constant (.int b) _ _] _ _::es=>(Yr es).map ((a,b)::·)
 |_=>none
noncomputable def KW:List (Int×Int)→MA
 |[]=>Ae
 |p::ps=>Aa (A2 (Aa (mC (.int p.1)) (Aa (mC (.int p.2)) Ae))) (KW ps)
@[simp] theorem ZdQ:KW []=Ae:=rfl
@[simp] theorem ZdR {p:Int×Int} {ps:List (Int×Int)}:KW (p::ps)=Aa (A2 (Aa (mC (.int p.1)) (Aa (mC (.int p.2)) Ae))) (KW ps):=rfl
section
variable {X:Cx} {E:XK}
@[irreducible] def ExI (X:Cx) (E:XK) (st:Stmt) (g:MS):Prop:=Ex X E st g
@[irreducible] def ZdS (X:Cx) (E:XK) (sts:List Stmt) (g:MS):Prop:=A4 X E sts g
end
end LS
namespace LS
open PySem PySem.Spec PySem.W PyProof.Rows L2
end LS
namespace LS
open PySem PySem.Spec PyProof.Rows L2 PySem.W
end LS
namespace Tp
open PySem PySem.W PySem.Spec PySem.Calls PyProof.Rows
abbrev Q0:=List (Option (FuncData×Bool×Bool))×List (Option Int)×List (Option (Option Value))×Bool
noncomputable def ZdT (W:Want) (s:Shared):Q0:=fL (KR s.heap) fun K=>
 (W.fs.map fun x=>Je K x.1,W.cs.map fun x=>Jf K x.1,W.bs.map (nsIn K mainGlobals),true)
def ZdU (W:Want):Q0:=(W.fs.map fun x=>some (KS x.1 x.2,true,true),W.cs.map fun x=>some x.2,W.bs.map fun _=>some none,true)
inductive Q1 (W:Want) (K:Frag):Prop where
 |mk (fs:∀(i:Nat) n st,W.fs[i]?=some (n,st)→KU K n st) (cs:∀(i:Nat) n v,W.cs[i]?=some (n,v)→∃t,nsIn K mainGlobals n=some (some (.int v t))) (bs:∀(i:Nat) n,W.bs[i]?=some n→nsIn K mainGlobals n=some none)
  (et:True):Q1 W K
def Says0 (W:Want) (_:World) (h:Heap):Prop:=∃K:Frag,K.In h∧Q1 W K
theorem Says0.keeps {W:Want} (w:World) (h h':Heap) (x:Says0 W w h) (k:∀b o,h.get? b=some o→h'.get? b=some o):Says0 W w h':=by
 obtain ⟨K,h1,h2⟩:=x
 exact ⟨K,h1.keeps k,h2⟩
end Tp
namespace LS
open PySem PySem.W PySem.Spec PySem.Calls PyProof.Rows L2
end LS
namespace LS
open PySem PySem.Spec PyProof.Rows L2
def Ys:D→HD→Out D:=fun x h=>match x with
 |.loc l=>(match h[l]? with
  |some (.lst ds)=>Cp ds.reverse h
  |_=>.stuck)
 |_=>.stuck
def ZdV (f:ME):ME:=fun ρ h=>(f ρ h).bind Ys
section
variable {X:Cx} {E:XK} {e:Expr} {f:ME}
end
def HU:D→D→HD→Out D:=fun x y h=>match x with
 |.exc _ _=>.stuck
 |.edic=>.stuck
 |_=>AR x y h
section
variable {h:HD} {y:D} {i:Int} {b:Bool} {x:Str} {ds:List D} {l:Nat}
@[simp] theorem ZdW:HU (.int i) y h=AR (.int i) y h:=rfl
@[simp] theorem ZdX:HU (.bl b) y h=AR (.bl b) y h:=rfl
@[simp] theorem ZdY:HU .non y h=AR .non y h:=rfl
@[simp] theorem ZdZ:HU (.str x) y h=AR (.str x) y h:=rfl
@[simp] theorem Zd0:HU (.tup ds) y h=AR (.tup ds) y h:=rfl
@[simp] theorem Zd1:HU (.loc l) y h=AR (.loc l) y h:=rfl
end
end LS
namespace LS
open PySem PySem.Spec PyProof.Rows L2 PySem.W PySem.Calls
def Yt:Kyd→Bool
 |.i _=>true
 |_=>false
def KY (kvs:List (Kyd×D)):Bool:=kvs.all fun p=>Yt p.1
def Yu (kvs:List (Kyd×D)) (k:Kyd):Option D:=(kvs.find? fun p=>decide (p.1=k)).map (·.2)
def B6 (kvs:List (Kyd×D)) (k:Kyd) (v:D):List (Kyd×D):=if kvs.any (fun p=>decide (p.1=k)) then kvs.map (fun p=>if p.1=k then (p.1,v) else p) else kvs++[(k,v)]
def IR (K:Frag) (m:List Addr) (H:Hp) (p:Kyd×D) (q:Int×Value):Prop:=p.1=.i q.1∧∃v,DV K m H p.2 v∧RelV v q.2
section
variable {P:Program} {w:World} {K:Frag} {m:List Addr} {H:Hp} {h:Heap} {a:Addr}
theorem EntD.len:∀{kvs:List (Kyd×D)} {es:List (Kyd×V×V)},EntD K m H kvs es→kvs.length=es.length
 |[],_,e=>by simp only [EntD] at e;subst e;rfl
 |_::_,_,e=>by
  simp only [EntD] at e
  obtain ⟨kv,vv,r',rfl,_,_,t⟩:=e
  simp [EntD.len t]
theorem Yv {kvs:List (Kyd×D)} {k:Kyd} {d:D}:(B6 kvs k d).length≤kvs.length+1:=by
 unfold B6
 split<;>simp
theorem Yw {H':Hp} {es:List (Kyd×V×V)} (d:Cd a es h):ObjOk P w H' h a (.dct (Cd a es)):=
 ⟨d,let ⟨_,_,_,o,_,_,e,_⟩:=d;⟨o,e⟩,fun h1 h2 ⟨x1,x2,x3,o,us,ep,e,r⟩ k=>⟨x1,x2,x3,o,us,ep,k _ e,r⟩⟩
end
section
variable {X:Cx} {E:XK} {pins:List (Addr×Obj)} {σ:L2.St} {H:Hp} {s:Shared}
theorem Yx (I:Inv X pins σ H s):(s.heap.objs.size==sysModules)=false:=by
 have ne:s.heap.objs.size≠sysModules:=by
  obtain ⟨og,_,_,eg,_⟩:=I.ok.mod.glob
  obtain ⟨ml,⟨ol,_,_,el,_⟩,_⟩:=I.loc
  have h1:(3:Nat)<X.base.objs.size:=Av eg
  have h2:(X.env.locals:Nat)<s.heap.objs.size:=Av el
  have h3:X.base.objs.size≤X.s₀.heap.objs.size:=I.ok.bsz
  have h4:X.s₀.heap.objs.size≤(X.env.locals:Nat):=I.ok.above
  have h5:(1:Nat)<s.heap.objs.size:=AV (AV (show 1<4 by decide) h1) (BK h3 (BK h4 (E7 h2)))
  exact fun z=>B2 h5 z
 exact beq_eq_false_iff_ne.mpr ne
def Jg (kvs:List (Kyd×D)) (h:HD):Out D:=.ok (.loc h.length) (h++[.dic false kvs])
def Yy:ME:=fun _ h=>Jg [] h
theorem Yz {m:List Addr} {h:HD} {Q:VK} {a:Addr} {kvs:List (Kyd×D)} {es:List (Kyd×V×V)} {H1:Hp} (hr:HR X.K m h H) (hf:H a=none) (k:Kp H H1) (p:Post X.K (rD X.K) m H E Q (Jg kvs h)) (e1:H1=An H a (.dct (Cd a es))) (en:EntD X.K m H kvs es):Q (.ref a) H1:=by
 subst e1
 refine p (.ref a) (m++[a]) _ (G6 _ _) (.new hf) (hr.newCell hf ⟨es,B3,en.keep (G6 _ _) (.new hf)⟩) ?_
 simp only [rD,DV]
 refine ⟨a,rfl,?_⟩
 rw [←hr.len]
 simp
def YA (i j:Int):ME:=fun _ h=>Jg [(.i i,.int j)] h
def Q2:D→HD→Out D:=fun x h=>match x with
 |.loc l=>(match h[l]? with
  |some (.dic _ _)=>.ok x h
  |_=>.stuck)
 |_=>.stuck
theorem YB {fz:Bool} {a:Addr} {es:List (Kyd×V×V)} (I:Inv X pins σ H s) (d:DicH fz H a es):Cd a es s.heap:=by
 have:=d.rd.ok I.hok
 exact (show ObjOk X.prog X.w H s.heap a (.dct (Cd a es)) from this).1
def Q3:D→D→D→HD→Out D:=fun x y z h=>match x,y with
 |.loc l,.int n=>(match h[l]? with
  |some (.dic _ kvs)=>if KY kvs then .ok ((Yu kvs (.i n)).getD z) h else .stuck
  |_=>.stuck)
 |_,_=>.stuck
def Q4 (f g k:ME):ME:=fun ρ h=>((f ρ h).bind Q2).bind fun x h1=>(g ρ h1).bind fun y h2=>(k ρ h2).bind fun z h3=>Q3 x y z h3
def Q5 (o i v:D) (h:HD) (g:HD→Out (Fl×Ai)):Out (Fl×Ai):=match o,i with
 |.loc l,.int n=>(match h[l]? with
  |some (.dic false kvs)=>if KY kvs∧kvs.length<sizeLine then g (h.set l (.dic false (B6 kvs (.i n) v))) else .stuck
  |_=>.stuck)
 |_,_=>.stuck
def Q6 (fo fi fv:ME):MS:=fun ρ h=>(fv ρ h).bind fun v h1=>(fo ρ h1).bind fun o h2=>(fi ρ h2).bind fun i h3=>Q5 o i v h3 fun h4=>.ok (.nx,ρ) h4
def Zd2 (K:Frag):V→V→V→Hp→(Hp→Prop)→Prop:=fun o i v H Q=>∃(m:List Addr) (a:Addr) (n:Int) (kvs:List (Kyd×D)) (es:List (Kyd×V×V)) (d:D),o=.ref a∧i=.int n∧H a=some (.dct (Cd a es))∧EntD K m H kvs es∧KY kvs=true∧kvs.length<sizeLine∧DV K m H d v∧
 ∀es',EntD K m H (B6 kvs (.i n) d) es'→Q (An H a (.dct (Cd a es')))
def Zd3 (a:Addr) (ob:Obj) (es:List (Kyd×V×V)):It:=⟨fun i H=>H a=some (.frz ob (.dct (Cd a es)))∧i<es.length,fun i H x H'=>∃p k kv vv,H p=none∧x=.ref p∧es[i]?=some (k,kv,vv)∧H'=An H p (.tup [kv,vv]),fun i H=>H a=some (.frz ob (.dct (Cd a es)))∧i=es.length⟩
def Q7 (d:D) (h:HD):Out (List D×A0):=match d with
 |.loc l=>(match h[l]? with
  |some (.dic _ kvs)=>if KY kvs then .ok (kvs.map fun p=>.tup [kD p.1,p.2],[]) (h.set l (.dic true kvs)) else .stuck
  |_=>.stuck)
 |_=>.stuck
def Q8 (f:ME):MI:=fun ρ h=>(f ρ h).bind Q7
end
section
variable {f g k fo fi fv:ME} {ρ:Ai} {h:HD} {Q:D→HD→Prop} {QS:Fl×Ai→HD→Prop} {QI:List D×A0→HD→Prop} {i j:Int} {l:Nat} {fz:Bool} {kvs:List (Kyd×D)}
@[simp] theorem Zd4:Wp (Yy ρ h) Q=Q (.loc h.length) (h++[.dic false []]):=id rfl
@[simp] theorem Zd5:Wp (YA i j ρ h) Q=Q (.loc h.length) (h++[.dic false [(.i i,.int j)]]):=id rfl
@[simp] theorem Zd6:Wp (Q4 f g k ρ h) Q=Wp (f ρ h) fun x h1=>Wp (Q2 x h1) fun x h2=>Wp (g ρ h2) fun y h3=>Wp (k ρ h3) fun z h4=>Wp (Q3 x y z h4) Q:=by unfold Q4;simp only [AC]
@[simp] theorem Zd7:Wp (Q6 fo fi fv ρ h) QS=Wp (fv ρ h) fun v h1=>Wp (fo ρ h1) fun o h2=>Wp (fi ρ h2) fun i h3=>Wp (Q5 o i v h3 fun h4=>.ok (.nx,ρ) h4) QS:=by unfold Q6;simp only [AC]
@[simp] theorem Zd8:Wp (Q8 f ρ h) QI=Wp (f ρ h) fun d h1=>Wp (Q7 d h1) QI:=by unfold Q8;rw [AC]
end
namespace Db
open PySem
section
variable {prog:Program} {w:World} {A:Around} {E:Value→Shared→Prop} {s:Shared}
abbrev iK (prog:Program) (w:World):KeyKind prog w Int:=intKind prog w
inductive RowsAre (prog:Program) (w:World) (h:Heap):List (List Int)→List Value→Prop
 |nil:RowsAre prog w h [] []
 |cons {k:List Int} {v:Value} {ks:List (List Int)} {vs:List Value}:(∃b,v=.ref b∧IsTupleKey (iK prog w) h k b)→RowsAre prog w h ks vs→RowsAre prog w h (k::ks) (v::vs)
def IsBoardKey (prog:Program) (w:World) (h:Heap) (ks:List (List Int)) (a:Addr):Prop:=∃o items n,h.get? a=some o∧o.cls=.type "tuple"∧o.data=.seq items n∧RowsAre prog w h ks items.toList
theorem RowsAre.inj {h:Heap} {x y:List (List Int)} {vs:List Value} (hx:RowsAre prog w h x vs) (hy:RowsAre prog w h y vs):x=y:=by
 induction hx generalizing y with
 |nil=>cases hy;rfl
 |cons h1 _ ih=>
  cases hy with
  |cons h2 t2=>
   obtain ⟨b1,rfl,q1⟩:=h1
   obtain ⟨b2,e,q2⟩:=h2
   cases e
   rw [q1.inj q2,ih t2]
theorem IsBoardKey.inj {h:Heap} {a:Addr} {x y:List (List Int)} (hx:IsBoardKey prog w h x a) (hy:IsBoardKey prog w h y a):x=y:=by
 obtain ⟨o,items,n,ho,_,hd,hi⟩:=hx
 obtain ⟨o',items',n',ho',_,hd',hi'⟩:=hy
 obtain rfl:o=o':=Option.some.inj (ho.symm.trans ho')
 rw [hd] at hd'
 injection hd' with h1 _
 subst h1
 exact hi.inj hi'
theorem IsBoardKey.typeIs {ks:List (List Int)} {a:Addr} (x:IsBoardKey prog w s.heap ks a):s.TypeIs (.ref a) "tuple":=let ⟨o,_,_,ho,hc,_⟩:=x;⟨o,ho,hc⟩
theorem RowsAre.keeps {h h':Heap} {d:Addr} {o:Obj} {es ep} (ho:h.get? d=some o) (hd:o.data=.dict es ep) (hs:Heap.SameBut d h h'):∀{ks:List (List Int)} {vs:List Value},RowsAre prog w h ks vs→RowsAre prog w h' ks vs
 |_,_,.nil=>.nil
 |_,_,.cons h1 t=>.cons (let ⟨b,e,q⟩:=h1;⟨b,e,q.keeps ho hd hs⟩) (RowsAre.keeps ho hd hs t)
theorem IsBoardKey.keeps {h h':Heap} {ks:List (List Int)} {a d:Addr} {o:Obj} {es ep} (x:IsBoardKey prog w h ks a) (ho:h.get? d=some o) (hd:o.data=.dict es ep) (hs:Heap.SameBut d h h'):IsBoardKey prog w h' ks a:=by
 obtain ⟨o',items,n,ho',hc,hd',hi⟩:=x
 have hne:a≠d:=by
  rintro rfl
  obtain rfl:o'=o:=Option.some.inj (ho'.symm.trans ho)
  rw [hd] at hd';exact nomatch hd'
 exact ⟨o',items,n,(hs.2 a hne).trans ho',hc,hd',hi.keeps ho hd hs⟩
def Jh (ks:List (List Int)):Nat:=(ks.map fun r=>r.length+1).sum
def Ni (prog:Program) (w:World) (ks:List (List Int)):Int:=reduceHash (Builtin.Tuple.tupleHashOf (ks.map (tupleKeyHash (iK prog w))))
theorem YC {ks:List (List Int)} {a:Addr} {Q:Int→Shared→Prop} (hu:A.units+1<cLine) (hk:IsBoardKey prog w s.heap ks a) (h:Q (Ni prog w ks) {s with toks:=s.toks+(Jh ks+1)}):
 wpAny (model prog w) A (pyHash (.ref a)) Q E s:=by
 have hT:=hk.typeIs
 obtain ⟨o,items,n,ho,_,hd,hi⟩:=hk
 unfold pyHash
 first |unfold pyHashByItsType |skip
 first |refine wpAny_bind (wpAny_cRoomFor_or (.inr (by omega)) ?_) |skip
 refine wpAny_bind (wpAny_specialOf hT F.slot_tuple_hash.lookup ?_)
 show wpAny _ _ (if (some (Value.builtin "tuple.__hash__")==some Value.none)=true then _ else _) Q E s
 rw [if_neg (by rw [beq_builtin_none];exact Bw)]
 refine wpAny_bind (wpAny_specialOf hT F.slot_tuple_hash.lookup ?_)
 show wpAny _ _ (callSpecialIfBoundUnlessNone? (.ref a) "__hash__" _ >>=_) Q E s
 refine wpAny_bind (wpAny_callSpecialIfBoundUnlessNone?_slot hT F.slot_tuple_hash (wpAny_call_entry F.slot_tuple_hash hT F.entry_tuple_hash ?_ (F.args_tuple_hash_1 _)))
 show wpAny _ _ (Builtin.Tuple.tupleItemsOf (.ref a) >>=_) _ _ s
 refine wpAny_bind (wpAny_tupleItemsOf ho hd ?_)
 refine wpAny_bind ?_
 rw [←Array.forIn_toList]
 refine wpAny_forIn_list _
  (fun rest (b:Array Int) s'=>∃done I0,ks=done++I0∧RowsAre prog w s.heap I0 rest∧b.toList=done.map (tupleKeyHash (iK prog w))∧s'={s with toks:=s.toks+Jh done})
  _ ?_ ?_ _ _ ⟨[],ks,rfl,hi,rfl,rfl⟩
 ·rintro x rest b s' ⟨done,I0,rfl,hl,hb,rfl⟩
  cases hl with
  |@cons k _ ks' _ h1 hl'=>
   obtain ⟨rb,rfl,hrow⟩:=h1
   refine wpAny_bind (wpAny_pyHash_tuple (by show _<cLine;first |exact hu |omega) hrow ?_)
   first
    |exact wpAny_pure ⟨done++[k],ks',by simp,hl',by simp [hb],by simp [Jh,Im]⟩
    |exact wpAny_bind (wpAny_pure (wpAny_pure ⟨done++[k],ks',by simp,hl',by simp [hb],by simp [Jh,Im]⟩))
 ·rintro b s' ⟨done,I0,rfl,hl,hb,rfl⟩
  cases hl
  rw [Fy] at h
  show wpAny _ _ (retInt (Builtin.Tuple.tupleHashOf b.toList)) _ _ _
  rw [hb]
  refine wpAny_ret_mkInt ?_
  show wpAny _ _ (if (decide (-(2:Int)^63≤Builtin.Tuple.tupleHashOf (done.map (tupleKeyHash (iK prog w))))&&decide (Builtin.Tuple.tupleHashOf (done.map (tupleKeyHash (iK prog w)))<2^63))=true then _ else _) Q E _
  unfold Ni reduceHash at h
  by_cases hr:(decide (-(2:Int)^63≤Builtin.Tuple.tupleHashOf (done.map (tupleKeyHash (iK prog w))))&&decide (Builtin.Tuple.tupleHashOf (done.map (tupleKeyHash (iK prog w)))<2^63))=true
  ·rw [if_pos hr]
   rw [if_pos hr] at h
   exact wpAny_pure (by simpa [Im] using h)
  ·rw [if_neg hr]
   rw [if_neg hr] at h
   exact wpAny_bind (wpAny_rule (wpAny_pure (by simpa [Im] using h)))
theorem YD {x y:List (List Int)} {a b:Addr} {P:Fin→Shared→Prop} (hu:A.units<cLine) (hx:IsBoardKey prog w s.heap x a) (hy:IsBoardKey prog w s.heap y b) (h:P (.done (.ret (.bool (decide (x=y))))) s):
 wpAny (model prog w) A (Builtin.«tuple.__eq__» ⟨[.ref a,.ref b],[]⟩) P E s:=by
 have hTb:=hy.typeIs
 obtain ⟨oa,xs,na,hoa,_,hda,hia⟩:=hx
 obtain ⟨ob,ys,nb,hob,_,hdb,hib⟩:=hy
 show wpAny _ _ (isInstance (.ref b) (.type "tuple") >>=_) _ _ s
 refine wpAny_bind (wpAny_isInstance hTb isSubtype_tuple_tuple ?_)
 simp only [FZ,BP,if_false]
 refine wpAny_bind (wpAny_tupleItemsOf hoa hda ?_)
 refine wpAny_bind (wpAny_tupleItemsOf hob hdb ?_)
 refine wpAny_bind ?_
 refine wpAny_forIn_list _
  (fun rest r s'=>r.1=none∧s'=s∧∃x' y' xs' ys',rest=List.zip xs' ys'∧RowsAre prog w s.heap x' xs'∧RowsAre prog w s.heap y' ys'∧decide (x'=y')=decide (x=y)∧(xs'.length==ys'.length)=(xs.size==ys.size))
  _ ?_ ?_ _ _ ⟨rfl,rfl,x,y,xs.toList,ys.toList,rfl,hia,hib,rfl,by simp⟩
 ·rintro ⟨u,v⟩ rest r s' ⟨hr,rfl,x',y',xs',ys',hz,hx',hy',hdec,hlen⟩
  cases hx' with
  |nil=>simp at hz
  |@cons k1 u' x'' xs'' h1 hx''=>
   cases hy' with
   |nil=>simp at hz
   |@cons k2 v' y'' ys'' h2 hy''=>
    simp only [List.zip_cons_cons,List.cons.injEq,Prod.mk.injEq] at hz
    obtain ⟨⟨rfl,rfl⟩,rfl⟩:=hz
    obtain ⟨b1,rfl,r1⟩:=h1
    obtain ⟨b2,rfl,r2⟩:=h2
    refine wpAny_bind (wpAny_eqBool_tuple (x:=k1) (y:=k2) (by show _<cLine;first |exact hu |omega) r1 r2 ?_)
    by_cases hk:k1=k2
    ·subst hk
     rw [decide_eq_true rfl]
     simp only [FZ,BP,if_false]
     refine wpAny_pure ⟨rfl,rfl,x'',y'',xs'',ys'',rfl,hx'',hy'',?_,by simpa using hlen⟩
     rw [←hdec]
     by_cases hxy:x''=y''
     ·simp [hxy]
     ·simp [hxy]
    ·rw [decide_eq_false hk]
     simp only [Bool.not_false,if_true]
     have hf:decide (x=y)=false:=by rw [←hdec];simp [hk]
     rw [hf] at h
     exact wpAny_bind (wpAny_pure (wpAny_pure (wpAny_pure h)))
 ·rintro ⟨r1,r2⟩ s' ⟨hr,rfl,x',y',xs',ys',hz,hx',hy',hdec,hlen⟩
  simp only at hr
  subst hr
  refine wpAny_pure ?_
  have hfin:(xs.size==ys.size)=decide (x=y):=by
   rw [←hdec,←hlen]
   cases hx' with
   |nil=>
    cases hy' with
    |nil=>simp
    |cons _ _=>simp
   |cons _ _=>
    cases hy' with
    |nil=>simp
    |cons _ _=>simp at hz
  show P (.done (.ret (.bool (xs.size==ys.size)))) s'
  rw [hfin];exact h
theorem YE {x y:List (List Int)} {a b:Addr} {Q:Bool→Shared→Prop} (hu:A.units+1<cLine) (hx:IsBoardKey prog w s.heap x a) (hy:IsBoardKey prog w s.heap y b) (h:Q (decide (x=y)) s):
 wpAny (model prog w) A (eqBool (.ref a) (.ref b)) Q E s:=by
 unfold eqBool
 try with_reducible refine wpAny_holding ?_
 show wpAny _ _ (if (Value.ref a==Value.ref b)=true then _ else _) Q E s
 by_cases hab:(Value.ref a==Value.ref b)=true
 ·rw [if_pos hab]
  have e:a=b:=by have:=eq_of_beq hab;injection this
  subst e
  obtain rfl:=hx.inj hy
  exact wpAny_bind (wpAny_rule (wpAny_pure (by simpa using h)))
 ·rw [if_neg hab]
  exact wpAny_bind (wpAny_richCompare_same_room (op:=.Eq) hx.typeIs hy.typeIs F.slot_tuple_eq
   (wpAny_call_entry F.slot_tuple_eq hx.typeIs F.entry_tuple_eq (YD (by show A.in1.units<cLine;exact hu) hx hy ⟨_,rfl,(fun e=>nomatch e),wpAny_truthy_bool h⟩) (F.args_tuple_eq_2 _ _)) (by omega))
theorem YF {ks:List Int} {a:Addr} {Q:Bool→Shared→Prop} (hk:IsTupleKey (iK prog w) s.heap ks a) (h:Q true s):wpAny (model prog w) A (eqIsQuiet 7 (.ref a)) Q E s:=by
 have hT:=hk.typeIs
 obtain ⟨o,items,n,ho,_,hd,hi⟩:=hk
 unfold eqIsQuiet
 refine wpAny_bind (wpAny_specialOf hT F.slot_tuple_eq.lookup ?_)
 show wpAny _ _ (isInstance (.ref a) (.type "tuple") >>=_) _ _ s
 refine wpAny_bind (wpAny_isInstance hT isSubtype_tuple_tuple ?_)
 simp only [FZ,BP,if_false]
 refine wpAny_bind (wpAny_seqItems ho hd ?_)
 refine wpAny_bind ?_
 show wpAny _ _ (forIn items _ _) _ _ s
 rw [←Array.forIn_toList]
 refine wpAny_forIn_list _ (fun rest r s'=>r.1=none∧s'=s∧∀v∈rest,carriedByValue v=true) _ ?_ ?_ _ _ ⟨rfl,rfl,hi.byValue⟩
 ·rintro v rest r s' ⟨hr,rfl,hall⟩
  rw [eqIsQuiet_byValue _ (hall v AO)]
  refine wpAny_bind (wpAny_pure ?_)
  simp only [FZ,BP,if_false]
  exact wpAny_pure ⟨rfl,rfl,fun u hu'=>hall u (A1 _ hu')⟩
 ·rintro ⟨r1,r2⟩ s' ⟨hr,rfl,_⟩
  simp only at hr
  subst hr
  exact wpAny_pure h
theorem YG {ks:List (List Int)} {a:Addr} {Q:Bool→Shared→Prop} (hk:IsBoardKey prog w s.heap ks a) (h:Q true s):wpAny (model prog w) A (eqIsQuiet 8 (.ref a)) Q E s:=by
 have hT:=hk.typeIs
 obtain ⟨o,items,n,ho,_,hd,hi⟩:=hk
 unfold eqIsQuiet
 refine wpAny_bind (wpAny_specialOf hT F.slot_tuple_eq.lookup ?_)
 show wpAny _ _ (isInstance (.ref a) (.type "tuple") >>=_) _ _ s
 refine wpAny_bind (wpAny_isInstance hT isSubtype_tuple_tuple ?_)
 simp only [FZ,BP,if_false]
 refine wpAny_bind (wpAny_seqItems ho hd ?_)
 refine wpAny_bind ?_
 show wpAny _ _ (forIn items _ _) _ _ s
 rw [←Array.forIn_toList]
 refine wpAny_forIn_list _ (fun rest r s'=>r.1=none∧s'=s∧∃ks',RowsAre prog w s.heap ks' rest) _ ?_ ?_ _ _ ⟨rfl,rfl,_,hi⟩
 ·rintro v rest r s' ⟨hr,rfl,hall⟩
  obtain ⟨ks',hall⟩:=hall
  cases hall with
  |cons h1 t1=>
  obtain ⟨rb,rfl,hrow⟩:=h1
  refine wpAny_bind (YF hrow ?_)
  simp only [FZ,BP,if_false]
  exact wpAny_pure ⟨rfl,rfl,_,t1⟩
 ·rintro ⟨r1,r2⟩ s' ⟨hr,rfl,_⟩
  simp only at hr
  subst hr
  exact wpAny_pure h
end
def Zd9 (prog:Program) (w:World):HeapKind prog w (List (List Int)) where
 is:=IsBoardKey prog w
 hash:=Ni prog w
 draws:=fun ks=>Jh ks+1
 room:=fun A=>A.units+1<cLine
 inj:=fun hx hy=>hx.inj hy
 keeps:=fun x ho hd hs=>x.keeps ho hd hs
 pyHash:=fun hu hk h=>YC hu hk h
 eqBool:=fun hu hx hy h=>YE hu hx hy h
 quiet:=fun hk h=>YG hk h
section
variable {prog:Program} {w:World} {A:Around} {E:Value→Shared→Prop} {s:Shared}
end
end Db
end LS
namespace LS
open PySem PySem.Spec PyProof.Rows L2 PySem.W PySem.Calls
def YH:Kyd→Bool
 |.b _=>true
 |_=>false
def Q9 (kvs:List (Kyd×D)):Bool:=kvs.all fun p=>YH p.1
def BR (K:Frag) (m:List Addr) (H:Hp) (p:Kyd×D) (q:List (List Int)×Addr×Value):Prop:=p.1=.b q.1∧DV K m H (kD p.1) (.ref q.2.1)∧∃v,DV K m H p.2 v∧RelV v q.2.2
section
variable {P:Program} {w:World} {K:Frag} {m:List Addr} {H:Hp} {h:Heap} {a:Addr}
theorem Ra:∀{ns:List Int} {vs:List V} {us:List Value},DVs K m H (ns.map D.int) vs→Vals vs us→ItemsAre (intKind P w) ns us
 |[],_,_,r,t=>by
  simp only [F0,DVs] at r
  subst r
  cases t
  exact .nil
 |n::ns,_,_,r,t=>by
  simp only [Bn,DVs] at r
  obtain ⟨v,vs,rfl,rv,rr⟩:=r
  simp only [DV] at rv
  subst rv
  cases t with
  |cons t1 t2=>
   obtain ⟨tk,rfl⟩:=t1
   exact .cons (intKind_is P w n tk) (Ra rr t2)
theorem YI (ok:HOk P w H h) {ns:List Int} {v:V} (d:DV K m H (.tup (ns.map D.int)) v):∃b,v=.ref b∧IsTupleKey (intKind P w) h ns b:=by
 simp only [DV] at d
 obtain ⟨b,vs,rfl,hb,dv⟩:=d
 obtain ⟨_,its,f2,⟨o,ho,hc,n,hd⟩,_⟩:=(show Ip h b vs from ok b _ hb)
 exact ⟨b,rfl,o,its.toArray,n,ho,hc,hd,by simpa using Ra dv f2⟩
end
def Gu:List D→Option (List Int)
 |[]=>some []
 |.int n::ds=>(Gu ds).map (n::·)
 |_=>none
def Rb:List D→Option (List (List Int))
 |[]=>some []
 |.tup ds::r=>(match Gu ds,Rb r with
  |some a,some b=>some (a::b)
  |_,_=>none)
 |_=>none
def YJ:D→Option (List (List Int))
 |.tup ds=>Rb ds
 |_=>none
theorem Rc:∀{ds:List D} {ns:List Int},Gu ds=some ns→ds=ns.map D.int
 |[],_,e=>by cases e;rfl
 |d::ds,ns,e=>by
  cases d<;>simp only [Gu] at e<;>try cases e
  rename_i n
  cases q:Gu ds with
  |none=>rw [q] at e;cases e
  |some ms=>rw [q] at e;cases e;rw [Rc q];rfl
def Re (o i v:D) (h:HD) (g:HD→Out (Fl×Ai)):Out (Fl×Ai):=match o,YJ i with
 |.loc l,some rs=>(match h[l]? with
  |some (.dic false kvs)=>if Q9 kvs∧kvs.length<sizeLine then g (h.set l (.dic false (B6 kvs (.b rs) v))) else .stuck
  |_=>.stuck)
 |_,_=>.stuck
def Rf (fo fi fv:ME):MS:=fun ρ h=>(fv ρ h).bind fun v h1=>(fo ρ h1).bind fun o h2=>(fi ρ h2).bind fun i h3=>Re o i v h3 fun h4=>.ok (.nx,ρ) h4
def Zea (K:Frag):V→V→V→Hp→(Hp→Prop)→Prop:=fun o i v H Q=>∃(m:List Addr) (a:Addr) (rs:List (List Int)) (kvs:List (Kyd×D)) (es:List (Kyd×V×V)) (d:D),o=.ref a∧DV K m H (kD (.b rs)) i∧H a=some (.dct (Cd a es))∧EntD K m H kvs es∧Q9 kvs=true∧kvs.length<sizeLine∧DV K m H d v∧
 ∀es',EntD K m H (B6 kvs (.b rs) d) es'→Q (An H a (.dct (Cd a es')))
section
variable {X:Cx} {E:XK} {pins:List (Addr×Obj)} {σ:L2.St} {H:Hp} {s:Shared}
def Zeb:D→HD→Out D:=fun x h=>match x with
 |.loc l=>(match h[l]? with
  |some (.dic _ kvs)=>.ok (.int kvs.length) h
  |_=>.stuck)
 |_=>.stuck
def Zec (a:Addr) (ob:Obj) (es:List (Kyd×V×V)):It:=⟨fun i H=>H a=some (.frz ob (.dct (Cd a es)))∧i<es.length,fun i H x H'=>H'=H∧∃k vv,es[i]?=some (k,x,vv),fun i H=>H a=some (.frz ob (.dct (Cd a es)))∧i=es.length⟩
def Rg (d:D) (h:HD):Out (List D×A0):=match d with
 |.loc l=>(match h[l]? with
  |some (.dic _ kvs)=>.ok (kvs.map fun p=>kD p.1,[]) (h.set l (.dic true kvs))
  |_=>.stuck)
 |_=>.stuck
def Rh (f:ME):MI:=fun ρ h=>(f ρ h).bind Rg
end
section
variable {f fo fi fv:ME} {ρ:Ai} {h:HD} {QS:Fl×Ai→HD→Prop} {QI:List D×A0→HD→Prop}
@[simp] theorem Zed:Wp (Rf fo fi fv ρ h) QS=Wp (fv ρ h) fun v h1=>Wp (fo ρ h1) fun o h2=>Wp (fi ρ h2) fun i h3=>Wp (Re o i v h3 fun h4=>.ok (.nx,ρ) h4) QS:=by unfold Rf;simp only [AC]
@[simp] theorem Zee:Wp (Rh f ρ h) QI=Wp (f ρ h) fun d h1=>Wp (Rg d h1) QI:=by unfold Rh;rw [AC]
end
namespace Dt
open PySem
theorem Ri:entryFor table "dict.update.loop"=some Builtin.«dict.update.loop»:=entryFor_of_tree (by kernel_rfl)
theorem KZ:plainId "dict.update.loop"=true:=by decide +kernel
theorem YK:typeLookup (.type "list") "keys"=pure none:=by rw [typeLookup_type,builtinLookup_eq_fast];kernel_rfl
section
variable {prog:Program} {w:World} {A:Around} {E:Value→Shared→Prop} {s:Shared}
theorem YL {a:Addr} {o:Obj} {xs:Array Value} {k:Nat} {Q:Option Value→Shared→Prop} (hx:s.heap.get? a=some o) (hc:o.cls=.type "list") (hdat:o.data=.seq xs k) (hd:o.dict=none) (hA:A.handled=none)
 (h:∀h' tk,(∀b o,s.heap.get? b=some o→h'.get? b=some o)→Q none {s with heap:=h',toks:=tk}):wpAny (model prog w) A (getAttr? (.ref a) "keys") Q E s:=by
 obtain ⟨c,dct,dat,sl⟩:=o
 simp only at hc hdat hd
 subst hc hdat hd
 obtain ⟨hp,g,d,tk,os⟩:=s
 have hT:∀tk',(⟨hp,g,d,tk',os⟩:Shared).TypeIs (.ref a) "list":=fun _=>⟨_,hx,rfl⟩
 have f1:=sub_AttributeError
 have f3:=F.slot_list_getattribute.lookup
 have f4:=F.slot_list_getattribute.bind (.ref a)
 have f5:=am_list_getattr_none
 unfold getAttr? getAttrBy? getAttrBy
 repeat (any_goals (first |assumption |exact hT _ |((with_reducible show wpAny _ _ (call (Value.builtin "list.__getattribute__") _ _) _ _ _);refine call_meets F.slot_list_getattribute (hT _) am_entry_list_getattribute (F.args_list_getattribute_2 _ _) (meets_getattribute_miss_list a xs k sl "keys" _ YK (by decide +kernel) (by size_fits)) ⟨hx,hA,fun h' tk' e hx'=>?_⟩) |wp_step))
 obtain ⟨t',u',he⟩:=hx'.there
 show wpAny _ _ (getattributeRaised _ _ _ _ _ _ _) _ _ _
 unfold getattributeRaised
 repeat (any_goals (first |assumption |wp_step))
 all_goals exact h _ _ hx'.keeps
abbrev iK (prog:Program) (w:World):KeyKind prog w Int:=intKind prog w
abbrev tK (prog:Program) (w:World):HeapKind prog w (List Int):=tupleKind (iK prog w)
abbrev Ent:=List Int×Addr×Value
def PrAt (P:Program) (w:World) (h:Heap) (u:Value) (e:Ent):Prop:=∃p o m,u=.ref p∧h.get? p=some o∧o.cls=.type "tuple"∧o.data=.seq #[.ref e.2.1,e.2.2] m∧IsTupleKey (iK P w) h e.1 e.2.1
def put1 (xs:List Ent) (e:Ent):List Ent:=storedH xs e.1 e.2.1 e.2.2
theorem Rj {h h':Heap} {ks:List Int} {a:Addr} (x:IsTupleKey (iK prog w) h ks a) (k:∀b o,h.get? b=some o→h'.get? b=some o):IsTupleKey (iK prog w) h' ks a:=let ⟨o,it,n,e,r⟩:=x;⟨o,it,n,k _ _ e,r⟩
theorem Rk {h0:Heap}:∀{L acc:List Ent},(∀e∈L,IsTupleKey (iK prog w) h0 e.1 e.2.1)→(∀x∈acc,IsTupleKey (iK prog w) h0 x.1 x.2.1)→∀x∈L.foldl put1 acc,IsTupleKey (iK prog w) h0 x.1 x.2.1
 |[],acc,_,ha,x,hx=>ha x hx
 |e::L,acc,hL,ha,x,hx=>Rk (L:=L) (acc:=put1 acc e) (fun y hy=>hL y (A1 _ hy)) (fun y hy=>by
   rcases mem_storedH hy with ⟨z,hz,e1,e2⟩ |⟨e1,e2⟩
   ·rw [e1,e2];exact ha z hz
   ·rw [e1,e2];exact hL e AO) x hx
theorem YM {xs:List Ent} {e:Ent}:(put1 xs e).length≤xs.length+1:=by
 unfold put1 storedH
 split<;>simp
theorem Rl:∀{L acc:List Ent},(L.foldl put1 acc).length≤acc.length+L.length
 |[],acc=>by simp
 |e::L,acc=>by
  rw [Ik]
  have:=Rl (L:=L) (acc:=put1 acc e)
  have:=YM (xs:=acc) (e:=e)
  simp
  omega
theorem Nj {h h' h0:Heap} {d:Addr} {xs:List Ent} (x:h.DictOfH (tK prog w) d xs) (hk:∀x∈xs,IsTupleKey (iK prog w) h0 x.1 x.2.1) (k0:∀b o,h0.get? b=some o→h'.get? b=some o) (kd:∀o,h.get? d=some o→h'.get? d=some o):h'.DictOfH (tK prog w) d xs:=
 let ⟨o,es,ep,ho,hc,hd,he,_,hn⟩:=x;⟨o,es,ep,kd _ ho,hc,hd,he,fun y hy=>Rj (hk y hy) k0,hn⟩
theorem YN {I l d:Addr} {items:Array Value} {es:List Ent} {h0:Heap} {R:Result→Shared→Prop} (hh:A.in1.handled=none) (hu:A.in1.units<cLine) (hl:l<h0.objs.size) (hd:h0.objs.size≤d) (hI:h0.objs.size≤I) (hdI:d≠I)
 (hp:∀(i:Nat) (v:Value),items[i]?=some v→∃e,es[i]?=some e∧PrAt prog w h0 v e) (hlen:es.length=items.size) (hz:items.size≤sizeLine):
 ∀(k i:Nat) (s:Shared),items.size - i=k→i≤items.size→s.heap.IsListIter I l i→s.heap.IsList l items→(∀b o,h0.get? b=some o→s.heap.get? b=some o)→s.heap.DictOfH (tK prog w) d ((es.take i).foldl put1 [])→
  (∀h' tk,(∀b o,h0.get? b=some o→h'.get? b=some o)→h'.DictOfH (tK prog w) d (es.foldl put1 [])→R (.ok (.ret .none)) {s with heap:=h',toks:=tk})→
  codeAny (model prog w) A (.builtin "dict.update.loop" ⟨[.ref d,.ref I,.int (i:Int) 0,.none],[]⟩) R s:=by
 have hlI:l≠I:=Be (AV hl hI)
 have hdl:l≠d:=Be (AV hl hd)
 have bI:∀b o,h0.get? b=some o→b∉[I]:=fun b o e=>by
  have:b≠I:=Be (AV (Av e) hI)
  simpa using this
 have W:=Walks.list (prog:=prog) (w:=w) hh I l hlI items
 have keys:∀e∈es,IsTupleKey (iK prog w) h0 e.1 e.2.1:=fun e he=>by
  obtain ⟨j,hj⟩:=List.mem_iff_getElem?.mp he
  have hjl:=(qa4.mp hj).1
  obtain ⟨e',h1,_,_,_,_,_,_,_,h2⟩:=hp j items[j] (by simp)
  rw [hj] at h1
  cases h1
  exact h2
 have kt:∀i,∀x∈(es.take i).foldl put1 [],IsTupleKey (iK prog w) h0 x.1 x.2.1:=fun i=>Rk (fun e he=>keys e (JD he)) (fun x hx=>nomatch hx)
 intro k
 induction k with
 |zero=>
  intro i s hk hi hit hL h0s hD hR
  have hin:i=items.size:=by omega
  subst hin
  refine codeAny_builtin Ri ?_
  rw [Around.under_plainId KZ _]
  show wpAny _ A.in1 (pyNext (.ref I) >>=_) _ _ s
  refine wpAny_bind (W.done s _ _ ⟨hit,hL⟩ fun h' tk hm=>?_)
  show wpAny _ A.in1 (Builtin.Dict.addKeywords d [] >>=_) _ _ _
  have k0:∀b o,h0.get? b=some o→h'.get? b=some o:=fun b o e=>hm b o (bI b o e) (h0s b o e)
  refine wpAny_bind (wpAny_pure (wpAny_pure (hR h' tk k0 ?_)))
  have:=Nj hD (kt _) k0 fun o e=>hm d o (by simpa using hdI) e
  rwa [List.take_of_length_le (by omega)] at this
 |succ k ih=>
  intro i s hk hi hit hL h0s hD hR
  have hlt:i<items.size:=by omega
  refine codeAny_builtin Ri ?_
  rw [Around.under_plainId KZ _]
  show wpAny _ A.in1 (pyNext (.ref I) >>=_) _ _ s
  refine wpAny_bind (W.item i s _ _ hlt ⟨hit,hL⟩ fun v h' tk hP st hm=>?_)
  obtain ⟨e,he,p,o,m,rfl,ho,hc,hda,hkey⟩:=hp i v hP
  have k0:∀b o,h0.get? b=some o→h'.get? b=some o:=fun b o e=>hm b o (bI b o e) (h0s b o e)
  have hD':=Nj hD (kt _) k0 fun o e=>hm d o (by simpa using hdI) e
  show wpAny _ A.in1 (holding [Value.ref p] _ >>=_) _ _ _
  refine wpAny_bind (wpAny_holding ?_)
  refine wpAny_bind (wpAny_tryCatch ?_)
  unfold Builtin.Dict.pairItems
  refine wpAny_bind (wpAny_typeOf (show Shared.TypeIs {s with heap:=h',toks:=tk} (.ref p) "tuple" from ⟨o,k0 _ _ ho,hc⟩) ?_)
  show wpAny _ _ (do return ((←seqItems? (.ref p)).getD #[]).toList) _ _ _
  refine wpAny_bind (wpAny_seqItems (k0 _ _ ho) hda (wpAny_pure ?_))
  show wpAny _ _ (holding [Value.ref e.2.1,e.2.2] (dictSet d (.ref e.2.1) e.2.2)) _ _ _
  refine wpAny_holding (wpAny_dictSet_heap (s:={s with heap:=h',toks:=tk}) (knd:=tK prog w) hu (Rj hkey k0) hD' (fun h2 hD2 hs=>?_) ?_)
  ·have k2:∀b o,h0.get? b=some o→h2.get? b=some o:=fun b o e=>by rw [hs.2 b (Be (AV (Av e) hd))];exact k0 b o e
   have hnext:(es.take (i+1)).foldl put1 []=storedH ((es.take i).foldl put1 []) e.1 e.2.1 e.2.2:=by
    rw [List.take_succ,he,List.foldl_append]
    rfl
   refine wpAny_pure ⟨plainId_quiet KZ _,?_⟩
   have:=ih (i+1) {s with heap:=h2,toks:=tk+(tK prog w).draws e.1} (by omega) hlt (st.1.at fun o e=>by rw [hs.2 I (Ne.symm hdI)];exact e) (st.2.at fun o e=>by rw [hs.2 l hdl];exact e) k2 (by rw [hnext];exact hD2) fun h3 tk3 k3 hD3=>hR h3 tk3 k3 hD3
   exact this
  ·have:=Rl (L:=es.take i) (acc:=[])
   rw [Ih] at this
   simp at this
   omega
theorem call_pairs {l:Addr} {items:Array Value} {n:Nat} {es:List Ent} {Q:Value→Shared→Prop} (hh:A.handled=none) (hu:A.units+64<cLine) {ob:Obj} (hl:s.heap.get? l=some ob) (hlc:ob.cls=.type "list") (hld:ob.data=.seq items n) (hln:ob.dict=none)
 (hp:∀(i:Nat) (v:Value),items[i]?=some v→∃e,es[i]?=some e∧PrAt prog w s.heap v e) (hlen:es.length=items.size) (hz:items.size≤sizeLine)
 (h:∀h' tk,(∀b o,s.heap.get? b=some o→h'.get? b=some o)→h'.DictOfH (tK prog w) s.heap.objs.size (es.foldl put1 [])→Q (.ref s.heap.objs.size) {s with heap:=h',toks:=tk}):
 wpAny (model prog w) A (call (.type "dict") [.ref l]) Q E s:=by
 refine callType_codes (Q₁:=fun obj s₁=>obj=.ref s.heap.objs.size∧s₁={s with heap:=s.heap.push {cls:=.type "dict",data:=.dict #[]}}) F.kt_called_dict (F.kt_typeCall_dict_1 _) F.entry_dict_init (kt_code_dict_new _ ⟨rfl,rfl⟩) ?_
 rintro obj s₁ ⟨rfl,rfl⟩
 have hnew:(s.heap.push {cls:=.type "dict",data:=.dict #[]}).DictOfH (tK prog w) s.heap.objs.size []:=Heap.DictOfH.new s.heap
 have hl':(s.heap.push {cls:=.type "dict",data:=.dict #[]}).get? l=some ob:=AE _ hl
 have hT:Shared.TypeIs {s with heap:=s.heap.push {cls:=.type "dict",data:=.dict #[]}} (.ref l) "list":=⟨_,hl',hlc⟩
 refine ⟨hnew.typeIs,F.args_dict_init_2 _ _,?_⟩
 unfold Builtin.«dict.__init__»
 refine wpAny_bind ?_
 unfold Builtin.Dict.selfAndRest
 refine wpAny_bind (wpAny_notOrdered_dict hnew.typeIs ?_)
 show wpAny _ _ (pure (s.heap.objs.size,[Value.ref l])) _ _ _
 refine wpAny_pure ?_
 show wpAny _ _ (Builtin.Dict.updateFrom "dict.__init__" s.heap.objs.size (.ref l) [] .none) _ _ _
 unfold Builtin.Dict.updateFrom
 refine wpAny_bind (wpAny_typeOf hT ?_)
 rw [if_pos (by decide)]
 refine wpAny_bind (YL hl' hlc hld hln (by simp [hh]) fun h1 tk1 k1=>?_)
 simp only [Option.isNone_none,if_true]
 have hl1:h1.get? l=some ob:=k1 _ _ hl'
 have hL1:h1.IsList l items:=⟨_,hl1,hlc,n,hld⟩
 obtain ⟨od,_,_,hgd,_⟩:=hnew
 have hd1:s.heap.objs.size<h1.objs.size:=Av (k1 _ _ hgd)
 refine wpAny_bind (wpAny_rule ?_)
 refine wpAny_bind (wpAny_pyIter_list hL1 ?_)
 refine wpAny_pure ⟨plainId_quiet KZ _,?_⟩
 have kk:∀b o,s.heap.get? b=some o→(h1.push {cls:=.type "list_iterator",data:=.fields #[.ref l,.int 0 0]}).get? b=some o:=fun b o e=>AE _ (k1 _ _ (AE _ e))
 refine YN (h0:=s.heap) (es:=es) (by simp [hh]) (by simp;omega) (Av hl) (AK _) (E7 hd1) (Be hd1) hp hlen hz items.size 0 _ rfl (Dv _) ⟨_,Bp _ rfl,rfl,rfl⟩ (hL1.push _) kk ?_ fun h2 tk2 k2 hD2=>⟨rfl,h h2 tk2 k2 hD2⟩
 rw [List.take_zero]
 exact Nj (h0:=s.heap) (Heap.DictOfH.new s.heap) (fun x hx=>nomatch hx) kk fun o e=>AE _ (k1 _ _ e)
end
end Dt
end LS
namespace LS
open PySem PySem.Spec PyProof.Rows L2 PySem.W PySem.Calls
namespace Mn
open PySem
def Nk (prog:Program) (w:World) (A:Around) (h0:Heap) (P:Nat→Value→Prop) (bt:Nat→Nat→Bool):Prop:=
 ∀i j vi vj (s:Shared) (Q:Value→Shared→Prop) (E:Value→Shared→Prop),(∀b o,h0.get? b=some o→s.heap.get? b=some o)→P i vi→P j vj→Q (.bool (bt i j)) s→wpAny (model prog w) A (richCompare .Lt vi vj) Q E s
section
variable {prog:Program} {w:World} {A:Around} {R:Result→Shared→Prop} {I:Addr} {fp wr:List Addr} {n:Nat} {P:Nat→Value→Prop} {St:Nat→Heap→Prop}
theorem YO (W:Walks prog w A.in1 I fp wr n P St) (bt:Nat→Nat→Bool) {h0:Heap} (hcmp:Nk prog w A.in1 h0 P bt) (S:Addr) (hSf:S∉fp) (hw0:∀b o,h0.get? b=some o→b∉wr∧b≠S):
 ∀(k j:Nat) (s:Shared) (vb:Value) (c:Nat),n - (j+1)=k→j+1≤n→St (j+1) s.heap→(∀b o,h0.get? b=some o→s.heap.get? b=some o)→P (argBest bt j) vb→
 s.heap.get? S=some {cls:=.type "list",dict:=none,data:=.seq #[vb,vb] c,slots:=#[]}→
 (∀v h' tk,P (argBest bt (n - 1)) v→(∀b o,b∉wr→b≠S→s.heap.get? b=some o→h'.get? b=some o)→R (.ok (.ret v)) {s with heap:=h',toks:=tk})→
 codeAny (model prog w) A (.builtin "min.loop" ⟨[.ref I,.none,.ref S],[]⟩) R s:=by
 have hSw:S∉wr:=fun h=>hSf (W.sub _ h)
 have hname:(toString "min"++toString ".loop":String)="min.loop":=by decide
 intro k
 induction k with
 |zero=>
  intro j s vb c hk hj hst h0s hPb hS hR
  have hin:j+1=n:=by omega
  refine codeAny_builtin F.entry_min_loop ?_
  rw [Around.under_plainId F.plain_min_loop _]
  show wpAny _ A.in1 (seqItems? (.ref S) >>=_) _ _ s
  refine wpAny_bind (wpAny_seqItems hS rfl ?_)
  show wpAny _ A.in1 (tryCatch (pyNext (.ref I)) _ >>=_) _ _ s
  refine wpAny_bind (wpAny_tryCatch (W.done s _ _ (hin ▸ hst) fun h' tk hk'=>?_))
  have hS':=hk' S _ hSw hS
  show wpAny _ A.in1 (updateSeq S (fun _=>#[]) >>=_) _ _ _
  refine wpAny_bind ?_
  refine wpAny_updateSeq hS' rfl (wpAny_bind (wpAny_letGo (wpAny_pure ?_)))
  refine hR vb _ tk (by rw [←hin];exact hPb) fun b o hbw hbS e=>(Ek _ _ (Ne.symm hbS)).trans (hk' b o hbw e)
 |succ k ih=>
  intro j s vb c hk hj hst h0s hPb hS hR
  have hlt:j+1<n:=by omega
  refine codeAny_builtin F.entry_min_loop ?_
  rw [Around.under_plainId F.plain_min_loop _]
  show wpAny _ A.in1 (seqItems? (.ref S) >>=_) _ _ s
  refine wpAny_bind (wpAny_seqItems hS rfl ?_)
  show wpAny _ A.in1 (tryCatch (pyNext (.ref I)) _ >>=_) _ _ s
  refine wpAny_bind (wpAny_tryCatch (W.item (j+1) s _ _ hlt hst fun v h' tk hP hst' hk'=>?_))
  have hS':=hk' S _ hSw hS
  show wpAny _ A.in1 (tryCatch (holding [v,v] (richCompare .Lt v vb >>=_)) _ >>=_) _ _ _
  refine wpAny_bind (wpAny_tryCatch (wpAny_holding (wpAny_bind (hcmp (j+1) (argBest bt j) v vb _ _ _ (fun b o e=>hk' b o (hw0 b o e).1 (h0s b o e)) hP hPb ?_))))
  refine wpAny_bind (wpAny_holding (wpAny_truthy_bool ?_))
  refine wpAny_bind (wpAny_letGo (wpAny_pure ?_))
  cases hb:bt (j+1) (argBest bt j) with
  |true=>
   simp only [if_true]
   refine wpAny_bind ?_
   refine wpAny_updateSeq hS' rfl (wpAny_bind (wpAny_letGo ?_))
   rw [hname]
   refine wpAny_pure ⟨plainId_quiet F.plain_min_loop _,ih (j+1) _ v _ (by omega) hlt (W.frame _ _ _ hst' fun b hbf o e=>?_) (fun b o e=>(Ek _ _ (Ne.symm (hw0 b o e).2)).trans (hk' b o (hw0 b o e).1 (h0s b o e))) (by simp only [argBest,hb,if_true];exact hP) (H0 _ hS' rfl)
    fun v' h'' tk'' hP' hk''=>?_⟩
   ·exact (Ek _ _ (fun h:S=b=>hSf (by rw [h];exact hbf))).trans e
   ·exact hR v' h'' tk'' hP' fun b o hbw hbS e=>hk'' b o hbw hbS ((Ek _ _ (Ne.symm hbS)).trans (hk' b o hbw e))
  |false=>
   simp only [BP,if_false]
   refine wpAny_bind (wpAny_letGo ?_)
   rw [hname]
   refine wpAny_pure ⟨plainId_quiet F.plain_min_loop _,ih (j+1) _ vb c (by omega) hlt hst' (fun b o e=>hk' b o (hw0 b o e).1 (h0s b o e)) (by simp only [argBest,hb,BP,if_false];exact hPb) hS' fun v' h'' tk'' hP' hk''=>?_⟩
   exact hR v' h'' tk'' hP' fun b o hbw hbS e=>hk'' b o hbw hbS (hk' b o hbw e)
theorem YQ (W:Walks prog w A.in1 I fp wr n P St) (bt:Nat→Nat→Bool) {h0:Heap} (hcmp:Nk prog w A.in1 h0 P bt) (S:Addr) (hSf:S∉fp) (hw0:∀b o,h0.get? b=some o→b∉wr∧b≠S) (hn:0<n) {s:Shared} {c:Nat} (hst:St 0 s.heap) (h0s:∀b o,h0.get? b=some o→s.heap.get? b=some o)
 (hS:s.heap.get? S=some {cls:=.type "list",dict:=none,data:=.seq #[] c,slots:=#[]})
 (hR:∀v h' tk,P (argBest bt (n - 1)) v→(∀b o,b∉wr→b≠S→s.heap.get? b=some o→h'.get? b=some o)→R (.ok (.ret v)) {s with heap:=h',toks:=tk}):
 codeAny (model prog w) A (.builtin "min.loop" ⟨[.ref I,.none,.ref S],[]⟩) R s:=by
 have hSw:S∉wr:=fun h=>hSf (W.sub _ h)
 have hname:(toString "min"++toString ".loop":String)="min.loop":=by decide
 refine codeAny_builtin F.entry_min_loop ?_
 rw [Around.under_plainId F.plain_min_loop _]
 show wpAny _ A.in1 (seqItems? (.ref S) >>=_) _ _ s
 refine wpAny_bind (wpAny_seqItems hS rfl ?_)
 show wpAny _ A.in1 (tryCatch (pyNext (.ref I)) _ >>=_) _ _ s
 refine wpAny_bind (wpAny_tryCatch (W.item 0 s _ _ hn hst fun v h' tk hP hst' hk'=>?_))
 have hS':=hk' S _ hSw hS
 show wpAny _ A.in1 (updateSeq S (fun _=>#[v,v]) >>=_) _ _ _
 refine wpAny_bind ?_
 refine wpAny_updateSeq hS' rfl ?_
 rw [hname]
 refine wpAny_pure ⟨plainId_quiet F.plain_min_loop _,YO W bt hcmp S hSf hw0 _ 0 _ v _ rfl hn (W.frame _ _ _ hst' fun b hbf o e=>?_) (fun b o e=>(Ek _ _ (Ne.symm (hw0 b o e).2)).trans (hk' b o (hw0 b o e).1 (h0s b o e))) hP (H0 _ hS' rfl) fun v' h'' tk'' hP' hk''=>?_⟩
 ·exact (Ek _ _ (fun h:S=b=>hSf (by rw [h];exact hbf))).trans e
 ·exact hR v' h'' tk'' hP' fun b o hbw hbS e=>hk'' b o hbw hbS ((Ek _ _ (Ne.symm hbS)).trans (hk' b o hbw e))
end
section
variable {prog:Program} {w:World} {A:Around} {E:Value→Shared→Prop} {s:Shared}
theorem call_minH {x:Value} {Q:Value→Shared→Prop}
 (h:wpAny (model prog w) A.in1 (pyIter x) (fun it s₂=>∃I fp wr n P St bt,it=.ref I∧Walks prog w A.in1 I fp wr n P St∧St 0 s₂.heap∧(∀b∈fp,b<s₂.heap.objs.size)∧0<n∧Nk prog w A.in1 s.heap P bt∧(∀b o,s.heap.get? b=some o→s₂.heap.get? b=some o)∧(∀b o,s.heap.get? b=some o→b∉wr)∧
  ∀v h' tk,P (argBest bt (n - 1)) v→(∀b o,b∉wr→s₂.heap.get? b=some o→h'.get? b=some o)→Q v {s₂ with heap:=h',toks:=tk}) E s):
 wpAny (model prog w) A (call (.builtin "min") [x]) Q E s:=by
 have hname:(toString "min"++toString ".loop":String)="min.loop":=by decide
 refine call_function_tree F.kind_min F.plain_min F.entry_min (F.args_min1 _) ?_
 show wpAny _ A.in1 (Builtin.Builtins.bindParams "min" ["key","default"] 0 ⟨[],[]⟩ >>=_) _ _ s
 refine wpAny_bind (wpAny_of_eq (show Builtin.Builtins.bindParams "min" ["key","default"] 0 ⟨[],[]⟩=pure [none,none] from rfl) ?_)
 refine wpAny_bind (wpAny_pure ?_)
 refine wpAny_bind (wpAny_mono h (fun it s₂ h₂=>?_) fun _ _ e=>e)
 obtain ⟨I,fp,wr,n,P,St,bt,rfl,W,hst,hfp,hn,hcmp,hs2,hwr,hQ⟩:=h₂
 refine wpAny_bind (wpAny_newObj_type ?_)
 have hSf:s₂.heap.objs.size∉fp:=fun hm=>Cy _ (hfp _ hm)
 rw [hname]
 refine wpAny_pure ⟨plainId_quiet F.plain_min_loop _,YQ W bt hcmp s₂.heap.objs.size hSf (fun b o e=>⟨hwr b o e,Be (Av (hs2 b o e))⟩) hn (W.frame _ _ _ hst fun b _ o e=>AE _ e) (fun b o e=>AE _ (hs2 b o e)) (Bp _ rfl) fun v h' tk hP hk=>?_⟩
 exact hQ v h' tk hP fun b o hbw e=>hk b o hbw (Be (Av e)) (AE _ e)
end
end Mn
end LS
namespace LS
open PySem PySem.Spec PyProof.Rows L2 PySem.W PySem.Calls
def YR:Kyd→Bool
 |.t _=>true
 |_=>false
def ES (kvs:List (Kyd×D)):Bool:=kvs.all fun p=>YR p.1
def TR (K:Frag) (m:List Addr) (H:Hp) (p:Kyd×D) (q:List Int×Addr×Value):Prop:=p.1=.t q.1∧DV K m H (kD p.1) (.ref q.2.1)∧∃v,DV K m H p.2 v∧RelV v q.2.2
section
variable {P:Program} {w:World} {K:Frag} {m:List Addr} {H:Hp} {h:Heap} {a:Addr}
theorem Nl (ok:HOk P w H h) {ns:List Int} {v:V} (d:DV K m H (kD (.t ns)) v):∃b,v=.ref b∧IsTupleKey (intKind P w) h ns b:=YI ok d
theorem Rm (ok:HOk P w H h):∀{kvs:List (Kyd×D)} {es:List (Kyd×V×V)} {ul:List DictEntry},EntD K m H kvs es→ES kvs=true→Paired LQ es ul→
 ∃xs:List (List Int×Addr×Value),ul=xs.map (entryOfKey (Dt.tK P w))∧Paired (TR K m H) kvs xs∧(∀x∈xs,(Dt.tK P w).is h x.1 x.2.1)∧xs.map (fun q=>Kyd.t q.1)=es.map (·.1)
 |[],_,_,e,_,p=>by
  simp only [EntD] at e
  subst e
  cases p
  exact ⟨[],rfl,.nil,by simp,rfl⟩
 |(k,d)::kvs,_,_,e,hi,p=>by
  simp only [EntD] at e
  obtain ⟨kv,vv,r',rfl,d1,d2,t⟩:=e
  simp only [ES,List.all_cons,CF] at hi
  cases p with
  |cons p1 p2=>
   rename_i e ul'
   obtain ⟨xs,h1,h2,h3,h4⟩:=Rm ok t hi.2 p2
   obtain ⟨q1,q2,q3⟩:=p1
   cases k with
   |t rs=>
    obtain ⟨b,rfl,hb⟩:=Nl ok d1
    obtain ⟨eh,ek,ev⟩:=e
    cases (show ek=Value.ref b from q2)
    simp only at q1
    subst q1
    refine ⟨(rs,b,ev)::xs,by rw [h1];rfl,.cons ⟨rfl,d1,vv,d2,q3⟩ h2,fun x hx=>?_,by simp [h4]⟩
    rcases qa8.mp hx with rfl |hx
    ·exact hb
    ·exact h3 x hx
   |b ns=>cases hi.1
   |i n=>cases hi.1
theorem YS (ok:HOk P w H h) {es:List (Kyd×V×V)} {kvs:List (Kyd×D)} (d:Cd a es h) (e:EntD K m H kvs es) (hi:ES kvs=true):∃xs:List (List Int×Addr×Value),h.DictOfH (Dt.tK P w) a xs∧Paired (TR K m H) kvs xs:=by
 obtain ⟨hs,hz,nd,o,us,ep,h1,h2,h3,h4⟩:=d
 obtain ⟨xs,q1,q2,q3,q4⟩:=Rm ok e hi h4
 refine ⟨xs,⟨o,us,ep,h1,h2,h3,q1,q3,?_⟩,q2⟩
 rw [←q4] at nd
 unfold List.Nodup at nd ⊢
 rw [List.pairwise_map] at nd ⊢
 exact nd.imp fun z y=>z (by rw [y])
theorem Rn:∀{kvs:List (Kyd×D)} {xs:List (List Int×Addr×Value)},Paired (TR K m H) kvs xs→∃es:List (Kyd×V×V),EntD K m H kvs es∧Paired LQ es (xs.map (entryOfKey (Dt.tK P w)))∧es.map (·.1)=xs.map (fun q=>Kyd.t q.1)
 |_,_,.nil=>⟨[],rfl,.nil,rfl⟩
 |_,_,.cons r t=>by
  rename_i x y xs ys
  obtain ⟨es,h1,h2,h3⟩:=Rn t
  obtain ⟨k,d⟩:=x
  obtain ⟨n,b,u⟩:=y
  obtain ⟨r1,r0,v,r2,r3⟩:=r
  simp only at r1 r0 r2 r3
  subst r1
  refine ⟨(.t n,.ref b,v)::es,?_,.cons ⟨rfl,rfl,r3⟩ h2,by simp [h3]⟩
  simp only [EntD]
  exact ⟨_,_,_,rfl,r0,r2,h1⟩
theorem YT {kvs:List (Kyd×D)} {xs:List (List Int×Addr×Value)} (hs:(a==sysModules)=false) (hz:kvs.length≤sizeLine) (dd:h.DictOfH (Dt.tK P w) a xs) (r:Paired (TR K m H) kvs xs):∃es,Cd a es h∧EntD K m H kvs es:=by
 obtain ⟨o,us,ep,h1,h2,h3,h4,h5,h6⟩:=dd
 obtain ⟨es,q1,q2,q3⟩:=Rn (P:=P) (w:=w) r
 refine ⟨es,⟨hs,by rw [←q1.len];exact hz,?_,o,us,ep,h1,h2,h3,by rw [h4];exact q2⟩,q1⟩
 rw [q3]
 unfold List.Nodup at h6 ⊢
 rw [List.pairwise_map] at h6 ⊢
 exact h6.imp fun z y=>z (by injection y)
theorem Nm {n:List Int}:∀{kvs:List (Kyd×D)} {xs:List (List Int×Addr×Value)},Paired (TR K m H) kvs xs→(kvs.any fun p=>decide (p.1=.t n))=(atKey xs n).isSome
 |_,_,.nil=>rfl
 |_,_,.cons r t=>by
  rename_i x y xs ys
  rw [List.any_cons,Nm t,r.1]
  by_cases z:y.1=n
  ·simp [atKey,List.find?_cons,z]
  ·simp [atKey,List.find?_cons,z]
theorem Ro {n:List Int} {d:D} {v:V} {u:Value} (dv:DV K m H d v) (rv:RelV v u):∀{kvs:List (Kyd×D)} {xs:List (List Int×Addr×Value)},Paired (TR K m H) kvs xs→Paired (TR K m H) (kvs.map fun p=>if p.1=.t n then (p.1,d) else p) (xs.map (putAt n u))
 |_,_,.nil=>.nil
 |_,_,.cons r t=>by
  rename_i x y xs ys
  refine .cons ?_ (Ro dv rv t)
  show TR K m H (if x.1=.t n then (x.1,d) else x) (putAt n u y)
  unfold putAt
  by_cases z:y.1=n
  ·rw [if_pos z,if_pos (by rw [r.1,z])]
   exact ⟨r.1,r.2.1,v,dv,rv⟩
  ·rw [if_neg z,if_neg (by rw [r.1];intro q;injection q with q;exact z q)]
   exact r
theorem Rq {p:Kyd×D} {q:List Int×Addr×Value} (r:TR K m H p q):∀{kvs:List (Kyd×D)} {xs:List (List Int×Addr×Value)},Paired (TR K m H) kvs xs→Paired (TR K m H) (kvs++[p]) (xs++[q])
 |_,_,.nil=>.cons r .nil
 |_,_,.cons x t=>.cons x (Rq r t)
theorem YU {n:List Int} {b:Addr} {d:D} {v:V} {u:Value} {kvs:List (Kyd×D)} {xs:List (List Int×Addr×Value)} (r:Paired (TR K m H) kvs xs) (db:DV K m H (kD (.t n)) (.ref b)) (dv:DV K m H d v) (rv:RelV v u):Paired (TR K m H) (B6 kvs (.t n) d) (storedH xs n b u):=by
 unfold B6 storedH
 rw [Nm r]
 by_cases z:(atKey xs n).isSome=true
 ·rw [if_pos z,if_pos z];exact Ro dv rv r
 ·rw [if_neg z,if_neg z];exact Rq ⟨rfl,db,v,dv,rv⟩ r
end
def Ft:D→Option (List Int)
 |.tup ds=>Gu ds
 |_=>none
theorem Nn {d:D} {ns:List Int} (e:Ft d=some ns):d=kD (.t ns):=by
 cases d<;>simp only [Ft] at e<;>try cases e
 rw [Rc e]
 rfl
def pairD:D→Option (Kyd×D)
 |.tup [k,v]=>(Ft k).map fun ns=>(.t ns,v)
 |_=>none
def Gv:D→HD→Out D:=fun x h=>match x with
 |.loc l=>(match h[l]? with
  |some (.lst ds)=>(match Ax (ds.map pairD) with
   |some ps=>Jg (ps.foldl (fun acc p=>B6 acc p.1 p.2) []) h
   |none=>.stuck)
  |_=>.stuck)
 |_=>.stuck
theorem YV {d:D} {p:Kyd×D} (e:pairD d=some p):∃ns,p.1=.t ns∧d=.tup [kD (.t ns),p.2]:=by
 unfold pairD at e
 split at e
 ·rename_i k v
  cases q:Ft k with
  |none=>rw [q] at e;cases e
  |some ns=>rw [q] at e;cases e;exact ⟨ns,rfl,by rw [Nn q]⟩
 ·cases e
section
variable {P:Program} {w:World} {K:Frag} {m:List Addr} {H:Hp} {h:Heap} {a:Addr}
theorem YW (ok:HOk P w H h) {d:D} {p:Kyd×D} {v:V} {u:Value} (e:pairD d=some p) (r:DV K m H d v) (ru:RelV v u):∃q,Dt.PrAt P w h u q∧TR K m H p q:=by
 obtain ⟨k,x⟩:=p
 obtain ⟨ns,e1,rfl⟩:=YV e
 simp only at e1
 subst e1
 simp only [DV] at r
 obtain ⟨b,vs,rfl,hb,dv⟩:=r
 simp only [DVs] at dv
 obtain ⟨kv,vs1,rfl,dk,xv,vs2,rfl,dx,rfl⟩:=dv
 obtain ⟨_,its,f2,⟨o,ho,hc,n,hd⟩,_⟩:=(show Ip h b _ from ok b _ hb)
 obtain ⟨uk,ux,rfl,rk,rx⟩:=Iw f2
 obtain ⟨c,rfl,hk⟩:=Nl ok dk
 cases (show uk=Value.ref c from rk)
 cases (show u=Value.ref b from ru)
 exact ⟨(ns,c,ux),⟨b,o,n,rfl,ho,hc,hd,hk⟩,rfl,dk,xv,dx,rx⟩
theorem Rr (ok:HOk P w H h):∀{ds:List D} {ps:List (Kyd×D)} {vs:List V} {us:List Value},Ax (ds.map pairD)=some ps→DVs K m H ds vs→Vals vs us→∃es:List Dt.Ent,Paired (Dt.PrAt P w h) us es∧Paired (TR K m H) ps es
 |[],ps,vs,us,e,r,ru=>by
  simp only [DVs] at r
  subst r
  cases ru
  cases e
  exact ⟨[],.nil,.nil⟩
 |d::ds,ps,vs,us,e,r,ru=>by
  simp only [DVs] at r
  obtain ⟨v,vs',rfl,rv,rr⟩:=r
  simp only [Bn,Ax] at e
  cases q1:pairD d with
  |none=>rw [q1] at e;cases e
  |some p=>
   rw [q1] at e
   simp only [Ax] at e
   cases q2:Ax (ds.map pairD) with
   |none=>rw [q2] at e;cases e
   |some ps'=>
    rw [q2] at e
    cases e
    cases ru with
    |cons r1 r2=>
     obtain ⟨es,h1,h2⟩:=Rr ok q2 rr r2
     obtain ⟨x,h3,h4⟩:=YW ok q1 rv r1
     exact ⟨x::es,.cons h3 h1,.cons h4 h2⟩
theorem Rt {α β:Type} {R:α→β→Prop}:∀{xs:List α} {ys:List β} {i:Nat} {x:α},Paired R xs ys→xs[i]?=some x→∃y,ys[i]?=some y∧R x y
 |_,_,_,_,.nil,e=>by simp at e
 |_,_,0,_,.cons r _,e=>by simp at e;subst e;exact ⟨_,rfl,r⟩
 |_,_,i+1,x,.cons _ t,e=>by
  simp at e
  obtain ⟨y,h1,h2⟩:=Rt t e
  exact ⟨y,by simpa using h1,h2⟩
theorem K0 {α β:Type} {R:α→β→Prop}:∀{xs:List α} {ys:List β},Paired R xs ys→xs.length=ys.length
 |_,_,.nil=>rfl
 |_,_,.cons _ t=>by simp [K0 t]
theorem Ru:∀{ps:List (Kyd×D)} {es:List Dt.Ent} {acc:List (Kyd×D)} {xs:List Dt.Ent},Paired (TR K m H) ps es→Paired (TR K m H) acc xs→Paired (TR K m H) (ps.foldl (fun acc p=>B6 acc p.1 p.2) acc) (es.foldl Dt.put1 xs)
 |_,_,_,_,.nil,r=>r
 |_,_,_,_,.cons r0 t,r=>by
  rename_i p e ps es
  obtain ⟨k,d⟩:=p
  obtain ⟨r1,r2,v,r3,r4⟩:=r0
  simp only at r1
  subst r1
  exact Ru (ps:=ps) (es:=es) t (YU r r2 r3 r4)
theorem Rv:∀{ps acc:List (Kyd×D)},(ps.foldl (fun acc p=>B6 acc p.1 p.2) acc).length≤acc.length+ps.length
 |[],acc=>by simp
 |p::ps,acc=>by
  rw [Ik]
  have:=Rv (ps:=ps) (acc:=B6 acc p.1 p.2)
  have:=Yv (kvs:=acc) (k:=p.1) (d:=p.2)
  simp
  omega
end
section
variable {X:Cx} {E:XK}
theorem Rw (hc:X.calm=true) (hu:X.A.units+64<cLine):CI X (.type "dict") (Am Gv):=by
 refine KC (fun ds h=>?_) fun pins s σ H m h ds vs us Q I hr rd r q=>FL rd q fun x v ev rx q=>?_
 ·unfold Am Gv Jg
  repeat' split
  all_goals trivial
 ·subst ev
  obtain ⟨u,rfl,ru⟩:=En r
  unfold Gv at q
  split at q
  ·rename_i l
   split at q
   ·rename_i ds' el
    split at q
    ·rename_i ps eps
     simp only [DV] at rx
     obtain ⟨a,rfl,ha⟩:=rx
     cases (show u=Value.ref a from ru)
     obtain ⟨ws,hv,dv⟩:=hr.cells l _ a el ha
     obtain ⟨its,rv,⟨o,n,h1,h2,h3,h4⟩,hz⟩:=I.list (SqL.of hv)
     obtain ⟨es,p1,p2⟩:=Rr (P:=X.prog) (w:=X.w) I.hok eps dv rv
     have hf:H s.heap.objs.size=none:=I.hok.fresh (AK _)
     have hl:=rv.length
     refine Dt.call_pairs (es:=es) (I.ok.hd hc) hu h1 h2 h4 h3 (fun i v e=>?_) (by rw [←K0 p1];simp) (by simp;omega) fun h' tk k hD=>?_
     ·exact Rt p1 (by simpa using e)
     ·have hz2:(ps.foldl (fun acc p=>B6 acc p.1 p.2) []).length≤sizeLine:=by
       have:=Rv (ps:=ps) (acc:=[])
       have e1:=K0 p1
       have e2:=K0 p2
       simp at this
       omega
      obtain ⟨es',q1,q2⟩:=YT (P:=X.prog) (w:=X.w) (K:=X.K) (m:=m) (H:=H) (Yx I) hz2 hD (Ru p2 .nil)
      exact ⟨.ref s.heap.objs.size,_,I.laid (t':=_) k (AK _) (Yw q1),rfl,Yz hr hf (.new hf) q rfl q2⟩
    ·exact q.elim
   ·exact q.elim
  ·exact q.elim
def Fu (neg:Bool):D→D→HD→Out D:=fun x y h=>match Ft x,y with
 |some ns,.loc l=>(match h[l]? with
  |some (.dic _ kvs)=>if ES kvs then .ok (.bl (Bool.xor neg (kvs.any fun p=>decide (p.1=.t ns)))) h else .stuck
  |_=>.stuck)
 |_,_=>.stuck
theorem YX (neg:Bool) (x y:D) (h:HD):Gm (Fu neg x y h):=by
 unfold Fu
 repeat' split
 all_goals trivial
theorem Rx (hu:X.A.units+64<cLine):BB X (compareOp .NotIn) (Fu true):=by
 refine ⟨fun v u H Q=>∃m h x y,HR X.K m h H∧DV X.K m H x v∧DV X.K m H y u∧Post X.K (rD X.K) m H E0 Q (Fu true x y h),fun pins s σ H v u a b Q I rv ru z=>?_,fun m H h E x y v u Q hr rx ry q=>⟨m,h,x,y,hr,rx,ry,Post.noE (YX _ _ _ _) q⟩⟩
 obtain ⟨m,h,x,y,hr,rx,ry,q⟩:=z
 unfold Fu at q
 split at q
 ·rename_i ns l ek
  split at q
  ·rename_i fz kvs el
   split at q
   ·rename_i hi
    rw [Nn ek] at rx
    obtain ⟨c,rfl,hk⟩:=Nl (P:=X.prog) (w:=X.w) I.hok rx
    cases (show a=Value.ref c from rv)
    simp only [DV] at ry
    obtain ⟨d,rfl,hd⟩:=ry
    cases (show b=Value.ref d from ru)
    obtain ⟨es,he,en⟩:=hr.cells l _ d el hd
    have dc:=YB I he
    obtain ⟨xs,dd,rr⟩:=YS (P:=X.prog) (w:=X.w) I.hok dc en hi
    refine wpAny_notIn_heap (knd:=Dt.tK X.prog X.w) (by show X.A.units+1<cLine;omega) hk dc.1 dd ?_
    rw [Nm rr] at q
    exact ⟨.bl (!(atKey xs ns).isSome),H,I.tok _,rfl,Bf hr q (by simp [DV])⟩
   ·exact q.elim
  ·exact q.elim
 ·exact q.elim
end
def Ct (nss:List (List Int)) (i j:Nat):Bool:=HT.lexLt (nss.getD i []) (nss.getD j [])
def HV:D→HD→Out D:=fun x h=>match x with
 |.loc l=>(match h[l]? with
  |some (.lst ds)=>(match Ax (ds.map Ft) with
   |some nss=>if nss=[] then .stuck else .ok (ds.getD (argBest (Ct nss) (nss.length - 1)) .non) h
   |none=>.stuck)
  |_=>.stuck)
 |_=>.stuck
theorem Ry {α β:Type} {f:α→Option β}:∀{xs:List α} {ys:List β} {i:Nat} {x:α},Ax (xs.map f)=some ys→xs[i]?=some x→∃y,ys[i]?=some y∧f x=some y
 |[],_,_,_,_,e=>by simp at e
 |z::xs,ys,i,x,e,ex=>by
  rw [Bn] at e
  cases q1:f z with
  |none=>rw [q1] at e;cases e
  |some y=>
   rw [q1] at e
   simp only [Ax] at e
   cases q2:Ax (xs.map f) with
   |none=>rw [q2] at e;cases e
   |some ys'=>
    rw [q2] at e
    cases e
    cases i with
    |zero=>simp at ex;subst ex;exact ⟨y,rfl,q1⟩
    |succ i=>simp at ex;obtain ⟨y',h1,h2⟩:=Ry q2 ex;exact ⟨y',by simpa using h1,h2⟩
theorem Rz {α β:Type} {f:α→Option β}:∀{xs:List α} {ys:List β},Ax (xs.map f)=some ys→ys.length=xs.length
 |[],_,e=>by cases e;rfl
 |z::xs,ys,e=>by
  rw [Bn] at e
  cases q1:f z with
  |none=>rw [q1] at e;cases e
  |some y=>
   rw [q1] at e
   simp only [Ax] at e
   cases q2:Ax (xs.map f) with
   |none=>rw [q2] at e;cases e
   |some ys'=>rw [q2] at e;cases e;simp [Rz q2]
theorem Np {bt:Nat→Nat→Bool}:∀n,argBest bt n≤n
 |0=>AK _
 |n+1=>by
  unfold argBest
  split
  ·exact AK _
  ·exact Nat.le_succ_of_le (Np n)
section
variable {X:Cx} {E:XK}
theorem YY (hc:X.calm=true) (hu:X.A.units+64<cLine):CI X (.builtin "min") (Am HV):=by
 refine KC (fun ds h=>?_) fun pins s σ H m h ds vs us Q I hr rd r q=>FL rd q fun x v ev rx q=>?_
 ·unfold Am HV
  repeat' split
  all_goals trivial
 ·subst ev
  obtain ⟨u,rfl,ru⟩:=En r
  unfold HV at q
  split at q
  ·rename_i l
   split at q
   ·rename_i ds' el
    split at q
    ·rename_i nss en
     split at q
     ·exact q.elim
     ·rename_i hne
      simp only [DV] at rx
      obtain ⟨a,rfl,ha⟩:=rx
      cases (show u=Value.ref a from ru)
      obtain ⟨ws,hv,dv⟩:=hr.cells l _ a el ha
      obtain ⟨its,rv,pl,hz⟩:=I.list (SqL.of hv)
      have hl:=rv.length
      have hl2:=dv.len
      have hl3:=Rz en
      have hpos:0<nss.length:=List.length_pos_iff.mpr hne
      have hlt:a<s.heap.objs.size:=by obtain ⟨_,e,_⟩:=pl.isList;exact Av e
      have tup:∀i v,its[i]?=some v→∃b ns items,v=.ref b∧nss.getD i []=ns∧IsTup s.heap b items∧IntsAre items.toList ns:=fun i v e=>by
       have hi:=(qa4.mp e).1
       obtain ⟨d,hd⟩:∃d,ds'[i]?=some d:=⟨ds'[i]'(by omega),A8 _⟩
       obtain ⟨ns,hn,hk⟩:=Ry en hd
       obtain ⟨wv,hw,dw⟩:=dv.get hd
       obtain ⟨u',hu',ru'⟩:=rv.get hw
       rw [e] at hu'
       cases hu'
       rw [Nn hk] at dw
       simp only [kD,DV] at dw
       obtain ⟨b,vs,rfl,hb,dvs⟩:=dw
       obtain ⟨_,its',f2,f3,_⟩:=(show Ip s.heap b vs from I.hok b _ hb)
       cases (show v=Value.ref b from ru')
       have:=O9 dvs (ns:=ns) (by rw [DQ];exact FR (f:=Gf∘D.int) (g:=id) (fun _ _=>rfl) |>.trans (by simp))
       subst this
       exact ⟨b,ns,_,rfl,by rw [Ej,hn];rfl,f3,Uy f2⟩
      refine Mn.call_minH (wpAny_pyIter_list pl.isList ?_)
      refine ⟨s.heap.objs.size,[s.heap.objs.size,a],[s.heap.objs.size],its.toArray.size,_,_,Ct nss,rfl,Walks.list (A:=X.A.in1) (I.ok.hd hc) _ a (Be hlt) its.toArray,⟨⟨_,Bp _ rfl,rfl,rfl⟩,pl.isList.push _⟩,fun b hb=>?_,by simp;omega,?_,fun b o e=>AE _ e,fun b o e=>?_,fun v h' tk hP hk=>?_⟩
      ·rw [CG]
       simp at hb
       rcases hb with rfl |rfl
       ·exact Nat.lt_succ_self _
       ·exact Ic hlt
      ·intro i j vi vj s' Q' E' k Pi Pj hQ
       obtain ⟨b1,n1,t1,rfl,e1,i1,j1⟩:=tup i vi (by simpa using Pi)
       obtain ⟨b2,n2,t2,rfl,e2,i2,j2⟩:=tup j vj (by simpa using Pj)
       have hQ':Q' (.bool (HT.lexLt n1 n2)) s':=by rw [←e1,←e2];exact hQ
       obtain ⟨o1,g1,c1⟩:=i1
       obtain ⟨o2,g2,c2⟩:=i2
       exact HT.lt_tupInts ⟨o1,k _ _ g1,c1⟩ ⟨o2,k _ _ g2,c2⟩ j1 j2 (by show X.A.units+1<cLine;omega) hQ'
      ·simpa using Be (Av e)
      ·have hb:=Np (bt:=Ct nss) (nss.length - 1)
       have hs:its.toArray.size - 1=nss.length - 1:=by simp;omega
       rw [hs] at hP
       have hi:argBest (Ct nss) (nss.length - 1)<ds'.length:=by omega
       obtain ⟨wv,hw,dw⟩:=dv.get (A8 hi)
       obtain ⟨u',hu',ru'⟩:=rv.get hw
       have hP':its[argBest (Ct nss) (nss.length - 1)]?=some v:=by simpa using hP
       rw [hP'] at hu'
       cases hu'
       refine ⟨wv,H,I.kept fun b u e=>hk b u (by simpa using Be (Av e)) (AE _ e),ru',Bf hr q ?_⟩
       rw [Ej,A8 hi]
       exact dw
    ·exact q.elim
   ·exact q.elim
  ·exact q.elim
end
end LS
set_option maxHeartbeats 0
namespace LK
open PySem PySem.Spec PyProof.Rows L2 LS
def By (i:Nat):Stmt:=PySem.Challenge.pw_lineswitch_k23_odd_fours.main.body.getD i (.Pass ⟨0,0,0,0⟩)
structure Bl (mg:Str→Option Value):Prop where
 n_ValueError:mg "ValueError"=none
 n_all:mg "all"=none
 n_bool:mg "bool"=none
 n_dict:mg "dict"=none
 n_divmod:mg "divmod"=none
 n_enumerate:mg "enumerate"=none
 n_int:mg "int"=none
 n_isinstance:mg "isinstance"=none
 n_len:mg "len"=none
 n_list:mg "list"=none
 n_max:mg "max"=none
 n_min:mg "min"=none
 n_range:mg "range"=none
 n_repr:mg "repr"=none
 n_tuple:mg "tuple"=none
 n_zip:mg "zip"=none
theorem YZ:bootBuiltins "ValueError"=some (.type "ValueError"):=by decide +kernel
theorem Nq:bootBuiltins "all"=some (.builtin "all"):=by decide +kernel
theorem Y0:bootBuiltins "bool"=some (.type "bool"):=by decide +kernel
theorem RA:bootBuiltins "dict"=some (.type "dict"):=by decide +kernel
theorem Y1:bootBuiltins "divmod"=some (.builtin "divmod"):=by decide +kernel
theorem K1:bootBuiltins "int"=some (.type "int"):=by decide +kernel
theorem Dg:bootBuiltins "isinstance"=some (.builtin "isinstance"):=by decide +kernel
theorem BY:bootBuiltins "len"=some (.builtin "len"):=by decide +kernel
theorem RB:bootBuiltins "list"=some (.type "list"):=by decide +kernel
theorem Y2:bootBuiltins "max"=some (.builtin "max"):=by decide +kernel
theorem RC:bootBuiltins "min"=some (.builtin "min"):=by decide +kernel
theorem HW:bootBuiltins "repr"=some (.builtin "repr"):=by decide +kernel
theorem HX:bootBuiltins "tuple"=some (.type "tuple"):=by decide +kernel
abbrev Ji:Stmt:=By 34
theorem Nr:Qm Ji:=⟨⟨rfl,rfl,rfl,by decide +kernel,rfl,by decide +kernel,by decide +kernel⟩,rfl,rfl,rfl,rfl,rfl,⟨_,_,_,_,_,_,_,_,_,_,_,_,_,_,_,_,_,rfl⟩⟩
abbrev Gw:Stmt:=By 14
theorem Y3:Bd ["thing"] ["thing"] (defScope Gw):=⟨rfl,rfl,rfl,by decide +kernel,rfl,by decide +kernel,by decide +kernel⟩
noncomputable abbrev Nt:MS:=AM (Ey (Ag (Bx AR) (Aa (Ab 0) (Aa (mC (.ty "int")) (Ae)))) (J1 (Ag (Bx AR) (Aa (Ab 0) (Aa (mC (.ty "bool")) (Ae))))))
abbrev Gx:Stmt:=By 17
theorem Y4:Bd ["thing"] ["thing"] (defScope Gx):=⟨rfl,rfl,rfl,by decide +kernel,rfl,by decide +kernel,by decide +kernel⟩
noncomputable abbrev Nu:MS:=AM (Ey (Ag (Bx AR) (Aa (Ab 0) (Aa (mC (.ty "tuple")) (Ae)))) (Hk IC IC (mC (.int 1)) (Ag (Am Bc) (Aa (Ab 0) (Ae))) (mC (.int 8))))
abbrev Gy:Stmt:=By 23
theorem sc_all_fours:Bd ["board","high","wide"] ["board"] (defScope Gy):=⟨rfl,rfl,rfl,by decide +kernel,rfl,by decide +kernel,by decide +kernel⟩
noncomputable abbrev Nv:MS:=Ak (AA 1 (Ag (Am Bc) (Aa (Ab 0) (Ae)))) (Ak (AA 2 (Ag (Am Bc) (Aa (Ah AI (Ab 0) (mC (.int 0))) (Ae)))) (AM (Fs [none,none,none,none,some 1,some 2] (Cg (Aa (Ab 1) (Ae))) (A3 0) (BM) (DO (EB (Aa (Ah Aq (Ab 0) (mC (.int 1))) (Aa (Ab 4) (Ae)))) (A3 1) (BM) (DO (Cg (Aa (Ab 5) (Ae))) (A3 2) (BM) (DO (EB (Aa (Ah Aq (Ab 2) (mC (.int 1))) (Aa (Ab 5) (Ae)))) (A3 3) (BM) (EL (A2 (Aa (Ab 0) (Aa (Ab 1) (Aa (Ab 2) (Aa (Ab 3) (Ae)))))))))))))
abbrev Gz:Stmt:=By 24
theorem sc_is_odd_four:Bd ["board","four","a","b","c","e"] ["board","four"] (defScope Gz):=⟨rfl,rfl,rfl,by decide +kernel,rfl,by decide +kernel,by decide +kernel⟩
noncomputable abbrev Nw:MS:=Ak (FN (Gq [2,3,4,5]) (Ab 1)) (AM (Ah Ck (Ah DD (Ah Aq (Ah Aq (Ah Aq (Ah AI (Ah AI (Ab 0) (Ab 2)) (Ab 4)) (Ah AI (Ah AI (Ab 0) (Ab 2)) (Ab 5))) (Ah AI (Ah AI (Ab 0) (Ab 3)) (Ab 4))) (Ah AI (Ah AI (Ab 0) (Ab 3)) (Ab 5))) (mC (.int 2))) (mC (.int 1))))
abbrev GA:Stmt:=By 28
theorem Y5:Bd ["_law_script","_law_k"] ["_law_script","_law_k"] (defScope GA):=⟨rfl,rfl,rfl,by decide +kernel,rfl,by decide +kernel,by decide +kernel⟩
noncomputable abbrev K2:MS:=Ak (Bo (Bk (Ah LY (Ab 1) (Ag (Am Bc) (Aa (Ab 0) (Ae))))) (AM (Ah AI (Ab 0) (Ab 1))) (Br)) (AM (Ah Aq (Ah Cj (mC (.int 6151)) (Ab 1)) (mC (.int 29))))
abbrev GB:Stmt:=By 29
theorem sc__law_mix:Bd ["_law_cell_here","_law_k","_law_number"] ["_law_cell_here","_law_k"] (defScope GB):=⟨rfl,rfl,rfl,by decide +kernel,rfl,by decide +kernel,by decide +kernel⟩
noncomputable abbrev Nx:MS:=Ak (AA 2 (Ah Aq (Ah Cj (Ah Aq (Ab 0) (mC (.int 1))) (mC (.int 40692))) (Ah Cj (mC (.int 104729)) (Ab 1)))) (Ak (AA 2 (Ah Aq (Ah DD (Ah Cj (Ab 2) (Ab 2)) (mC (.int 2147483399))) (Ab 1))) (AM (Ah DD (Ah Cj (Ab 2) (Ah Aq (Ab 2) (mC (.int 31)))) (mC (.int 2147483563)))))
abbrev GC:Stmt:=By 31
theorem sc__law_take:Bd ["_law_box_here","_law_many","_law_left","_law_digit"] ["_law_box_here","_law_many"] (defScope GC):=⟨rfl,rfl,rfl,by decide +kernel,rfl,by decide +kernel,by decide +kernel⟩
noncomputable abbrev Ny:MS:=Ak (FN (Dk 2 3) (Ag (Bx IF) (Aa (Ah AI (Ab 0) (mC (.int 0))) (Aa (Ab 1) (Ae))))) (Ak (Kj (Ab 0) (mC (.int 0)) (Ab 2)) (AM (Ab 3)))
abbrev GD:Stmt:=By 33
theorem sc__law_kind:Bd ["_law_e","_law_kinds","_law_words"] ["_law_e"] (defScope GD):=⟨rfl,rfl,rfl,by decide +kernel,rfl,by decide +kernel,by decide +kernel⟩
noncomputable abbrev Nz:MS:=Ak (AA 1 (BC (Aa (Ag (Bx AR) (Aa (Ab 0) (Aa (mC (.glo "NoBoard")) (Ae)))) (Aa (Ag (Bx AR) (Aa (Ab 0) (Aa (mC (.glo "NoLine")) (Ae)))) (Aa (Ag (Bx AR) (Aa (Ab 0) (Aa (mC (.glo "NoSwitching")) (Ae)))) (Aa (Ag (Bx AR) (Aa (Ab 0) (Aa (mC (.glo "NoNumber")) (Ae)))) (Ae))))))) (Ak (AA 1 (Ah Aq (Ab 1) (BC (Aa (Ag (Bx AR) (Aa (Ab 0) (Aa (mC (.glo "Unlike")) (Ae)))) (Aa (Ag (Bx AR) (Aa (Ab 0) (Aa (mC (.glo "NoNet")) (Ae)))) (Aa (Ag (Bx AR) (Aa (Ab 0) (Aa (mC (.glo "NoPlace")) (Ae)))) (Aa (Ag (Bx AR) (Aa (Ab 0) (Aa (mC (.glo "NoText")) (Ae)))) (Ae)))))))) (Ak (AA 1 (Ah Aq (Ab 1) (BC (Aa (Ag (Bx AR) (Aa (Ab 0) (Aa (mC (.glo "NoRow")) (Ae)))) (Aa (Ag (Bx AR) (Aa (Ab 0) (Aa (mC (.glo "TooMany")) (Ae)))) (Ae)))))) (Ak (Bo (DU (CW (CA (Ag (Bx AR) (Aa (Ab 0) (Aa (mC (.ty "ValueError")) (Ae)))))) (Bk (Ah BH (HG CB Gn (Ab 1) (mC (.bl true))) (mC (.int 1))))) (AM (mC (.str "! other"))) (Br)) (Ak (Bo (CA (Ah AI (Ab 1) (mC (.int 9)))) OR Br) (Ak (AA 2 (BC (Aa (mC (.str "board")) (Aa (mC (.str "line")) (Aa (mC (.str "switching")) (Aa (mC (.str "number")) (Aa (mC (.str "unlike")) (Aa (mC (.str "net")) (Aa (mC (.str "place")) (Aa (mC (.str "text")) (Aa (mC (.str "row")) (Ae)))))))))))) (AM (Ah Aq (mC (.str "! ")) (Ah AI (Ab 2) (HG CB Gp (Ab 1) (mC (.bl true)))))))))))
abbrev GE:Stmt:=By 38
theorem sc__law_switched:Bd ["_law_board_here","_law_rows","_law_columns","_law_found","_law_number","_law_row","_law_line","_law_place","_law_light"] ["_law_board_here","_law_rows","_law_columns"] (defScope GE):=⟨rfl,rfl,rfl,by decide +kernel,rfl,by decide +kernel,by decide +kernel⟩
noncomputable abbrev NA:MS:=Ak (AA 3 (BC (Ae))) (Ak (Ci (IY (Aa (Ab 0) (Ae))) (Dk 4 5) (Ak (AA 6 (BC (Ae))) (Ak (Ci (IY (Aa (Ab 5) (Ae))) (Dk 7 8) (Dj (Ff (Ab 6) (Ah DD (Ah Aq (Ah Aq (Ab 8) (Ag (Am Gc) (Aa (Ah (FK false) (Ab 4) (Ab 1)) (Ae)))) (Ag (Am Gc) (Aa (Ah (FK false) (Ab 7) (Ab 2)) (Ae)))) (mC (.int 2)))))) (Dj (Ff (Ab 3) (Ag (Am CJ) (Aa (Ab 6) (Ae)))))))) (AM (Ag (Am CJ) (Aa (Ab 3) (Ae)))))
abbrev GF:Stmt:=By 40
theorem sc__law_fours:Bd ["_law_board_here","_law_found","_law_a","_law_b","_law_sums","_law_c"] ["_law_board_here"] (defScope GF):=⟨rfl,rfl,rfl,by decide +kernel,rfl,by decide +kernel,by decide +kernel⟩
noncomputable abbrev NB:MS:=Ak (AA 1 (BC (Ae))) (Ak (Ci (Cg (Aa (Ag (Am Bc) (Aa (Ab 0) (Ae))) (Ae))) (A3 2) (Ci (EB (Aa (Ah Aq (Ab 2) (mC (.int 1))) (Aa (Ag (Am Bc) (Aa (Ab 0) (Ae))) (Ae)))) (A3 3) (Ak (AA 4 (Bh [none,none] (KA (Aa (Ah AI (Ab 0) (Ab 2)) (Aa (Ah AI (Ab 0) (Ab 3)) (Ae)))) (Dk 0 1) (BM) (Ah DD (Ah Aq (Ab 0) (Ab 1)) (mC (.int 2))))) (Ci (Cg (Aa (Ag (Am Bc) (Aa (Ab 4) (Ae))) (Ae))) (A3 5) (AA 1 (Ah Aq (Ab 1) (Bh [none,some 2,some 3,some 5,some 4] (EB (Aa (Ah Aq (Ab 5) (mC (.int 1))) (Aa (Ag (Am Bc) (Aa (Ab 4) (Ae))) (Ae)))) (A3 0) (Bk (Ah BH (Ah AI (Ab 4) (Ab 3)) (Ah AI (Ab 4) (Ab 0)))) (A2 (Aa (Ab 1) (Aa (Ab 2) (Aa (Ab 3) (Aa (Ab 0) (Ae))))))))))))) (AM (Ab 1)))
abbrev GG:Stmt:=By 15
theorem Y6:Bd ["thing","least","most"] ["thing","least","most"] (defScope GG):=⟨rfl,rfl,rfl,by decide +kernel,rfl,by decide +kernel,by decide +kernel⟩
noncomputable abbrev K3 (Dq:List D→HD→Out D):MS:=AM (Ey (Ag Dq (Aa (Ab 0) (Ae))) (Hk IC IC (Ab 1) (Ab 0) (Ab 2)))
abbrev GH:Stmt:=By 30
theorem sc__law_box:Bd ["_law_script","_law_k","_law_here","_law_number","_law_j"] ["_law_script","_law_k"] (defScope GH):=⟨rfl,rfl,rfl,by decide +kernel,rfl,by decide +kernel,by decide +kernel⟩
noncomputable abbrev NC (EU:List D→HD→Out D) (EV:List D→HD→Out D):MS:=Ak (AA 2 (Ag EU (Aa (Ab 0) (Aa (Ab 1) (Ae))))) (Ak (Bo (Bk (Ah Ck (Ah DD (Ab 2) (mC (.int 2))) (mC (.int 0)))) (AM (BC (Aa (Ah Kb (Ab 2) (mC (.int 2))) (Ae)))) (Br)) (Ak (AA 3 (mC (.int 0))) (Ak (Ci (Cg (Aa (mC (.int 24)) (Ae))) (A3 4) (AA 3 (Ah Aq (Ah Cj (Ab 3) (mC (.int 2147483647))) (Ag EV (Aa (Ab 2) (Aa (Ab 4) (Ae))))))) (AM (BC (Aa (Ab 3) (Ae)))))))
abbrev GI:Stmt:=By 32
theorem sc__law_wide_box:Bd ["_law_box_here","_law_number","_law_many","_law_j"] ["_law_box_here"] (defScope GI):=⟨rfl,rfl,rfl,by decide +kernel,rfl,by decide +kernel,by decide +kernel⟩
noncomputable abbrev ND (Ay:List D→HD→Out D):MS:=Ak (FM 1 2 (Aa (Ag Ay (Aa (Ab 0) (Aa (mC (.int 2147483647)) (Ae)))) (Aa (mC (.int 0)) (Ae)))) (Ak (Ci (Cg (Aa (mC (.int 24)) (Ae))) (A3 3) (Ak (AA 1 (Ah DD (Ah Aq (Ah Aq (Ah Cj (Ab 1) (mC (.int 48271))) (mC (.int 11))) (Ab 3)) (mC (.int 2147483647)))) (AA 2 (Ah Aq (Ah Cj (Ab 2) (mC (.int 2147483647))) (Ab 1))))) (AM (BC (Aa (Ab 2) (Ae)))))
abbrev GJ:Stmt:=By 36
theorem sc__law_no_board:Bd ["_law_box_here","_law_board_here","_law_at","_law_place","_law_odd","_law_row","_law_bent","_law_some"] ["_law_box_here","_law_board_here"] (defScope GJ):=⟨rfl,rfl,rfl,by decide +kernel,rfl,by decide +kernel,by decide +kernel⟩
noncomputable abbrev NF (Ay:List D→HD→Out D):MS:=Ak (FN (Gq [2,3]) (A2 (Aa (Ag Ay (Aa (Ab 0) (Aa (Ag (Am Bc) (Aa (Ab 1) (Ae))) (Ae)))) (Aa (Ag Ay (Aa (Ab 0) (Aa (Ag (Am Bc) (Aa (Ah AI (Ab 1) (mC (.int 0))) (Ae))) (Ae)))) (Ae))))) (Ak (AA 4 (Ah AI (BC (Aa (mC (.int 2)) (Aa (Kk (mC (.int 1))) (Aa (mC (.bl true)) (Aa (mC (.bl false)) (Aa (mC .non) (Aa (mC (.str "0")) (Aa (A2 (Aa (mC (.int 0)) (Ae))) (Aa (Ah J6 (mC (.int 10)) (mC (.int 29))) (Aa (BC (Aa (mC (.int 0)) (Ae))) (Aa (mC .edic) (Ae)))))))))))) (Ag Ay (Aa (Ab 0) (Aa (mC (.int 10)) (Ae)))))) (Ak (AA 5 (Ah AI (Ab 1) (Ab 2))) (Ak (AA 6 (Ah Aq (Ah Aq (Df (Ab 5) (Dp) (CZ (Ab 3))) (A2 (Aa (Ab 4) (Ae)))) (Df (Ab 5) (CZ (Ah Aq (Ab 3) (mC (.int 1)))) (Dp)))) (Ak (AA 7 (BC (Aa (Ab 6) (Aa (Ab 6) (Aa (Ab 6) (Aa (Ah Aq (Ab 5) (Ah Cj (A2 (Aa (mC (.int 0)) (Ae))) (mC (.int 8)))) (Aa (A2 (Ae)) (Aa (Ag (Am HN) (Aa (Ab 5) (Ae))) (Aa (mC .non) (Aa (mC (.int 1)) (Ae))))))))))) (Ak (Bo (Bk (Ah OM (Ag (Am Bc) (Aa (Ab 1) (Ae))) (mC (.int 1)))) (AA 7 (Ah Aq (Ab 7) (BC (Aa (Df (Ab 5) (Dp) (CZ (Kk (mC (.int 1))))) (Aa (Ah Aq (Ab 5) (A2 (Aa (mC (.int 0)) (Ae)))) (Ae)))))) (Br)) (Ak (AA 7 (Bh [none,some 1,some 2] (Cr (Ab 7)) (A3 0) (BM) (Ah Aq (Ah Aq (Df (Ab 1) (Dp) (CZ (Ab 2))) (A2 (Aa (Ab 0) (Ae)))) (Df (Ab 1) (CZ (Ah Aq (Ab 2) (mC (.int 1)))) (Dp))))) (Ak (AA 7 (Ah Aq (Ab 7) (BC (Aa (Ag (Am HN) (Aa (Ab 1) (Ae))) (Aa (A2 (Aa (Ab 1) (Ae))) (Aa (Ah Cj (A2 (Aa (Ah AI (Ab 1) (mC (.int 0))) (Ae))) (mC (.int 9))) (Aa (Ah Aq (Ab 1) (A2 (Aa (A2 (Ae)) (Ae)))) (Aa (Ah AI (Ab 1) (mC (.int 0))) (Aa (mC .non) (Aa (A2 (Ae)) (Aa (mC (.int 0)) (Aa (mC (.str "")) (Aa (mC .edic) (Ae)))))))))))))) (AM (Ah AI (Ab 7) (Ag Ay (Aa (Ab 0) (Aa (Ag (Am Bc) (Aa (Ab 7) (Ae))) (Ae)))))))))))))
abbrev GK:Stmt:=By 37
theorem Y7:Bd ["_law_box_here","_law_size"] ["_law_box_here","_law_size"] (defScope GK):=⟨rfl,rfl,rfl,by decide +kernel,rfl,by decide +kernel,by decide +kernel⟩
noncomputable abbrev NG (Ay:List D→HD→Out D):MS:=AM (Ag (Am CJ) (Aa (Bh [none,some 0] (Cg (Aa (Ab 1) (Ae))) (A3 0) (Bk (Ah Ck (Ag Ay (Aa (Ab 1) (Aa (mC (.int 2)) (Ae)))) (mC (.int 1)))) (Ab 0)) (Ae)))
abbrev GL:Stmt:=By 16
theorem Y8:Bd ["thing"] ["thing"] (defScope GL):=⟨rfl,rfl,rfl,by decide +kernel,rfl,by decide +kernel,by decide +kernel⟩
noncomputable abbrev NH (D9:List D→HD→Out D):MS:=AM (Ag D9 (Aa (Ab 0) (Aa (mC (.int 0)) (Aa (mC (.int 1)) (Ae)))))
abbrev GM:Stmt:=By 35
theorem sc__law_board:Bd ["_law_box_here","_law_high","_law_wide","_law_way","_law_digits","_law_dense","_law_rows","_law_number"] ["_law_box_here","_law_high","_law_wide"] (defScope GM):=⟨rfl,rfl,rfl,by decide +kernel,rfl,by decide +kernel,by decide +kernel⟩
noncomputable abbrev NI (Ay:List D→HD→Out D) (EX:List D→HD→Out D):MS:=Ak (AA 3 (Ag Ay (Aa (Ab 0) (Aa (mC (.int 5)) (Ae))))) (Ak (AA 4 (Ag EX (Aa (Ab 0) (Ae)))) (Ak (AA 5 (Ah AI (BC (Aa (mC (.int 3)) (Aa (mC (.int 1)) (Aa (mC (.int 5)) (Aa (mC (.int 3)) (Aa (mC (.int 2)) (Ae))))))) (Ab 3))) (Ak (AA 6 (BC (Ae))) (Ak (Ci (Cg (Aa (Ab 1) (Ae))) (A3 7) (Dj (Ff (Ab 6) (Ag (Am CJ) (Aa (Bh [none,some 4,some 5] (Cg (Aa (Ab 2) (Ae))) (A3 0) (BM) (Ag (Am Gc) (Aa (Ah LY (Ag Ay (Aa (Ab 1) (Aa (mC (.int 6)) (Ae)))) (Ab 2)) (Ae)))) (Ae)))))) (Ak (Bo (Bk (Ah Ck (Ab 3) (mC (.int 3)))) (AA 6 (Ah Cj (BC (Aa (Ah AI (Ab 6) (mC (.int 0))) (Ae))) (Ab 1))) (Br)) (AM (Ag (Am CJ) (Aa (Ab 6) (Ae)))))))))
abbrev GN:Stmt:=By 18
theorem Y9:Bd ["thing"] ["thing"] (defScope GN):=⟨rfl,rfl,rfl,by decide +kernel,rfl,by decide +kernel,by decide +kernel⟩
noncomputable abbrev NJ (Cm:List D→HD→Out D) (EY:List D→HD→Out D):MS:=AM (Ey (Ag Cm (Aa (Ab 0) (Ae))) (Ag (Am DZ) (Aa (Bh [none] (Cr (Ab 0)) (A3 0) (BM) (Ag EY (Aa (Ab 0) (Ae)))) (Ae))))
abbrev GO:Stmt:=By 39
theorem sc__law_pair:Bd ["_law_box_here","_law_high","_law_wide","_law_board_here","_law_rows","_law_columns","_law_other","_law_at","_law_place","_law_line"] ["_law_box_here","_law_high","_law_wide"] (defScope GO):=⟨rfl,rfl,rfl,by decide +kernel,rfl,by decide +kernel,by decide +kernel⟩
noncomputable abbrev NK (B0:List D→HD→Out D) (Ec:List D→HD→Out D) (EW:List D→HD→Out D) (Ay:List D→HD→Out D):MS:=Ak (AA 3 (Ag B0 (Aa (Ab 0) (Aa (Ab 1) (Aa (Ab 2) (Ae)))))) (Ak (FM 4 5 (Aa (Ag Ec (Aa (Ab 0) (Aa (Ab 1) (Ae)))) (Aa (Ag Ec (Aa (Ab 0) (Aa (Ab 2) (Ae)))) (Ae)))) (Ak (AA 6 (Ag EW (Aa (Ab 3) (Aa (Ab 4) (Aa (Ab 5) (Ae)))))) (Ak (Bo (Bk (Ah Ck (Ag Ay (Aa (Ab 0) (Aa (mC (.int 3)) (Ae)))) (mC (.int 0)))) (Ak (FM 7 8 (Aa (Ag Ay (Aa (Ab 0) (Aa (Ab 1) (Ae)))) (Aa (Ag Ay (Aa (Ab 0) (Aa (Ab 2) (Ae)))) (Ae)))) (Ak (AA 9 (Ah Aq (Ah Aq (Df (Ah AI (Ab 6) (Ab 7)) (Dp) (CZ (Ab 8))) (A2 (Aa (Ah LW (mC (.int 1)) (Ah AI (Ah AI (Ab 6) (Ab 7)) (Ab 8))) (Ae)))) (Df (Ah AI (Ab 6) (Ab 7)) (CZ (Ah Aq (Ab 8) (mC (.int 1)))) (Dp)))) (AA 6 (Ah Aq (Ah Aq (Df (Ab 6) (Dp) (CZ (Ab 7))) (A2 (Aa (Ab 9) (Ae)))) (Df (Ab 6) (CZ (Ah Aq (Ab 7) (mC (.int 1)))) (Dp)))))) (Br)) (AM (A2 (Aa (Ab 3) (Aa (Ab 6) (Ae))))))))
abbrev GP:Stmt:=By 19
theorem Za:Bd ["thing"] ["thing"] (defScope GP):=⟨rfl,rfl,rfl,by decide +kernel,rfl,by decide +kernel,by decide +kernel⟩
noncomputable abbrev NL (Cm:List D→HD→Out D) (EZ:List D→HD→Out D):MS:=Ak (Bo (DU (CW (CA (Ag Cm (Aa (Ab 0) (Ae))))) (CW (CA (Ag (Am DZ) (Aa (Bh [none] (Cr (Ab 0)) (A3 0) (BM) (Ag EZ (Aa (Ab 0) (Ae)))) (Ae)))))) (AM (mC (.bl false))) (Br)) (AM (Ag (Am DZ) (Aa (Bh [none,some 0] (Cr (Ab 0)) (A3 0) (BM) (Ah Ck (Ag (Am Bc) (Aa (Ab 0) (Ae))) (Ag (Am Bc) (Aa (Ah AI (Ab 1) (mC (.int 0))) (Ae))))) (Ae))))
abbrev GQ:Stmt:=By 20
theorem Zb:Bd ["thing"] ["thing"] (defScope GQ):=⟨rfl,rfl,rfl,by decide +kernel,rfl,by decide +kernel,by decide +kernel⟩
noncomputable abbrev K4 (Ee:List D→HD→Out D):MS:=Bo (CW (CA (Ag Ee (Aa (Ab 0) (Ae))))) (HB "NoBoard" (Aa (mC (.str "this is no board")) (Ae))) (Br)
abbrev GR:Stmt:=By 22
theorem Zc:Bd ["one","other"] ["one","other"] (defScope GR):=⟨rfl,rfl,rfl,by decide +kernel,rfl,by decide +kernel,by decide +kernel⟩
noncomputable abbrev K5 (BS:List D→HD→Out D):MS:=Ak (Dj (Ag BS (Aa (Ab 0) (Ae)))) (Ak (Dj (Ag BS (Aa (Ab 1) (Ae)))) (AM (Ey (Ah Ck (Ag (Am Bc) (Aa (Ab 0) (Ae))) (Ag (Am Bc) (Aa (Ab 1) (Ae)))) (Ah Ck (Ag (Am Bc) (Aa (Ah AI (Ab 0) (mC (.int 0))) (Ae))) (Ag (Am Bc) (Aa (Ah AI (Ab 1) (mC (.int 0))) (Ae)))))))
abbrev GS:Stmt:=By 25
theorem Zd:Bd ["board"] ["board"] (defScope GS):=⟨rfl,rfl,rfl,by decide +kernel,rfl,by decide +kernel,by decide +kernel⟩
noncomputable abbrev K6 (BS:List D→HD→Out D) (BZ:List D→HD→Out D) (BU:List D→HD→Out D):MS:=Ak (Dj (Ag BS (Aa (Ab 0) (Ae)))) (AM (Bh [none,some 0] (Cr (Ag BZ (Aa (Ab 0) (Ae)))) (A3 0) (CA (Ag BU (Aa (Ab 1) (Aa (Ab 0) (Ae))))) (Ab 0)))
abbrev GT:Stmt:=By 26
theorem sc_first_unlike:Bd ["one","other","four"] ["one","other"] (defScope GT):=⟨rfl,rfl,rfl,by decide +kernel,rfl,by decide +kernel,by decide +kernel⟩
noncomputable abbrev Jj (Dr:List D→HD→Out D) (BZ:List D→HD→Out D) (BU:List D→HD→Out D):MS:=Ak (Bo (CW (CA (Ag Dr (Aa (Ab 0) (Aa (Ab 1) (Ae)))))) (HB "Unlike" (Aa (mC (.str "the boards have unlike sizes")) (Ae))) (Br)) (Ak (Ci (Cr (Ag BZ (Aa (Ab 0) (Ae)))) (A3 2) (Bo (Bk (Ah BH (Ag BU (Aa (Ab 0) (Aa (Ab 2) (Ae)))) (Ag BU (Aa (Ab 1) (Aa (Ab 2) (Ae)))))) (AM (Ab 2)) (Br))) (AM (mC .non)))
abbrev GU:Stmt:=By 41
theorem sc__law_first_right:Bd ["_law_board_here","_law_other","_law_mine","_law_theirs","_law_known","_law_own","_law_apart","_law_due"] ["_law_board_here","_law_other","_law_mine"] (defScope GU):=⟨rfl,rfl,rfl,by decide +kernel,rfl,by decide +kernel,by decide +kernel⟩
noncomputable abbrev NM (Ca:List D→HD→Out D) (Bq:List D→HD→Out D):MS:=Ak (AA 3 (Ag Ca (Aa (Ab 1) (Ae)))) (Ak (AA 4 (Ag (Am Gv) (Aa (Bh [none] (Cr (Ab 3)) (A3 0) (BM) (A2 (Aa (Ab 0) (Aa (mC (.bl true)) (Ae))))) (Ae)))) (Ak (AA 5 (Ag (Am Gv) (Aa (Bh [none] (Cr (Ab 2)) (A3 0) (BM) (A2 (Aa (Ab 0) (Aa (mC (.bl true)) (Ae))))) (Ae)))) (Ak (AA 6 (Ah Aq (Bh [none,some 4] (Cr (Ab 2)) (A3 0) (Bk (Ah (Fu true) (Ab 0) (Ab 1))) (Ab 0)) (Bh [none,some 5] (Cr (Ab 3)) (A3 0) (Bk (Ah (Fu true) (Ab 0) (Ab 1))) (Ab 0)))) (Ak (AA 7 (J2 (Bk (Ah BH (Ab 6) (BC (Ae)))) (Ag (Am HV) (Aa (Ab 6) (Ae))) (mC .non))) (AM (Ey (Ah Ck (Ag (Am BX) (Aa (Ag Bq (Aa (Ab 0) (Aa (Ab 1) (Ae)))) (Ae))) (Ag (Am BX) (Aa (Ab 7) (Ae)))) (Ah Ck (Ag (Am BX) (Aa (Ag Bq (Aa (Ab 1) (Aa (Ab 0) (Ae)))) (Ae))) (Ag (Am BX) (Aa (Ab 7) (Ae))))))))))
abbrev s_law:Stmt:=By 42
theorem sc_law:Bd ["_law_script","_law_k","_law_box_here","_law_high","_law_wide","_law_board_here","_law_other","_law_mine","_law_turn","_law_found","_law_far","_law_none","_law_one","_law_two"] ["_law_script"] (defScope s_law):=⟨rfl,rfl,rfl,by decide +kernel,rfl,by decide +kernel,by decide +kernel⟩
noncomputable abbrev K7 (Ea:List D→HD→Out D) (Ay:List D→HD→Out D) (Ed:List D→HD→Out D) (Ca:List D→HD→Out D) (Dh:List D→HD→Out D) (Ds:List D→HD→Out D) (Bq:List D→HD→Out D) (B0:List D→HD→Out D) (Eb:List D→HD→Out D) (B7:List D→HD→Out D):MS:=Ak (Ci (Cg (Aa (Ag (Bx IG) (Aa (mC (.int 1)) (Aa (Ag (Bx IH) (Aa (Ag (Am Bc) (Aa (Ab 0) (Ae))) (Aa (mC (.int 5)) (Ae)))) (Ae)))) (Ae))) (A3 1) (Ak (AA 2 (Ag Ea (Aa (Ab 0) (Aa (Ab 1) (Ae))))) (Ak (FM 3 4 (Aa (Ah Aq (mC (.int 1)) (Ag Ay (Aa (Ab 2) (Aa (mC (.int 8)) (Ae))))) (Aa (Ah Aq (mC (.int 1)) (Ag Ay (Aa (Ab 2) (Aa (mC (.int 8)) (Ae))))) (Ae)))) (Ak (FN (Dk 5 6) (Ag Ed (Aa (Ab 2) (Aa (Ab 3) (Aa (Ab 4) (Ae)))))) (Ak (AA 7 (Ag Ca (Aa (Ab 5) (Ae)))) (Ak (Ci (Cg (Aa (mC (.int 2)) (Ae))) (A3 8) (Ak (AA 9 (Ag Dh (Aa (Ab 5) (Ae)))) (Ak (Bo (Bk (Ah BH (Ag (Am BX) (Aa (Ab 9) (Ae))) (Ag (Am BX) (Aa (Ab 7) (Ae))))) (AM (mC (.bl false))) (Br)) (Dj (Ff (Ab 9) (mC .non)))))) (Ak (Bo (DU (CW (CA (Ag Ds (Aa (Ab 5) (Aa (Ab 6) (Aa (Ab 7) (Ae))))))) (Bk (Ah ID (Ag Bq (Aa (Ab 6) (Aa (Ab 6) (Ae)))) (mC .non)))) (AM (mC (.bl false))) (Br)) (Ak (Bo (CW (CA (Ag Ds (Aa (Ab 5) (Aa (Ag B0 (Aa (Ab 2) (Aa (Ab 3) (Aa (Ab 4) (Ae))))) (Aa (Ab 7) (Ae))))))) (AM (mC (.bl false))) (Br)) (Ak (AA 10 (Ag B0 (Aa (Ab 2) (Aa (Ah Aq (mC (.int 1)) (Ag Ay (Aa (Ab 2) (Aa (mC (.int 8)) (Ae))))) (Aa (Ah Aq (mC (.int 1)) (Ag Ay (Aa (Ab 2) (Aa (mC (.int 8)) (Ae))))) (Ae)))))) (Ak (Bo (DU (Bk (Ah BH (Ag (Am Bc) (Aa (Ab 10) (Ae))) (Ab 3))) (Bk (Ah BH (Ag (Am Bc) (Aa (Ah AI (Ab 10) (mC (.int 0))) (Ae))) (Ab 4)))) (Bo (Bk (Ah BH (De [5,10] B7 (Ag Bq (Aa (Ab 0) (Aa (Ab 1) (Ae))))) (mC (.str "! unlike")))) (AM (mC (.bl false))) (Br)) (Br)) (Ak (AA 11 (Ag Eb (Aa (Ab 2) (Aa (Ab 5) (Ae))))) (Ak (Bo (Bk (Ah BH (De [11] B7 (Ag Dh (Aa (Ab 0) (Ae)))) (mC (.str "! board")))) (AM (mC (.bl false))) (Br)) (Ci (Cr (BC (Aa (A2 (Aa (Ab 11) (Aa (Ab 10) (Ae)))) (Aa (A2 (Aa (Ab 10) (Aa (Ab 11) (Ae)))) (Aa (A2 (Aa (Ab 11) (Aa (Ab 11) (Ae)))) (Aa (A2 (Aa (Ab 5) (Aa (Ab 11) (Ae)))) (Ae))))))) (Dk 12 13) (Bo (Bk (Ah BH (De [12,13] B7 (Ag Bq (Aa (Ab 0) (Aa (Ab 1) (Ae))))) (mC (.str "! board")))) (AM (mC (.bl false))) (Br))))))))))))))) (AM (mC (.bl true)))
section
variable {P:Program} {w:World} {K:PySem.W.Frag} {mg:Str→Option Value} {base:Heap} (B:Bl mg) (et:etOk K=true)
include B et
theorem Ze (f:Addr) (cdv:Value) (A:Around) (outer:List Env) (s:Shared) (H:Hp) (E:XK) (hr:Room 0 (A.deeper (envOfC "is_whole" (defScope Gw) s.heap.objs.size f cdv))):
 A4 (AS (AD P w K) P w K mg base ["thing"] "is_whole" (defScope Gw) f cdv A outer s H E) E (defBody Gw) (Nt):=
 AH (Ba (Hj (AQ (Dc et) rfl B.n_isinstance Dg (Ac (Ad (pv 0)) (Ac (Kh rfl B.n_int K1) (Af)))) (Hi (U9 (AQ (Dc et) rfl B.n_isinstance Dg (Ac (Ad (pv 0)) (Ac (Kh rfl B.n_bool Y0) (Af))))))))
theorem Zf {t_MOST_LINES:Tok} (m_MOST_LINES:mg "MOST_LINES"=some (.int 8 t_MOST_LINES)) (f:Addr) (cdv:Value) (A:Around) (outer:List Env) (s:Shared) (H:Hp) (E:XK) (hr:Room 0 (A.deeper (envOfC "is_line_tuple" (defScope Gx) s.heap.objs.size f cdv))):
 A4 (AS (AD P w K) P w K mg base ["thing"] "is_line_tuple" (defScope Gx) f cdv A outer s H E) E (defBody Gx) (Nu):=
 AH (Ba (Hj (AQ (Dc et) rfl B.n_isinstance Dg (Ac (Ad (pv 0)) (Ac (Kh rfl B.n_tuple HX) (Af)))) (Hi (OL J5 J5 (Al) (AQ BW rfl B.n_len BY (Ac (Ad (pv 0)) (Af))) (U5 rfl m_MOST_LINES)))))
theorem Zg (f:Addr) (cdv:Value) (A:Around) (outer:List Env) (s:Shared) (H:Hp) (E:XK) (hr:Room 0 (A.deeper (envOfC "all_fours" (defScope Gy) s.heap.objs.size f cdv))):
 A4 (AS (AD P w K) P w K mg base ["board","high","wide"] "all_fours" (defScope Gy) f cdv A outer s H E) E (defBody Gy) (Nv):=
 Ap (AX (i:=1) sc_all_fours.nd rfl (by first|exact .inl rfl|exact .inr rfl) (AQ BW rfl B.n_len BY (Ac (Ad (pv 0)) (Af)))) (Ap (AX (i:=2) sc_all_fours.nd rfl (by first|exact .inl rfl|exact .inr rfl) (AQ BW rfl B.n_len BY (Ac (Bg (Ad (pv 0)) (Al) (fun _ _=>rfl)) (Af)))) (AH (Ba (X6 (Nc:=["a","b","c","e","high","wide"]) (cs:=[none,none,none,none,some 1,some 2]) (is:=[0]) (js:=[1,2,3]) rfl (CSc.ok ⟨rfl,by decide +kernel,by kernel_rfl,by decide +kernel,rfl,by kernel_rfl⟩) (DX rfl B.n_range (Ac (Ad (pv 1)) (Af))) (fun g e=>by cases e<;>rfl) (by decide) (KM (i:=0) (js:=[1,2,3]) (by decide)) (fun C D cells fp s₀ H₀ pins ao=>⟨AZ (i:=0) (show (["a","b","c","e","high","wide"]:List Str).Nodup from by decide +kernel) rfl (by first|exact .inl rfl|exact .inr rfl) (by first|exact .inl rfl|exact .inr rfl),DG,M3 (is:=[1]) (js:=[2,3]) rfl rfl rfl (fun g e=>by cases e<;>rfl) (Ke rfl B.n_range (Ac (Aw AW (Ad (pv 0)) (Al)) (Ac (Ad (pv 4)) (Af)))) (AZ (i:=1) (show (["a","b","c","e","high","wide"]:List Str).Nodup from by decide +kernel) rfl (by first|exact .inl rfl|exact .inr rfl) (by first|exact .inl rfl|exact .inr rfl)) (KM (i:=1) (js:=[2,3]) (by decide)) (DG) (M3 (is:=[2]) (js:=[3]) rfl rfl rfl (fun g e=>by cases e<;>rfl) (DX rfl B.n_range (Ac (Ad (pv 5)) (Af))) (AZ (i:=2) (show (["a","b","c","e","high","wide"]:List Str).Nodup from by decide +kernel) rfl (by first|exact .inl rfl|exact .inr rfl) (by first|exact .inl rfl|exact .inr rfl)) (KM (i:=2) (js:=[3]) (by decide)) (DG) (M3 (is:=[3]) (js:=[]) rfl rfl rfl (fun g e=>by cases e<;>rfl) (Ke rfl B.n_range (Ac (Aw AW (Ad (pv 2)) (Al)) (Ac (Ad (pv 5)) (Af)))) (AZ (i:=3) (show (["a","b","c","e","high","wide"]:List Str).Nodup from by decide +kernel) rfl (by first|exact .inl rfl|exact .inr rfl) (by first|exact .inl rfl|exact .inr rfl)) (KM (i:=3) (js:=[]) (by decide)) (DG) (X4 ao rfl rfl (BQ (Ac (Ad (pv 0)) (Ac (Ad (pv 1)) (Ac (Ad (pv 2)) (Ac (Ad (pv 3)) (Af)))))))))⟩)))))
theorem Zh (f:Addr) (cdv:Value) (A:Around) (outer:List Env) (s:Shared) (H:Hp) (E:XK) (hr:Room 0 (A.deeper (envOfC "is_odd_four" (defScope Gz) s.heap.objs.size f cdv))):
 A4 (AS (AD P w K) P w K mg base ["board","four","a","b","c","e"] "is_odd_four" (defScope Gz) f cdv A outer s H E) E (defBody Gz) (Nw):=
 Ap (Kd (Ad (pv 1)) (Qk (is:=[2,3,4,5]) (Lu rfl (FB (AZ (i:=2) (sc_is_odd_four.nd) rfl (by first|exact .inl rfl|exact .inr rfl) (by first|exact .inl rfl|exact .inr rfl)) (FB (AZ (i:=3) (sc_is_odd_four.nd) rfl (by first|exact .inl rfl|exact .inr rfl) (by first|exact .inl rfl|exact .inr rfl)) (FB (AZ (i:=4) (sc_is_odd_four.nd) rfl (by first|exact .inl rfl|exact .inr rfl) (by first|exact .inl rfl|exact .inr rfl)) (FB (AZ (i:=5) (sc_is_odd_four.nd) rfl (by first|exact .inl rfl|exact .inr rfl) (by first|exact .inl rfl|exact .inr rfl)) (Ls)))))))) (AH (Ba (E8 (EH hr.units) (Aw Ga (Aw AW (Aw AW (Aw AW (Bg (Bg (Ad (pv 0)) (Ad (pv 2)) (fun _ _=>rfl)) (Ad (pv 4)) (fun _ _=>rfl)) (Bg (Bg (Ad (pv 0)) (Ad (pv 2)) (fun _ _=>rfl)) (Ad (pv 5)) (fun _ _=>rfl))) (Bg (Bg (Ad (pv 0)) (Ad (pv 3)) (fun _ _=>rfl)) (Ad (pv 4)) (fun _ _=>rfl))) (Bg (Bg (Ad (pv 0)) (Ad (pv 3)) (fun _ _=>rfl)) (Ad (pv 5)) (fun _ _=>rfl))) (Al)) (Al) (BL _))))
theorem Zi (f:Addr) (cdv:Value) (A:Around) (outer:List Env) (s:Shared) (H:Hp) (E:XK) (hr:Room 0 (A.deeper (envOfC "_law_cell" (defScope GA) s.heap.objs.size f cdv))):
 A4 (AS (AD P w K) P w K mg base ["_law_script","_law_k"] "_law_cell" (defScope GA) f cdv A outer s H E) E (defBody GA) (K2):=
 Ap (Cf (B9 ON (Ad (pv 1)) (AQ BW rfl B.n_len BY (Ac (Ad (pv 0)) (Af))) (BL _)) (AH (Ba (Bg (Ad (pv 0)) (Ad (pv 1)) (fun _ _=>rfl)))) (Ce)) (AH (Ba (Aw AW (Aw D8 (Al) (Ad (pv 1))) (Al))))
theorem Zj (f:Addr) (cdv:Value) (A:Around) (outer:List Env) (s:Shared) (H:Hp) (E:XK) (hr:Room 0 (A.deeper (envOfC "_law_mix" (defScope GB) s.heap.objs.size f cdv))):
 A4 (AS (AD P w K) P w K mg base ["_law_cell_here","_law_k","_law_number"] "_law_mix" (defScope GB) f cdv A outer s H E) E (defBody GB) (Nx):=
 Ap (AX (i:=2) sc__law_mix.nd rfl (by first|exact .inl rfl|exact .inr rfl) (Aw AW (Aw D8 (Aw AW (Ad (pv 0)) (Al)) (Al)) (Aw D8 (Al) (Ad (pv 1))))) (Ap (AX (i:=2) sc__law_mix.nd rfl (by first|exact .inl rfl|exact .inr rfl) (Aw AW (Aw Ga (Aw D8 (Ad (pv 2)) (Ad (pv 2))) (Al)) (Ad (pv 1)))) (AH (Ba (Aw Ga (Aw D8 (Ad (pv 2)) (Aw AW (Ad (pv 2)) (Al))) (Al)))))
theorem Zk (f:Addr) (cdv:Value) (A:Around) (outer:List Env) (s:Shared) (H:Hp) (E:XK) (hr:Room 0 (A.deeper (envOfC "_law_take" (defScope GC) s.heap.objs.size f cdv))):
 A4 (AS (AD P w K) P w K mg base ["_law_box_here","_law_many","_law_left","_law_digit"] "_law_take" (defScope GC) f cdv A outer s H E) E (defBody GC) (Ny):=
 Ap (Kd (AQ Vo rfl B.n_divmod Y1 (Ac (Bg (Ad (pv 0)) (Al) (fun _ _=>rfl)) (Ac (Ad (pv 1)) (Af)))) (IK (Hw rfl (AZ (i:=2) (sc__law_take.nd) rfl (by first|exact .inl rfl|exact .inr rfl) (by first|exact .inl rfl|exact .inr rfl)) (AZ (i:=3) (sc__law_take.nd) rfl (by first|exact .inl rfl|exact .inr rfl) (by first|exact .inl rfl|exact .inr rfl))))) (Ap (VI (Ad (pv 0)) (Al) (Ad (pv 2))) (AH (Ba (Ad (pv 3)))))
theorem Zl (f:Addr) (cdv:Value) (A:Around) (outer:List Env) (s:Shared) (H:Hp) (hr:RoomM 0 (A.deeper (envOfC "_law_kind" (defScope GD) s.heap.objs.size f cdv))):
 A4 (HJ P w K mg base ["_law_e","_law_kinds","_law_words"] "_law_kind" (defScope GD) f cdv A outer s H) E0 (defBody GD) (Nz):=
 Ap (AX (i:=1) sc__law_kind.nd rfl (by first|exact .inl rfl|exact .inr rfl) (B5 (Ac (AQ (Dc et) rfl B.n_isinstance Dg (Ac (Ad (pv 0)) (Ac (EJ et (by decide +kernel)) (Af)))) (Ac (AQ (Dc et) rfl B.n_isinstance Dg (Ac (Ad (pv 0)) (Ac (EJ et (by decide +kernel)) (Af)))) (Ac (AQ (Dc et) rfl B.n_isinstance Dg (Ac (Ad (pv 0)) (Ac (EJ et (by decide +kernel)) (Af)))) (Ac (AQ (Dc et) rfl B.n_isinstance Dg (Ac (Ad (pv 0)) (Ac (EJ et (by decide +kernel)) (Af)))) (Af))))))) (Ap (AX (i:=1) sc__law_kind.nd rfl (by first|exact .inl rfl|exact .inr rfl) (Aw AW (Ad (pv 1)) (B5 (Ac (AQ (Dc et) rfl B.n_isinstance Dg (Ac (Ad (pv 0)) (Ac (EJ et (by decide +kernel)) (Af)))) (Ac (AQ (Dc et) rfl B.n_isinstance Dg (Ac (Ad (pv 0)) (Ac (EJ et (by decide +kernel)) (Af)))) (Ac (AQ (Dc et) rfl B.n_isinstance Dg (Ac (Ad (pv 0)) (Ac (EJ et (by decide +kernel)) (Af)))) (Ac (AQ (Dc et) rfl B.n_isinstance Dg (Ac (Ad (pv 0)) (Ac (EJ et (by decide +kernel)) (Af)))) (Af)))))))) (Ap (AX (i:=1) sc__law_kind.nd rfl (by first|exact .inl rfl|exact .inr rfl) (Aw AW (Ad (pv 1)) (B5 (Ac (AQ (Dc et) rfl B.n_isinstance Dg (Ac (Ad (pv 0)) (Ac (EJ et (by decide +kernel)) (Af)))) (Ac (AQ (Dc et) rfl B.n_isinstance Dg (Ac (Ad (pv 0)) (Ac (EJ et (by decide +kernel)) (Af)))) (Af)))))) (Ap (Cf (J0 (JZ (F9 (E9 (AQ (Dc et) rfl B.n_isinstance Dg (Ac (Ad (pv 0)) (Ac (Kh rfl B.n_ValueError YZ) (Af)))))) (JY (B9 (EI hr.units) (P9 PySem.F.plainAttrs_list PySem.F.slot_list_count PySem.F.type_list_count MK WW WU (Ad (pv 1)) (CV)) (Al) (BL _))))) (AH (Ba (B8))) (Ce)) (Ap (Cf (E9 (Bg (Ad (pv 1)) (Al) (fun _ _=>rfl))) Vt Ce) (Ap (AX (i:=2) sc__law_kind.nd rfl (by first|exact .inl rfl|exact .inr rfl) (B5 (Ac (B8) (Ac (B8) (Ac (B8) (Ac (B8) (Ac (B8) (Ac (B8) (Ac (B8) (Ac (B8) (Ac (B8) (Af)))))))))))) (AH (Ba (Aw AW (B8) (Bg (Ad (pv 2)) (P9 PySem.F.plainAttrs_list PySem.F.slot_list_index PySem.F.type_list_index MK WV WX (Ad (pv 1)) (CV)) (fun _ _=>rfl))))))))))
theorem Zm (f:Addr) (cdv:Value) (A:Around) (outer:List Env) (s:Shared) (H:Hp) (E:XK) (hr:Room 0 (A.deeper (envOfC "_law_switched" (defScope GE) s.heap.objs.size f cdv))):
 A4 (AS (AD P w K) P w K mg base ["_law_board_here","_law_rows","_law_columns","_law_found","_law_number","_law_row","_law_line","_law_place","_law_light"] "_law_switched" (defScope GE) f cdv A outer s H E) E (defBody GE) (NA):=
 Ap (AX (i:=3) sc__law_switched.nd rfl (by first|exact .inl rfl|exact .inr rfl) (B5 (Af))) (Ap (DE DK rfl (PQ rfl B.n_enumerate (Ac (Ad (pv 0)) (Af))) (IK (Hw rfl (AZ (i:=4) (sc__law_switched.nd) rfl (by first|exact .inl rfl|exact .inr rfl) (by first|exact .inl rfl|exact .inr rfl)) (AZ (i:=5) (sc__law_switched.nd) rfl (by first|exact .inl rfl|exact .inr rfl) (by first|exact .inl rfl|exact .inr rfl)))) (Ap (AX (i:=6) sc__law_switched.nd rfl (by first|exact .inl rfl|exact .inr rfl) (B5 (Af))) (Ap (DE DK rfl (PQ rfl B.n_enumerate (Ac (Ad (pv 5)) (Af))) (IK (Hw rfl (AZ (i:=7) (sc__law_switched.nd) rfl (by first|exact .inl rfl|exact .inr rfl) (by first|exact .inl rfl|exact .inr rfl)) (AZ (i:=8) (sc__law_switched.nd) rfl (by first|exact .inl rfl|exact .inr rfl) (by first|exact .inl rfl|exact .inr rfl)))) (AH (Gd (Ki (Ad (pv 6)) (Aw Ga (Aw AW (Aw AW (Ad (pv 8)) (DB L6 rfl B.n_int K1 (Ac (E8 OQ (Ad (pv 4)) (Ad (pv 1)) (by with_unfolding_all rfl)) (Af)))) (DB L6 rfl B.n_int K1 (Ac (E8 OQ (Ad (pv 7)) (Ad (pv 2)) (by with_unfolding_all rfl)) (Af)))) (Al)))))) (AH (Gd (Ki (Ad (pv 3)) (DB II rfl B.n_tuple HX (Ac (Ad (pv 6)) (Af))))))))) (AH (Ba (DB II rfl B.n_tuple HX (Ac (Ad (pv 3)) (Af))))))
theorem Zn (f:Addr) (cdv:Value) (A:Around) (outer:List Env) (s:Shared) (H:Hp) (E:XK) (hr:Room 0 (A.deeper (envOfC "_law_fours" (defScope GF) s.heap.objs.size f cdv))):
 A4 (AS (AD P w K) P w K mg base ["_law_board_here","_law_found","_law_a","_law_b","_law_sums","_law_c"] "_law_fours" (defScope GF) f cdv A outer s H E) E (defBody GF) (NB):=
 Ap (AX (i:=1) sc__law_fours.nd rfl (by first|exact .inl rfl|exact .inr rfl) (B5 (Af))) (Ap (DE DK rfl (DX rfl B.n_range (Ac (AQ BW rfl B.n_len BY (Ac (Ad (pv 0)) (Af))) (Af))) (Fb (AZ (i:=2) (sc__law_fours.nd) rfl (by first|exact .inl rfl|exact .inr rfl) (by first|exact .inl rfl|exact .inr rfl))) (AH (DE DK rfl (Ke rfl B.n_range (Ac (Aw AW (Ad (pv 2)) (Al)) (Ac (AQ BW rfl B.n_len BY (Ac (Ad (pv 0)) (Af))) (Af)))) (Fb (AZ (i:=3) (sc__law_fours.nd) rfl (by first|exact .inl rfl|exact .inr rfl) (by first|exact .inl rfl|exact .inr rfl))) (Ap (AX (i:=4) sc__law_fours.nd rfl (by first|exact .inl rfl|exact .inr rfl) (DH (Nc:=["_law_one","_law_other"]) (cs:=[none,none]) rfl (CSc.ok ⟨rfl,by decide +kernel,by kernel_rfl,by decide +kernel,rfl,by kernel_rfl⟩) (Ww rfl B.n_zip (Ac (Bg (Ad (pv 0)) (Ad (pv 2)) (fun _ _=>rfl)) (Ac (Bg (Ad (pv 0)) (Ad (pv 3)) (fun _ _=>rfl)) (Af)))) (VC rfl rfl) (fun C D cells fp s₀ H₀ pins=>⟨Hw rfl (AZ (i:=0) (show (["_law_one","_law_other"]:List Str).Nodup from by decide +kernel) rfl (by first|exact .inl rfl|exact .inr rfl) (by first|exact .inl rfl|exact .inr rfl)) (AZ (i:=1) (show (["_law_one","_law_other"]:List Str).Nodup from by decide +kernel) rfl (by first|exact .inl rfl|exact .inr rfl) (by first|exact .inl rfl|exact .inr rfl)),DG,Aw Ga (Aw AW (Ad (pv 0)) (Ad (pv 1))) (Al)⟩))) (AH (DE DK rfl (DX rfl B.n_range (Ac (AQ BW rfl B.n_len BY (Ac (Ad (pv 4)) (Af))) (Af))) (Fb (AZ (i:=5) (sc__law_fours.nd) rfl (by first|exact .inl rfl|exact .inr rfl) (by first|exact .inl rfl|exact .inr rfl))) (AH (AX (i:=1) sc__law_fours.nd rfl (by first|exact .inl rfl|exact .inr rfl) (Aw AW (Ad (pv 1)) (DH (Nc:=["_law_e","_law_a","_law_b","_law_c","_law_sums"]) (cs:=[none,some 2,some 3,some 5,some 4]) rfl (CSc.ok ⟨rfl,by decide +kernel,by kernel_rfl,by decide +kernel,rfl,by kernel_rfl⟩) (Ke rfl B.n_range (Ac (Aw AW (Ad (pv 5)) (Al)) (Ac (AQ BW rfl B.n_len BY (Ac (Ad (pv 4)) (Af))) (Af)))) (DF rfl) (fun C D cells fp s₀ H₀ pins=>⟨AZ (i:=0) (show (["_law_e","_law_a","_law_b","_law_c","_law_sums"]:List Str).Nodup from by decide +kernel) rfl (by first|exact .inl rfl|exact .inr rfl) (by first|exact .inl rfl|exact .inr rfl),IS (B9 (EI hr.units) (Bg (Ad (pv 4)) (Ad (pv 3)) (fun _ _=>rfl)) (Bg (Ad (pv 4)) (Ad (pv 0)) (fun _ _=>rfl)) (BL _)),BQ (Ac (Ad (pv 1)) (Ac (Ad (pv 2)) (Ac (Ad (pv 3)) (Ac (Ad (pv 0)) (Af)))))⟩))))))))))) (AH (Ba (Ad (pv 1)))))
theorem Zo {Dq:List D→HD→Out D} (c_is_whole:CaE P w K mg base "is_whole" 1 Dq) (f:Addr) (cdv:Value) (A:Around) (outer:List Env) (s:Shared) (H:Hp) (E:XK) (hr:Room 1 (A.deeper (envOfC "is_between" (defScope GG) s.heap.objs.size f cdv))):
 A4 (AS (AD P w K) P w K mg base ["thing","least","most"] "is_between" (defScope GG) f cdv A outer s H E) E (defBody GG) (K3 Dq):=
 AH (Ba (Hj (AJ c_is_whole hr AU (Ac (Ad (pv 0)) (Af))) (Hi (OL J5 J5 (Ad (pv 1)) (Ad (pv 0)) (Ad (pv 2))))))
theorem Zp {EU:List D→HD→Out D} {EV:List D→HD→Out D} (c__law_cell:CaE P w K mg base "_law_cell" 1 EU) (c__law_mix:CaE P w K mg base "_law_mix" 1 EV) (f:Addr) (cdv:Value) (A:Around) (outer:List Env) (s:Shared) (H:Hp) (E:XK) (hr:Room 1 (A.deeper (envOfC "_law_box" (defScope GH) s.heap.objs.size f cdv))):
 A4 (AS (AD P w K) P w K mg base ["_law_script","_law_k","_law_here","_law_number","_law_j"] "_law_box" (defScope GH) f cdv A outer s H E) E (defBody GH) (NC EU EV):=
 Ap (AX (i:=2) sc__law_box.nd rfl (by first|exact .inl rfl|exact .inr rfl) (AJ c__law_cell hr AU (Ac (Ad (pv 0)) (Ac (Ad (pv 1)) (Af))))) (Ap (Cf (B9 (EH hr.units) (Aw Ga (Ad (pv 2)) (Al)) (Al) (BL _)) (AH (Ba (B5 (Ac (Aw Vq (Ad (pv 2)) (Al)) (Af))))) (Ce)) (Ap (AX (i:=3) sc__law_box.nd rfl (by first|exact .inl rfl|exact .inr rfl) (Al)) (Ap (DE DK rfl (DX rfl B.n_range (Ac (Al) (Af))) (Fb (AZ (i:=4) (sc__law_box.nd) rfl (by first|exact .inl rfl|exact .inr rfl) (by first|exact .inl rfl|exact .inr rfl))) (AH (AX (i:=3) sc__law_box.nd rfl (by first|exact .inl rfl|exact .inr rfl) (Aw AW (Aw D8 (Ad (pv 3)) (Al)) (AJ c__law_mix hr AU (Ac (Ad (pv 2)) (Ac (Ad (pv 4)) (Af)))))))) (AH (Ba (B5 (Ac (Ad (pv 3)) (Af))))))))
theorem Zq {Ay:List D→HD→Out D} (c__law_take:CaE P w K mg base "_law_take" 1 Ay) (f:Addr) (cdv:Value) (A:Around) (outer:List Env) (s:Shared) (H:Hp) (E:XK) (hr:Room 1 (A.deeper (envOfC "_law_wide_box" (defScope GI) s.heap.objs.size f cdv))):
 A4 (AS (AD P w K) P w K mg base ["_law_box_here","_law_number","_law_many","_law_j"] "_law_wide_box" (defScope GI) f cdv A outer s H E) E (defBody GI) (ND Ay):=
 Ap (Kc (i:=1) (j:=2) rfl sc__law_wide_box.nd rfl rfl (by decide) rfl rfl (Ac (AJ c__law_take hr AU (Ac (Ad (pv 0)) (Ac (Al) (Af)))) (Ac (Al) (Af))) (by first |rfl |with_unfolding_all rfl)) (Ap (DE DK rfl (DX rfl B.n_range (Ac (Al) (Af))) (Fb (AZ (i:=3) (sc__law_wide_box.nd) rfl (by first|exact .inl rfl|exact .inr rfl) (by first|exact .inl rfl|exact .inr rfl))) (Ap (AX (i:=1) sc__law_wide_box.nd rfl (by first|exact .inl rfl|exact .inr rfl) (Aw Ga (Aw AW (Aw AW (Aw D8 (Ad (pv 1)) (Al)) (Al)) (Ad (pv 3))) (Al))) (AH (AX (i:=2) sc__law_wide_box.nd rfl (by first|exact .inl rfl|exact .inr rfl) (Aw AW (Aw D8 (Ad (pv 2)) (Al)) (Ad (pv 1))))))) (AH (Ba (B5 (Ac (Ad (pv 2)) (Af))))))
theorem Zr {Ay:List D→HD→Out D} (c__law_take:CaE P w K mg base "_law_take" 1 Ay) (f:Addr) (cdv:Value) (A:Around) (outer:List Env) (s:Shared) (H:Hp) (E:XK) (hr:Room 1 (A.deeper (envOfC "_law_no_board" (defScope GJ) s.heap.objs.size f cdv))):
 A4 (AS (AD P w K) P w K mg base ["_law_box_here","_law_board_here","_law_at","_law_place","_law_odd","_law_row","_law_bent","_law_some"] "_law_no_board" (defScope GJ) f cdv A outer s H E) E (defBody GJ) (NF Ay):=
 Ap (Kd (BQ (Ac (AJ c__law_take hr AU (Ac (Ad (pv 0)) (Ac (AQ BW rfl B.n_len BY (Ac (Ad (pv 1)) (Af))) (Af)))) (Ac (AJ c__law_take hr AU (Ac (Ad (pv 0)) (Ac (AQ BW rfl B.n_len BY (Ac (Bg (Ad (pv 1)) (Al) (fun _ _=>rfl)) (Af))) (Af)))) (Af)))) (Qk (is:=[2,3]) (Lu rfl (FB (AZ (i:=2) (sc__law_no_board.nd) rfl (by first|exact .inl rfl|exact .inr rfl) (by first|exact .inl rfl|exact .inr rfl)) (FB (AZ (i:=3) (sc__law_no_board.nd) rfl (by first|exact .inl rfl|exact .inr rfl) (by first|exact .inl rfl|exact .inr rfl)) (Ls)))))) (Ap (AX (i:=4) sc__law_no_board.nd rfl (by first|exact .inl rfl|exact .inr rfl) (Bg (B5 (Ac (Al) (Ac (Pf (Al)) (Ac (CV) (Ac (CV) (Ac (F8) (Ac (B8) (Ac (BQ (Ac (Al) (Af))) (Ac (Aw Vf (Al) (Al)) (Ac (B5 (Ac (Al) (Af))) (Ac (Qr) (Af)))))))))))) (AJ c__law_take hr AU (Ac (Ad (pv 0)) (Ac (Al) (Af)))) (fun _ _=>rfl))) (Ap (AX (i:=5) sc__law_no_board.nd rfl (by first|exact .inl rfl|exact .inr rfl) (Bg (Ad (pv 1)) (Ad (pv 2)) (fun _ _=>rfl))) (Ap (AX (i:=6) sc__law_no_board.nd rfl (by first|exact .inl rfl|exact .inr rfl) (Aw AW (Aw AW (Fp (Ad (pv 5)) (Fh) (Fi (Ad (pv 3)))) (BQ (Ac (Ad (pv 4)) (Af)))) (Fp (Ad (pv 5)) (Fi (Aw AW (Ad (pv 3)) (Al))) (Fh)))) (Ap (AX (i:=7) sc__law_no_board.nd rfl (by first|exact .inl rfl|exact .inr rfl) (B5 (Ac (Ad (pv 6)) (Ac (Ad (pv 6)) (Ac (Ad (pv 6)) (Ac (Aw AW (Ad (pv 5)) (Aw D8 (BQ (Ac (Al) (Af))) (Al))) (Ac (BQ (Af)) (Ac (DB Qq rfl B.n_list RB (Ac (Ad (pv 5)) (Af))) (Ac (F8) (Ac (Al) (Af))))))))))) (Ap (Cf (B9 Ve (AQ BW rfl B.n_len BY (Ac (Ad (pv 1)) (Af))) (Al) (BL _)) (AH (AX (i:=7) sc__law_no_board.nd rfl (by first|exact .inl rfl|exact .inr rfl) (Aw AW (Ad (pv 7)) (B5 (Ac (Fp (Ad (pv 5)) (Fh) (Fi (Pf (Al)))) (Ac (Aw AW (Ad (pv 5)) (BQ (Ac (Al) (Af)))) (Af))))))) (Ce)) (Ap (VD (i:=7) (Nc:=["_law_other","_law_board_here","_law_at"]) (cs:=[none,some 1,some 2]) rfl sc__law_no_board.nd rfl (by first|exact .inl rfl|exact .inr rfl) (CSc.ok ⟨rfl,by decide +kernel,by kernel_rfl,by decide +kernel,rfl,by kernel_rfl⟩) (DW (Ad (pv 7))) (DF rfl) (fun C D cells fp s₀ H₀ pins=>⟨AZ (i:=0) (show (["_law_other","_law_board_here","_law_at"]:List Str).Nodup from by decide +kernel) rfl (by first|exact .inl rfl|exact .inr rfl) (by first|exact .inl rfl|exact .inr rfl),DG,Aw AW (Aw AW (Fp (Ad (pv 1)) (Fh) (Fi (Ad (pv 2)))) (BQ (Ac (Ad (pv 0)) (Af)))) (Fp (Ad (pv 1)) (Fi (Aw AW (Ad (pv 2)) (Al))) (Fh))⟩)) (Ap (AX (i:=7) sc__law_no_board.nd rfl (by first|exact .inl rfl|exact .inr rfl) (Aw AW (Ad (pv 7)) (B5 (Ac (DB Qq rfl B.n_list RB (Ac (Ad (pv 1)) (Af))) (Ac (BQ (Ac (Ad (pv 1)) (Af))) (Ac (Aw D8 (BQ (Ac (Bg (Ad (pv 1)) (Al) (fun _ _=>rfl)) (Af))) (Al)) (Ac (Aw AW (Ad (pv 1)) (BQ (Ac (BQ (Af)) (Af)))) (Ac (Bg (Ad (pv 1)) (Al) (fun _ _=>rfl)) (Ac (F8) (Ac (BQ (Af)) (Ac (Al) (Ac (B8) (Ac (Qr) (Af)))))))))))))) (AH (Ba (Bg (Ad (pv 7)) (AJ c__law_take hr AU (Ac (Ad (pv 0)) (Ac (AQ BW rfl B.n_len BY (Ac (Ad (pv 7)) (Af))) (Af)))) (fun _ _=>rfl)))))))))))
theorem Zs {Ay:List D→HD→Out D} (c__law_take:CaE P w K mg base "_law_take" 1 Ay) (f:Addr) (cdv:Value) (A:Around) (outer:List Env) (s:Shared) (H:Hp) (E:XK) (hr:Room 1 (A.deeper (envOfC "_law_lot" (defScope GK) s.heap.objs.size f cdv))):
 A4 (AS (AD P w K) P w K mg base ["_law_box_here","_law_size"] "_law_lot" (defScope GK) f cdv A outer s H E) E (defBody GK) (NG Ay):=
 AH (Ba (DB II rfl B.n_tuple HX (Ac (DH (Nc:=["_law_number","_law_box_here"]) (cs:=[none,some 0]) rfl (CSc.ok ⟨rfl,by decide +kernel,by kernel_rfl,by decide +kernel,rfl,by kernel_rfl⟩) (DX rfl B.n_range (Ac (Ad (pv 1)) (Af))) (DF rfl) (fun C D cells fp s₀ H₀ pins=>⟨AZ (i:=0) (show (["_law_number","_law_box_here"]:List Str).Nodup from by decide +kernel) rfl (by first|exact .inl rfl|exact .inr rfl) (by first|exact .inl rfl|exact .inr rfl),IS (B9 (EH hr.units) (AJ c__law_take hr IW (Ac (Ad (pv 1)) (Ac (Al) (Af)))) (Al) (BL _)),Ad (pv 0)⟩)) (Af))))
theorem Zt {D9:List D→HD→Out D} (c_is_between:CaE P w K mg base "is_between" 2 D9) (f:Addr) (cdv:Value) (A:Around) (outer:List Env) (s:Shared) (H:Hp) (E:XK) (hr:Room 2 (A.deeper (envOfC "is_light" (defScope GL) s.heap.objs.size f cdv))):
 A4 (AS (AD P w K) P w K mg base ["thing"] "is_light" (defScope GL) f cdv A outer s H E) E (defBody GL) (NH D9):=
 AH (Ba (AJ c_is_between hr AU (Ac (Ad (pv 0)) (Ac (Al) (Ac (Al) (Af))))))
theorem Zu {Ay:List D→HD→Out D} {EX:List D→HD→Out D} (c__law_take:CaE P w K mg base "_law_take" 1 Ay) (c__law_wide_box:CaE P w K mg base "_law_wide_box" 2 EX) (f:Addr) (cdv:Value) (A:Around) (outer:List Env) (s:Shared) (H:Hp) (E:XK) (hr:Room 2 (A.deeper (envOfC "_law_board" (defScope GM) s.heap.objs.size f cdv))):
 A4 (AS (AD P w K) P w K mg base ["_law_box_here","_law_high","_law_wide","_law_way","_law_digits","_law_dense","_law_rows","_law_number"] "_law_board" (defScope GM) f cdv A outer s H E) E (defBody GM) (NI Ay EX):=
 Ap (AX (i:=3) sc__law_board.nd rfl (by first|exact .inl rfl|exact .inr rfl) (AJ c__law_take hr AU (Ac (Ad (pv 0)) (Ac (Al) (Af))))) (Ap (AX (i:=4) sc__law_board.nd rfl (by first|exact .inl rfl|exact .inr rfl) (AJ c__law_wide_box hr AU (Ac (Ad (pv 0)) (Af)))) (Ap (AX (i:=5) sc__law_board.nd rfl (by first|exact .inl rfl|exact .inr rfl) (Bg (B5 (Ac (Al) (Ac (Al) (Ac (Al) (Ac (Al) (Ac (Al) (Af))))))) (Ad (pv 3)) (fun _ _=>rfl))) (Ap (AX (i:=6) sc__law_board.nd rfl (by first|exact .inl rfl|exact .inr rfl) (B5 (Af))) (Ap (DE DK rfl (DX rfl B.n_range (Ac (Ad (pv 1)) (Af))) (Fb (AZ (i:=7) (sc__law_board.nd) rfl (by first|exact .inl rfl|exact .inr rfl) (by first|exact .inl rfl|exact .inr rfl))) (AH (Gd (Ki (Ad (pv 6)) (DB II rfl B.n_tuple HX (Ac (DH (Nc:=["_law_place","_law_digits","_law_dense"]) (cs:=[none,some 4,some 5]) rfl (CSc.ok ⟨rfl,by decide +kernel,by kernel_rfl,by decide +kernel,rfl,by kernel_rfl⟩) (DX rfl B.n_range (Ac (Ad (pv 2)) (Af))) (DF rfl) (fun C D cells fp s₀ H₀ pins=>⟨AZ (i:=0) (show (["_law_place","_law_digits","_law_dense"]:List Str).Nodup from by decide +kernel) rfl (by first|exact .inl rfl|exact .inr rfl) (by first|exact .inl rfl|exact .inr rfl),DG,DB L6 rfl B.n_int K1 (Ac (E8 ON (AJ c__law_take hr IW (Ac (Ad (pv 1)) (Ac (Al) (Af)))) (Ad (pv 2)) (BL _)) (Af))⟩)) (Af))))))) (Ap (Cf (B9 (EH hr.units) (Ad (pv 3)) (Al) (BL _)) (AH (AX (i:=6) sc__law_board.nd rfl (by first|exact .inl rfl|exact .inr rfl) (Aw D8 (B5 (Ac (Bg (Ad (pv 6)) (Al) (fun _ _=>rfl)) (Af))) (Ad (pv 1))))) (Ce)) (AH (Ba (DB II rfl B.n_tuple HX (Ac (Ad (pv 6)) (Af))))))))))
theorem Zv {Cm:List D→HD→Out D} {EY:List D→HD→Out D} (c_is_line_tuple:CaE P w K mg base "is_line_tuple" 1 Cm) (c_is_light:CaE P w K mg base "is_light" 3 EY) (f:Addr) (cdv:Value) (A:Around) (outer:List Env) (s:Shared) (H:Hp) (E:XK) (hr:Room 3 (A.deeper (envOfC "is_row" (defScope GN) s.heap.objs.size f cdv))):
 A4 (AS (AD P w K) P w K mg base ["thing"] "is_row" (defScope GN) f cdv A outer s H E) E (defBody GN) (NJ Cm EY):=
 AH (Ba (Hj (AJ c_is_line_tuple hr AU (Ac (Ad (pv 0)) (Af))) (Hi (AQ (Mb rfl) rfl B.n_all Nq (Ac (DH (Nc:=["light"]) (cs:=[none]) rfl (CSc.ok ⟨rfl,by decide +kernel,by kernel_rfl,by decide +kernel,rfl,by kernel_rfl⟩) (DW (Ad (pv 0))) (DF rfl) (fun C D cells fp s₀ H₀ pins=>⟨AZ (i:=0) (show (["light"]:List Str).Nodup from by decide +kernel) rfl (by first|exact .inl rfl|exact .inr rfl) (by first|exact .inl rfl|exact .inr rfl),DG,AJ c_is_light hr IW (Ac (Ad (pv 0)) (Af))⟩)) (Af))))))
theorem Zw {B0:List D→HD→Out D} {Ec:List D→HD→Out D} {EW:List D→HD→Out D} {Ay:List D→HD→Out D} (c__law_board:CaE P w K mg base "_law_board" 3 B0) (c__law_lot:CaE P w K mg base "_law_lot" 2 Ec) (c__law_switched:CaE P w K mg base "_law_switched" 1 EW) (c__law_take:CaE P w K mg base "_law_take" 1 Ay) (f:Addr) (cdv:Value) (A:Around) (outer:List Env) (s:Shared) (H:Hp) (E:XK) (hr:Room 3 (A.deeper (envOfC "_law_pair" (defScope GO) s.heap.objs.size f cdv))):
 A4 (AS (AD P w K) P w K mg base ["_law_box_here","_law_high","_law_wide","_law_board_here","_law_rows","_law_columns","_law_other","_law_at","_law_place","_law_line"] "_law_pair" (defScope GO) f cdv A outer s H E) E (defBody GO) (NK B0 Ec EW Ay):=
 Ap (AX (i:=3) sc__law_pair.nd rfl (by first|exact .inl rfl|exact .inr rfl) (AJ c__law_board hr AU (Ac (Ad (pv 0)) (Ac (Ad (pv 1)) (Ac (Ad (pv 2)) (Af)))))) (Ap (Kc (i:=4) (j:=5) rfl sc__law_pair.nd rfl rfl (by decide) rfl rfl (Ac (AJ c__law_lot hr AU (Ac (Ad (pv 0)) (Ac (Ad (pv 1)) (Af)))) (Ac (AJ c__law_lot hr AU (Ac (Ad (pv 0)) (Ac (Ad (pv 2)) (Af)))) (Af))) (by first |rfl |with_unfolding_all rfl)) (Ap (AX (i:=6) sc__law_pair.nd rfl (by first|exact .inl rfl|exact .inr rfl) (AJ c__law_switched hr AU (Ac (Ad (pv 3)) (Ac (Ad (pv 4)) (Ac (Ad (pv 5)) (Af)))))) (Ap (Cf (B9 (EH hr.units) (AJ c__law_take hr AU (Ac (Ad (pv 0)) (Ac (Al) (Af)))) (Al) (BL _)) (Ap (Kc (i:=7) (j:=8) rfl sc__law_pair.nd rfl rfl (by decide) rfl rfl (Ac (AJ c__law_take hr AU (Ac (Ad (pv 0)) (Ac (Ad (pv 1)) (Af)))) (Ac (AJ c__law_take hr AU (Ac (Ad (pv 0)) (Ac (Ad (pv 2)) (Af)))) (Af))) (by first |rfl |with_unfolding_all rfl)) (Ap (AX (i:=9) sc__law_pair.nd rfl (by first|exact .inl rfl|exact .inr rfl) (Aw AW (Aw AW (Fp (Bg (Ad (pv 6)) (Ad (pv 7)) (fun _ _=>rfl)) (Fh) (Fi (Ad (pv 8)))) (BQ (Ac (Aw Vd (Al) (Bg (Bg (Ad (pv 6)) (Ad (pv 7)) (fun _ _=>rfl)) (Ad (pv 8)) (fun _ _=>rfl))) (Af)))) (Fp (Bg (Ad (pv 6)) (Ad (pv 7)) (fun _ _=>rfl)) (Fi (Aw AW (Ad (pv 8)) (Al))) (Fh)))) (AH (AX (i:=6) sc__law_pair.nd rfl (by first|exact .inl rfl|exact .inr rfl) (Aw AW (Aw AW (Fp (Ad (pv 6)) (Fh) (Fi (Ad (pv 7)))) (BQ (Ac (Ad (pv 9)) (Af)))) (Fp (Ad (pv 6)) (Fi (Aw AW (Ad (pv 7)) (Al))) (Fh))))))) (Ce)) (AH (Ba (BQ (Ac (Ad (pv 3)) (Ac (Ad (pv 6)) (Af)))))))))
theorem Zx {Cm:List D→HD→Out D} {EZ:List D→HD→Out D} (c_is_line_tuple:CaE P w K mg base "is_line_tuple" 1 Cm) (c_is_row:CaE P w K mg base "is_row" 4 EZ) (f:Addr) (cdv:Value) (A:Around) (outer:List Env) (s:Shared) (H:Hp) (E:XK) (hr:Room 4 (A.deeper (envOfC "is_board" (defScope GP) s.heap.objs.size f cdv))):
 A4 (AS (AD P w K) P w K mg base ["thing"] "is_board" (defScope GP) f cdv A outer s H E) E (defBody GP) (NL Cm EZ):=
 Ap (Cf (J0 (JZ (F9 (E9 (AJ c_is_line_tuple hr AU (Ac (Ad (pv 0)) (Af))))) (JY (F9 (E9 (AQ (Mb rfl) rfl B.n_all Nq (Ac (DH (Nc:=["row"]) (cs:=[none]) rfl (CSc.ok ⟨rfl,by decide +kernel,by kernel_rfl,by decide +kernel,rfl,by kernel_rfl⟩) (DW (Ad (pv 0))) (DF rfl) (fun C D cells fp s₀ H₀ pins=>⟨AZ (i:=0) (show (["row"]:List Str).Nodup from by decide +kernel) rfl (by first|exact .inl rfl|exact .inr rfl) (by first|exact .inl rfl|exact .inr rfl),DG,AJ c_is_row hr IW (Ac (Ad (pv 0)) (Af))⟩)) (Af)))))))) (AH (Ba (CV))) (Ce)) (AH (Ba (AQ (Mb rfl) rfl B.n_all Nq (Ac (DH (Nc:=["row","thing"]) (cs:=[none,some 0]) rfl (CSc.ok ⟨rfl,by decide +kernel,by kernel_rfl,by decide +kernel,rfl,by kernel_rfl⟩) (DW (Ad (pv 0))) (DF rfl) (fun C D cells fp s₀ H₀ pins=>⟨AZ (i:=0) (show (["row","thing"]:List Str).Nodup from by decide +kernel) rfl (by first|exact .inl rfl|exact .inr rfl) (by first|exact .inl rfl|exact .inr rfl),DG,E8 (EH hr.units) (AQ BW rfl B.n_len BY (Ac (Ad (pv 0)) (Af))) (AQ BW rfl B.n_len BY (Ac (Bg (Ad (pv 1)) (Al) (fun _ _=>rfl)) (Af))) (BL _)⟩)) (Af)))))
theorem Zy {Ee:List D→HD→Out D} (c_is_board:CaE P w K mg base "is_board" 5 Ee) (f:Addr) (cdv:Value) (A:Around) (outer:List Env) (s:Shared) (H:Hp) (E:XK) (hr:Room 5 (A.deeper (envOfC "need_board" (defScope GQ) s.heap.objs.size f cdv))):
 A4 (AS (AD P w K) P w K mg base ["thing"] "need_board" (defScope GQ) f cdv A outer s H E) E (defBody GQ) (K4 Ee):=
 AH (Cf (F9 (E9 (AJ c_is_board hr AU (Ac (Ad (pv 0)) (Af))))) (AH (Ql et (by decide +kernel) (by decide +kernel) rfl rfl PD (Ac (B8) (Af)))) (Ce))
theorem Zz {BS:List D→HD→Out D} (c_need_board:CaE P w K mg base "need_board" 6 BS) (f:Addr) (cdv:Value) (A:Around) (outer:List Env) (s:Shared) (H:Hp) (E:XK) (hr:Room 6 (A.deeper (envOfC "same_size" (defScope GR) s.heap.objs.size f cdv))):
 A4 (AS (AD P w K) P w K mg base ["one","other"] "same_size" (defScope GR) f cdv A outer s H E) E (defBody GR) (K5 BS):=
 Ap (Gd (AJ c_need_board hr AU (Ac (Ad (pv 0)) (Af)))) (Ap (Gd (AJ c_need_board hr AU (Ac (Ad (pv 1)) (Af)))) (AH (Ba (Hj (E8 (EH hr.units) (AQ BW rfl B.n_len BY (Ac (Ad (pv 0)) (Af))) (AQ BW rfl B.n_len BY (Ac (Ad (pv 1)) (Af))) (BL _)) (Hi (E8 (EH hr.units) (AQ BW rfl B.n_len BY (Ac (Bg (Ad (pv 0)) (Al) (fun _ _=>rfl)) (Af))) (AQ BW rfl B.n_len BY (Ac (Bg (Ad (pv 1)) (Al) (fun _ _=>rfl)) (Af))) (BL _)))))))
theorem ZA {BS:List D→HD→Out D} {BZ:List D→HD→Out D} {BU:List D→HD→Out D} (c_need_board:CaE P w K mg base "need_board" 6 BS) (c_all_fours:CaE P w K mg base "all_fours" 1 BZ) (c_is_odd_four:CaE P w K mg base "is_odd_four" 1 BU) (f:Addr) (cdv:Value) (A:Around) (outer:List Env) (s:Shared) (H:Hp) (E:XK) (hr:Room 6 (A.deeper (envOfC "odd_fours" (defScope GS) s.heap.objs.size f cdv))):
 A4 (AS (AD P w K) P w K mg base ["board"] "odd_fours" (defScope GS) f cdv A outer s H E) E (defBody GS) (K6 BS BZ BU):=
 Ap (Gd (AJ c_need_board hr AU (Ac (Ad (pv 0)) (Af)))) (AH (Ba (DH (Nc:=["four","board"]) (cs:=[none,some 0]) rfl (CSc.ok ⟨rfl,by decide +kernel,by kernel_rfl,by decide +kernel,rfl,by kernel_rfl⟩) (DW (AJ c_all_fours hr AU (Ac (Ad (pv 0)) (Af)))) (DF rfl) (fun C D cells fp s₀ H₀ pins=>⟨AZ (i:=0) (show (["four","board"]:List Str).Nodup from by decide +kernel) rfl (by first|exact .inl rfl|exact .inr rfl) (by first|exact .inl rfl|exact .inr rfl),IS (E9 (AJ c_is_odd_four hr IW (Ac (Ad (pv 1)) (Ac (Ad (pv 0)) (Af))))),Ad (pv 0)⟩))))
theorem ZC {Dr:List D→HD→Out D} {BZ:List D→HD→Out D} {BU:List D→HD→Out D} (c_same_size:CaE P w K mg base "same_size" 7 Dr) (c_all_fours:CaE P w K mg base "all_fours" 1 BZ) (c_is_odd_four:CaE P w K mg base "is_odd_four" 1 BU) (f:Addr) (cdv:Value) (A:Around) (outer:List Env) (s:Shared) (H:Hp) (E:XK) (hr:Room 7 (A.deeper (envOfC "first_unlike" (defScope GT) s.heap.objs.size f cdv))):
 A4 (AS (AD P w K) P w K mg base ["one","other","four"] "first_unlike" (defScope GT) f cdv A outer s H E) E (defBody GT) (Jj Dr BZ BU):=
 Ap (Cf (F9 (E9 (AJ c_same_size hr AU (Ac (Ad (pv 0)) (Ac (Ad (pv 1)) (Af)))))) (AH (Ql et (by decide +kernel) (by decide +kernel) rfl rfl PD (Ac (B8) (Af)))) (Ce)) (Ap (DE DK rfl (DW (AJ c_all_fours hr AU (Ac (Ad (pv 0)) (Af)))) (Fb (AZ (i:=2) (sc_first_unlike.nd) rfl (by first|exact .inl rfl|exact .inr rfl) (by first|exact .inl rfl|exact .inr rfl))) (AH (Cf (B9 (EI hr.units) (AJ c_is_odd_four hr AU (Ac (Ad (pv 0)) (Ac (Ad (pv 2)) (Af)))) (AJ c_is_odd_four hr AU (Ac (Ad (pv 1)) (Ac (Ad (pv 2)) (Af)))) (BL _)) (AH (Ba (Ad (pv 2)))) (Ce)))) (AH (Ba (F8))))
theorem ZD {Ca:List D→HD→Out D} {Bq:List D→HD→Out D} (c__law_fours:CaE P w K mg base "_law_fours" 1 Ca) (c_first_unlike:CaE P w K mg base "first_unlike" 8 Bq) (f:Addr) (cdv:Value) (A:Around) (outer:List Env) (s:Shared) (H:Hp) (E:XK) (hr:Room 8 (A.deeper (envOfC "_law_first_right" (defScope GU) s.heap.objs.size f cdv))):
 A4 (AS (AD P w K) P w K mg base ["_law_board_here","_law_other","_law_mine","_law_theirs","_law_known","_law_own","_law_apart","_law_due"] "_law_first_right" (defScope GU) f cdv A outer s H E) E (defBody GU) (NM Ca Bq):=
 Ap (AX (i:=3) sc__law_first_right.nd rfl (by first|exact .inl rfl|exact .inr rfl) (AJ c__law_fours hr AU (Ac (Ad (pv 1)) (Af)))) (Ap (AX (i:=4) sc__law_first_right.nd rfl (by first|exact .inl rfl|exact .inr rfl) (DB (Rw rfl hr.units) rfl B.n_dict RA (Ac (DH (Nc:=["_law_four"]) (cs:=[none]) rfl (CSc.ok ⟨rfl,by decide +kernel,by kernel_rfl,by decide +kernel,rfl,by kernel_rfl⟩) (DW (Ad (pv 3))) (DF rfl) (fun C D cells fp s₀ H₀ pins=>⟨AZ (i:=0) (show (["_law_four"]:List Str).Nodup from by decide +kernel) rfl (by first|exact .inl rfl|exact .inr rfl) (by first|exact .inl rfl|exact .inr rfl),DG,BQ (Ac (Ad (pv 0)) (Ac (CV) (Af)))⟩)) (Af)))) (Ap (AX (i:=5) sc__law_first_right.nd rfl (by first|exact .inl rfl|exact .inr rfl) (DB (Rw rfl hr.units) rfl B.n_dict RA (Ac (DH (Nc:=["_law_four"]) (cs:=[none]) rfl (CSc.ok ⟨rfl,by decide +kernel,by kernel_rfl,by decide +kernel,rfl,by kernel_rfl⟩) (DW (Ad (pv 2))) (DF rfl) (fun C D cells fp s₀ H₀ pins=>⟨AZ (i:=0) (show (["_law_four"]:List Str).Nodup from by decide +kernel) rfl (by first|exact .inl rfl|exact .inr rfl) (by first|exact .inl rfl|exact .inr rfl),DG,BQ (Ac (Ad (pv 0)) (Ac (CV) (Af)))⟩)) (Af)))) (Ap (AX (i:=6) sc__law_first_right.nd rfl (by first|exact .inl rfl|exact .inr rfl) (Aw AW (DH (Nc:=["_law_four","_law_known"]) (cs:=[none,some 4]) rfl (CSc.ok ⟨rfl,by decide +kernel,by kernel_rfl,by decide +kernel,rfl,by kernel_rfl⟩) (DW (Ad (pv 2))) (DF rfl) (fun C D cells fp s₀ H₀ pins=>⟨AZ (i:=0) (show (["_law_four","_law_known"]:List Str).Nodup from by decide +kernel) rfl (by first|exact .inl rfl|exact .inr rfl) (by first|exact .inl rfl|exact .inr rfl),IS (B9 (Rx hr.units) (Ad (pv 0)) (Ad (pv 1)) (by with_unfolding_all rfl)),Ad (pv 0)⟩)) (DH (Nc:=["_law_four","_law_own"]) (cs:=[none,some 5]) rfl (CSc.ok ⟨rfl,by decide +kernel,by kernel_rfl,by decide +kernel,rfl,by kernel_rfl⟩) (DW (Ad (pv 3))) (DF rfl) (fun C D cells fp s₀ H₀ pins=>⟨AZ (i:=0) (show (["_law_four","_law_own"]:List Str).Nodup from by decide +kernel) rfl (by first|exact .inl rfl|exact .inr rfl) (by first|exact .inl rfl|exact .inr rfl),IS (B9 (Rx hr.units) (Ad (pv 0)) (Ad (pv 1)) (by with_unfolding_all rfl)),Ad (pv 0)⟩)))) (Ap (AX (i:=7) sc__law_first_right.nd rfl (by first|exact .inl rfl|exact .inr rfl) (Va (B9 (EI hr.units) (Ad (pv 6)) (B5 (Af)) (BL _)) (AQ (YY rfl hr.units) rfl B.n_min RC (Ac (Ad (pv 6)) (Af))) (F8))) (AH (Ba (Hj (E8 (EH hr.units) (AQ (HL hr.units hr.gd) rfl B.n_repr HW (Ac (AJ c_first_unlike hr AU (Ac (Ad (pv 0)) (Ac (Ad (pv 1)) (Af)))) (Af))) (AQ (HL hr.units hr.gd) rfl B.n_repr HW (Ac (Ad (pv 7)) (Af))) (BL _)) (Hi (E8 (EH hr.units) (AQ (HL hr.units hr.gd) rfl B.n_repr HW (Ac (AJ c_first_unlike hr AU (Ac (Ad (pv 1)) (Ac (Ad (pv 0)) (Af)))) (Af))) (AQ (HL hr.units hr.gd) rfl B.n_repr HW (Ac (Ad (pv 7)) (Af))) (BL _))))))))))
theorem ZE {Ea:List D→HD→Out D} {Ay:List D→HD→Out D} {Ed:List D→HD→Out D} {Ca:List D→HD→Out D} {Dh:List D→HD→Out D} {Ds:List D→HD→Out D} {Bq:List D→HD→Out D} {B0:List D→HD→Out D} {Eb:List D→HD→Out D} {B7:List D→HD→Out D} (c__law_box:CaE P w K mg base "_law_box" 2 Ea) (c__law_take:CaE P w K mg base "_law_take" 1 Ay) (c__law_pair:CaE P w K mg base "_law_pair" 4 Ed) (c__law_fours:CaE P w K mg base "_law_fours" 1 Ca) (c_odd_fours:CaE P w K mg base "odd_fours" 7 Dh) (c__law_first_right:CaE P w K mg base "_law_first_right" 9 Ds) (c_first_unlike:CaE P w K mg base "first_unlike" 8 Bq) (c__law_board:CaE P w K mg base "_law_board" 3 B0) (c__law_no_board:CaE P w K mg base "_law_no_board" 2 Eb) (c__law_kind:CaM P w K mg base "_law_kind" 1 B7) {cT T fsd:Addr} {fdd:FuncData} (htp:tabP K=some (cT,T)) (hcd:PySem.W.codeHdIn K cT T=true) (hbm:HK mg base) (Sd:SaidD K mg Ji fsd fdd) (f:Addr) (A:Around) (outer:List Env) (s:Shared) (H:Hp) (E:XK) (hr:Room 10 (A.deeper (envOfC "law" (defScope s_law) s.heap.objs.size f (.ref cT)))):
 A4 (AS (AD P w K) P w K mg base ["_law_script","_law_k","_law_box_here","_law_high","_law_wide","_law_board_here","_law_other","_law_mine","_law_turn","_law_found","_law_far","_law_none","_law_one","_law_two"] "law" (defScope s_law) f (.ref cT) A outer s H E) E (defBody s_law) (K7 Ea Ay Ed Ca Dh Ds Bq B0 Eb B7):=
 have LX:LamX (AS (AD P w K) P w K mg base ["_law_script","_law_k","_law_box_here","_law_high","_law_wide","_law_board_here","_law_other","_law_mine","_law_turn","_law_found","_law_far","_law_none","_law_one","_law_two"] "law" (defScope s_law) f (.ref cT) A outer s H E) cT T:=⟨rfl,htp,hcd,(show ("law":Str)++".<locals>."=("law.<locals>.":Str) by decide +kernel),hbm⟩
 Ap (DE DK rfl (DX rfl B.n_range (Ac (AQ (Vr rfl) rfl B.n_max Y2 (Ac (Al) (Ac (AQ (Vs rfl) rfl B.n_min RC (Ac (AQ BW rfl B.n_len BY (Ac (Ad (pv 0)) (Af))) (Ac (Al) (Af)))) (Af)))) (Af))) (Fb (AZ (i:=1) (sc_law.nd) rfl (by first|exact .inl rfl|exact .inr rfl) (by first|exact .inl rfl|exact .inr rfl))) (Ap (AX (i:=2) sc_law.nd rfl (by first|exact .inl rfl|exact .inr rfl) (AJ c__law_box hr AU (Ac (Ad (pv 0)) (Ac (Ad (pv 1)) (Af))))) (Ap (Kc (i:=3) (j:=4) rfl sc_law.nd rfl rfl (by decide) rfl rfl (Ac (Aw AW (Al) (AJ c__law_take hr AU (Ac (Ad (pv 2)) (Ac (Al) (Af))))) (Ac (Aw AW (Al) (AJ c__law_take hr AU (Ac (Ad (pv 2)) (Ac (Al) (Af))))) (Af))) (by first |rfl |with_unfolding_all rfl)) (Ap (Kd (AJ c__law_pair hr AU (Ac (Ad (pv 2)) (Ac (Ad (pv 3)) (Ac (Ad (pv 4)) (Af))))) (IK (Hw rfl (AZ (i:=5) (sc_law.nd) rfl (by first|exact .inl rfl|exact .inr rfl) (by first|exact .inl rfl|exact .inr rfl)) (AZ (i:=6) (sc_law.nd) rfl (by first|exact .inl rfl|exact .inr rfl) (by first|exact .inl rfl|exact .inr rfl))))) (Ap (AX (i:=7) sc_law.nd rfl (by first|exact .inl rfl|exact .inr rfl) (AJ c__law_fours hr AU (Ac (Ad (pv 5)) (Af)))) (Ap (DE DK rfl (DX rfl B.n_range (Ac (Al) (Af))) (Fb (AZ (i:=8) (sc_law.nd) rfl (by first|exact .inl rfl|exact .inr rfl) (by first|exact .inl rfl|exact .inr rfl))) (Ap (AX (i:=9) sc_law.nd rfl (by first|exact .inl rfl|exact .inr rfl) (AJ c_odd_fours hr AU (Ac (Ad (pv 5)) (Af)))) (Ap (Cf (B9 (EI hr.units) (AQ (HL hr.units hr.gd) rfl B.n_repr HW (Ac (Ad (pv 9)) (Af))) (AQ (HL hr.units hr.gd) rfl B.n_repr HW (Ac (Ad (pv 7)) (Af))) (BL _)) (AH (Ba (CV))) (Ce)) (AH (Gd (Ki (Ad (pv 9)) (F8))))))) (Ap (Cf (J0 (JZ (F9 (E9 (AJ c__law_first_right hr AU (Ac (Ad (pv 5)) (Ac (Ad (pv 6)) (Ac (Ad (pv 7)) (Af))))))) (JY (B9 Vi (AJ c_first_unlike hr AU (Ac (Ad (pv 6)) (Ac (Ad (pv 6)) (Af)))) (F8) (BL _))))) (AH (Ba (CV))) (Ce)) (Ap (Cf (F9 (E9 (AJ c__law_first_right hr AU (Ac (Ad (pv 5)) (Ac (AJ c__law_board hr AU (Ac (Ad (pv 2)) (Ac (Ad (pv 3)) (Ac (Ad (pv 4)) (Af))))) (Ac (Ad (pv 7)) (Af))))))) (AH (Ba (CV))) (Ce)) (Ap (AX (i:=10) sc_law.nd rfl (by first|exact .inl rfl|exact .inr rfl) (AJ c__law_board hr AU (Ac (Ad (pv 2)) (Ac (Aw AW (Al) (AJ c__law_take hr AU (Ac (Ad (pv 2)) (Ac (Al) (Af))))) (Ac (Aw AW (Al) (AJ c__law_take hr AU (Ac (Ad (pv 2)) (Ac (Al) (Af))))) (Af)))))) (Ap (Cf (J0 (JZ (B9 (EI hr.units) (AQ BW rfl B.n_len BY (Ac (Ad (pv 10)) (Af))) (Ad (pv 3)) (BL _)) (JY (B9 (EI hr.units) (AQ BW rfl B.n_len BY (Ac (Bg (Ad (pv 10)) (Al) (fun _ _=>rfl)) (Af))) (Ad (pv 4)) (BL _))))) (AH (Cf (B9 (EI hr.units) (MR (Nc:=["_law_board_here","_law_far"]) (cs:=[5,10]) LX (fun _=>rfl) hr HA et Sd Nr (CaM.mono (k:=8) c__law_kind (by decide)) ⟨⟨rfl,rfl,rfl,by kernel_rfl⟩,by decide +kernel,by kernel_rfl,rfl,by kernel_rfl⟩ (fun a cd cl A outer s H E' hr=>AJ c_first_unlike hr ML (Ac (Ad (pv 0)) (Ac (Ad (pv 1)) (Af)))) rfl) (B8) (BL _)) (AH (Ba (CV))) (Ce))) (Ce)) (Ap (AX (i:=11) sc_law.nd rfl (by first|exact .inl rfl|exact .inr rfl) (AJ c__law_no_board hr AU (Ac (Ad (pv 2)) (Ac (Ad (pv 5)) (Af))))) (Ap (Cf (B9 (EI hr.units) (MR (Nc:=["_law_none"]) (cs:=[11]) LX (fun _=>rfl) hr HA et Sd Nr (CaM.mono (k:=8) c__law_kind (by decide)) ⟨⟨rfl,rfl,rfl,by kernel_rfl⟩,by decide +kernel,by kernel_rfl,rfl,by kernel_rfl⟩ (fun a cd cl A outer s H E' hr=>AJ c_odd_fours hr ML (Ac (Ad (pv 0)) (Af))) rfl) (B8) (BL _)) (AH (Ba (CV))) (Ce)) (AH (DE DK rfl (DW (B5 (Ac (BQ (Ac (Ad (pv 11)) (Ac (Ad (pv 10)) (Af)))) (Ac (BQ (Ac (Ad (pv 10)) (Ac (Ad (pv 11)) (Af)))) (Ac (BQ (Ac (Ad (pv 11)) (Ac (Ad (pv 11)) (Af)))) (Ac (BQ (Ac (Ad (pv 5)) (Ac (Ad (pv 11)) (Af)))) (Af))))))) (IK (Hw rfl (AZ (i:=12) (sc_law.nd) rfl (by first|exact .inl rfl|exact .inr rfl) (by first|exact .inl rfl|exact .inr rfl)) (AZ (i:=13) (sc_law.nd) rfl (by first|exact .inl rfl|exact .inr rfl) (by first|exact .inl rfl|exact .inr rfl)))) (AH (Cf (B9 (EI hr.units) (MR (Nc:=["_law_one","_law_two"]) (cs:=[12,13]) LX (fun _=>rfl) hr HA et Sd Nr (CaM.mono (k:=8) c__law_kind (by decide)) ⟨⟨rfl,rfl,rfl,by kernel_rfl⟩,by decide +kernel,by kernel_rfl,rfl,by kernel_rfl⟩ (fun a cd cl A outer s H E' hr=>AJ c_first_unlike hr ML (Ac (Ad (pv 0)) (Ac (Ad (pv 1)) (Af)))) rfl) (B8) (BL _)) (AH (Ba (CV))) (Ce))))))))))))))))) (AH (Ba (CV)))
noncomputable def Dq:List D→HD→Out D:=fun ds h=>if ds.length=1 then As 1 (Nt) ds h else .stuck
theorem ZF {f:Addr} {fd:FuncData} (D:Dn K mg "is_whole" ["thing"] Gw f fd):CaE P w K mg base "is_whole" 1 Dq:=
 ⟨f,fd,_,BN D.fn Y3 (fun ds h e=>if_neg e) (fun ds h e=>if_pos e) (fun cdv A outer s H E hr=>Ze B et f cdv A outer s H E hr),D.bd,D.mg,D.fn.kp⟩
noncomputable def Cm:List D→HD→Out D:=fun ds h=>if ds.length=1 then As 1 (Nu) ds h else .stuck
theorem ZG {t_MOST_LINES:Tok} (m_MOST_LINES:mg "MOST_LINES"=some (.int 8 t_MOST_LINES)) {f:Addr} {fd:FuncData} (D:Dn K mg "is_line_tuple" ["thing"] Gx f fd):CaE P w K mg base "is_line_tuple" 1 Cm:=
 ⟨f,fd,_,BN D.fn Y4 (fun ds h e=>if_neg e) (fun ds h e=>if_pos e) (fun cdv A outer s H E hr=>Zf B et m_MOST_LINES f cdv A outer s H E hr),D.bd,D.mg,D.fn.kp⟩
noncomputable def BZ:List D→HD→Out D:=fun ds h=>if ds.length=1 then As 3 (Nv) ds h else .stuck
theorem ZH {f:Addr} {fd:FuncData} (D:Dn K mg "all_fours" ["board"] Gy f fd):CaE P w K mg base "all_fours" 1 BZ:=
 ⟨f,fd,_,BN D.fn sc_all_fours (fun ds h e=>if_neg e) (fun ds h e=>if_pos e) (fun cdv A outer s H E hr=>Zg B et f cdv A outer s H E hr),D.bd,D.mg,D.fn.kp⟩
noncomputable def BU:List D→HD→Out D:=fun ds h=>if ds.length=2 then As 6 (Nw) ds h else .stuck
theorem ZI {f:Addr} {fd:FuncData} (D:Dn K mg "is_odd_four" ["board","four"] Gz f fd):CaE P w K mg base "is_odd_four" 1 BU:=
 ⟨f,fd,_,BN D.fn sc_is_odd_four (fun ds h e=>if_neg e) (fun ds h e=>if_pos e) (fun cdv A outer s H E hr=>Zh B et f cdv A outer s H E hr),D.bd,D.mg,D.fn.kp⟩
noncomputable def EU:List D→HD→Out D:=fun ds h=>if ds.length=2 then As 2 (K2) ds h else .stuck
theorem ZJ {f:Addr} {fd:FuncData} (D:Dn K mg "_law_cell" ["_law_script","_law_k"] GA f fd):CaE P w K mg base "_law_cell" 1 EU:=
 ⟨f,fd,_,BN D.fn Y5 (fun ds h e=>if_neg e) (fun ds h e=>if_pos e) (fun cdv A outer s H E hr=>Zi B et f cdv A outer s H E hr),D.bd,D.mg,D.fn.kp⟩
noncomputable def EV:List D→HD→Out D:=fun ds h=>if ds.length=2 then As 3 (Nx) ds h else .stuck
theorem ZK {f:Addr} {fd:FuncData} (D:Dn K mg "_law_mix" ["_law_cell_here","_law_k"] GB f fd):CaE P w K mg base "_law_mix" 1 EV:=
 ⟨f,fd,_,BN D.fn sc__law_mix (fun ds h e=>if_neg e) (fun ds h e=>if_pos e) (fun cdv A outer s H E hr=>Zj B et f cdv A outer s H E hr),D.bd,D.mg,D.fn.kp⟩
noncomputable def Ay:List D→HD→Out D:=fun ds h=>if ds.length=2 then As 4 (Ny) ds h else .stuck
theorem ZL {f:Addr} {fd:FuncData} (D:Dn K mg "_law_take" ["_law_box_here","_law_many"] GC f fd):CaE P w K mg base "_law_take" 1 Ay:=
 ⟨f,fd,_,BN D.fn sc__law_take (fun ds h e=>if_neg e) (fun ds h e=>if_pos e) (fun cdv A outer s H E hr=>Zk B et f cdv A outer s H E hr),D.bd,D.mg,D.fn.kp⟩
noncomputable def B7:List D→HD→Out D:=fun ds h=>if ds.length=1 then As 3 (Nz) ds h else .stuck
theorem ZM {f:Addr} {fd:FuncData} (D:Dn K mg "_law_kind" ["_law_e"] GD f fd):CaM P w K mg base "_law_kind" 1 B7:=
 ⟨f,fd,_,W4 D.fn sc__law_kind (fun ds h e=>if_neg e) (fun ds h e=>if_pos e) (fun cdv A outer s H hr=>Zl B et f cdv A outer s H hr),D.bd,D.mg,D.fn.kp,fun ds h e=>if_neg e⟩
noncomputable def EW:List D→HD→Out D:=fun ds h=>if ds.length=3 then As 9 (NA) ds h else .stuck
theorem ZN {f:Addr} {fd:FuncData} (D:Dn K mg "_law_switched" ["_law_board_here","_law_rows","_law_columns"] GE f fd):CaE P w K mg base "_law_switched" 1 EW:=
 ⟨f,fd,_,BN D.fn sc__law_switched (fun ds h e=>if_neg e) (fun ds h e=>if_pos e) (fun cdv A outer s H E hr=>Zm B et f cdv A outer s H E hr),D.bd,D.mg,D.fn.kp⟩
noncomputable def Ca:List D→HD→Out D:=fun ds h=>if ds.length=1 then As 6 (NB) ds h else .stuck
theorem ZO {f:Addr} {fd:FuncData} (D:Dn K mg "_law_fours" ["_law_board_here"] GF f fd):CaE P w K mg base "_law_fours" 1 Ca:=
 ⟨f,fd,_,BN D.fn sc__law_fours (fun ds h e=>if_neg e) (fun ds h e=>if_pos e) (fun cdv A outer s H E hr=>Zn B et f cdv A outer s H E hr),D.bd,D.mg,D.fn.kp⟩
noncomputable def D9:List D→HD→Out D:=fun ds h=>if ds.length=3 then As 3 (K3 Dq) ds h else .stuck
theorem ZP (c_is_whole:CaE P w K mg base "is_whole" 1 Dq) {f:Addr} {fd:FuncData} (D:Dn K mg "is_between" ["thing","least","most"] GG f fd):CaE P w K mg base "is_between" 2 D9:=
 ⟨f,fd,_,BN D.fn Y6 (fun ds h e=>if_neg e) (fun ds h e=>if_pos e) (fun cdv A outer s H E hr=>Zo B et c_is_whole f cdv A outer s H E hr),D.bd,D.mg,D.fn.kp⟩
noncomputable def Ea:List D→HD→Out D:=fun ds h=>if ds.length=2 then As 5 (NC EU EV) ds h else .stuck
theorem ZQ (c__law_cell:CaE P w K mg base "_law_cell" 1 EU) (c__law_mix:CaE P w K mg base "_law_mix" 1 EV) {f:Addr} {fd:FuncData} (D:Dn K mg "_law_box" ["_law_script","_law_k"] GH f fd):CaE P w K mg base "_law_box" 2 Ea:=
 ⟨f,fd,_,BN D.fn sc__law_box (fun ds h e=>if_neg e) (fun ds h e=>if_pos e) (fun cdv A outer s H E hr=>Zp B et c__law_cell c__law_mix f cdv A outer s H E hr),D.bd,D.mg,D.fn.kp⟩
noncomputable def EX:List D→HD→Out D:=fun ds h=>if ds.length=1 then As 4 (ND Ay) ds h else .stuck
theorem ZR (c__law_take:CaE P w K mg base "_law_take" 1 Ay) {f:Addr} {fd:FuncData} (D:Dn K mg "_law_wide_box" ["_law_box_here"] GI f fd):CaE P w K mg base "_law_wide_box" 2 EX:=
 ⟨f,fd,_,BN D.fn sc__law_wide_box (fun ds h e=>if_neg e) (fun ds h e=>if_pos e) (fun cdv A outer s H E hr=>Zq B et c__law_take f cdv A outer s H E hr),D.bd,D.mg,D.fn.kp⟩
noncomputable def Eb:List D→HD→Out D:=fun ds h=>if ds.length=2 then As 8 (NF Ay) ds h else .stuck
theorem ZS (c__law_take:CaE P w K mg base "_law_take" 1 Ay) {f:Addr} {fd:FuncData} (D:Dn K mg "_law_no_board" ["_law_box_here","_law_board_here"] GJ f fd):CaE P w K mg base "_law_no_board" 2 Eb:=
 ⟨f,fd,_,BN D.fn sc__law_no_board (fun ds h e=>if_neg e) (fun ds h e=>if_pos e) (fun cdv A outer s H E hr=>Zr B et c__law_take f cdv A outer s H E hr),D.bd,D.mg,D.fn.kp⟩
noncomputable def Ec:List D→HD→Out D:=fun ds h=>if ds.length=2 then As 2 (NG Ay) ds h else .stuck
theorem ZT (c__law_take:CaE P w K mg base "_law_take" 1 Ay) {f:Addr} {fd:FuncData} (D:Dn K mg "_law_lot" ["_law_box_here","_law_size"] GK f fd):CaE P w K mg base "_law_lot" 2 Ec:=
 ⟨f,fd,_,BN D.fn Y7 (fun ds h e=>if_neg e) (fun ds h e=>if_pos e) (fun cdv A outer s H E hr=>Zs B et c__law_take f cdv A outer s H E hr),D.bd,D.mg,D.fn.kp⟩
noncomputable def EY:List D→HD→Out D:=fun ds h=>if ds.length=1 then As 1 (NH D9) ds h else .stuck
theorem ZU (c_is_between:CaE P w K mg base "is_between" 2 D9) {f:Addr} {fd:FuncData} (D:Dn K mg "is_light" ["thing"] GL f fd):CaE P w K mg base "is_light" 3 EY:=
 ⟨f,fd,_,BN D.fn Y8 (fun ds h e=>if_neg e) (fun ds h e=>if_pos e) (fun cdv A outer s H E hr=>Zt B et c_is_between f cdv A outer s H E hr),D.bd,D.mg,D.fn.kp⟩
noncomputable def B0:List D→HD→Out D:=fun ds h=>if ds.length=3 then As 8 (NI Ay EX) ds h else .stuck
theorem ZV (c__law_take:CaE P w K mg base "_law_take" 1 Ay) (c__law_wide_box:CaE P w K mg base "_law_wide_box" 2 EX) {f:Addr} {fd:FuncData} (D:Dn K mg "_law_board" ["_law_box_here","_law_high","_law_wide"] GM f fd):CaE P w K mg base "_law_board" 3 B0:=
 ⟨f,fd,_,BN D.fn sc__law_board (fun ds h e=>if_neg e) (fun ds h e=>if_pos e) (fun cdv A outer s H E hr=>Zu B et c__law_take c__law_wide_box f cdv A outer s H E hr),D.bd,D.mg,D.fn.kp⟩
noncomputable def EZ:List D→HD→Out D:=fun ds h=>if ds.length=1 then As 1 (NJ Cm EY) ds h else .stuck
theorem ZW (c_is_line_tuple:CaE P w K mg base "is_line_tuple" 1 Cm) (c_is_light:CaE P w K mg base "is_light" 3 EY) {f:Addr} {fd:FuncData} (D:Dn K mg "is_row" ["thing"] GN f fd):CaE P w K mg base "is_row" 4 EZ:=
 ⟨f,fd,_,BN D.fn Y9 (fun ds h e=>if_neg e) (fun ds h e=>if_pos e) (fun cdv A outer s H E hr=>Zv B et c_is_line_tuple c_is_light f cdv A outer s H E hr),D.bd,D.mg,D.fn.kp⟩
noncomputable def Ed:List D→HD→Out D:=fun ds h=>if ds.length=3 then As 10 (NK B0 Ec EW Ay) ds h else .stuck
theorem ZX (c__law_board:CaE P w K mg base "_law_board" 3 B0) (c__law_lot:CaE P w K mg base "_law_lot" 2 Ec) (c__law_switched:CaE P w K mg base "_law_switched" 1 EW) (c__law_take:CaE P w K mg base "_law_take" 1 Ay) {f:Addr} {fd:FuncData} (D:Dn K mg "_law_pair" ["_law_box_here","_law_high","_law_wide"] GO f fd):CaE P w K mg base "_law_pair" 4 Ed:=
 ⟨f,fd,_,BN D.fn sc__law_pair (fun ds h e=>if_neg e) (fun ds h e=>if_pos e) (fun cdv A outer s H E hr=>Zw B et c__law_board c__law_lot c__law_switched c__law_take f cdv A outer s H E hr),D.bd,D.mg,D.fn.kp⟩
noncomputable def Ee:List D→HD→Out D:=fun ds h=>if ds.length=1 then As 1 (NL Cm EZ) ds h else .stuck
theorem ZY (c_is_line_tuple:CaE P w K mg base "is_line_tuple" 1 Cm) (c_is_row:CaE P w K mg base "is_row" 4 EZ) {f:Addr} {fd:FuncData} (D:Dn K mg "is_board" ["thing"] GP f fd):CaE P w K mg base "is_board" 5 Ee:=
 ⟨f,fd,_,BN D.fn Za (fun ds h e=>if_neg e) (fun ds h e=>if_pos e) (fun cdv A outer s H E hr=>Zx B et c_is_line_tuple c_is_row f cdv A outer s H E hr),D.bd,D.mg,D.fn.kp⟩
noncomputable def BS:List D→HD→Out D:=fun ds h=>if ds.length=1 then As 1 (K4 Ee) ds h else .stuck
theorem ZZ (c_is_board:CaE P w K mg base "is_board" 5 Ee) {f:Addr} {fd:FuncData} (D:Dn K mg "need_board" ["thing"] GQ f fd):CaE P w K mg base "need_board" 6 BS:=
 ⟨f,fd,_,BN D.fn Zb (fun ds h e=>if_neg e) (fun ds h e=>if_pos e) (fun cdv A outer s H E hr=>Zy B et c_is_board f cdv A outer s H E hr),D.bd,D.mg,D.fn.kp⟩
noncomputable def Dr:List D→HD→Out D:=fun ds h=>if ds.length=2 then As 2 (K5 BS) ds h else .stuck
theorem Z0 (c_need_board:CaE P w K mg base "need_board" 6 BS) {f:Addr} {fd:FuncData} (D:Dn K mg "same_size" ["one","other"] GR f fd):CaE P w K mg base "same_size" 7 Dr:=
 ⟨f,fd,_,BN D.fn Zc (fun ds h e=>if_neg e) (fun ds h e=>if_pos e) (fun cdv A outer s H E hr=>Zz B et c_need_board f cdv A outer s H E hr),D.bd,D.mg,D.fn.kp⟩
noncomputable def Dh:List D→HD→Out D:=fun ds h=>if ds.length=1 then As 1 (K6 BS BZ BU) ds h else .stuck
theorem Z1 (c_need_board:CaE P w K mg base "need_board" 6 BS) (c_all_fours:CaE P w K mg base "all_fours" 1 BZ) (c_is_odd_four:CaE P w K mg base "is_odd_four" 1 BU) {f:Addr} {fd:FuncData} (D:Dn K mg "odd_fours" ["board"] GS f fd):CaE P w K mg base "odd_fours" 7 Dh:=
 ⟨f,fd,_,BN D.fn Zd (fun ds h e=>if_neg e) (fun ds h e=>if_pos e) (fun cdv A outer s H E hr=>ZA B et c_need_board c_all_fours c_is_odd_four f cdv A outer s H E hr),D.bd,D.mg,D.fn.kp⟩
noncomputable def Bq:List D→HD→Out D:=fun ds h=>if ds.length=2 then As 3 (Jj Dr BZ BU) ds h else .stuck
theorem Z2 (c_same_size:CaE P w K mg base "same_size" 7 Dr) (c_all_fours:CaE P w K mg base "all_fours" 1 BZ) (c_is_odd_four:CaE P w K mg base "is_odd_four" 1 BU) {f:Addr} {fd:FuncData} (D:Dn K mg "first_unlike" ["one","other"] GT f fd):CaE P w K mg base "first_unlike" 8 Bq:=
 ⟨f,fd,_,BN D.fn sc_first_unlike (fun ds h e=>if_neg e) (fun ds h e=>if_pos e) (fun cdv A outer s H E hr=>ZC B et c_same_size c_all_fours c_is_odd_four f cdv A outer s H E hr),D.bd,D.mg,D.fn.kp⟩
noncomputable def Ds:List D→HD→Out D:=fun ds h=>if ds.length=3 then As 8 (NM Ca Bq) ds h else .stuck
theorem Z3 (c__law_fours:CaE P w K mg base "_law_fours" 1 Ca) (c_first_unlike:CaE P w K mg base "first_unlike" 8 Bq) {f:Addr} {fd:FuncData} (D:Dn K mg "_law_first_right" ["_law_board_here","_law_other","_law_mine"] GU f fd):CaE P w K mg base "_law_first_right" 9 Ds:=
 ⟨f,fd,_,BN D.fn sc__law_first_right (fun ds h e=>if_neg e) (fun ds h e=>if_pos e) (fun cdv A outer s H E hr=>ZD B et c__law_fours c_first_unlike f cdv A outer s H E hr),D.bd,D.mg,D.fn.kp⟩
noncomputable def F_law:List D→HD→Out D:=fun ds h=>if ds.length=1 then As 14 (K7 Ea Ay Ed Ca Dh Ds Bq B0 Eb B7) ds h else .stuck
end
theorem _root_.LS.Sm.len {h h':HD} (s:Sm h h'):h.length≤h'.length:=by
 cases e:h.length with
 |zero=>exact Dv _
 |succ n=>
  have hn:n<h.length:=by omega
  have:=s n h[n] (A8 hn)
  have:=(qa4.mp this).1
  omega
theorem sz {n:Nat} (hn:n≤8):(List.range n).length≤sizeLine:=by
 rw [Ie];unfold sizeLine;omega
open PySem.Builtin.Int in
theorem Z4 {ns:List Int} {k:Nat} (hb:∀i∈ns,Builtin.Int.intBits i≤2^20) (hk:k≤1000):∃c:Int,Builtin.Int.intBits c≤2^20∧∀h,Pu (EU [.scr ns,.int (k:Nat)] h) h (.int c):=by
 by_cases hl:k<ns.length
 ·refine ⟨ns[k],hb _ (Ii hl),fun h=>?_⟩
  change Wp (As 2 K2 [.scr ns,.int (k:Nat)] h) _
  refine Eq.mpr (Bu) ?_
  have:(k:Int)<ns.length:=by omega
  simp [this]
  refine Au (VY (A8 hl)) ?_
  simp [Sm.refl]
 ·refine ⟨6151*(k:Int)+29,?_,fun h=>?_⟩
  ·rw [intBits_le_iff]
   have h1:(6151*(k:Int)+29).natAbs<2^30:=by omega
   exact AV h1 (Nat.pow_le_pow_right (by decide) (by omega))
  ·change Wp (As 2 K2 [.scr ns,.int (k:Nat)] h) _
   refine Eq.mpr (Bu) ?_
   have:¬(k:Int)<ns.length:=by omega
   simp [this]
   rw [Mp (by decide) (by decide)]
   simp [Sm.refl]
def RD (c:Int) (k:Nat):Int:=(((c+1)*40692+104729*(k:Int))*((c+1)*40692+104729*(k:Int))) % 2147483399+(k:Int)
theorem RE {h:HD}:Ho [.int 24] h=.ok ((List.range 24).map fun k=>D.int ((k:Nat):Int),[]) h:=EF (n:=24) (by decide)
theorem Z5 {c:Int} {k:Nat} (hc:Builtin.Int.intBits c≤2^20) (hk:k≤1000):∃r:Int,∀h,Pu (EV [.int c,.int (k:Nat)] h) h (.int r):=by
 refine ⟨RD c k*(RD c k+31) % 2147483563,fun h=>?_⟩
 change Wp (As 3 Nx [.int c,.int (k:Nat)] h) _
 refine Eq.mpr (Bu) ?_
 have bX:Builtin.Int.intBits ((c+1)*40692+104729*(k:Int))≤16777216:=by
  have hk':Builtin.Int.intBits ((k:Nat):Int)≤10:=PySem.intBits_le_iff.mpr (by omega)
  have:=PySem.intBits_add_le (PySem.intBits_mul_le (PySem.intBits_add_le hc (show Builtin.Int.intBits 1≤1 by decide)) (show Builtin.Int.intBits 40692≤16 by decide)) (PySem.intBits_mul_le (show Builtin.Int.intBits 104729≤17 by decide) hk')
  exact BK this (by decide)
 have h1:=Int.emod_nonneg (((c+1)*40692+104729*(k:Int))*((c+1)*40692+104729*(k:Int))) (show (2147483399:Int)≠0 by decide)
 have h2:=Int.emod_lt_of_pos (((c+1)*40692+104729*(k:Int))*((c+1)*40692+104729*(k:Int))) (show (0:Int)<2147483399 by decide)
 simp
 rw [Ks (by decide) (by decide)]
 simp
 rw [Mp (by decide) (by decide)]
 simp
 rw [V1 bX bX]
 simp
 rw [Gh (by decide)]
 simp
 rw [Mp (by omega) (by omega)]
 simp
 rw [Gh (by decide)]
 simp
 exact ⟨rfl,.refl _⟩
def BoxAt (h:HD) (b:Nat):Prop:=∃n:Int,h[b]?=some (.lst [.int n])
inductive RF (ns:List Int) (k:Nat) (c:Int) (h:HD) (xs:List Nat) (ρ:Ai) (h':HD):Prop where
 |mk (N:Int) (x:Option D) (f0:ρ=[some (.scr ns),some (.int (k:Nat)),some (.int c),some (.int N),x]) (f1:Sm h h') (f2:∀j∈xs,j<24):RF ns k c h xs ρ h'
theorem Z6 {ns:List Int} {k:Nat} {h:HD} {Q:D→HD→Prop} (hb:∀i∈ns,Builtin.Int.intBits i≤2^20) (hk:k≤1000) (q:∀l h',BoxAt h' l→h.length≤l→Sm h h'→Q (.loc l) h'):Wp (Ea [.scr ns,.int (k:Nat)] h) Q:=by
 change Wp (As 5 (NC EU EV) [.scr ns,.int (k:Nat)] h) _
 refine Eq.mpr (Bu) ?_
 obtain ⟨c,bc,pc⟩:=Z4 (k:=k) hb hk
 simp
 refine (pc h).wp fun h1 s1=>?_
 rw [Gh (by decide)]
 simp
 by_cases hz:c % 2=0
 ·simp [hz]
  rw [V2 (by decide) (by decide)]
  simp
  exact Bi (by simp) fun l h' s e el _=>q l h' ⟨_,e⟩ (by have:=s1.len;omega) (s1.trans s)
 ·simp [hz]
  refine DJ (src:=[]) (xs:=List.range 24) (fun i=>.int ((i:Nat):Int)) (RF ns k c h) ?_ (fun ys ρ h' _=>CY) ?_ ?_
  ·simp [RE]
   exact ⟨_,_,rfl,s1,fun j hj=>qbG.mp hj⟩
  ·rintro x xs ρ h' ⟨N,y,rfl,sh,hx⟩
   refine ⟨_,rfl,?_⟩
   obtain ⟨m,pm⟩:=Z5 (k:=x) bc (by have:=hx x AO;omega)
   simp
   rw [Ks (by decide) (by decide)]
   simp
   refine (pm h').wp fun h2 s2=>?_
   simp [DI]
   exact ⟨_,_,rfl,sh.trans s2,fun j hj=>hx j (A1 _ hj)⟩
  ·rintro ρ h' ⟨N,y,rfl,sh,_⟩
   simp
   exact Bi (by simp) fun l h' s e el _=>q l h' ⟨_,e⟩ (by have:=sh.len;omega) (sh.trans s)
def Smx (b:Nat) (h h':HD):Prop:=∀(l:Nat) (c:Cell),l≠b→h[l]?=some c→h'[l]?=some c
theorem Smx.refl (b:Nat) (h:HD):Smx b h h:=fun _ _ _ e=>e
theorem Smx.trans {b:Nat} {h h1 h2:HD} (a:Smx b h h1) (c:Smx b h1 h2):Smx b h h2:=fun l x n e=>c l x n (a l x n e)
theorem DP {b:Nat} {h h':HD} (s:Sm h h'):Smx b h h':=fun l c _ e=>s l c e
theorem Jk {b:Nat} {m:Int} {h:HD} {Q:D→HD→Prop} (hx:BoxAt h b) (h1:0<m) (h2:m<18446744073709551616) (q:∀d h',0≤d→d<m→BoxAt h' b→Smx b h h'→Q (.int d) h'):Wp (Ay [.loc b,.int m] h) Q:=by
 change Wp (As 4 Ny [.loc b,.int m] h) _
 refine Eq.mpr (Bu) ?_
 obtain ⟨N,e⟩:=hx
 simp
 rw [show (0:Int)=((0:Nat):Int) from rfl]
 refine Au (Gg e (k:=0) rfl) ?_
 simp
 refine Au (V3 h1 h2) ?_
 simp
 rw [show (0:Int)=((0:Nat):Int) from rfl]
 refine Au (VZ e (by simp)) ?_
 simp
 have hl:b<h.length:=(qa4.mp e).1
 refine q _ _ (Int.emod_nonneg _ (by omega)) (Int.emod_lt_of_pos _ h1) ⟨_,by rw [Cu hl]⟩ fun l c ne el=>?_
 rw [BV (Ne.symm ne)]
 exact el
theorem BoxAt.sm {b:Nat} {h h':HD} (x:BoxAt h b) (s:Sm h h'):BoxAt h' b:=let ⟨n,e⟩:=x;⟨n,s _ _ e⟩
theorem BoxAt.smx {a b:Nat} {h h':HD} (x:BoxAt h b) (s:Smx a h h') (ne:b≠a):BoxAt h' b:=let ⟨n,e⟩:=x;⟨n,s _ _ ne e⟩
theorem BoxAt.new {b:Nat} {h:HD} {c:Cell} (x:BoxAt h b):BoxAt (h++[c]) b:=x.sm (.app _ _)
def Plain (h:HD):D→Prop
 |.int _=>True
 |.bl _=>True
 |.non=>True
 |.str _=>True
 |.tup _=>True
 |.edic=>True
 |.loc l=>∃ds,h[l]?=some (.lst ds)
 |_=>False
theorem Plain.sm {h h':HD} {d:D} (p:Plain h d) (s:Sm h h'):Plain h' d:=by
 cases d with
 |loc l=>obtain ⟨ds,e⟩:=p;exact ⟨ds,s _ _ e⟩
 |_=>exact p
def A6:D→List D
 |.tup ds=>ds
 |_=>[]
def Plain2 (h:HD) (d:D):Prop:=Plain h d∧∀x∈A6 d,Plain h x
def Plain3 (h:HD) (d:D):Prop:=Plain h d∧∀x∈A6 d,Plain2 h x
theorem Plain2.sm {h h':HD} {d:D} (p:Plain2 h d) (s:Sm h h'):Plain2 h' d:=⟨p.1.sm s,fun x hx=>(p.2 x hx).sm s⟩
theorem Plain3.sm {h h':HD} {d:D} (p:Plain3 h d) (s:Sm h h'):Plain3 h' d:=⟨p.1.sm s,fun x hx=>(p.2 x hx).sm s⟩
def E1:D→Bool
 |.int i=>decide (0≤i)&&decide (i≤1)
 |_=>false
def B1:D→Bool
 |.tup ds=>decide (1≤ds.length)&&decide (ds.length≤8)
 |_=>false
def BO (d:D):Bool:=B1 d&&(A6 d).all E1
def Du (d:D):Nat:=(A6 d).length
def Cn (d:D):Bool:=B1 d&&(A6 d).all BO&&(A6 d).all fun x=>Du x==Du ((A6 d).getD 0 .non)
theorem p_is_between_int {i a b:Int} {h:HD}:Pu (D9 [.int i,.int a,.int b] h) h (.bl (decide (a≤i)&&decide (i≤b))):=by
 change Wp (As 3 (K3 Dq) [.int i,.int a,.int b] h) _
 refine Eq.mpr (Bu) ?_
 have e:Dq [.int i] h=.ok (.bl true) h:=rfl
 simp [e]
 by_cases h1:a≤i<;>simp [h1,AC,Sm.refl]
theorem Z7 {d:D} {a b:Int} {h:HD} (e:Dq [d] h=.ok (.bl false) h):Pu (D9 [d,.int a,.int b] h) h (.bl false):=by
 change Wp (As 3 (K3 Dq) [d,.int a,.int b] h) _
 refine Eq.mpr (Bu) ?_
 simp [e,Sm.refl]
def NO:D→Bool
 |.int _=>true
 |_=>false
theorem Z8 {d:D} {h:HD} (p:Plain h d):Dq [d] h=.ok (.bl (NO d)) h:=by
 cases d with
 |loc l=>
  obtain ⟨ds,e⟩:=p
  have i1:AR (.loc l) (.ty "int") h=.ok (.bl false) h:=Xx e
  have w:Wp (As 1 Nt [.loc l] h) fun d h'=>d=.bl false∧h'=h:=by
   refine Eq.mpr Bu ?_
   simp [-Xw,i1]
  obtain ⟨a,h',e',rfl,rfl⟩:=Wp.ex w
  exact e'
 |tup ds=>rfl
 |int i=>rfl
 |bl b=>rfl
 |non=>rfl
 |str x=>rfl
 |edic=>rfl
 |_=>exact p.elim
theorem Z9 {d:D} (h:NO d=true):∃i,d=.int i:=by cases d<;>first |exact ⟨_,rfl⟩ |cases h
theorem Zaa {d:D} {h:HD} (p:Plain h d):Pu (EY [d] h) h (.bl (E1 d)):=by
 change Wp (As 1 (NH D9) [d] h) _
 refine Eq.mpr Bu ?_
 simp
 cases hw:NO d with
 |true=>
  obtain ⟨i,rfl⟩:=Z9 hw
  exact p_is_between_int.wp fun h' s=>⟨rfl,s⟩
 |false=>
  have e:=Z8 p
  rw [hw] at e
  have e2:E1 d=false:=by cases d<;>first |rfl |cases hw
  exact (Z7 e).wp fun h' s=>⟨by rw [e2],s⟩
def NP:D→Bool
 |.tup _=>true
 |_=>false
theorem Zab {d:D} {h:HD} (p:Plain h d):AR d (.ty "tuple") h=.ok (.bl (NP d)) h:=by
 cases d with
 |loc l=>obtain ⟨ds,e⟩:=p;exact Xy e
 |tup ds=>rfl
 |int i=>rfl
 |bl b=>rfl
 |non=>rfl
 |str x=>rfl
 |edic=>rfl
 |_=>exact p.elim
theorem Zac {d:D} (h:NP d=true):∃ds,d=.tup ds:=by cases d<;>first |exact ⟨_,rfl⟩ |cases h
theorem RG {d:D} {h:HD} (p:Plain h d):Pu (Cm [d] h) h (.bl (B1 d)):=by
 change Wp (As 1 Nu [d] h) _
 refine Eq.mpr Bu ?_
 cases hT:NP d with
 |true=>
  obtain ⟨ds,rfl⟩:=Zac hT
  have a1:(1:Int)≤ds.length↔1≤ds.length:=by omega
  have a2:(ds.length:Int)≤8↔ds.length≤8:=by omega
  by_cases h1:1≤ds.length
  ·by_cases h2:ds.length≤8
   ·simp [a1.mpr h1,a2.mpr h2,AC,Sm.refl,B1,h1,h2]
   ·have b2:¬(ds.length:Int)≤8:=by omega
    simp [a1.mpr h1,b2,AC,Sm.refl,B1,h1,h2]
  ·have b1:¬(1:Int)≤ds.length:=by omega
   simp [b1,AC,Sm.refl,B1,h1]
 |false=>
  have:B1 d=false:=by cases d<;>first |rfl |cases hT
  simp [Zab p,hT,this,Sm.refl]
theorem NQ {d:D} (h:B1 d=true):∃ds,d=.tup ds∧1≤ds.length∧ds.length≤8:=by
 cases d with
 |tup ds=>exact ⟨ds,rfl,by simpa [B1] using h⟩
 |_=>cases h
theorem Zad {d:D} {h:HD} (p:Plain2 h d):Pu (EZ [d] h) h (.bl (BO d)):=by
 change Wp (As 1 (NJ Cm EY) [d] h) _
 refine Eq.mpr (Bu) ?_
 simp
 refine (RG p.1).wp fun h1 s1=>?_
 cases hl:B1 d with
 |false=>simp [BO,hl,s1]
 |true=>
  obtain ⟨ds,rfl,l1,l2⟩:=NQ hl
  simp
  refine Pu.wp (Mm (src:=[]) (xs:=ds) (φ:=fun x=>x) E1 (fun x=>[some x]) (by rw [List.map_id'];exact Mo) (fun x _=>rfl) (fun x hx h' s'=>?_) (by unfold sizeLine;omega)) fun h2 s2=>?_
  ·simp [Pu]
   exact Zaa ((p.2 x hx).sm (s1.trans s'))
  ·simp [BO,hl,A6,s1.trans s2]
theorem RH {d:D} {h:HD} (hl:B1 d=true):Bc d h=.ok (.int (Du d:Nat)) h:=by
 obtain ⟨ds,rfl,_,_⟩:=NQ hl
 simp [Du,A6]
theorem RI {d:D} (h:BO d=true):B1 d=true:=by unfold BO at h;exact (Bool.and_eq_true_iff.mp h).1
theorem RJ {d:D} {h:HD} (p:Plain3 h d):Pu (Ee [d] h) h (.bl (Cn d)):=by
 change Wp (As 1 (NL Cm EZ) [d] h) _
 refine Eq.mpr (Bu) ?_
 simp
 refine (RG p.1).wp fun h1 s1=>?_
 cases hl:B1 d with
 |false=>simp [Cn,hl,s1]
 |true=>
  obtain ⟨ds,rfl,l1,l2⟩:=NQ hl
  simp
  refine Pu.wp (Mm (src:=[]) (xs:=ds) (φ:=fun x=>x) BO (fun x=>[some x]) (by rw [List.map_id'];exact Mo) (fun x _=>rfl) (fun x hx h' s'=>?_) (by unfold sizeLine;omega)) fun h2 s2=>?_
  ·simp [Pu]
   exact Zad ((p.2 x hx).sm (s1.trans s'))
  ·cases ha:ds.all BO with
   |false=>simp [Cn,hl,A6,ha,s1.trans s2]
   |true=>
    simp
    have hr:∀x∈ds,BO x=true:=fun x hx=>qaO.mp ha x hx
    obtain ⟨d0,rest,rfl⟩:∃d0 rest,ds=d0::rest:=by
     cases ds with
     |nil=>simp at l1
     |cons a r=>exact ⟨a,r,rfl⟩
    refine Pu.wp (Mm (src:=[]) (xs:=d0::rest) (φ:=fun x=>x) (fun x=>Du x==Du d0) (fun x=>[some x,some (.tup (d0::rest))]) (by rw [List.map_id'];exact Mo) (fun x _=>rfl) (fun x hx h' s'=>?_) (by unfold sizeLine;omega)) fun h3 s3=>?_
    ·simp [Pu]
     rw [RH (RI (hr x hx))]
     simp
     rw [show (0:Int)=((0:Nat):Int) from rfl]
     refine Au (ix_tup (k:=0) rfl) ?_
     simp
     rw [RH (RI (hr d0 AO))]
     simp [Sm.refl]
     rw [qaV]
     simp
     omega
    ·have:(d0::rest).all BO=true:=ha
     simp only [Cn,hl,A6,this,Bool.true_and]
     refine ⟨?_,(s1.trans s2).trans s3⟩
     simp
theorem Zae {d:D} {h:HD} (p:Plain3 h d) (hb:Cn d=true):Pu (BS [d] h) h .non:=by
 change Wp (As 1 (K4 Ee) [d] h) _
 refine Eq.mpr (Bu) ?_
 simp
 refine (RJ p).wp fun h1 s1=>?_
 simp [hb,s1]
theorem NR {d:D} {h:HD} (p:Plain3 h d) (hb:Cn d=false):Er (BS [d] h) h "NoBoard":=by
 change We (As 1 (K4 Ee) [d] h) _ _
 refine Eq.mpr (Jb) ?_
 simp
 refine (RJ p).we fun h1 s1=>?_
 simp [hb,s1,D7]
def lit (x:Bool):D:=.int (if x then 1 else 0)
def AY (w:Nat) (f:Nat→Bool):D:=.tup ((List.range w).map fun j=>lit (f j))
def bD (h w:Nat) (f:Nat→Nat→Bool):D:=.tup ((List.range h).map fun i=>AY w (f i))
section
variable {H W:Nat} {h:HD} {f:Nat→Nat→Bool} {r:Nat→Bool}
theorem Zaf {x:Bool}:E1 (lit x)=true:=by cases x<;>rfl
theorem K8:Plain2 h (AY W r):=⟨trivial,fun x hx=>by
 simp only [AY,A6,qaZ] at hx
 obtain ⟨j,_,rfl⟩:=hx
 exact trivial⟩
theorem Zag:Plain3 h (bD H W f):=⟨trivial,fun x hx=>by
 simp only [bD,A6,qaZ] at hx
 obtain ⟨j,_,rfl⟩:=hx
 exact K8⟩
theorem RK {ds:List D} (h1:1≤ds.length) (h2:ds.length≤8):B1 (.tup ds)=true:=by simp [B1,h1,h2]
theorem Zah (hw:1≤W∧W≤8):BO (AY W r)=true:=by
 unfold BO
 rw [CF]
 refine ⟨RK (by simp;omega) (by simp;omega),qaO.mpr fun x hx=>?_⟩
 simp only [AY,A6,qaZ] at hx
 obtain ⟨j,_,rfl⟩:=hx
 exact Zaf
theorem K9:Du (AY W r)=W:=by simp [Du,AY,A6]
theorem Zai (hh:1≤H∧H≤8) (hw:1≤W∧W≤8):Cn (bD H W f)=true:=by
 unfold Cn
 rw [CF,CF]
 refine ⟨⟨RK (by simp;omega) (by simp;omega),qaO.mpr fun x hx=>?_⟩,qaO.mpr fun x hx=>?_⟩
 ·simp only [bD,A6,qaZ] at hx
  obtain ⟨j,_,rfl⟩:=hx
  exact Zah hw
 ·simp only [bD,A6,qaZ] at hx ⊢
  obtain ⟨j,_,rfl⟩:=hx
  have:((List.range H).map fun i=>AY W (f i)).getD 0 .non=AY W (f 0):=by
   rw [Ej,Cb,Ia (by omega)];rfl
  rw [this,K9,K9]
  simp
theorem La (hh:1≤H∧H≤8) (hw:1≤W∧W≤8):Pu (BS [bD H W f] h) h .non:=Zae Zag (Zai hh hw)
end
section
variable {h:HD}
theorem Zaj:J6 (.int 10) (.int 29) h=.ok (.int (10^29)) h:=by
 simp only [J6,LS.intD]
 rw [if_pos (by decide)]
 rfl
variable {H W:Nat} {f:Nat→Nat→Bool} {r:Nat→Bool}
theorem E2:Bc (bD H W f) h=.ok (.int (H:Nat)) h:=by simp [bD]
theorem Jl:Bc (AY W r) h=.ok (.int (W:Nat)) h:=by simp [AY]
theorem GV {k:Nat} (hk:k<H):AI (bD H W f) (.int (k:Nat)) h=.ok (AY W (f k)) h:=Mk hk
theorem HY (hk:1≤H):AI (bD H W f) (.int 0) h=.ok (AY W (f 0)) h:=VX (by omega)
def NoRowD (h:HD) (H W:Nat) (x:D):Prop:=Plain2 h x∧(BO x=false∨(1<H∧Du x≠W))
def CD (H W:Nat) (f:Nat→Nat→Bool) (A:Nat) (x:D):D:=.tup (((List.range H).map fun i=>AY W (f i)).take A++[x]++((List.range H).map fun i=>AY W (f i)).drop (A+1))
theorem Zak {A:Nat} {x y:D} (hy:y∈A6 (CD H W f A x)):y=x∨∃i,y=AY W (f i):=by
 simp only [CD,A6,E4,qaM,qa8,Cw,or_false] at hy
 rcases hy with hy |hy |hy
 ·have:=JD hy
  simp at this
  obtain ⟨i,_,rfl⟩:=this
  exact .inr ⟨i,rfl⟩
 ·exact .inl hy
 ·have:=Ln hy
  simp at this
  obtain ⟨i,_,rfl⟩:=this
  exact .inr ⟨i,rfl⟩
theorem Zal {A:Nat} {x:D} (hx:Plain2 h x):Plain3 h (CD H W f A x):=⟨trivial,fun y hy=>by
 rcases Zak hy with rfl |⟨i,rfl⟩
 ·exact hx
 ·exact K8⟩
theorem Zam {A:Nat} {x:D} (hA:A<H) (hx:NoRowD h H W x):Cn (CD H W f A x)=false:=by
 have hm:x∈A6 (CD H W f A x):=by simp [CD,A6]
 rcases hx.2 with hr |⟨h1,hl⟩
 ·unfold Cn
  rw [show (A6 (CD H W f A x)).all BO=false from by
   rw [Ig]
   exact ⟨x,hm,by rw [hr];simp⟩]
  simp
 ·unfold Cn
  rw [show ((A6 (CD H W f A x)).all fun y=>Du y==Du ((A6 (CD H W f A x)).getD 0 .non))=false from ?_]
  ·simp
  rw [Ig]
  have lenA:(((List.range H).map fun i=>AY W (f i)).take A).length=A:=by simp;omega
  by_cases hA0:A=0
  ·subst hA0
   have e0:(A6 (CD H W f 0 x)).getD 0 .non=x:=by simp [CD,A6]
   rw [e0]
   have h2:((List.range H).map fun i=>AY W (f i)).drop 1≠[]:=by
    intro z
    have:=congrArg List.length z
    simp at this
    omega
   obtain ⟨y,hy⟩:=List.exists_mem_of_ne_nil _ h2
   refine ⟨y,by simp only [CD,A6];exact qaM.mpr (.inr hy),?_⟩
   have:=Ln hy
   simp at this
   obtain ⟨i,_,rfl⟩:=this
   rw [K9]
   simpa using fun z=>hl z.symm
  ·have e0:(A6 (CD H W f A x)).getD 0 .non=AY W (f 0):=by
    simp only [CD,A6,E4]
    rw [Ej,E3 (by rw [lenA];omega),List.getElem?_take,if_pos (by omega),Cb,Ia (by omega)]
    rfl
   rw [e0,K9]
   exact ⟨x,hm,by simpa using hl⟩
theorem NS {ds:List D} {x:D} (hx:x∈ds) (hr:BO x=false):Cn (.tup ds)=false:=by
 unfold Cn
 rw [show (A6 (.tup ds)).all BO=false from by
  rw [Ig]
  exact ⟨x,hx,by rw [hr];simp⟩]
 simp
theorem RL {d:D} (hl:B1 d=false):Cn d=false:=by unfold Cn;rw [hl];simp
theorem Zan (hh:1≤H):BO (bD H W f)=false:=by
 unfold BO
 rw [show (A6 (bD H W f)).all E1=false from by
  rw [Ig]
  exact ⟨AY W (f 0),by simp [bD,A6];exact ⟨0,by omega,rfl⟩,by simp [AY,E1]⟩]
 simp
theorem Zao (hw:1≤W):Cn (AY W r)=false:=NS (x:=lit (r 0)) (by simp;exact ⟨0,by omega,rfl⟩) (by simp [BO,lit,B1])
def NoB (h:HD) (d:D):Prop:=Plain3 h d∧Cn d=false
theorem NoB.sm {h':HD} {d:D} (n:NoB h d) (s:Sm h h'):NoB h' d:=⟨n.1.sm s,n.2⟩
end
theorem Plain.smx {b:Nat} {h h':HD} {d:D} (p:Plain h d) (s:Smx b h h') (x:BoxAt h' b):Plain h' d:=by
 cases d with
 |loc l=>
  obtain ⟨ds,e⟩:=p
  by_cases hl:l=b
  ·obtain ⟨n,e'⟩:=x
   exact ⟨_,hl ▸ e'⟩
  ·exact ⟨ds,s _ _ hl e⟩
 |_=>exact p
theorem Plain2.smx {b:Nat} {h h':HD} {d:D} (p:Plain2 h d) (s:Smx b h h') (x:BoxAt h' b):Plain2 h' d:=⟨p.1.smx s x,fun y hy=>(p.2 y hy).smx s x⟩
theorem Plain3.smx {b:Nat} {h h':HD} {d:D} (p:Plain3 h d) (s:Smx b h h') (x:BoxAt h' b):Plain3 h' d:=⟨p.1.smx s x,fun y hy=>(p.2 y hy).smx s x⟩
theorem NoB.smx {b:Nat} {h h':HD} {d:D} (n:NoB h d) (s:Smx b h h') (x:BoxAt h' b):NoB h' d:=⟨n.1.smx s x,n.2⟩
def TabAt (h:HD):Prop:=h[0]?=some .tab
theorem TabAt.sm {h h':HD} (t:TabAt h) (s:Sm h h'):TabAt h':=s _ _ t
theorem TabAt.smx {b:Nat} {h h':HD} (t:TabAt h) (s:Smx b h h') (hb:0<b):TabAt h':=s _ _ (by omega) t
theorem TabAt.pos {h:HD} (t:TabAt h):0<h.length:=(qa4.mp t).1
theorem Ef {b:Nat} {m:Int} {h:HD} {Q:D→HD→Prop} (hx:BoxAt h b) (hb:0<b) (ht:TabAt h) (h1:0<m) (h2:m≤1000) (q:∀(d:Nat) h',(d:Int)<m→BoxAt h' b→TabAt h'→Smx b h h'→Q (.int (d:Nat)) h'):Wp (Ay [.loc b,.int m] h) Q:=
 Jk hx (by omega) (by omega) fun d h' d0 d1 x s=>by
  obtain ⟨k,rfl⟩:∃k:Nat,d=(k:Int):=⟨d.toNat,by omega⟩
  exact q k h' (by omega) x (ht.smx s hb) s
theorem BoxAt.lt {b:Nat} {h:HD} (x:BoxAt h b):b<h.length:=let ⟨_,e⟩:=x;(qa4.mp e).1
@[simp] theorem Zef {ρ:Ai} {a b:D} {i j:Nat}:Gq [i,j] (.tup [a,b]) ρ=some ((ρ.set i (some a)).set j (some b)):=id rfl
theorem Eg {xs ys:List D} {h:HD} (hz:xs.length+ys.length≤1000):Aq (.tup xs) (.tup ys) h=.ok (.tup (xs++ys)) h:=by
 simp only [Aq]
 rw [if_pos (by unfold sizeLine;omega)]
theorem Zap {ds:List D} {x:D} (hx:x∈ds) (hl:E1 x=false):BO (.tup ds)=false:=by
 unfold BO
 rw [show (A6 (.tup ds)).all E1=false from by
  rw [Ig]
  exact ⟨x,hx,by rw [hl];simp⟩]
 simp
theorem Zaq {d:D} (hl:B1 d=false):BO d=false:=by unfold BO;rw [hl];simp
theorem RM {ds:List D} (hl:8<ds.length):B1 (.tup ds)=false:=by
 have:¬ds.length≤8:=by omega
 simp [B1,this]
theorem Zar {h:HD} {W:Nat} {r:Nat→Bool} {x:D} (hx:x∈(List.range W).map fun j=>lit (r j)):Plain h x:=by
 simp only [qaZ] at hx
 obtain ⟨j,_,rfl⟩:=hx
 exact trivial
theorem GW {P:D→Prop}:∀d∈([]:List D),P d:=fun d hd=>by cases hd
theorem all_cons {P:D→Prop} {a:D} {l:List D} (h:P a) (t:∀d∈l,P d):∀d∈a::l,P d:=fun d hd=>by
 rcases qa8.mp hd with rfl |hd
 ·exact h
 ·exact t d hd
theorem NT {P:D→Prop} {l r:List D} (h:∀d∈l,P d) (t:∀d∈r,P d):∀d∈l++r,P d:=fun d hd=>by
 rcases qaM.mp hd with hd |hd
 ·exact h d hd
 ·exact t d hd
theorem RN (P:D→Prop) {l o:Nat} {ds:List D} {h:HD} (e:h[l]?=some (.lst ds)) (ho:o<ds.length) (hp:∀d∈ds,P d):∃y,AI (.loc l) (.int (o:Nat)) h=.ok y h∧P y:=
 ⟨ds[o],Gg e (A8 ho),hp _ (Ii ho)⟩
theorem Jm {h:HD} {d:D} (p:Plain h d) (e:A6 d=[]):Plain2 h d:=⟨p,fun x hx=>by rw [e] at hx;cases hx⟩
theorem Zas {h:HD} {d:D} (p:Plain h d) (e:A6 d=[]):Plain3 h d:=⟨p,fun x hx=>by rw [e] at hx;cases hx⟩
def Zat (h:HD) (H W l:Nat):Prop:=∃ds:List D,h[l]?=some (.lst ds)∧ds.length≤10∧∀d∈ds,NoRowD h H W d
theorem NoRowD.sm {h h':HD} {H W:Nat} {d:D} (n:NoRowD h H W d) (s:Sm h h'):NoRowD h' H W d:=⟨n.1.sm s,n.2⟩
noncomputable abbrev Zau:MS:=Ak (AA 7 (Bh [none,some 1,some 2] (Cr (Ab 7)) (A3 0) (BM) (Ah Aq (Ah Aq (Df (Ab 1) (Dp) (CZ (Ab 2))) (A2 (Aa (Ab 0) (Ae)))) (Df (Ab 1) (CZ (Ah Aq (Ab 2) (mC (.int 1)))) (Dp))))) (Ak (AA 7 (Ah Aq (Ab 7) (BC (Aa (Ag (Am HN) (Aa (Ab 1) (Ae))) (Aa (A2 (Aa (Ab 1) (Ae))) (Aa (Ah Cj (A2 (Aa (Ah AI (Ab 1) (mC (.int 0))) (Ae))) (mC (.int 9))) (Aa (Ah Aq (Ab 1) (A2 (Aa (A2 (Ae)) (Ae)))) (Aa (Ah AI (Ab 1) (mC (.int 0))) (Aa (mC .non) (Aa (A2 (Ae)) (Aa (mC (.int 0)) (Aa (mC (.str "")) (Aa (mC .edic) (Ae)))))))))))))) (AM (Ah AI (Ab 7) (Ag Ay (Aa (Ab 0) (Aa (Ag (Am Bc) (Aa (Ab 7) (Ae))) (Ae)))))))
theorem RO {R:List D} {h:HD}:HN (.tup R) h=Cp R h:=rfl
theorem NoB.tup {h:HD} {ds:List D} (hp:∀x∈ds,Plain2 h x) (hb:Cn (.tup ds)=false):NoB h (.tup ds):=⟨⟨trivial,hp⟩,hb⟩
theorem RP {b H W A l:Nat} {f:Nat→Nat→Bool} {h:HD} {c3 c4 c5 c6:Option D} {Q:D→HD→Prop} (hx:BoxAt h b) (hb:0<b) (ht:TabAt h) (hh:1≤H∧H≤8) (hw:1≤W∧W≤8) (hA:A<H) (hn:Zat h H W l)
 (q:∀d h',NoB h' d→BoxAt h' b→TabAt h'→Smx b h h'→Q d h'):Wp (Zau [some (.loc b),some (bD H W f),some (.int (A:Nat)),c3,c4,c5,c6,some (.loc l)] h) (Hx Q):=by
 obtain ⟨ds,el,ln,hn⟩:=hn
 try simp [-Aj]
 refine FQ (src:=[(l,ds)]) (xs:=ds) (φ:=fun x=>x) (fun _=>true) (fun x=>CD H W f A x) (fun x=>[some x,some (bD H W f),some (.int (A:Nat))]) ?_ (by unfold sizeLine;omega) (fun x _=>rfl) (fun x hx h' s'=>.ok) (fun x hx _ h' s'=>?_) fun l7 h7 s7 e7=>?_
 ·simp
  refine Au (FU el) ?_
  simp [Sm.refl]
  exact fun h2 s2=>FO (s2 _ _ el)
 ·simp [Pu]
  rw [bD]
  refine Au (KJ (by simp;omega)) ?_
  simp
  refine Au (Eg (by simp;omega)) ?_
  simp
  refine Au (KL (k:=A) (by omega) (by simp;omega)) ?_
  simp
  refine Au (Eg (by simp;omega)) ?_
  simp [CD,Sm.refl]
 rw [Do] at e7
 refine Eq.mpr (Aj) ?_
 simp [-Aj,HY hh.1]
 obtain ⟨R,eR,lR,pR⟩:∃R:List D,bD H W f=.tup R∧R.length=H∧∀x∈R,∀h,Plain2 h x:=⟨_,rfl,by simp,fun x hx h=>by
  simp only [qaZ] at hx
  obtain ⟨j,_,rfl⟩:=hx
  exact K8⟩
 rw [eR]
 refine Au (RO) ?_
 refine Bi (by unfold sizeLine;omega) fun l8 h8 s8 e8 _ _=>?_
 rw [show (9:Int)=((9:Nat):Int) from rfl]
 refine Au (Qp (by simp) (by simp)) ?_
 try simp [-Aj]
 refine Au (Eg (by simp;omega)) ?_
 rw [Bt]
 refine Bi (by simp) fun l9 h9 s9 e9 _ _=>?_
 try simp [-Aj]
 refine Au (HM (s9 _ _ (s8 _ _ e7)) e9) ?_
 refine Bi (by simp;unfold sizeLine;omega) fun l10 h10 s10 e10 el10 _=>?_
 have s:=((s7.trans s8).trans s9).trans s10
 obtain ⟨L,eL,lL,nL⟩:∃L:List D,h10[l10]?=some (.lst L)∧L.length=ds.length+10∧∀d∈L,NoB h10 d:=by
  have s8':=s9.trans s10
  have pl:∀x∈R,Plain2 h10 x:=fun x hx=>pR x hx h10
  have flat:∀{x:D},Plain h10 x→A6 x=[]→B1 x=false→NoB h10 x:=fun p e l=>⟨Zas p e,RL l⟩
  refine ⟨_,e10,by simp,NT (fun d hm=>?_) <| all_cons (flat ⟨_,s8' _ _ e8⟩ rfl rfl) <| all_cons (.tup (all_cons ⟨trivial,fun y hy=>(pl y hy).1⟩ GW) (NS (x:=.tup R) AO (by rw [←eR];exact Zan hh.1))) <|
   all_cons (.tup (fun x hx=>?_) (RL (RM (by simp)))) <| all_cons (.tup (NT pl (all_cons (Jm trivial rfl) GW)) (NS (x:=.tup []) (by simp) rfl)) <|
   all_cons ⟨⟨trivial,fun x hx=>?_⟩,Zao hw.1⟩ <| all_cons (flat trivial rfl rfl) <| all_cons (flat trivial rfl rfl) <| all_cons (flat trivial rfl rfl) <| all_cons (flat trivial rfl rfl) <| all_cons (flat trivial rfl rfl) GW⟩
  ·obtain ⟨x,hx1,ex⟩:=qaZ.mp hm
   rw [←ex]
   have:=(hn x hx1).sm s
   exact ⟨Zal this.1,Zam hA this⟩
  ·rw [show x=_ from Lh (n:=9) hx]
   exact K8
  ·obtain ⟨j,_,rfl⟩:=qaZ.mp hx
   exact Jm trivial rfl
 refine Eq.mpr (Aj) ?_
 try simp [-Aj]
 refine Au (MC eL) ?_
 try simp [-Aj]
 refine Ef (hx.sm s) hb (ht.sm s) (by omega) (by omega) fun d h11 ld x11 t11 s11=>?_
 have n10:l10≠b:=by have:=(((hx.sm s7).sm s8).sm s9).lt;omega
 have hd:d<L.length:=by omega
 refine Au (Gg (s11 _ _ n10 eL) (A8 hd)) ?_
 exact q _ _ ((nL _ (Ii hd)).smx s11 x11) x11 t11 ((DP s).trans s11)
theorem Zav {b H W:Nat} {f:Nat→Nat→Bool} {h:HD} {Q:D→HD→Prop} (hx:BoxAt h b) (hb:0<b) (ht:TabAt h) (hh:1≤H∧H≤8) (hw:1≤W∧W≤8) (q:∀d h',NoB h' d→BoxAt h' b→TabAt h'→Smx b h h'→Q d h'):Wp (Eb [.loc b,bD H W f] h) Q:=by
 change Wp (As 8 (NF Ay) [.loc b,bD H W f] h) _
 refine Eq.mpr (Bu) ?_
 simp [-Aj,E2,HY hh.1,Jl]
 refine Ef hx hb ht (by omega) (by omega) fun A h1 lA x1 t1 s1=>?_
 refine Ef x1 hb t1 (by omega) (by omega) fun B h2 lB x2 t2 s2=>?_
 have hA:A<H:=by omega
 have hB:B<W:=by omega
 try simp [-Aj]
 refine Eq.mpr (Aj) ?_
 try simp [-Aj,Zaj]
 refine Bi (by simp) fun l3 h3 s3 e3 el3 _=>?_
 try simp [-Aj]
 refine Bi (by simp) fun l4 h4 s4 e4 el4 _=>?_
 have x4:BoxAt h4 b:=(x2.sm s3).sm s4
 have t4:TabAt h4:=(t2.sm s3).sm s4
 have n3:l3≠b:=by have:=x2.lt;omega
 have n4:l4≠b:=by have:=(x2.sm s3).lt;omega
 try simp [-Aj]
 refine Ef x4 hb t4 (by decide) (by decide) fun o h5 l2 x5 t5 s5=>?_
 have e4':=s5 _ _ n4 e4
 have e3':=s5 _ _ n3 (s4 _ _ e3)
 obtain ⟨y,ey,py,ly⟩:=RN (fun y=>Plain h5 y∧E1 y=false) (o:=o) e4' (by simp;omega) <| all_cons ⟨trivial,rfl⟩ <| all_cons ⟨trivial,rfl⟩ <| all_cons ⟨trivial,rfl⟩ <| all_cons ⟨trivial,rfl⟩ <| all_cons ⟨trivial,rfl⟩ <| all_cons ⟨trivial,rfl⟩ <| all_cons ⟨trivial,rfl⟩ <| all_cons ⟨trivial,by decide⟩ <| all_cons ⟨⟨_,e3'⟩,rfl⟩ <| all_cons ⟨trivial,rfl⟩ GW
 refine Au (ey) ?_
 rw [Bt]
 refine Eq.mpr (Aj) ?_
 try simp [-Aj]
 refine Au (GV hA) ?_
 rw [Bt]
 refine Eq.mpr (Aj) ?_
 have S:Smx b h h5:=(((s1.trans s2).trans (DP s3)).trans (DP s4)).trans s5
 clear ey
 generalize hr:f A=r
 obtain ⟨R,eR,lR,pR⟩:∃R:List D,AY W r=.tup R∧R.length=W∧∀x∈R,∀h,Plain h x:=⟨_,rfl,by simp,fun x hx h=>Zar hx⟩
 rw [eR]
 try simp [-Aj]
 refine Au (KJ (by omega)) ?_
 try simp [-Aj]
 refine Au (Eg (by simp;omega)) ?_
 try simp [-Aj]
 refine Au (KL (k:=B) (by omega) (by omega)) ?_
 try simp [-Aj]
 refine Au (Eg (by simp;omega)) ?_
 rw [Bt]
 refine Eq.mpr (Aj) ?_
 try simp [-Aj]
 rw [show (8:Int)=((8:Nat):Int) from rfl]
 refine Au (Qp (by simp) (by simp)) ?_
 try simp [-Aj]
 refine Au (Eg (by simp;omega)) ?_
 rw [Bt]
 refine Au (RO) ?_
 refine Bi (by unfold sizeLine;omega) fun l6 h6 s6 e6 _ _=>?_
 refine Bi (by simp) fun l7 h7 s7 e7 _ _=>?_
 refine Eq.mpr (Aj) ?_
 have hS7:Smx b h h7:=(S.trans (DP s6)).trans (DP s7)
 have x7:=(x5.sm s6).sm s7
 have t7:=(t5.sm s6).sm s7
 have py7:Plain h7 y:=(py.sm s6).sm s7
 have base:∀d∈[D.tup (List.take B R++y::List.drop (B+1) R),D.tup (List.take B R++y::List.drop (B+1) R),D.tup (List.take B R++y::List.drop (B+1) R),D.tup (R++[D.int 0,D.int 0,D.int 0,D.int 0,D.int 0,D.int 0,D.int 0,D.int 0]),D.tup [],D.loc l6,D.non,D.int 1],NoRowD h7 H W d:=by
  have pt:∀ds:List D,(∀x∈ds,Plain h7 x)→BO (.tup ds)=false→NoRowD h7 H W (.tup ds):=fun ds hd hr=>⟨⟨trivial,hd⟩,.inl hr⟩
  have bent:NoRowD h7 H W (.tup (List.take B R++y::List.drop (B+1) R)):=by
   refine pt _ (fun x hx=>?_) (Zap (x:=y) (by simp) ly)
   rcases qaM.mp hx with z |z
   ·exact pR x (JD z) _
   ·rcases qa8.mp z with z |z
    ·exact z ▸ py7
    ·exact pR x (Ln z) _
  refine all_cons bent <| all_cons bent <| all_cons bent <| all_cons (pt _ (NT (fun x z=>pR x z _) fun x hx=>?_) (Zaq (RM (by simp;omega)))) <| all_cons (pt _ GW rfl) <| all_cons ⟨Jm ⟨_,s7 _ _ e6⟩ rfl,.inl rfl⟩ <| all_cons ⟨Jm trivial rfl,.inl rfl⟩ <| all_cons ⟨Jm trivial rfl,.inl rfl⟩ GW
  rw [show x=_ from Lh (n:=8) hx]
  exact trivial
 refine Eq.mpr (CC) ?_
 by_cases h1:1<H
 ·have h1':(1:Int)<(H:Int):=by omega
  simp [-Aj,E2,h1',h1]
  refine Au (XG (by omega)) ?_
  try simp [-Aj]
  refine Au (Eg (by simp;omega)) ?_
  try simp [-Aj]
  refine Bi (by simp) fun l8 h8 s8 e8 _ _=>?_
  try simp [-Aj]
  refine Au (HM (s8 _ _ e7) e8) ?_
  refine Bi (by simp) fun l9 h9 s9 e9 _ _=>?_
  refine Eq.mpr (Aj) ?_
  have s79:=s8.trans s9
  refine RP (x7.sm s79) hb (t7.sm s79) hh hw hA ⟨_,e9,by simp,fun d hd=>?_⟩ fun d h' n x t s'=>q d h' n x t ((hS7.trans (DP s79)).trans s')
  rcases qaM.mp hd with z |z
  ·exact (base d z).sm s79
  ·simp only [qa8,Cw,or_false] at z
   rcases z with rfl |rfl
   ·refine ⟨⟨trivial,fun x hx=>pR x (JD hx) _⟩,.inr ⟨h1,?_⟩⟩
    simp [Du,A6]
    omega
   ·refine ⟨⟨trivial,fun x hx=>?_⟩,.inr ⟨h1,?_⟩⟩
    ·rcases qaM.mp hx with z |z
     ·exact pR x z _
     ·simp only [qa8,Cw,or_false] at z
      subst z
      exact trivial
    ·simp [Du,A6]
     omega
 ·have h1':¬(1:Int)<(H:Int):=by omega
  simp [-Aj,E2,h1',h1]
  refine Eq.mpr (Aj) ?_
  exact RP x7 hb t7 hh hw hA ⟨_,e7,by simp,base⟩ fun d h' n x t s'=>q d h' n x t (hS7.trans s')
theorem Smx.over {a b:Nat} {h h1 h2:HD} (s:Smx b h h1) (s2:Smx a h1 h2) (hl:h.length≤a):Smx b h h2:=fun l c n e=>s2 l c (by have:=(qa4.mp e).1;omega) (s l c n e)
theorem Smx.put {a b:Nat} {c:Cell} {h h1:HD} (s:Smx b h h1) (hl:h.length≤a):Smx b h (h1.set a c):=fun l x n e=>by
 rw [BV (by have:=(qa4.mp e).1;omega)]
 exact s l x n e
theorem Smx.new {b:Nat} {c:Cell} {h h1:HD} (s:Smx b h h1):Smx b h (h1++[c]):=s.trans (DP (.app _ _))
theorem Smx.len {b:Nat} {h h':HD} (s:Smx b h h') (hb:b<h'.length):h.length≤h'.length:=by
 cases e:h.length with
 |zero=>exact Dv _
 |succ n=>
  have hn:n<h.length:=by omega
  by_cases hz:n=b
  ·omega
  ·have:=s n h[n] hz (A8 hn)
   have:=(qa4.mp this).1
   omega
inductive RQ (b:Nat) (h1:HD) (xs:List Nat) (ρ:Ai) (h':HD):Prop where
 |mk (N M:Int) (x:Option D) (f0:ρ=[some (.loc b),some (.int N),some (.int M),x]) (f1:h'=h1):RQ b h1 xs ρ h'
theorem Zaw {b:Nat} {h:HD} {Q:D→HD→Prop} (hx:BoxAt h b) (q:∀l h',BoxAt h' b→BoxAt h' l→l≠b→h.length≤l→Smx b h h'→Q (.loc l) h'):Wp (EX [.loc b] h) Q:=by
 change Wp (As 4 (ND Ay) [.loc b] h) _
 refine Eq.mpr (Bu) ?_
 simp
 refine Jk hx (by decide) (by decide) fun d h1 d0 d1 x1 s1=>?_
 refine DJ (src:=[]) (xs:=List.range 24) (fun i=>.int ((i:Nat):Int)) (RQ b h1) ?_ (fun ys ρ h' _=>CY) ?_ ?_
 ·simp [RE]
  exact ⟨_,_,_,rfl,rfl⟩
 ·rintro x xs ρ h' ⟨N,M,y,rfl,rfl⟩
  refine ⟨_,rfl,?_⟩
  simp
  rw [Ks (by decide) (by decide)]
  simp
  rw [Gh (by decide)]
  simp
  rw [Ks (by decide) (by decide)]
  simp [DI]
  exact ⟨_,_,_,rfl,rfl⟩
 ·rintro ρ h' ⟨N,M,y,rfl,rfl⟩
  simp
  refine Bi (by simp) fun l h2 s e el _=>?_
  exact q l h2 (x1.sm s) ⟨_,e⟩ (by have:=x1.lt;omega) (by have:=s1.len x1.lt;omega) (s1.trans (DP s))
theorem Zax {W:Nat} {rows:List (Nat→Bool)} {H:Nat} (e:rows.length=H):D.tup (rows.map (AY W))=bD H W fun i=>rows.getD i fun _=>false:=by
 unfold bD
 congr 1
 apply Ij
 ·simp [e]
 ·intro i h1 h2
  simp at h1 h2
  simp [Ej,A8 h1]
inductive RR (b H W:Nat) (way dense:Int) (l2 l3:Nat) (h:HD) (xs:List Nat) (ρ:Ai) (h':HD):Prop where
 |mk (x:Option D) (rows:List (Nat→Bool)) (f0:ρ=[some (.loc b),some (.int (H:Nat)),some (.int (W:Nat)),some (.int way),some (.loc l2),some (.int dense),some (.loc l3),x]) (f1:BoxAt h' b) (f2:BoxAt h' l2) (f3:h'[l3]?=some (.lst (rows.map (AY W)))) (f4:rows.length+xs.length=H) (f5:Smx b h h'):RR b H W way dense l2 l3 h xs ρ h'
inductive RS (b W l2 l3:Nat) (rows:List (Nat→Bool)) (h h':HD):Prop where
 |mk (f1:BoxAt h' b) (f2:BoxAt h' l2) (f3:h'[l3]?=some (.lst (rows.map (AY W)))) (f4:Smx b h h'):RS b W l2 l3 rows h h'
theorem NU {b H W:Nat} {h:HD} {Q:D→HD→Prop} (hx:BoxAt h b) (hh:1≤H∧H≤8) (hw:1≤W∧W≤8) (q:∀f h',BoxAt h' b→Smx b h h'→Q (bD H W f) h'):Wp (B0 [.loc b,.int (H:Nat),.int (W:Nat)] h) Q:=by
 change Wp (As 8 (NI Ay EX) [.loc b,.int (H:Nat),.int (W:Nat)] h) _
 refine Eq.mpr (Bu) ?_
 simp [-Aj]
 refine Jk hx (by decide) (by decide) fun way h1 d0 d1 x1 z1=>?_
 simp [-Aj,Aj (g:=Ak (AA 4 _) _)]
 refine Zaw x1 fun l2 h2 x2 y2 n2 k2 z2=>?_
 have kl2:h.length≤l2:=by have:=z1.len x1.lt;omega
 refine Eq.mpr (Aj) ?_
 simp [-Aj]
 refine Bi (by simp) fun l h3 s3 e3 el3 _=>?_
 obtain ⟨dense,ed⟩:∃dense:Int,AI (.loc l) (.int way) h3=.ok (.int dense) h3:=by
  obtain ⟨w,rfl⟩:∃w:Nat,way=(w:Int):=⟨way.toNat,by omega⟩
  obtain ⟨y,ey,z,rfl⟩:=RN (fun y=>∃i,y=.int i) (o:=w) e3 (by simp;omega) <| all_cons ⟨_,rfl⟩ <| all_cons ⟨_,rfl⟩ <| all_cons ⟨_,rfl⟩ <| all_cons ⟨_,rfl⟩ <| all_cons ⟨_,rfl⟩ GW
  exact ⟨z,ey⟩
 refine Au (ed) ?_
 rw [Bt]
 refine Eq.mpr (Aj) ?_
 simp [-Aj]
 refine Bi (by simp) fun l3 h4 s4 e4 el4 _=>?_
 have x4:BoxAt h4 b:=(x2.sm s3).sm s4
 have y4:BoxAt h4 l2:=(y2.sm s3).sm s4
 have z4:Smx b h h4:=((z1.trans z2).trans (DP s3)).trans (DP s4)
 have kl3:h.length≤l3:=by have:=(z1.trans z2).len x2.lt;have:=s3.len;omega
 have n3:l3≠b:=by
  obtain ⟨n,e⟩:=x2.sm s3
  have:=(qa4.mp e).1
  omega
 have n4:l3≠l2:=by
  obtain ⟨n,e⟩:=y2.sm s3
  have:=(qa4.mp e).1
  omega
 refine Eq.mpr (Aj) ?_
 simp [-Aj]
 refine DJ (src:=[]) (xs:=List.range H) (fun i=>.int ((i:Nat):Int)) (RR b H W way dense l2 l3 h) ?_ (fun ys ρ h' _=>CY) ?_ ?_
 ·simp [EF (show H≤1000 by omega)]
  exact ⟨_,[],rfl,x4,y4,e4,by simp,z4⟩
 ·rintro x xs ρ h' ⟨y,rows,rfl,x5,y5,e5,hl,z5⟩
  refine ⟨_,rfl,?_⟩
  simp [Hz e5]
  refine Pt (src:=[]) (xs:=List.range W) (fun i=>.int ((i:Nat):Int)) (RS b W l2 l3 rows h) (fun _ b=>b=true) (fun i d=>∃r:Bool,d=lit r) (fun i=>[some (.int ((i:Nat):Int)),some (.loc l2),some (.int dense)]) ?_ (fun _ _=>CY) (fun h c x=>by obtain ⟨a1,a2,a3,a4⟩:=x;exact ⟨a1.new,a2.new,Sm.app _ _ _ _ a3,a4.new⟩) List.nodup_range (sz hw.2) (fun x _=>rfl) ?_ ?_
  ·simp [EF (show W≤1000 by omega)]
   exact ⟨x5,y5,e5,z5⟩
  ·intro x hx h i
   simp
   obtain ⟨a1,a2,a3,a4⟩:=i
   refine Jk a2 (by decide) (by decide) fun d h1 d0 d1 x1 s1=>?_
   simp only [Bt,Kn,Km,VV,Mg,Ko,VU,VW]
   exact ⟨⟨a1.smx s1 (Ne.symm n2),x1,s1 _ _ n4 a3,a4.over s1 kl2⟩,by cases decide (d<dense)<;>simp [lit]⟩
  ·intro h6 g e x6 hr tr
   obtain ⟨x61,x62,x63,x64⟩:=x6
   have hr':∃r:Nat→Bool,∀x∈List.range W,e x=lit (r x):=by
    refine ⟨fun x=>if h:x∈List.range W then (hr x h (tr x h)).choose else false,fun x hx=>?_⟩
    simp only [dif_pos hx]
    exact (hr x hx (tr x hx)).choose_spec
   obtain ⟨r,er⟩:=hr'
   have ef:(List.range W).filter g=List.range W:=List.filter_eq_self.mpr tr
   have em:D.tup (((List.range W).filter g).map e)=AY W r:=by
    rw [ef];unfold AY;congr 1;exact Ib er
   rw [em]
   simp [Kr x63 (show (rows.map (AY W)).length<sizeLine by simp;unfold sizeLine;omega),DI]
   have hl3:l3<h6.length:=(qa4.mp x63).1
   refine ⟨_,rows++[r],rfl,?_,?_,?_,?_,x64.put kl3⟩
   ·obtain ⟨n,e⟩:=x61
    exact ⟨n,by rw [BV n3];exact e⟩
   ·obtain ⟨n,e⟩:=x62
    exact ⟨n,by rw [BV n4];exact e⟩
   ·rw [Cu hl3]
    simp
   ·simp at hl ⊢
    omega
 ·rintro ρ h' ⟨y,rows,rfl,x5,y5,e5,hl,z5⟩
  simp at hl
  simp
  by_cases h3:way=3
  ·simp [h3]
   obtain ⟨r0,rest,rfl⟩:∃r0 rest,rows=r0::rest:=by
    cases rows with
    |nil=>simp at hl;omega
    |cons a r=>exact ⟨a,r,rfl⟩
   rw [show (0:Int)=((0:Nat):Int) from rfl]
   refine Au (Gg e5 (k:=0) (a:=AY W r0) rfl) ?_
   simp
   refine Bi (by simp) fun l5 h5 s5 e6 _ _=>?_
   refine Au (Xv) ?_
   refine Au (WA e6 (by omega)) ?_
   refine Bi (by simp;unfold sizeLine;omega) fun l6 h6 s6 e7 _ _=>?_
   simp [Kq e7]
   have:D.tup (List.replicate H (AY W r0))=bD H W fun _=>r0:=by
    unfold bD
    congr 1
    apply Ij
    ·simp
    ·intro i h1 h2;simp
   rw [this]
   exact q _ _ ((x5.sm s5).sm s6) ((z5.trans (DP s5)).trans (DP s6))
  ·simp [h3,Kq e5]
   rw [Zax hl]
   exact q _ _ x5 z5
def Eh (n:Nat) (p:Nat→Bool):D:=.tup (((List.range n).filter p).map fun i=>.int ((i:Nat):Int))
section
variable {n:Nat} {p:Nat→Bool} {h:HD}
theorem Zay {k:Nat} (hk:k<n):((List.range n).filter p).contains k=p k:=by
 rw [qaV]
 simp [hk]
theorem RT {neg:Bool} {k:Nat} (hk:k<n):FK neg (.int (k:Nat)) (Eh n p) h=.ok (.bl (if neg then !p k else p k)) h:=by
 unfold Eh
 rw [V0,Zay hk]
end
def sw (f:Nat→Nat→Bool) (p q:Nat→Bool) (i j:Nat):Bool:=Bool.xor (f i j) (Bool.xor (p i) (q j))
theorem RU {b n:Nat} {h:HD} {Q:D→HD→Prop} (hx:BoxAt h b) (hn:n≤8) (q:∀p h',BoxAt h' b→Smx b h h'→Q (Eh n p) h'):Wp (Ec [.loc b,.int (n:Nat)] h) Q:=by
 change Wp (As 2 (NG Ay) [.loc b,.int (n:Nat)] h) _
 refine Eq.mpr (Bu) ?_
 simp
 refine Pt (src:=[]) (xs:=List.range n) (fun i=>.int ((i:Nat):Int)) (fun h'=>BoxAt h' b∧Smx b h h') (fun _ _=>True) (fun i d=>d=.int ((i:Nat):Int)) (fun i=>[some (.int ((i:Nat):Int)),some (.loc b)]) ?_ (fun _ _=>CY) (fun h c x=>⟨x.1.new,x.2.new⟩) List.nodup_range (sz hn) (fun x _=>rfl) ?_ ?_
 ·simp [EF (show n≤1000 by omega),hx,Smx.refl]
 ·intro x hx h i
  simp
  refine Jk i.1 (by decide) (by decide) fun d h1 d0 d1 x1 s1=>?_
  simp [x1,i.2.trans s1]
 ·intro h' g e x1 hr _
  have:((List.range n).filter g).map e=((List.range n).filter g).map fun i=>D.int ((i:Nat):Int):=Ib fun x hx=>hr x (qb6.mp hx).1 (qb6.mp hx).2
  rw [this]
  exact q g h' x1.1 x1.2
def NV (c:Str):List V:=[.bl (BG c "NoBoard"),.bl (BG c "NoLine"),.bl (BG c "NoSwitching"),.bl (BG c "NoNumber"),.bl (BG c "Unlike"),.bl (BG c "NoNet"),.bl (BG c "NoPlace"),.bl (BG c "NoText"),.bl (BG c "NoRow"),.bl (BG c "TooMany")]
def Zaz:List D:=[.str "board",.str "line",.str "switching",.str "number",.str "unlike",.str "net",.str "place",.str "text",.str "row"]
theorem RV {c w t:Str} {j:Nat} {h:HD} (hc:c∈excNames) (hn:HH (.bl true) (NV c)=1) (h9:BG c "TooMany"=false) (hj:KG (.bl true) (NV c)=some j) (hw:Zaz[j]?=some (.str w)) (hz:((("! ":String):Str)).length+w.length≤1000) (ht:((("! ":String):Str))++w=t):Pu (B7 [.exc c []] h) h (.str t):=by
 have i0:∀h,AR (.exc c []) (.glo "NoBoard") h=.ok (.bl (BG c "NoBoard")) h:=fun h=>EK hc (by decide +kernel)
 have i1:∀h,AR (.exc c []) (.glo "NoLine") h=.ok (.bl (BG c "NoLine")) h:=fun h=>EK hc (by decide +kernel)
 have i2:∀h,AR (.exc c []) (.glo "NoSwitching") h=.ok (.bl (BG c "NoSwitching")) h:=fun h=>EK hc (by decide +kernel)
 have i3:∀h,AR (.exc c []) (.glo "NoNumber") h=.ok (.bl (BG c "NoNumber")) h:=fun h=>EK hc (by decide +kernel)
 have i4:∀h,AR (.exc c []) (.glo "Unlike") h=.ok (.bl (BG c "Unlike")) h:=fun h=>EK hc (by decide +kernel)
 have i5:∀h,AR (.exc c []) (.glo "NoNet") h=.ok (.bl (BG c "NoNet")) h:=fun h=>EK hc (by decide +kernel)
 have i6:∀h,AR (.exc c []) (.glo "NoPlace") h=.ok (.bl (BG c "NoPlace")) h:=fun h=>EK hc (by decide +kernel)
 have i7:∀h,AR (.exc c []) (.glo "NoText") h=.ok (.bl (BG c "NoText")) h:=fun h=>EK hc (by decide +kernel)
 have i8:∀h,AR (.exc c []) (.glo "NoRow") h=.ok (.bl (BG c "NoRow")) h:=fun h=>EK hc (by decide +kernel)
 have i9:∀h,AR (.exc c []) (.glo "TooMany") h=.ok (.bl (BG c "TooMany")) h:=fun h=>EK hc (by decide +kernel)
 have iv:∀h,AR (.exc c []) (.ty "ValueError") h=.ok (.bl true) h:=fun h=>Xz hc
 change Wp (As 3 Nz [.exc c []] h) _
 refine Eq.mpr Bu ?_
 simp [-Aj,i0,i1,i2,i3]
 refine Bi (by simp) fun l1 h1 s1 e1 _ _=>?_
 refine Eq.mpr Aj ?_
 simp [-Aj,i4,i5,i6,i7]
 refine Bi (by simp) fun l2 h2 s2 e2 _ _=>?_
 refine Au (HM (s2 _ _ e1) e2) ?_
 refine Bi (by simp) fun l3 h3 s3 e3 _ _=>?_
 refine Eq.mpr Aj ?_
 simp [-Aj,i8,i9]
 refine Bi (by simp) fun l4 h4 s4 e4 _ _=>?_
 refine Au (HM (s4 _ _ e3) e4) ?_
 refine Bi (by simp) fun l5 h5 s5 e5 _ _=>?_
 refine Eq.mpr Aj ?_
 simp [-Aj,iv,Hz e5]
 refine Au ((XB (vs:=NV c) e5 rfl rfl).trans (by rw [hn])) ?_
 simp [-Aj]
 refine Eq.mpr Aj ?_
 simp [-Aj]
 rw [show (9:Int)=((9:Nat):Int) from rfl]
 refine Au (Gg e5 (k:=9) rfl) ?_
 simp [-Aj,h9]
 refine Eq.mpr Aj ?_
 simp [-Aj]
 refine Bi (by simp) fun l6 h6 s6 e6 _ _=>?_
 refine Eq.mpr Aj ?_
 simp [Hz (s6 _ _ e5)]
 refine Au (XC (s6 _ _ e5) rfl rfl hj) ?_
 simp only [Bt]
 refine Au (Gg e6 hw) ?_
 simp only [Bt]
 refine Au (XA hz) ?_
 exact ⟨congrArg D.str ht,((((s1.trans s2).trans s3).trans s4).trans s5).trans s6⟩
theorem p_kind_board {h:HD}:Pu (B7 [.exc "NoBoard" []] h) h (.str "! board"):=RV (w:="board") (j:=0) (by decide +kernel) (by decide +kernel) (by decide +kernel) (by decide +kernel) rfl (by decide +kernel) (by decide +kernel)
theorem RW {cs:List Nat} {f:ME} {ρ:Ai} {h:HD} {ds:List D} {Q:D→HD→Prop} (ht:TabAt h) (hd:Ax (cs.map fun j=>(ρ[j]?).join)=some ds) (he:Er (f (ds.map some) h) h "NoBoard")
 (q:∀h',Sm h h'→Q (.str "! board") h'):Wp (De cs B7 f ρ h) Q:=
 Qn ht hd (he.we fun h' s=>⟨by decide +kernel,[],rfl,p_kind_board.wp fun h2 s2=>q h2 (s.trans s2)⟩)
theorem p_kind_unlike {h:HD}:Pu (B7 [.exc "Unlike" []] h) h (.str "! unlike"):=RV (w:="unlike") (j:=4) (by decide +kernel) (by decide +kernel) (by decide +kernel) (by decide +kernel) rfl (by decide +kernel) (by decide +kernel)
theorem ZaA {cs:List Nat} {f:ME} {ρ:Ai} {h:HD} {ds:List D} {Q:D→HD→Prop} (ht:TabAt h) (hd:Ax (cs.map fun j=>(ρ[j]?).join)=some ds) (he:Er (f (ds.map some) h) h "Unlike")
 (q:∀h',Sm h h'→Q (.str "! unlike") h'):Wp (De cs B7 f ρ h) Q:=
 Qn ht hd (he.we fun h' s=>⟨by decide +kernel,[],rfl,p_kind_unlike.wp fun h2 s2=>q h2 (s.trans s2)⟩)
theorem Jn {n k x:Nat} {xs:List Nat} (h:(List.range n).drop k=x::xs):x=k∧k<n∧xs=(List.range n).drop (k+1):=by
 have hk:k<n:=by
  have:=congrArg List.length h
  simp at this
  omega
 rw [JC (by simpa using hk)] at h
 simp at h
 exact ⟨h.1.symm,hk,h.2.symm⟩
theorem Jo {n k:Nat} (hk:k≤n) (h:(List.range n).drop k=[]):k=n:=by
 have:=congrArg List.length h
 simp at this
 omega
theorem Sm.put {h h':HD} {l:Nat} {c:Cell} (s:Sm h h') (hl:h.length≤l):Sm h (h'.set l c):=fun k d ek=>by
 have:=(qa4.mp ek).1
 rw [BV (by omega)]
 exact s k d ek
theorem RX {n:Nat} {e:Nat→D}:(List.range n).map e++[e n]=(List.range (n+1)).map e:=by simp [JF]
inductive RY (H W:Nat) (f:Nat→Nat→Bool) (p q:Nat→Bool) (h:HD) (l:Nat) (xs:List Nat) (ρ:Ai) (h':HD):Prop where
 |mk (k:Nat) (d4 d5 d6 d7 d8:Option D) (f0:xs=(List.range H).drop k) (f1:k≤H) (f2:ρ=[some (bD H W f),some (Eh H p),some (Eh W q),some (.loc l),d4,d5,d6,d7,d8]) (f3:Sm h h') (f4:h'[l]?=some (.lst ((List.range k).map fun i=>AY W (sw f p q i)))):RY H W f p q h l xs ρ h'
inductive RZ (H W:Nat) (f:Nat→Nat→Bool) (p q:Nat→Bool) (h1:HD) (l k m:Nat) (xs:List Nat) (ρ:Ai) (h':HD):Prop where
 |mk (j:Nat) (d7 d8:Option D) (f0:xs=(List.range W).drop j) (f1:j≤W) (f2:ρ=[some (bD H W f),some (Eh H p),some (Eh W q),some (.loc l),some (.int (k:Nat)),some (AY W (f k)),some (.loc m),d7,d8]) (f3:Sm h1 h') (f4:h'[m]?=some (.lst ((List.range j).map fun j=>lit (sw f p q k j)))):RZ H W f p q h1 l k m xs ρ h'
theorem ZaB {H W:Nat} {f:Nat→Nat→Bool} {p q:Nat→Bool} {h:HD} (hh:1≤H∧H≤8) (hw:1≤W∧W≤8):Pu (EW [bD H W f,Eh H p,Eh W q] h) h (bD H W (sw f p q)):=by
 change Wp (As 9 NA [bD H W f,Eh H p,Eh W q] h) _
 refine Eq.mpr (Bu) ?_
 simp [-Aj]
 refine Bi (by simp) fun l h1 s1 e1 el _=>?_
 refine Eq.mpr (Aj) ?_
 simp [-Aj]
 refine DJ (src:=[]) (xs:=List.range H) (fun i=>.tup [.int ((i:Nat):Int),AY W (f i)]) (RY H W f p q h l) ?_ (fun ys ρ h' _=>CY) ?_ ?_
 ·simp [bD,P0]
  exact ⟨0,_,_,_,_,_,by simp,by omega,rfl,s1,e1⟩
 ·rintro x xs ρ h' ⟨k,d4,d5,d6,d7,d8,ex,hk,rfl,s,e⟩
  obtain ⟨rfl,hk',rfl⟩:=Jn ex.symm
  refine ⟨_,rfl,?_⟩
  simp [-Aj]
  refine Bi (by simp) fun m h2 s2 e2 em _=>?_
  refine Eq.mpr (Aj) ?_
  simp [-Aj]
  have ll:=(qa4.mp e).1
  have hlm:l≠m:=by omega
  refine DJ (src:=[]) (xs:=List.range W) (fun j=>.tup [.int ((j:Nat):Int),lit (f x j)]) (RZ H W f p q h' l x m) ?_ (fun ys ρ h' _=>CY) ?_ ?_
  ·simp [AY,P0]
   exact ⟨0,_,_,by simp,by omega,rfl,s2,e2⟩
  ·rintro y ys ρ h3 ⟨j,c7,c8,ey,hj,rfl,s3,e3⟩
   obtain ⟨rfl,hj',rfl⟩:=Jn ey.symm
   refine ⟨_,rfl,?_⟩
   simp [Hz e3,RT hk',RT hj']
   have ev:∀(Q:D→HD→Prop),Q (lit (sw f p q x y)) h3→Wp (Aq (lit (f x y)) (D.int (if p x=true then 1 else 0)) h3) fun a h1=>Wp (Aq a (D.int (if q y=true then 1 else 0)) h1) fun a h1=>Wp (DD a (D.int 2) h1) Q:=by
    intro Q hQ
    unfold sw at hQ
    revert hQ
    cases f x y<;>cases p x<;>cases q y<;>intro hQ<;>simp [lit]<;>rw [Gh (by decide)]<;>exact hQ
   refine ev _ ?_
   refine Au (Kr e3 (by simp;unfold sizeLine;omega)) ?_
   have lm:=(qa4.mp e3).1
   simp [DI]
   refine ⟨y+1,_,_,rfl,by omega,rfl,Sm.put s3 (by omega),?_⟩
   rw [Cu lm,←RX]
  ·rintro ρ h3 ⟨j,c7,c8,ey,hj,rfl,s3,e3⟩
   have:=Jo hj ey.symm
   subst this
   have e':=s3 _ _ e
   have ll':=(qa4.mp e').1
   simp [Hz e',Kq e3]
   refine Au (Kr e' (by simp;unfold sizeLine;omega)) ?_
   simp [DI]
   refine ⟨x+1,_,_,_,_,_,rfl,by omega,rfl,Sm.put (s.trans s3) (by omega),?_⟩
   rw [Cu ll',←RX]
   rfl
 ·rintro ρ h' ⟨k,d4,d5,d6,d7,d8,ex,hk,rfl,s,e⟩
  have:=Jo hk ex.symm
  subst this
  simp [Kq e]
  exact ⟨rfl,s⟩
theorem GX {n:Nat} (h:n≤1000):n≤sizeLine:=by unfold sizeLine;omega
theorem ZaC {a n:Nat} {h:HD} (ha:a≤1000) (hn:n≤1000):Hq [.int (a:Int),.int (n:Int)] h=.ok ((List.range (n - a)).map fun k=>D.int ((a:Int)+((k:Nat):Int)),[]) h:=by
 have:((-(2^62):Int)≤(a:Int)∧(a:Int)<2^62)∧(-(2^62):Int)≤(n:Int)∧(n:Int)<2^62:=by omega
 unfold Hq
 simp only
 rw [if_pos this]
 have e:((n:Int) - (a:Int)).toNat=n - a:=by omega
 rw [e]
 simp [FP]
abbrev Bm:=Nat×Nat×Nat×Nat
def Az (x:Bm):D:=.tup [.int ((x.1:Nat):Int),.int ((x.2.1:Nat):Int),.int ((x.2.2.1:Nat):Int),.int ((x.2.2.2:Nat):Int)]
def AN (f:Nat→Nat→Bool) (x:Bm):Bool:=Bool.xor (Bool.xor (f x.1 x.2.2.1) (f x.1 x.2.2.2)) (Bool.xor (f x.2.1 x.2.2.1) (f x.2.1 x.2.2.2))
def NW (H W:Nat) (x:Bm):Prop:=x.1<x.2.1∧x.2.1<H∧x.2.2.1<x.2.2.2∧x.2.2.2<W
def AF (H W:Nat):List Bm:=(List.range H).flatMap fun a=>(List.range (H - (a+1))).flatMap fun b=>(List.range W).flatMap fun c=>(List.range (W - (c+1))).map fun e=>(a,a+1+b,c,c+1+e)
theorem Jp {H W:Nat} {x:Bm} (h:x∈AF H W):NW H W x:=by
 unfold AF at h
 simp only [List.mem_flatMap,qaZ,qbG] at h
 obtain ⟨a,ha,b,hb,c,hc,e,he,rfl⟩:=h
 exact ⟨by simp only;omega,by simp only;omega,by simp only;omega,by simp only;omega⟩
theorem Lb {α β:Type} {F:α→List β} {k:Nat}:∀{l:List α},(∀x∈l,(F x).length≤k)→(l.flatMap F).length≤l.length*k
 |[],_=>by simp
 |x::l,h=>by
  rw [List.flatMap_cons,El,E5,Io]
  have:=h x AO
  have:=Lb (l:=l) fun y hy=>h y (A1 _ hy)
  omega
def Zeg (n:Nat):Nat:=n*(n - 1) / 2
theorem NX {H W:Nat} (hh:H≤8) (hw:W≤8):(AF H W).length≤1000:=by
 have key:∀H<9,∀W<9,(AF H W).length≤1000:=by decide +kernel
 exact key H (by omega) W (by omega)
theorem Lc {a n:Nat} {h:HD} (ha:a≤1000) (hn:n≤1000):Hq [.int (a:Int),.int (n:Int)] h=.ok ((List.range (n - a)).map fun k=>D.int ((a+k:Nat):Int),[]) h:=ZaC ha hn
section
variable {H W:Nat} {h:HD} {f:Nat→Nat→Bool}
theorem R0 {Q:D→HD→Prop} (hh:1≤H∧H≤8) (hw:1≤W∧W≤8) (q:∀l h',Sm h h'→h'[l]?=some (.lst ((AF H W).map Az))→Q (.loc l) h'):Wp (BZ [bD H W f] h) Q:=by
 change Wp (As 3 Nv [bD H W f] h) _
 refine Eq.mpr Bu ?_
 simp [E2,HY hh.1,Jl]
 have hl:=NX hh.2 hw.2
 have em:(List.range H).flatMap (fun a=>(List.range (H - (a+1))).flatMap fun b=>(List.range W).flatMap fun c=>(List.range (W - (c+1))).map fun e=>Az (a,a+1+b,c,c+1+e))=(AF H W).map Az:=by
  unfold AF
  simp only [List.map_flatMap,DQ]
  rfl
 refine X9 (src:=[]) (xs:=List.range H) (φ:=fun a=>.int ((a:Nat):Int)) (fun _=>true) (fun a=>(List.range (H - (a+1))).flatMap fun b=>(List.range W).flatMap fun c=>(List.range (W - (c+1))).map fun e=>Az (a,a+1+b,c,c+1+e)) (fun a=>[some (.int ((a:Nat):Int)),none,none,none,some (.int (H:Nat)),some (.int (W:Nat))]) ?_ (fun x _=>rfl) (fun x _ h' s'=>(.ok:Pu (.ok true h') h' true)) (fun a ha _ h1 acc s1 z1=>?_) ?_ fun l h' s' e'=>?_
 ·simp [D3,EF (show H≤1000 by omega),Sm.refl,BE]
 ·have ha:=qbG.mp ha
  have:=M6 (t:=BM) (src:=[]) (xs:=List.range (H - (a+1))) (φ:=fun b=>.int ((a+1+b:Nat):Int)) (it:=EB (Aa (Ah Aq (Ab 0) (mC (.int 1))) (Aa (Ab 4) (Ae)))) (sg:=A3 1) (e:=DO (Cg (Aa (Ab 5) (Ae))) (A3 2) (BM) (DO (EB (Aa (Ah Aq (Ab 2) (mC (.int 1))) (Aa (Ab 5) (Ae)))) (A3 3) (BM) (EL (A2 (Aa (Ab 0) (Aa (Ab 1) (Aa (Ab 2) (Aa (Ab 3) (Ae))))))))) (acc:=acc) (ρ:=[some (.int ((a:Nat):Int)),none,none,none,some (.int (H:Nat)),some (.int (W:Nat))]) (h:=h1)
   (fun _=>true) (fun b=>(List.range W).flatMap fun c=>(List.range (W - (c+1))).map fun e=>Az (a,a+1+b,c,c+1+e)) (fun b=>[some (.int ((a:Nat):Int)),some (.int ((a+1+b:Nat):Int)),none,none,some (.int (H:Nat)),some (.int (W:Nat))]) ?_ (fun x _=>rfl) (fun x _ h' s'=>(.ok:Pu (.ok true h') h' true)) (fun b hb _ h2 acc2 s2 z2=>?_) (by rw [Do];exact z1)
  ·rwa [Do] at this
  ·simp [D3]
   rw [show (a:Int)+1=((a+1:Nat):Int) by omega,Lc (by omega) (by omega)]
   simp [Sm.refl,BE]
  ·have:=M6 (t:=BM) (src:=[]) (xs:=List.range W) (φ:=fun c=>.int ((c:Nat):Int)) (it:=Cg (Aa (Ab 5) (Ae))) (sg:=A3 2) (e:=DO (EB (Aa (Ah Aq (Ab 2) (mC (.int 1))) (Aa (Ab 5) (Ae)))) (A3 3) (BM) (EL (A2 (Aa (Ab 0) (Aa (Ab 1) (Aa (Ab 2) (Aa (Ab 3) (Ae)))))))) (acc:=acc2) (ρ:=[some (.int ((a:Nat):Int)),some (.int ((a+1+b:Nat):Int)),none,none,some (.int (H:Nat)),some (.int (W:Nat))]) (h:=h2)
    (fun _=>true) (fun c=>(List.range (W - (c+1))).map fun e=>Az (a,a+1+b,c,c+1+e)) (fun c=>[some (.int ((a:Nat):Int)),some (.int ((a+1+b:Nat):Int)),some (.int ((c:Nat):Int)),none,some (.int (H:Nat)),some (.int (W:Nat))]) ?_ (fun x _=>rfl) (fun x _ h' s'=>(.ok:Pu (.ok true h') h' true)) (fun c hc _ h3 acc3 s3 z3=>?_) (by rw [Do];exact z2)
   ·rwa [Do] at this
   ·simp [D3,EF (show W≤1000 by omega),Sm.refl,BE]
   ·have hc:=qbG.mp hc
    refine X8 (src:=[]) (xs:=List.range (W - (c+1))) (φ:=fun e=>.int ((c+1+e:Nat):Int)) _ (fun e=>[some (.int ((a:Nat):Int)),some (.int ((a+1+b:Nat):Int)),some (.int ((c:Nat):Int)),some (.int ((c+1+e:Nat):Int)),some (.int (H:Nat)),some (.int (W:Nat))]) ?_ (fun x _=>rfl) (fun e _ h4 s4=>?_) z3
    ·simp [D3]
     rw [show (c:Int)+1=((c+1:Nat):Int) by omega,Lc (by omega) (by omega)]
     simp [Sm.refl,BE]
    ·simp [Pu,Az,Sm.refl]
 ·rw [Do,em,CS]
  exact GX hl
 ·rw [Do,em] at e'
  exact q l h' s' e'
theorem NY {W:Nat} {r:Nat→Bool} {c:Nat} {h:HD} (hc:c<W):AI (AY W r) (.int (c:Nat)) h=.ok (lit (r c)) h:=Mk hc
theorem ZaD {a b c d:Bool}:(((if a then (1:Int) else 0)+(if b then 1 else 0)+(if c then 1 else 0)+(if d then 1 else 0)) % 2==1)=Bool.xor (Bool.xor a b) (Bool.xor c d):=by cases a<;>cases b<;>cases c<;>cases d<;>rfl
@[simp] theorem Zeh {ρ:Ai} {a b c d:D} {i j k l:Nat}:Gq [i,j,k,l] (.tup [a,b,c,d]) ρ=some ((((ρ.set i (some a)).set j (some b)).set k (some c)).set l (some d)):=id rfl
theorem NZ {x:Bm} (ok:NW H W x):Pu (BU [bD H W f,Az x] h) h (.bl (AN f x)):=by
 obtain ⟨a,b,c,e⟩:=x
 obtain ⟨h1,h2,h3,h4⟩:=ok
 simp only at h1 h2 h3 h4
 change Wp (As 6 Nw [bD H W f,Az (a,b,c,e)] h) _
 refine Eq.mpr Bu ?_
 unfold Az
 simp [GV (show a<H by omega),GV h2,NY (show c<W by omega),NY h4]
 refine Au (show Aq (lit (f a c)) (lit (f a e)) h=.ok (.int ((if f a c then 1 else 0)+(if f a e then 1 else 0))) h from rfl) ?_
 rw [Bt]
 refine Au (show Aq (.int ((if f a c then 1 else 0)+(if f a e then 1 else 0))) (lit (f b c)) h=.ok (.int ((if f a c then 1 else 0)+(if f a e then 1 else 0)+(if f b c then 1 else 0))) h from rfl) ?_
 rw [Bt]
 refine Au (show Aq (.int ((if f a c then 1 else 0)+(if f a e then 1 else 0)+(if f b c then 1 else 0))) (lit (f b e)) h=.ok (.int ((if f a c then 1 else 0)+(if f a e then 1 else 0)+(if f b c then 1 else 0)+(if f b e then 1 else 0))) h from rfl) ?_
 rw [Bt]
 refine Au (Gh (by decide)) ?_
 rw [Bt]
 refine Au Xu ?_
 rw [Bt,ZaD]
 exact ⟨rfl,.refl _⟩
end
section
variable {H W:Nat} {h:HD} {f:Nat→Nat→Bool}
end
section
variable {H W H' W':Nat} {f f':Nat→Nat→Bool} {h:HD} {r:Nat→Bool}
theorem ZaE {a b:Bool}:BH (lit a) (lit b) h=.ok (.bl (Bool.xor a b)) h:=by cases a<;>cases b<;>rfl
theorem ZaF {a b:Bool}:BH (.bl a) (.bl b) h=.ok (.bl (Bool.xor a b)) h:=by cases a<;>cases b<;>rfl
theorem R1 (hh:1≤H∧H≤8) (hw:1≤W∧W≤8) (hh':1≤H'∧H'≤8) (hw':1≤W'∧W'≤8):Pu (Dr [bD H W f,bD H' W' f'] h) h (.bl (decide (H=H')&&decide (W=W'))):=by
 change Wp (As 2 (K5 BS) [bD H W f,bD H' W' f'] h) _
 refine Eq.mpr (Bu) ?_
 simp
 refine (La hh hw).wp fun h1 s1=>?_
 refine (La hh' hw').wp fun h2 s2=>?_
 simp [E2]
 by_cases e:H=H'
 ·subst e
  simp [HY hh.1,Jl,s1.trans s2]
  rw [qaV]
  simp
  omega
 ·have:((H:Int)==(H':Int))=false:=by simpa using fun z=>e (by omega)
  simp [this,e,s1.trans s2]
theorem ZaG {d d':D} (hd:NoB h d∨(∃H W f,(1≤H∧H≤8)∧(1≤W∧W≤8)∧d=bD H W f)∧NoB h d'):Er (Dr [d,d'] h) h "NoBoard":=by
 change We (As 2 (K5 BS) [d,d'] h) _ _
 refine Eq.mpr (Jb) ?_
 simp
 rcases hd with n |⟨⟨H,W,f,hh,hw,rfl⟩,n⟩
 ·exact (NR n.1 n.2).we fun h1 s1=>⟨rfl,rfl,s1⟩
 ·refine (La hh hw).we fun h1 s1=>?_
  try simp
  exact (NR (n.1.sm s1) n.2).we fun h2 s2=>⟨rfl,rfl,s1.trans s2⟩
end
theorem R3 {n k:Nat} {e:Nat→D} {x:D} (hk:k<n):((List.range n).map e).take k++x::((List.range n).map e).drop (k+1)=(List.range n).map fun i=>if i=k then x else e i:=by
 have:=List.set_eq_take_append_cons_drop (l:=(List.range n).map e) (i:=k) (a:=x)
 rw [if_pos (by simpa using hk)] at this
 rw [←this]
 apply Ij
 ·simp
 ·intro i h1 h2
  simp [List.getElem_set,eq_comm]
theorem ZaH {x:Bool} {h:HD}:LW (.int 1) (lit x) h=.ok (lit (!x)) h:=by cases x<;>rfl
theorem ZaI {W B:Nat} {r:Nat→Bool} {v:Bool} (hB:B<W):D.tup (((List.range W).map fun j=>lit (r j)).take B++lit v::((List.range W).map fun j=>lit (r j)).drop (B+1))=AY W fun j=>if j=B then v else r j:=by
 unfold AY
 rw [R3 hB]
 congr 1
 refine Ib fun j _=>?_
 by_cases hj:j=B<;>simp [hj]
theorem ZaJ {H W A:Nat} {f:Nat→Nat→Bool} {r:Nat→Bool} (hA:A<H):D.tup (((List.range H).map fun i=>AY W (f i)).take A++AY W r::((List.range H).map fun i=>AY W (f i)).drop (A+1))=bD H W fun i=>if i=A then r else f i:=by
 unfold bD
 rw [R3 hA]
 congr 1
 refine Ib fun j _=>?_
 by_cases hj:j=A<;>simp [hj]
theorem ZaK {b H W:Nat} {h:HD} {Q:D→HD→Prop} (hx:BoxAt h b) (hb:0<b) (ht:TabAt h) (hh:1≤H∧H≤8) (hw:1≤W∧W≤8) (q:∀f f' h',BoxAt h' b→TabAt h'→Q (.tup [bD H W f,bD H W f']) h'):Wp (Ed [.loc b,.int (H:Nat),.int (W:Nat)] h) Q:=by
 change Wp (As 10 (NK B0 Ec EW Ay) [.loc b,.int (H:Nat),.int (W:Nat)] h) _
 refine Eq.mpr (Bu) ?_
 simp [-Aj]
 refine NU hx hh hw fun f h1 x1 s1=>?_
 have t1:=ht.smx s1 hb
 refine Eq.mpr (Aj) ?_
 try simp [-Aj]
 refine RU x1 hh.2 fun p h2 x2 s2=>?_
 refine RU x2 hw.2 fun p' h3 x3 s3=>?_
 have t3:=(t1.smx s2 hb).smx s3 hb
 try simp [-Aj]
 refine Eq.mpr (Aj) ?_
 try simp [-Aj]
 refine (ZaB hh hw).wp fun h4 s4=>?_
 generalize sw f p p'=g
 refine Eq.mpr (Aj) ?_
 try simp [-Aj]
 refine Ef (x3.sm s4) hb (t3.sm s4) (by decide) (by decide) fun d h5 ld x5 t5 s5=>?_
 by_cases hd:d=0
 ·subst hd
  try simp [-Aj]
  refine Ef x5 hb t5 (by omega) (by omega) fun A h6 lA x6 t6 s6=>?_
  refine Ef x6 hb t6 (by omega) (by omega) fun B h7 lB x7 t7 s7=>?_
  have hA:A<H:=by omega
  have hB:B<W:=by omega
  try simp [-Aj]
  refine Eq.mpr (Aj) ?_
  try simp [-Aj,GV hA,NY hB]
  unfold AY
  refine Au (KJ (by simp;omega)) ?_
  try simp [-Aj]
  refine Au (ZaH) ?_
  try simp [-Aj]
  refine Au (Eg (by simp;omega)) ?_
  try simp [-Aj]
  refine Au (KL (k:=B) (by omega) (by simp;omega)) ?_
  try simp [-Aj]
  refine Au (Eg (by simp;omega)) ?_
  try simp [-Aj]
  rw [ZaI hB]
  refine Eq.mpr (Aj) ?_
  try simp [-Aj]
  unfold bD
  refine Au (KJ (by simp;omega)) ?_
  try simp [-Aj]
  refine Au (Eg (by simp;omega)) ?_
  try simp [-Aj]
  refine Au (KL (k:=A) (by omega) (by simp;omega)) ?_
  try simp [-Aj]
  refine Au (Eg (by simp;omega)) ?_
  try simp [-Aj]
  rw [ZaJ hA]
  refine Eq.mpr (Aj) ?_
  simp
  exact q f _ h7 x7 t7
 ·have hd':¬(d:Int)=0:=by omega
  simp [hd,hd']
  exact q f g h5 x5 t5
def G4 (W:Nat) (f:Nat→Nat→Bool) (a b c:Nat):List Bm:=((List.range (W - (c+1))).map fun e=>(a,b,c,c+1+e)).filter (AN f)
def G3 (W:Nat) (f:Nat→Nat→Bool) (a b n:Nat):List Bm:=(List.range n).flatMap (G4 W f a b)
def G2 (W:Nat) (f:Nat→Nat→Bool) (a n:Nat):List Bm:=(List.range n).flatMap fun i=>G3 W f a (a+1+i) W
def G1 (H W:Nat) (f:Nat→Nat→Bool) (n:Nat):List Bm:=(List.range n).flatMap fun a=>G2 W f a (H - (a+1))
section
variable {H W:Nat} {h:HD} {f:Nat→Nat→Bool}
theorem ZaL:G1 H W f H=(AF H W).filter (AN f):=by
 unfold G1 G2 G3 G4 AF
 simp only [List.filter_flatMap]
theorem R4 {a b c:Nat} (hw:W≤8):(G4 W f a b c).length≤8:=by
 unfold G4
 have:=GZ (AN f) ((List.range (W - (c+1))).map fun e=>(a,b,c,c+1+e))
 simp at this
 omega
theorem R5 {a b n:Nat} (hw:W≤8):(G3 W f a b n).length≤n*8:=by
 have:=Lb (F:=G4 W f a b) (k:=8) (l:=List.range n) fun c _=>R4 hw
 rw [Ie] at this
 exact this
theorem R6 {a n:Nat} (hw:W≤8):(G2 W f a n).length≤n*64:=by
 have:=Lb (F:=fun i=>G3 W f a (a+1+i) W) (k:=64) (l:=List.range n) fun c _=>BK (R5 hw) (by omega)
 rw [Ie] at this
 exact this
theorem ZaM {n:Nat} (hh:H≤8) (hw:W≤8):(G1 H W f n).length≤n*512:=by
 have:=Lb (F:=fun a=>G2 W f a (H - (a+1))) (k:=512) (l:=List.range n) fun c _=>BK (R6 hw) (by omega)
 rw [Ie] at this
 exact this
theorem ZaN {a b n:Nat}:G3 W f a b (n+1)=G3 W f a b n++G4 W f a b n:=by unfold G3;rw [JF,List.flatMap_append];simp
theorem ZaO {a n:Nat}:G2 W f a (n+1)=G2 W f a n++G3 W f a (a+1+n) W:=by unfold G2;rw [JF,List.flatMap_append];simp
theorem ZaP {n:Nat}:G1 H W f (n+1)=G1 H W f n++G2 W f n (H - (n+1)):=by unfold G1;rw [JF,List.flatMap_append];simp
def N0 (W:Nat) (f:Nat→Nat→Bool) (a b:Nat):List D:=(List.range W).map fun j=>lit (Bool.xor (f a j) (f b j))
inductive F1 (H W:Nat) (f:Nat→Nat→Bool) (h:HD) (xs:List Nat) (ρ:Ai) (h':HD):Prop where
 |mk (n l:Nat) (y2 y3 y4 y5:Option D) (ex:xs=(List.range H).drop n) (hn:n≤H) (er:ρ=[some (bD H W f),some (.loc l),y2,y3,y4,y5]) (s:Sm h h') (e:h'[l]?=some (.lst ((G1 H W f n).map Az))):F1 H W f h xs ρ h'
inductive F2 (H W:Nat) (f:Nat→Nat→Bool) (h:HD) (a:Nat) (xs:List Nat) (ρ:Ai) (h':HD):Prop where
 |mk (n l:Nat) (y3 y4 y5:Option D) (ex:xs=(List.range (H - (a+1))).drop n) (hn:n≤H - (a+1)) (er:ρ=[some (bD H W f),some (.loc l),some (.int ((a:Nat):Int)),y3,y4,y5]) (s:Sm h h') (e:h'[l]?=some (.lst ((G1 H W f a++G2 W f a n).map Az))):F2 H W f h a xs ρ h'
inductive F3 (H W:Nat) (f:Nat→Nat→Bool) (h:HD) (a i m:Nat) (xs:List Nat) (ρ:Ai) (h':HD):Prop where
 |mk (n l:Nat) (y5:Option D) (ex:xs=(List.range W).drop n) (hn:n≤W) (er:ρ=[some (bD H W f),some (.loc l),some (.int ((a:Nat):Int)),some (.int ((a+1+i:Nat):Int)),some (.loc m),y5]) (s:Sm h h') (em:h'[m]?=some (.lst (N0 W f a (a+1+i)))) (e:h'[l]?=some (.lst ((G1 H W f a++G2 W f a i++G3 W f a (a+1+i) n).map Az))):F3 H W f h a i m xs ρ h'
theorem ZaQ {a b:Bool} {Q:D→HD→Prop} (q:Q (lit (Bool.xor a b)) h):Wp (Aq (lit a) (lit b) h) fun x h1=>Wp (DD x (.int 2) h1) Q:=by
 have key:∀a b:Bool,((if a then 1 else 0:Int)+(if b then 1 else 0)) % 2=if Bool.xor a b then 1 else 0:=by decide
 refine Au (show Aq (lit a) (lit b) h=.ok (.int ((if a then 1 else 0)+(if b then 1 else 0))) h from rfl) ?_
 rw [Bt]
 refine Au (Gh (by decide)) ?_
 rw [Bt,key]
 exact q
theorem R7 {Q:D→HD→Prop} (hh:1≤H∧H≤8) (hw:1≤W∧W≤8) (q:∀l h',Sm h h'→h'[l]?=some (.lst (((AF H W).filter (AN f)).map Az))→Q (.loc l) h'):Wp (Ca [bD H W f] h) Q:=by
 change Wp (As 6 NB [bD H W f] h) _
 refine Eq.mpr Bu ?_
 simp [-Aj]
 refine Bi (by simp) fun l h1 s1 e1 _ _=>?_
 refine Eq.mpr Aj ?_
 refine Eq.mpr CC ?_
 refine DJ (src:=[]) (xs:=List.range H) (fun i=>.int ((i:Nat):Int)) (F1 H W f h) ?_ (fun ys ρ h' _=>CY) ?_ ?_
 ·simp [E2,EF (show H≤1000 by omega)]
  exact ⟨0,l,_,_,_,_,by simp,by omega,rfl,s1,e1⟩
 ·rintro a xs ρ h2 ⟨n,l,y2,y3,y4,y5,ex,hn,rfl,s2,e2⟩
  obtain ⟨rfl,ha,rfl⟩:=Jn ex.symm
  refine ⟨_,rfl,?_⟩
  refine DJ (src:=[]) (xs:=List.range (H - (a+1))) (fun i=>.int ((a+1+i:Nat):Int)) (F2 H W f h a) ?_ (fun ys ρ h' _=>CY) ?_ ?_
  ·simp [E2]
   rw [show (a:Int)+1=((a+1:Nat):Int) by omega,Lc (by omega) (by omega)]
   exact ⟨rfl,0,l,_,_,_,by simp,by omega,rfl,s2,by unfold G2;simpa using e2⟩
  ·rintro i xs ρ h3 ⟨n,l3,y3,y4,y5,ex,hn,rfl,s3,e3⟩
   obtain ⟨rfl,hi,rfl⟩:=Jn ex.symm
   refine ⟨_,rfl,?_⟩
   refine Eq.mpr CC ?_
   refine Eq.mpr VR ?_
   refine FQ (src:=[]) (xs:=List.range W) (φ:=fun j=>.tup [lit (f a j),lit (f (a+1+i) j)]) (fun _=>true) (fun j=>lit (Bool.xor (f a j) (f (a+1+i) j))) (fun j=>[some (lit (f a j)),some (lit (f (a+1+i) j))]) ?_ (sz hw.2) (fun x _=>rfl) (fun x _ h' s'=>(.ok:Pu (.ok true h') h' true)) (fun x _ _ h' s'=>?_) fun m h4 s4 e4=>?_
   ·simp [GV ha,GV (show a+1+i<H by omega)]
    refine Au (show AI (bD H W f) (.int ((a:Int)+1+(i:Int))) h3=.ok (AY W (f (a+1+i))) h3 from by rw [show (a:Int)+1+(i:Int)=((a+1+i:Nat):Int) by omega];exact GV (by omega)) ?_
    rw [Bt]
    refine Au (Wz (n:=W) (e:=fun j=>lit (f a j)) (e':=fun j=>lit (f (a+1+i) j)) (show CL (AY W (f a)) h3=some (_,[]) from P3) (show CL (AY W (f (a+1+i))) h3=some (_,[]) from P3)) ?_
    rw [Bt]
    exact ⟨rfl,.refl _,fun h' s'=>CY⟩
   ·simp [Pu]
    exact ZaQ ⟨rfl,.refl _⟩
   rw [Do] at e4
   refine Eq.mpr Aj ?_
   refine DJ (src:=[]) (xs:=List.range W) (fun c=>.int ((c:Nat):Int)) (F3 H W f h a i m) ?_ (fun ys ρ h' _=>CY) ?_ ?_
   ·simp [MC e4,EF (show W≤1000 by omega)]
    exact ⟨0,l3,y5,by simp,by omega,by simp,s3.trans s4,e4,by unfold G3;simpa using s4 _ _ e3⟩
   ·rintro c xs ρ h5 ⟨n,l5,y5,ex,hn,rfl,s5,em5,e5⟩
    obtain ⟨rfl,hc,rfl⟩:=Jn ex.symm
    refine ⟨_,rfl,?_⟩
    have ixm:∀(h':HD) (j:Nat),Sm h5 h'→j<W→AI (.loc m) (.int (j:Nat)) h'=.ok (lit (Bool.xor (f a j) (f (a+1+i) j))) h':=fun h' j s hj=>Gg (s _ _ em5) (by unfold N0;simp [Ia,hj])
    simp
    refine FQ (src:=[]) (xs:=List.range (W - (c+1))) (φ:=fun e=>.int ((c+1+e:Nat):Int)) (fun e=>AN f (a,a+1+i,c,c+1+e)) (fun e=>Az (a,a+1+i,c,c+1+e)) (fun e=>[some (.int ((c+1+e:Nat):Int)),some (.int ((a:Nat):Int)),some (.int ((a+1+i:Nat):Int)),some (.int ((c:Nat):Int)),some (.loc m)]) ?_ (GX (by simp;omega)) (fun x _=>rfl) (fun x hx h' s'=>?_) (fun x _ _ h' s'=>?_) fun l6 h6 s6 e6=>?_
    ·simp [MC em5]
     rw [show (c:Int)+1=((c+1:Nat):Int) by omega]
     unfold N0
     rw [CS,Ie,Lc (by omega) (by omega)]
     exact ⟨rfl,.refl _,fun h' s'=>CY⟩
    ·have hx:=qbG.mp hx
     simp only [Pu,Mh,Ko,Kn,Km,ixm h' c s' hc,Bt,ixm h' (c+1+x) s' (by omega),ZaE]
     refine ⟨?_,.refl _⟩
     unfold AN
     simp only
     generalize f a c=a1
     generalize f a (c+1+x)=a2
     generalize f (a+1+i) c=a3
     generalize f (a+1+i) (c+1+x)=a4
     revert a1 a2 a3 a4
     decide
    ·simp [Pu,Az,Sm.refl]
    ·refine Au (HM (s6 _ _ e5) e6) ?_
     have b1:=ZaM (f:=f) (n:=a) hh.2 hw.2
     have b2:=R6 (f:=f) (a:=a) (n:=i) hw.2
     have b3:=R5 (f:=f) (a:=a) (b:=a+1+i) (n:=c) hw.2
     have eg:((List.range (W - (c+1))).filter fun e=>AN f (a,a+1+i,c,c+1+e)).map (fun e=>Az (a,a+1+i,c,c+1+e))=(G4 W f a (a+1+i) c).map Az:=by
      unfold G4
      rw [List.filter_map,DQ]
      rfl
     rw [eg]
     have b4:=R4 (f:=f) (a:=a) (b:=a+1+i) (c:=c) hw.2
     refine Bi (by simp;unfold sizeLine;omega) fun l7 h7 s7 e7 _ _=>?_
     simp only [DI]
     refine ⟨c+1,l7,_,rfl,by omega,rfl,(s5.trans s6).trans s7,(s6.trans s7) _ _ em5,?_⟩
     rw [e7,ZaN,←List.map_append,E4,E4]
     try rw [E4,E4]
   ·rintro ρ h5 ⟨n,l5,y5,ex,hn,rfl,s5,em5,e5⟩
    have:=Jo hn ex.symm
    subst this
    refine ⟨i+1,l5,_,_,_,rfl,by omega,rfl,s5,?_⟩
    rw [e5,ZaO,E4]
  ·rintro ρ h3 ⟨n,l3,y3,y4,y5,ex,hn,rfl,s3,e3⟩
   have:=Jo hn ex.symm
   subst this
   refine ⟨a+1,l3,_,_,_,_,rfl,by omega,rfl,s3,?_⟩
   rw [e3,ZaP]
 ·rintro ρ h2 ⟨n,l,y2,y3,y4,y5,ex,hn,rfl,s2,e2⟩
  have:=Jo hn ex.symm
  subst this
  simp
  rw [ZaL] at e2
  exact q l h2 s2 e2
end
theorem N1:∀(x:List Int),HT.lexLt x x=false
 |[]=>rfl
 |a::x=>by rw [HT.lexLt_cons,if_pos rfl];exact N1 x
theorem R8:∀{x y z:List Int},HT.lexLt x y=true→HT.lexLt y z=true→HT.lexLt x z=true
 |[],[],_,h,_=>by rw [HT.lexLt_nil_nil] at h;cases h
 |[],_::_,[],_,h=>by rw [HT.lexLt_cons_nil] at h;cases h
 |[],_::_,_::_,_,_=>HT.lexLt_nil_cons _ _
 |_::_,[],_,h,_=>by rw [HT.lexLt_cons_nil] at h;cases h
 |_::_,_::_,[],_,h=>by rw [HT.lexLt_cons_nil] at h;cases h
 |a::x,b::y,c::z,h,k=>by
  rw [HT.lexLt_cons] at h k ⊢
  by_cases e1:a=b
  ·rw [if_pos e1] at h
   by_cases e2:b=c
   ·rw [if_pos e2] at k
    rw [if_pos (e1.trans e2)]
    exact R8 h k
   ·rw [if_neg e2] at k
    rw [if_neg (by rw [e1];exact e2),e1]
    exact k
  ·rw [if_neg e1] at h
   have h':=of_decide_eq_true h
   by_cases e2:b=c
   ·rw [if_neg (by rw [←e2];exact e1),←e2]
    exact h
   ·rw [if_neg e2] at k
    have k':=of_decide_eq_true k
    rw [if_neg (by omega)]
    exact decide_eq_true (by omega)
theorem N2 {nss:List (List Int)}:∀n k,k≤n→Ct nss k (argBest (Ct nss) n)=false
 |0,k,hk=>by
  have:k=0:=by omega
  subst this
  exact N1 _
 |n+1,k,hk=>by
  unfold argBest
  cases hb:Ct nss (n+1) (argBest (Ct nss) n) with
  |true=>
   simp only [if_true]
   by_cases e:k=n+1
   ·subst e;exact N1 _
   ·cases hk2:Ct nss k (n+1) with
    |false=>rfl
    |true=>
     have h1:=N2 (nss:=nss) n k (by omega)
     have h2:Ct nss k (argBest (Ct nss) n)=true:=R8 hk2 hb
     rw [h1] at h2
     cases h2
  |false=>
   simp only [BP,if_false]
   by_cases e:k=n+1
   ·subst e;exact hb
   ·exact N2 n k (by omega)
def A7 (x:Bm):List Int:=[((x.1:Nat):Int),((x.2.1:Nat):Int),((x.2.2.1:Nat):Int),((x.2.2.2:Nat):Int)]
theorem R9 {x y:Bm} (e:A7 x=A7 y):x=y:=by
 obtain ⟨a,b,c,d⟩:=x
 obtain ⟨a',b',c',d'⟩:=y
 simp [A7] at e
 obtain ⟨e1,e2,e3,e4⟩:=e
 rw [Int.ofNat.inj e1,Int.ofNat.inj e2,Int.ofNat.inj e3,Int.ofNat.inj e4]
def Lx (x y:Bm):Prop:=HT.lexLt (A7 x) (A7 y)=true
theorem Ld {x y:Bm} (h:x.1<y.1∨x.1=y.1∧(x.2.1<y.2.1∨x.2.1=y.2.1∧(x.2.2.1<y.2.2.1∨x.2.2.1=y.2.2.1∧x.2.2.2<y.2.2.2))):Lx x y:=by
 unfold Lx A7
 rw [HT.lexLt_cons,HT.lexLt_cons,HT.lexLt_cons,HT.lexLt_cons,HT.lexLt_nil_nil]
 rcases h with h |⟨e1,h |⟨e2,h |⟨e3,h⟩⟩⟩
 ·rw [if_neg (by omega)];exact decide_eq_true (by omega)
 ·rw [if_pos (by omega),if_neg (by omega)];exact decide_eq_true (by omega)
 ·rw [if_pos (by omega),if_pos (by omega),if_neg (by omega)];exact decide_eq_true (by omega)
 ·rw [if_pos (by omega),if_pos (by omega),if_pos (by omega),if_neg (by omega)];exact decide_eq_true (by omega)
theorem ZaR {H W:Nat}:(AF H W).Pairwise Lx:=by
 unfold AF
 rw [Ll]
 refine ⟨fun a _=>?_,qbU.imp fun {a a'} ha x hx y hy=>?_⟩
 ·rw [Ll]
  refine ⟨fun b _=>?_,qbU.imp fun {b b'} hb x hx y hy=>?_⟩
  ·rw [Ll]
   refine ⟨fun c _=>?_,qbU.imp fun {c c'} hc x hx y hy=>?_⟩
   ·rw [List.pairwise_map]
    refine qbU.imp ?_
    intro e e' he
    exact Ld (.inr ⟨rfl,.inr ⟨rfl,.inr ⟨rfl,by show c+1+e<c+1+e';omega⟩⟩⟩)
   ·obtain ⟨e,_,rfl⟩:=qaZ.mp hx
    obtain ⟨e',_,rfl⟩:=qaZ.mp hy
    exact Ld (.inr ⟨rfl,.inr ⟨rfl,.inl hc⟩⟩)
  ·simp only [List.mem_flatMap,qaZ] at hx hy
   obtain ⟨c,_,e,_,rfl⟩:=hx
   obtain ⟨c',_,e',_,rfl⟩:=hy
   exact Ld (.inr ⟨rfl,.inl (by show a+1+b<a+1+b';omega)⟩)
 ·simp only [List.mem_flatMap,qaZ] at hx hy
  obtain ⟨b,_,c,_,e,_,rfl⟩:=hx
  obtain ⟨b',_,c',_,e',_,rfl⟩:=hy
  exact Ld (.inl ha)
def df (f f':Nat→Nat→Bool) (x:Bm):Bool:=Bool.xor (AN f x) (AN f' x)
def CP (H W:Nat) (f f':Nat→Nat→Bool):D:=match (AF H W).find? (df f f') with
 |some x=>Az x
 |none=>.non
theorem ZaS {f f':Nat→Nat→Bool}:df f f'=df f' f:=by
 funext x
 exact Bool.xor_comm _ _
theorem ZaT {H W:Nat} {f f':Nat→Nat→Bool}:CP H W f f'=CP H W f' f:=by unfold CP;rw [ZaS]
def BI (H W:Nat) (f f':Nat→Nat→Bool):List Bm:=((AF H W).filter (AN f)).filter (fun x=>!AN f' x)++((AF H W).filter (AN f')).filter (fun x=>!AN f x)
theorem ap_mem {H W:Nat} {f f':Nat→Nat→Bool} {x:Bm}:x∈BI H W f f'↔x∈AF H W∧df f f' x=true:=by
 unfold BI df
 simp only [qaM,qb6]
 cases AN f x<;>cases AN f' x<;>simp
theorem ap_nil {H W:Nat} {f f':Nat→Nat→Bool}:BI H W f f'=[]↔(AF H W).find? (df f f')=none:=by
 rw [List.find?_eq_none]
 constructor
 ·intro e x hx hd
  have:x∈BI H W f f':=ap_mem.mpr ⟨hx,hd⟩
  rw [e] at this
  cases this
 ·intro e
  cases h:BI H W f f' with
  |nil=>rfl
  |cons x xs=>
   have:x∈BI H W f f':=by rw [h];exact AO
   have:=ap_mem.mp this
   exact absurd this.2 (e x this.1)
theorem ZaU {H W:Nat} {f f':Nat→Nat→Bool} {z y:Bm} (hz:(AF H W).find? (df f f')=some z) (hy:y∈AF H W) (hd:df f f' y=true):y=z∨Lx z y:=by
 obtain ⟨hp,as,bs,e,hall⟩:=List.find?_eq_some_iff_append.mp hz
 have pw:=ZaR (H:=H) (W:=W)
 rw [e] at hy pw
 rcases qaM.mp hy with h |h
 ·have:=hall y h
  rw [hd] at this
  cases this
 ·rcases qa8.mp h with h |h
  ·exact .inl h
  ·exact .inr ((List.pairwise_cons.mp (List.pairwise_append.mp pw).2.1).1 y h)
theorem ZaV {H W:Nat} {f f':Nat→Nat→Bool} (hne:BI H W f f'≠[]):((BI H W f f').map Az).getD (argBest (Ct ((BI H W f f').map A7)) (((BI H W f f').map A7).length - 1)) .non=CP H W f f':=by
 have hpos:0<(BI H W f f').length:=List.length_pos_iff.mpr hne
 generalize hb:argBest (Ct ((BI H W f f').map A7)) (((BI H W f f').map A7).length - 1)=i
 have hi:i<(BI H W f f').length:=by
  have:=Np (bt:=Ct ((BI H W f f').map A7)) (((BI H W f f').map A7).length - 1)
  rw [hb] at this
  simp at this
  omega
 cases hz:(AF H W).find? (df f f') with
 |none=>exact absurd (ap_nil.mpr hz) hne
 |some z=>
  have zm:z∈BI H W f f':=ap_mem.mpr ⟨Lg hz,List.find?_some hz⟩
  obtain ⟨j,hj⟩:=List.mem_iff_getElem?.mp zm
  have hjl:=(qa4.mp hj).1
  have hm:=N2 (nss:=(BI H W f f').map A7) (((BI H W f f').map A7).length - 1) j (by simp;omega)
  rw [hb] at hm
  have at':∀k,k<(BI H W f f').length→∃y,(BI H W f f')[k]?=some y∧((BI H W f f').map A7).getD k []=A7 y:=fun k hk=>⟨(BI H W f f')[k],A8 hk,by rw [Ej,Cb,A8 hk];rfl⟩
  obtain ⟨y,hy,ey⟩:=at' i hi
  obtain ⟨z',hz',ez⟩:=at' j hjl
  rw [hj] at hz'
  cases hz'
  unfold Ct at hm
  rw [ey,ez] at hm
  have ym:=ap_mem.mp (Fw hy)
  rcases ZaU hz ym.1 ym.2 with h |h
  ·subst h
   unfold CP
   rw [hz,Ej,Cb,hy]
   rfl
  ·unfold Lx at h
   rw [h] at hm
   cases hm
theorem Sa:∀xs ys:List Int,PyData.eqvAll (xs.map fun i=>.int i) (ys.map fun i=>.int i)=decide (xs=ys)
 |[],[]=>rfl
 |[],_::_=>rfl
 |_::_,[]=>rfl
 |x::xs,y::ys=>by
  rw [Bn,Bn,PyData.eqvAll,Sa xs ys,qaV]
  simp [PyData.eqv]
theorem Sb:∀xs ys:List (List Int),PyData.eqvAll (xs.map fun r=>.tuple (r.map fun i=>.int i)) (ys.map fun r=>.tuple (r.map fun i=>.int i))=decide (xs=ys)
 |[],[]=>rfl
 |[],_::_=>rfl
 |_::_,[]=>rfl
 |x::xs,y::ys=>by
  rw [Bn,Bn,PyData.eqvAll,Sb xs ys,PyData.eqv,Sa,qaV]
  simp
theorem ZaW {l k:Nat} {xs ys:List Bm} {h:HD} (e1:h[l]?=some (.lst (xs.map Az))) (e2:h[k]?=some (.lst (ys.map Az))):BH (.loc l) (.loc k) h=.ok (.bl (!decide (xs=ys))) h:=by
 have py:∀x,PyN 1 (Az x) (.tuple ((A7 x).map fun i=>.int i)):=fun x=>V5 (n:=0) (xs:=A7 x) (e:=D.int) (g:=PyData.int) fun _ _=>V4
 have a:∀(j:Nat) (zs:List Bm),h[j]?=some (.lst (zs.map Az))→AL h 8 (.loc j)=some (.list (zs.map fun x=>.tuple ((A7 x).map fun i=>.int i))):=fun j zs e=>by
  have:Ax ((zs.map Az).map (AL h 7))=some (zs.map fun x=>.tuple ((A7 x).map fun i=>.int i)):=by
   rw [DQ]
   exact FR fun x hx'=>Po ((py x).rd 7 (by omega))
  simp only [AL,e,this,G8]
 have sh:∀zs:List Bm,SeqAt.shaped (.list (zs.map fun x=>PyData.tuple ((A7 x).map fun i=>.int i)))=true:=fun zs=>by
  unfold SeqAt.shaped
  have l0:(PyData.list (zs.map fun x=>PyData.tuple ((A7 x).map fun i=>.int i))).canLay0=true:=by
   rw [PyData.canLay0];exact Mq fun x h=>(py x).ly
  have d0:(PyData.list (zs.map fun x=>PyData.tuple ((A7 x).map fun i=>.int i))).depth≤1+1:=by
   rw [PyData.depth]
   exact Nat.succ_le_succ (Mr fun x h=>(py x).dp)
  rw [l0]
  simp
  omega
 change Ez (.loc l) (.loc k) h=_
 simp only [Ez,Gb,a l xs e1,a k ys e2]
 rw [if_pos ⟨sh xs,sh ys⟩,PyData.eqv]
 have er:=Sb (xs.map A7) (ys.map A7)
 rw [DQ,DQ] at er
 have ev:PyData.eqvAll (xs.map fun x=>PyData.tuple ((A7 x).map fun i=>.int i)) (ys.map fun x=>PyData.tuple ((A7 x).map fun i=>.int i))=decide (xs=ys):=by
  refine Eq.trans er ?_
  rw [qaV,decide_eq_true_iff,decide_eq_true_iff]
  exact ⟨fun z=>(List.map_inj_right fun _ _ e=>R9 e).mp z,fun z=>by rw [z]⟩
 rw [ev]
theorem N3 {x:Bm}:Ft (Az x)=some (A7 x):=by
 unfold Az A7
 simp [Ft,Gu]
theorem ZaX {acc:List (Kyd×D)} {k k':Kyd} {v:D}:((B6 acc k v).any fun p=>decide (p.1=k'))=((acc.any fun p=>decide (p.1=k'))||decide (k=k')):=by
 unfold B6
 by_cases z:(acc.any fun p=>decide (p.1=k))=true
 ·rw [if_pos z]
  have e1:((acc.map fun p=>if p.1=k then (p.1,v) else p).any fun p=>decide (p.1=k'))=acc.any fun p=>decide (p.1=k'):=by
   rw [List.any_map]
   congr 1
   funext p
   show decide ((if p.1=k then (p.1,v) else p).1=k')=_
   split<;>rfl
  rw [e1]
  by_cases h:k=k'
  ·subst h;rw [z];simp
  ·simp [h]
 ·rw [if_neg z,List.any_append]
  simp
theorem Se:∀{ps acc:List (Kyd×D)} {k:Kyd},((ps.foldl (fun acc p=>B6 acc p.1 p.2) acc).any fun p=>decide (p.1=k))=((acc.any fun p=>decide (p.1=k))||ps.any fun p=>decide (p.1=k))
 |[],acc,k=>by simp
 |p::ps,acc,k=>by
  rw [Ik,Se,ZaX,List.any_cons,Bool.or_assoc]
theorem ZaY {acc:List (Kyd×D)} {ns:List Int} {v:D} (h:ES acc=true):ES (B6 acc (.t ns) v)=true:=by
 unfold ES B6 at *
 rw [qaO] at *
 split
 ·intro p hp
  obtain ⟨q,hq,rfl⟩:=qaZ.mp hp
  have:=h q hq
  split
  ·exact this
  ·exact this
 ·intro p hp
  rcases qaM.mp hp with z |z
  ·exact h p z
  ·rw [qaI] at z;subst z;rfl
theorem Sg:∀{xs:List Bm} {acc:List (Kyd×D)},ES acc=true→ES ((xs.map fun x=>(Kyd.t (A7 x),D.bl true)).foldl (fun acc p=>B6 acc p.1 p.2) acc)=true
 |[],acc,h=>h
 |x::xs,acc,h=>by
  rw [Bn,Ik]
  exact Sg (ZaY h)
def Di (xs:List Bm):List (Kyd×D):=(xs.map fun x=>(Kyd.t (A7 x),D.bl true)).foldl (fun acc p=>B6 acc p.1 p.2) []
theorem Sh {l:Nat} {xs:List Bm} {h:HD} (e:h[l]?=some (.lst (xs.map fun x=>.tup [Az x,.bl true]))):Gv (.loc l) h=.ok (.loc h.length) (h++[.dic false (Di xs)]):=by
 have ep:Ax ((xs.map fun x=>D.tup [Az x,.bl true]).map LS.pairD)=some (xs.map fun x=>(Kyd.t (A7 x),D.bl true)):=by
  rw [DQ]
  exact FR fun x _=>by
   show LS.pairD (.tup [Az x,.bl true])=_
   simp only [LS.pairD,N3]
   rfl
 simp only [Gv,e,ep]
 rfl
theorem Si {l:Nat} {xs:List Bm} {x:Bm} {fz:Bool} {h:HD} (e:h[l]?=some (.dic fz (Di xs))):Fu true (Az x) (.loc l) h=.ok (.bl (!decide (x∈xs))) h:=by
 have ha:ES (Di xs)=true:=Sg rfl
 have hk:((Di xs).any fun p=>decide (p.1=.t (A7 x)))=decide (x∈xs):=by
  unfold Di
  rw [Se,qaV,decide_eq_true_iff]
  simp only [List.any_nil,Bool.false_or,List.any_map,List.any_eq_true,Function.comp_apply,decide_eq_true_iff]
  constructor
  ·rintro ⟨y,hy,e⟩
   have:A7 y=A7 x:=by injection e
   rw [←R9 this]
   exact hy
  ·intro hx
   exact ⟨x,hx,rfl⟩
 simp only [Fu,N3,e]
 rw [if_pos ha,hk,Bool.true_xor]
theorem ZaZ {l:Nat} {xs:List Bm} {h:HD} (hne:xs≠[]) (e:h[l]?=some (.lst (xs.map Az))):HV (.loc l) h=.ok ((xs.map Az).getD (argBest (Ct (xs.map A7)) ((xs.map A7).length - 1)) .non) h:=by
 have ep:Ax ((xs.map Az).map Ft)=some (xs.map A7):=by
  rw [DQ]
  exact FR fun x _=>N3
 simp only [HV,e,ep]
 rw [if_neg (by simpa using hne)]
section
variable {H W:Nat} {f f':Nat→Nat→Bool} {h:HD}
inductive Sj (H W:Nat) (f f':Nat→Nat→Bool) (l:Nat) (h:HD) (xs:List Bm) (ρ:Ai) (h':HD):Prop where
 |mk (dn:List Bm) (y:Option D) (ex:dn++xs=AF H W) (er:ρ=[some (bD H W f),some (bD H W f'),y]) (s:Sm h h') (e:h'[l]?=some (.lst ((AF H W).map Az))) (o:∀x∈dn,df f f' x=false):Sj H W f f' l h xs ρ h'
theorem N4 (hh:1≤H∧H≤8) (hw:1≤W∧W≤8):Pu (Bq [bD H W f,bD H W f'] h) h (CP H W f f'):=by
 change Wp (As 3 (Jj Dr BZ BU) [bD H W f,bD H W f'] h) _
 refine Eq.mpr Bu ?_
 simp [-Aj]
 refine (R1 hh hw hh hw).wp fun h1 s1=>?_
 simp [-Aj]
 obtain ⟨d,h2,e2,l,rfl,s2,f2⟩:=(R0 (f:=f) (h:=h1) (Q:=fun d h'=>∃l,d=.loc l∧Sm h1 h'∧h'[l]?=some (.lst ((AF H W).map Az))) hh hw fun l h' s e=>⟨l,rfl,s,e⟩).ex
 refine Eq.mpr Aj ?_
 refine Eq.mpr CC ?_
 refine DJ (src:=[(l,(AF H W).map Az)]) (xs:=AF H W) Az (Sj H W f f' l h) ?_ (fun ys ρ h' ⟨_,_,_,_,_,e,_⟩=>FO e) ?_ ?_
 ·simp
  refine Au e2 ?_
  rw [Bt,FU f2]
  exact ⟨rfl,[],_,rfl,rfl,s1.trans s2,f2,fun x hx=>nomatch hx⟩
 ·rintro x xs ρ h3 ⟨dn,y,ex,rfl,s3,e3,o⟩
  refine ⟨_,rfl,?_⟩
  have hx:x∈AF H W:=by rw [←ex];simp
  simp
  refine (NZ (Jp hx)).wp fun h4 s4=>?_
  refine (NZ (Jp hx)).wp fun h5 s5=>?_
  refine Au ZaF ?_
  rw [Bt]
  cases z:Bool.xor (AN f x) (AN f' x) with
  |false=>
   simp [DI]
   exact ⟨dn++[x],_,by simpa using ex,rfl,(s3.trans s4).trans s5,(s4.trans s5) _ _ e3,fun y hy=>by
    rcases qaM.mp hy with w |w
    ·exact o y w
    ·rw [qaI] at w;subst w;exact z⟩
  |true=>
   have ez:(AF H W).find? (df f f')=some x:=List.find?_eq_some_iff_append.mpr ⟨z,dn,xs,ex.symm,fun a ha=>by rw [o a ha];rfl⟩
   simp [DI]
   refine ⟨?_,(s3.trans s4).trans s5⟩
   unfold CP
   rw [ez]
 ·rintro ρ h3 ⟨dn,y,ex,rfl,s3,e3,o⟩
  have ez:(AF H W).find? (df f f')=none:=List.find?_eq_none.mpr fun x hx=>by
   rw [Fy] at ex
   rw [←ex] at hx
   rw [o x hx]
   decide
  simp
  refine ⟨?_,s3⟩
  unfold CP
  rw [ez]
theorem Sk {x:Bm} (ok:NW H W x) (hh:H≤8) (hw:W≤8):Rp 1 19 (Az x):=by
 obtain ⟨h1,h2,h3,h4⟩:=ok
 exact Xq (n:=0) (L:=2) (k:=4) (fun d hd=>by
  simp only [qa8,Cw,or_false] at hd
  rcases hd with rfl |rfl |rfl |rfl<;>exact Xs (by omega) (by omega)) (by simp)
theorem Za0 (hh:H≤8) (hw:W≤8):∃x:Str,∀h,BX (CP H W f f') h=.ok (.str x) h:=by
 unfold CP
 cases hz:(AF H W).find? (df f f') with
 |none=>exact ⟨_,fun h=>rfl⟩
 |some z=>exact Xr (Sk (Jp (Lg hz)) hh hw) (by decide) (by unfold sizeLine;decide)
theorem Za1:((AF H W).filter (AN f)).filter (fun x=>!decide (x∈(AF H W).filter (AN f')))=((AF H W).filter (AN f)).filter (fun x=>!AN f' x):=List.filter_congr fun x hx=>by
 have hx':=(qb6.mp hx).1
 congr 1
 rw [qaV,decide_eq_true_iff,qb6]
 exact ⟨fun z=>z.2,fun z=>⟨hx',z⟩⟩
theorem GY {g:Nat→Nat→Bool} (hh:H≤8) (hw:W≤8):((AF H W).filter (AN g)).length≤1000:=BK (GZ _ _) (NX hh hw)
theorem Sl {Q:D→HD→Prop} {l:Nat} (hh:1≤H∧H≤8) (hw:1≤W∧W≤8) (el:h[l]?=some (.lst (((AF H W).filter (AN f)).map Az))) (q:∀h',Sm h h'→Q (.bl true) h'):Wp (Ds [bD H W f,bD H W f',.loc l] h) Q:=by
 change Wp (As 8 (NM Ca Bq) [bD H W f,bD H W f',.loc l] h) _
 refine Eq.mpr Bu ?_
 simp [-Aj]
 refine R7 hh hw fun l3 h1 s1 e3=>?_
 refine Eq.mpr Aj ?_
 simp [-Aj]
 have sm:∀{h:HD} {c:Cell},Sm h (h++[c]):=fun {h c}=>.app _ _
 refine FQ (src:=[(l3,((AF H W).filter (AN f')).map Az)]) (xs:=(AF H W).filter (AN f')) (φ:=Az) (fun _=>true) (fun x=>.tup [Az x,.bl true]) (fun x=>[some (Az x)]) ?_ (GX (GY hh.2 hw.2)) (fun x _=>rfl) (fun x _ h' s'=>(.ok:Pu (.ok true h') h' true)) (fun x _ _ h' s'=>?_) fun la h2 s2 ea=>?_
 ·simp [FU e3]
  exact ⟨.refl _,fun h' s'=>FO (s' _ _ e3)⟩
 ·simp [Pu,Sm.refl]
 rw [Do] at ea
 refine Au (Sh ea) ?_
 rw [Bt]
 have ed4:(h2++[Cell.dic false (Di ((AF H W).filter (AN f')))])[h2.length]?=some (.dic false (Di ((AF H W).filter (AN f')))):=by simp
 have t2:Sm h (h2++[Cell.dic false (Di ((AF H W).filter (AN f')))]):=(s1.trans s2).trans sm
 have e3b:=(s2.trans (sm (c:=Cell.dic false (Di ((AF H W).filter (AN f')))))) _ _ e3
 generalize (h2++[Cell.dic false (Di ((AF H W).filter (AN f')))])=h3 at *
 generalize h2.length=l4 at *
 refine Eq.mpr Aj ?_
 simp [-Aj]
 refine FQ (src:=[(l,((AF H W).filter (AN f)).map Az)]) (xs:=(AF H W).filter (AN f)) (φ:=Az) (fun _=>true) (fun x=>.tup [Az x,.bl true]) (fun x=>[some (Az x)]) ?_ (GX (GY hh.2 hw.2)) (fun x _=>rfl) (fun x _ h' s'=>(.ok:Pu (.ok true h') h' true)) (fun x _ _ h' s'=>?_) fun lb h4 s4 eb=>?_
 ·simp [FU (t2 _ _ el)]
  exact ⟨.refl _,fun h' s'=>FO (s' _ _ (t2 _ _ el))⟩
 ·simp [Pu,Sm.refl]
 rw [Do] at eb
 refine Au (Sh eb) ?_
 rw [Bt]
 have ed5:(h4++[Cell.dic false (Di ((AF H W).filter (AN f)))])[h4.length]?=some (.dic false (Di ((AF H W).filter (AN f)))):=by simp
 have t5:Sm h3 (h4++[Cell.dic false (Di ((AF H W).filter (AN f)))]):=s4.trans sm
 generalize (h4++[Cell.dic false (Di ((AF H W).filter (AN f)))])=h5 at *
 generalize h4.length=l5 at *
 refine Eq.mpr Aj ?_
 simp [-Aj]
 have el5:=(t2.trans t5) _ _ el
 have e35:=t5 _ _ e3b
 have ed45:=t5 _ _ ed4
 refine FQ (src:=[(l,((AF H W).filter (AN f)).map Az)]) (xs:=(AF H W).filter (AN f)) (φ:=Az) (fun x=>!decide (x∈(AF H W).filter (AN f'))) Az (fun x=>[some (Az x),some (.loc l4)]) ?_ (GX (GY hh.2 hw.2)) (fun x _=>rfl) (fun x _ h' s'=>?_) (fun x _ _ h' s'=>?_) fun lc h6 s6 ec=>?_
 ·simp [FU el5]
  exact ⟨.refl _,fun h' s'=>FO (s' _ _ el5)⟩
 ·simp only [Pu,Mh,Ko,Kn,Km,Bt,Si (s' _ _ ed45)]
  exact ⟨rfl,.refl _⟩
 ·simp [Pu,Sm.refl]
 refine FQ (src:=[(l3,((AF H W).filter (AN f')).map Az)]) (xs:=(AF H W).filter (AN f')) (φ:=Az) (fun x=>!decide (x∈(AF H W).filter (AN f))) Az (fun x=>[some (Az x),some (.loc l5)]) ?_ (GX (GY hh.2 hw.2)) (fun x _=>rfl) (fun x _ h' s'=>?_) (fun x _ _ h' s'=>?_) fun ld h7 s7 ed=>?_
 ·simp [FU (s6 _ _ e35)]
  exact ⟨.refl _,fun h' s'=>FO (s' _ _ (s6 _ _ e35))⟩
 ·simp only [Pu,Mh,Ko,Kn,Km,Bt,Si ((s6.trans s') _ _ ed5)]
  exact ⟨rfl,.refl _⟩
 ·simp [Pu,Sm.refl]
 rw [Za1] at ec ed
 refine Au (HM (s7 _ _ ec) ed) ?_
 have ls:∀g g':Nat→Nat→Bool,(((AF H W).filter (AN g)).filter fun x=>!AN g' x).length≤1000:=fun g g'=>BK (GZ _ _) (GY hh.2 hw.2)
 have l1:=ls f f'
 have l2:=ls f' f
 refine Bi (by simp only [El,CS];unfold sizeLine;omega) fun l6 h8 s8 e8 _ _=>?_
 rw [←List.map_append] at e8
 have e8:h8[l6]?=some (.lst ((BI H W f f').map Az)):=e8
 refine Eq.mpr Aj ?_
 have T8:Sm h h8:=(((t2.trans t5).trans s6).trans s7).trans s8
 simp [-Aj]
 refine Bi (by simp) fun l9 h9 s9 e9 _ _=>?_
 refine Au (ZaW (ys:=[]) (s9 _ _ e8) e9) ?_
 rw [Bt]
 obtain ⟨x,rx⟩:=Za0 (f:=f) (f':=f') hh.2 hw.2
 have fin:∀h10,Sm h9 h10→Wp (AM (Ey (Ah Ck (Ag (Am BX) (Aa (Ag Bq (Aa (Ab 0) (Aa (Ab 1) (Ae)))) (Ae))) (Ag (Am BX) (Aa (Ab 7) (Ae)))) (Ah Ck (Ag (Am BX) (Aa (Ag Bq (Aa (Ab 1) (Aa (Ab 0) (Ae)))) (Ae))) (Ag (Am BX) (Aa (Ab 7) (Ae))))) [some (bD H W f),some (bD H W f'),some (.loc l),some (.loc l3),some (.loc l4),some (.loc l5),some (.loc l6),some (CP H W f f')] h10) (Hx Q):=fun h10 s10=>by
  simp
  refine (N4 hh hw).wp fun h11 s11=>?_
  simp [rx]
  refine (N4 (f:=f') (f':=f) hh hw).wp fun h12 s12=>?_
  rw [ZaT]
  simp [rx]
  exact q h12 (((T8.trans s9).trans s10).trans (s11.trans s12))
 by_cases z:BI H W f f'=[]
 ·have ef:CP H W f f'=.non:=by unfold CP;rw [ap_nil.mp z]
  simp [-Aj,z]
  refine Eq.mpr Aj ?_
  have:=fin h9 (.refl _)
  rw [ef] at this
  exact this
 ·simp [-Aj,z]
  refine Au (ZaZ z (s9 _ _ e8)) ?_
  rw [Bt,ZaV z]
  refine Eq.mpr Aj ?_
  exact fin h9 (.refl _)
end
@[irreducible] noncomputable def Jq:MS:=AA 2 (Ag Ea (Aa (Ab 0) (Aa (Ab 1) (Ae))))
@[irreducible] noncomputable def Jr:MS:=FM 3 4 (Aa (Ah Aq (mC (.int 1)) (Ag Ay (Aa (Ab 2) (Aa (mC (.int 8)) (Ae))))) (Aa (Ah Aq (mC (.int 1)) (Ag Ay (Aa (Ab 2) (Aa (mC (.int 8)) (Ae))))) (Ae)))
@[irreducible] noncomputable def Js:MS:=FN (Dk 5 6) (Ag Ed (Aa (Ab 2) (Aa (Ab 3) (Aa (Ab 4) (Ae)))))
@[irreducible] noncomputable def Jt:MS:=AA 7 (Ag Ca (Aa (Ab 5) (Ae)))
@[irreducible] noncomputable def Ju:MS:=Ci (Cg (Aa (mC (.int 2)) (Ae))) (A3 8) (Ak (AA 9 (Ag Dh (Aa (Ab 5) (Ae)))) (Ak (Bo (Bk (Ah BH (Ag (Am BX) (Aa (Ab 9) (Ae))) (Ag (Am BX) (Aa (Ab 7) (Ae))))) (AM (mC (.bl false))) (Br)) (Dj (Ff (Ab 9) (mC .non)))))
@[irreducible] noncomputable def Jv:MS:=Bo (DU (CW (CA (Ag Ds (Aa (Ab 5) (Aa (Ab 6) (Aa (Ab 7) (Ae))))))) (Bk (Ah ID (Ag Bq (Aa (Ab 6) (Aa (Ab 6) (Ae)))) (mC .non)))) (AM (mC (.bl false))) (Br)
@[irreducible] noncomputable def Jw:MS:=Bo (CW (CA (Ag Ds (Aa (Ab 5) (Aa (Ag B0 (Aa (Ab 2) (Aa (Ab 3) (Aa (Ab 4) (Ae))))) (Aa (Ab 7) (Ae))))))) (AM (mC (.bl false))) (Br)
@[irreducible] noncomputable def Jx:MS:=AA 10 (Ag B0 (Aa (Ab 2) (Aa (Ah Aq (mC (.int 1)) (Ag Ay (Aa (Ab 2) (Aa (mC (.int 8)) (Ae))))) (Aa (Ah Aq (mC (.int 1)) (Ag Ay (Aa (Ab 2) (Aa (mC (.int 8)) (Ae))))) (Ae)))))
@[irreducible] noncomputable def Jy:MS:=Bo (DU (Bk (Ah BH (Ag (Am Bc) (Aa (Ab 10) (Ae))) (Ab 3))) (Bk (Ah BH (Ag (Am Bc) (Aa (Ah AI (Ab 10) (mC (.int 0))) (Ae))) (Ab 4)))) (Bo (Bk (Ah BH (De [5,10] B7 (Ag Bq (Aa (Ab 0) (Aa (Ab 1) (Ae))))) (mC (.str "! unlike")))) (AM (mC (.bl false))) (Br)) (Br)
@[irreducible] noncomputable def Jz:MS:=AA 11 (Ag Eb (Aa (Ab 2) (Aa (Ab 5) (Ae))))
@[irreducible] noncomputable def JA:MS:=Bo (Bk (Ah BH (De [11] B7 (Ag Dh (Aa (Ab 0) (Ae)))) (mC (.str "! board")))) (AM (mC (.bl false))) (Br)
@[irreducible] noncomputable def JB:MS:=Ci (Cr (BC (Aa (A2 (Aa (Ab 11) (Aa (Ab 10) (Ae)))) (Aa (A2 (Aa (Ab 10) (Aa (Ab 11) (Ae)))) (Aa (A2 (Aa (Ab 11) (Aa (Ab 11) (Ae)))) (Aa (A2 (Aa (Ab 5) (Aa (Ab 11) (Ae)))) (Ae))))))) (Dk 12 13) (Bo (Bk (Ah BH (De [12,13] B7 (Ag Bq (Aa (Ab 0) (Aa (Ab 1) (Ae))))) (mC (.str "! board")))) (AM (mC (.bl false))) (Br))
theorem Za2 {α:Type} {src:A0} {it:MI} {sg:MG} {t:MT} {f:ME} {cs:List (Option Nat)} {ρ:Ai} {h:HD} {xs:List α} {φ:α→D} {Q:D→HD→Prop} (g:α→Bool) (e:α→D) (ρ1:α→Ai) (hi:Wp (it ρ h) fun x h'=>x=(xs.map φ,src)∧Sm h h'∧∀h2,Sm h' h2→BE src (xs.map φ) h2) (hn:xs.length≤sizeLine)
 (hg:∀x∈xs,sg (φ x) (CK cs ρ)=some (ρ1 x)) (ht:∀x∈xs,∀h',Sm h h'→Pu (t (ρ1 x) h') h' (g x)) (hf:∀x∈xs,g x=true→∀h',Sm h h'→Pu (f (ρ1 x) h') h' (e x))
 (q:∀l h',Sm h h'→h'[l]?=some (.lst ((xs.filter g).map e))→h.length≤l→Q (.loc l) h'):Wp (Bh cs it sg t f ρ h) Q:=by
 unfold Bh
 rw [AC]
 refine Wp.mono hi fun x h1 z4_=>?_
 obtain ⟨ex,s1,hs⟩:=z4_
 subst ex
 rw [if_pos (by simpa using hn),AC]
 refine (Mi φ g e ρ1 xs h1 hs hg (fun x hx h' s'=>ht x hx h' (s1.trans s')) (fun x hx gx h' s'=>hf x hx gx h' (s1.trans s'))).wp fun h2 s2=>?_
 refine Bi ?_ fun l h3 s3 e3 el _=>q l h3 ((s1.trans s2).trans s3) e3 (by have:=(s1.trans s2).len;omega)
 rw [CS]
 exact BK (GZ _ _) hn
theorem Sn {L:Nat}:∀{ts:List Str},(∀t∈ts,t.length≤L)→(ts.map (·.length)).sum≤ts.length*L
 |[],_=>by simp
 |t::ts,h=>by
  have h1:=h t AO
  have h2:=Sn (fun x hx=>h x (A1 _ hx)) (ts:=ts)
  simp [Io]
  omega
theorem Za3 {n L k:Nat} {ds:List D} (h:∀d∈ds,Rp n L d) (hk:ds.length≤k) (hn:n+1≤8) (hl:k*(L+2)+3≤sizeLine):∃x:Str,∀(hd:HD) (l:Nat),hd[l]?=some (.lst ds)→BX (.loc l) hd=.ok (.str x) hd:=by
 obtain ⟨ps,b1,b2,b3,b4,b5,b6⟩:=MV h
 refine ⟨(PyData.list ps).shown,fun hd l e=>?_⟩
 have e8:AL hd 8 (.loc l)=some (.list ps):=by
  have:=b1 hd (8 - (n+1))
  rw [show (8:Nat)=(n+(8 - (n+1)))+1 by omega]
  simp only [AL,e,this]
  rfl
 unfold BX
 rw [e8]
 simp only
 rw [if_pos]
 refine ⟨by simpa [PyData.showable] using b2,by simpa [PyData.hasDict] using b3,by simp only [PyData.depth];omega,BK ?_ hl⟩
 simp only [PyData.shown]
 have e1:=listText_len_le (PyData.shownAll ps)
 have e2:=Sn b6
 have e3:(PyData.shownAll ps).length=ds.length:=by rw [MW,b5]
 rw [e3] at e1 e2
 have e4:ds.length*(L+2)≤k*(L+2):=Lm _ hk
 rw [Nat.mul_add] at e4
 omega
section
variable {H W:Nat} {h:HD} {f:Nat→Nat→Bool}
theorem Za4 {Q:D→HD→Prop} (hh:1≤H∧H≤8) (hw:1≤W∧W≤8) (q:∀l h',Sm h h'→h'[l]?=some (.lst (((AF H W).filter (AN f)).map Az))→h.length≤l→Q (.loc l) h'):Wp (Dh [bD H W f] h) Q:=by
 change Wp (As 1 (K6 BS BZ BU) [bD H W f] h) _
 refine Eq.mpr Bu ?_
 simp
 refine (La hh hw).wp fun h1 s1=>?_
 obtain ⟨d,h2,e2,l,rfl,s2,f2⟩:=(R0 (f:=f) (h:=h1) (Q:=fun d h'=>∃l,d=.loc l∧Sm h1 h'∧h'[l]?=some (.lst ((AF H W).map Az))) hh hw fun l h' s e=>⟨l,rfl,s,e⟩).ex
 refine Za2 (src:=[(l,(AF H W).map Az)]) (xs:=AF H W) (φ:=Az) (AN f) Az (fun x=>[some (Az x),some (bD H W f)]) ?_ (GX (NX hh.2 hw.2)) (fun x _=>rfl) (fun x hx h' s'=>?_) (fun x hx _ h' s'=>?_) fun l3 h3 s3 e3 el=>?_
 ·simp
  refine Au e2 ?_
  rw [Bt,FU f2]
  exact ⟨rfl,s2,fun h' s'=>FO (s' _ _ f2)⟩
 ·simp [Pu]
  refine (NZ (Jp hx)).wp fun h4 s4=>?_
  simp [s4]
 ·simp [Pu,Sm.refl]
 ·exact q l3 h3 (s1.trans s3) e3 (by have:=s1.len;omega)
theorem Za5 (hh:H≤8) (hw:W≤8):∃x:Str,∀(hd:HD) (l:Nat),hd[l]?=some (.lst (((AF H W).filter (AN f)).map Az))→BX (.loc l) hd=.ok (.str x) hd:=
 Za3 (n:=1) (L:=19) (k:=1000) (fun d hd=>by
  obtain ⟨x,hx,rfl⟩:=qaZ.mp hd
  exact Sk (Jp (qb6.mp hx).1) hh hw) (by rw [CS];exact GY hh hw) (by decide) (by unfold sizeLine;decide)
theorem Za6 {d:D} (n:NoB h d):Er (Dh [d] h) h "NoBoard":=by
 change We (As 1 (K6 BS BZ BU) [d] h) _ _
 refine Eq.mpr Jb ?_
 simp
 exact (NR n.1 n.2).we fun h1 s1=>⟨rfl,rfl,s1⟩
def N5 (d:D):Prop:=∃H W f,(1≤H∧H≤8)∧(1≤W∧W≤8)∧d=bD H W f
theorem Za7 {d d':D} (hd:NoB h d∨N5 d∧NoB h d'):Er (Bq [d,d'] h) h "NoBoard":=by
 change We (As 3 (Jj Dr BZ BU) [d,d'] h) _ _
 refine Eq.mpr Jb ?_
 simp
 exact (ZaG hd).we fun h1 s1=>⟨rfl,rfl,s1⟩
theorem Za8 {H' W':Nat} {f':Nat→Nat→Bool} (hh:1≤H∧H≤8) (hw:1≤W∧W≤8) (hh':1≤H'∧H'≤8) (hw':1≤W'∧W'≤8) (hn:¬(H=H'∧W=W')):Er (Bq [bD H W f,bD H' W' f'] h) h "Unlike":=by
 change We (As 3 (Jj Dr BZ BU) [bD H W f,bD H' W' f'] h) _ _
 refine Eq.mpr Jb ?_
 simp
 refine (R1 hh hw hh' hw').we fun h1 s1=>?_
 have:(decide (H=H')&&decide (W=W'))=false:=by
  rw [Bool.eq_false_iff]
  simpa using fun a b=>hn ⟨a,b⟩
 rw [this]
 simp [s1,D7]
end
def Bb (ns:List Int) (k b H W:Nat) (f f':Nat→Nat→Bool) (c7 c8 c9 c10 c11 c12 c13:Option D):Ai:=[some (.scr ns),some (.int (k:Nat)),some (.loc b),some (.int (H:Nat)),some (.int (W:Nat)),some (bD H W f),some (bD H W f'),c7,c8,c9,c10,c11,c12,c13]
def mi (H W:Nat) (f:Nat→Nat→Bool):Cell:=.lst (((AF H W).filter (AN f)).map Az)
structure Kp3 (H W:Nat) (f:Nat→Nat→Bool) (b l:Nat) (h:HD):Prop where
 bx:BoxAt h b
 b0:0<b
 tb:TabAt h
 e:h[l]?=some (mi H W f)
section
variable {ns:List Int} {k b H W l:Nat} {h:HD} {f f':Nat→Nat→Bool} {c2 c3 c4 c5 c6 c7 c8 c9 c10 c11 c12 c13:Option D} {Q:Fl×Ai→HD→Prop}
theorem Kp3.sm {h':HD} (k:Kp3 H W f b l h) (s:Sm h h'):Kp3 H W f b l h':=⟨k.bx.sm s,k.b0,k.tb.sm s,s _ _ k.e⟩
theorem Kp3.ne (k:Kp3 H W f b l h):l≠b:=fun z=>by
 subst z
 obtain ⟨n,e⟩:=k.bx
 rw [k.e] at e
 have:=Cell.lst.inj (Option.some.inj e)
 cases hg:(AF H W).filter (AN f) with
 |nil=>rw [hg] at this;cases this
 |cons x xs=>rw [hg] at this;cases this
theorem Kp3.smx {h':HD} (k:Kp3 H W f b l h) (x:BoxAt h' b) (s:Smx b h h'):Kp3 H W f b l h':=⟨x,k.b0,k.tb.smx s k.b0,s _ _ k.ne k.e⟩
theorem st0 (hb:∀i∈ns,Builtin.Int.intBits i≤2^20) (hk:k≤1000) (ht:TabAt h) (q:∀b h',BoxAt h' b→0<b→TabAt h'→Q (.nx,[some (.scr ns),some (.int (k:Nat)),some (.loc b),c3,c4,c5,c6,c7,c8,c9,c10,c11,c12,c13]) h'):Wp (Jq [some (.scr ns),some (.int (k:Nat)),c2,c3,c4,c5,c6,c7,c8,c9,c10,c11,c12,c13] h) Q:=by
 unfold Jq
 simp
 exact Z6 hb hk fun b h1 x1 lb s1=>q b h1 x1 (by have:=ht.pos;omega) (ht.sm s1)
theorem N6 (bx:BoxAt h b) (b0:0<b) (ht:TabAt h) (q:∀H W h',(1≤H∧H≤8)→(1≤W∧W≤8)→BoxAt h' b→TabAt h'→Q (.nx,[some (.scr ns),some (.int (k:Nat)),some (.loc b),some (.int ((H:Nat):Int)),some (.int ((W:Nat):Int)),c5,c6,c7,c8,c9,c10,c11,c12,c13]) h'):Wp (Jr [some (.scr ns),some (.int (k:Nat)),some (.loc b),c3,c4,c5,c6,c7,c8,c9,c10,c11,c12,c13] h) Q:=by
 unfold Jr
 simp
 refine Ef bx b0 ht (by decide) (by decide) fun d h1 l1 x1 t1 s1=>?_
 simp
 refine Ef x1 b0 t1 (by decide) (by decide) fun d2 h2 l2 x2 t2 s2=>?_
 simp
 have:=q (1+d) (1+d2) h2 (by omega) (by omega) x2 t2
 rwa [show ((1+d:Nat):Int)=1+(d:Int) by omega,show ((1+d2:Nat):Int)=1+(d2:Int) by omega] at this
theorem CQ (hh:1≤H∧H≤8) (hw:1≤W∧W≤8) (bx:BoxAt h b) (b0:0<b) (ht:TabAt h) (q:∀f f' h',BoxAt h' b→TabAt h'→Q (.nx,Bb ns k b H W f f' c7 c8 c9 c10 c11 c12 c13) h'):Wp (Js [some (.scr ns),some (.int (k:Nat)),some (.loc b),some (.int ((H:Nat):Int)),some (.int ((W:Nat):Int)),c5,c6,c7,c8,c9,c10,c11,c12,c13] h) Q:=by
 unfold Js
 simp
 refine ZaK bx b0 ht hh hw fun f f' h1 x1 t1=>?_
 exact q f f' h1 x1 t1
theorem Le (hh:1≤H∧H≤8) (hw:1≤W∧W≤8) (bx:BoxAt h b) (b0:0<b) (ht:TabAt h) (q:∀l h',Kp3 H W f b l h'→Q (.nx,Bb ns k b H W f f' (some (.loc l)) c8 c9 c10 c11 c12 c13) h'):Wp (Jt (Bb ns k b H W f f' c7 c8 c9 c10 c11 c12 c13) h) Q:=by
 unfold Jt
 simp [Bb]
 exact R7 hh hw fun l h1 s1 e1=>q l h1 ⟨bx.sm s1,b0,ht.sm s1,e1⟩
inductive I4 (ns:List Int) (k b H W l:Nat) (f f':Nat→Nat→Bool) (c10 c11 c12 c13:Option D) (xs:List Nat) (ρ:Ai) (h':HD):Prop where
 |mk (y8 y9:Option D) (er:ρ=Bb ns k b H W f f' (some (.loc l)) y8 y9 c10 c11 c12 c13) (kp:Kp3 H W f b l h'):I4 ns k b H W l f f' c10 c11 c12 c13 xs ρ h'
theorem Lf (hh:1≤H∧H≤8) (hw:1≤W∧W≤8) (kp:Kp3 H W f b l h) (q:∀y8 y9 h',Kp3 H W f b l h'→Q (.nx,Bb ns k b H W f f' (some (.loc l)) y8 y9 c10 c11 c12 c13) h'):Wp (Ju (Bb ns k b H W f f' (some (.loc l)) c8 c9 c10 c11 c12 c13) h) Q:=by
 unfold Ju
 refine DJ (src:=[]) (xs:=List.range 2) (fun i=>.int ((i:Nat):Int)) (I4 ns k b H W l f f' c10 c11 c12 c13) ?_ (fun ys ρ h' _=>CY) ?_ ?_
 ·simp [Bb]
  rw [show (2:Int)=((2:Nat):Int) from rfl,EF (by omega)]
  exact ⟨rfl,_,_,rfl,kp⟩
 ·rintro x xs ρ h1 ⟨y8,y9,rfl,kp⟩
  refine ⟨_,rfl,?_⟩
  obtain ⟨z,rz⟩:=Za5 (f:=f) hh.2 hw.2
  simp [Bb,-Aj]
  refine Za4 hh hw fun l9 h2 s2 e2 el=>?_
  refine Eq.mpr Aj ?_
  have kp2:=kp.sm s2
  have ll:=(qa4.mp e2).1
  simp [-Aj,rz h2 l9 e2,rz h2 l kp2.e]
  refine Eq.mpr Aj ?_
  simp [Hz e2]
  refine Au (Kr e2 (by have:=GY (g:=f) hh.2 hw.2;rw [CS];unfold sizeLine;omega)) ?_
  simp [DI]
  exact ⟨_,_,rfl,kp.sm (Sm.put s2 el)⟩
 ·rintro ρ h1 ⟨y8,y9,rfl,kp⟩
  exact q _ _ _ kp
theorem Za9:CP H W f f=.non:=by
 unfold CP
 have:(AF H W).find? (df f f)=none:=List.find?_eq_none.mpr fun x _=>by unfold df;simp
 rw [this]
theorem Ei (hh:1≤H∧H≤8) (hw:1≤W∧W≤8) (kp:Kp3 H W f b l h) (q:∀h',Kp3 H W f b l h'→Q (.nx,Bb ns k b H W f f' (some (.loc l)) c8 c9 c10 c11 c12 c13) h'):Wp (Jv (Bb ns k b H W f f' (some (.loc l)) c8 c9 c10 c11 c12 c13) h) Q:=by
 unfold Jv
 simp [Bb]
 refine Sl hh hw kp.e fun h1 s1=>?_
 simp
 refine (N4 hh hw).wp fun h2 s2=>?_
 rw [Za9]
 try simp
 exact q h2 (kp.sm (s1.trans s2))
theorem st6 (hh:1≤H∧H≤8) (hw:1≤W∧W≤8) (kp:Kp3 H W f b l h) (q:∀h',Kp3 H W f b l h'→Q (.nx,Bb ns k b H W f f' (some (.loc l)) c8 c9 c10 c11 c12 c13) h'):Wp (Jw (Bb ns k b H W f f' (some (.loc l)) c8 c9 c10 c11 c12 c13) h) Q:=by
 unfold Jw
 simp [Bb]
 refine NU kp.bx hh hw fun g h1 x1 s1=>?_
 have kp1:=kp.smx x1 s1
 try simp
 refine Sl hh hw kp1.e fun h2 s2=>?_
 simp
 exact q h2 (kp1.sm s2)
theorem Fv (kp:Kp3 H W f b l h) (q:∀H' W' g h',(1≤H'∧H'≤8)→(1≤W'∧W'≤8)→Kp3 H W f b l h'→Q (.nx,Bb ns k b H W f f' c7 c8 c9 (some (bD H' W' g)) c11 c12 c13) h'):Wp (Jx (Bb ns k b H W f f' c7 c8 c9 c10 c11 c12 c13) h) Q:=by
 unfold Jx
 simp [Bb]
 refine Ef kp.bx kp.b0 kp.tb (by decide) (by decide) fun d h1 l1 x1 t1 s1=>?_
 simp
 refine Ef x1 kp.b0 t1 (by decide) (by decide) fun d2 h2 l2 x2 t2 s2=>?_
 simp
 rw [show (1:Int)+(d:Int)=((1+d:Nat):Int) by omega,show (1:Int)+(d2:Int)=((1+d2:Nat):Int) by omega]
 refine NU x2 (by omega) (by omega) fun g h3 x3 s3=>?_
 exact q (1+d) (1+d2) g h3 (by omega) (by omega) (((kp.smx x1 s1).smx x2 s2).smx x3 s3)
theorem st8 {H' W':Nat} {g:Nat→Nat→Bool} (hh:1≤H∧H≤8) (hw:1≤W∧W≤8) (hh':1≤H'∧H'≤8) (hw':1≤W'∧W'≤8) (kp:Kp3 H W f b l h) (q:∀h',Kp3 H W f b l h'→Q (.nx,Bb ns k b H W f f' c7 c8 c9 (some (bD H' W' g)) c11 c12 c13) h'):Wp (Jy (Bb ns k b H W f f' c7 c8 c9 (some (bD H' W' g)) c11 c12 c13) h) Q:=by
 have yes:¬(H=H'∧W=W')→Wp (De [5,10] B7 (Ag Bq (Aa (Ab 0) (Aa (Ab 1) (Ae)))) (Bb ns k b H W f f' c7 c8 c9 (some (bD H' W' g)) c11 c12 c13) h) fun d h'=>d=.str "! unlike"∧Sm h h':=fun hn=>by
  refine ZaA (ds:=[bD H W f,bD H' W' g]) kp.tb rfl ?_ fun h1 s1=>⟨rfl,s1⟩
  unfold Er
  simp
  exact Za8 hh hw hh' hw' hn
 unfold Jy
 by_cases e1:H'=H
 ·by_cases e2:W'=W
  ·subst e1 e2
   simp [Bb,E2,HY hh'.1,Jl]
   exact q h kp
  ·have:¬(W':Int)=(W:Int):=by omega
   subst e1
   obtain ⟨d,h1,e,rfl,s1⟩:=(yes fun z=>e2 z.2.symm).ex
   unfold Bb at e
   simp [Bb,E2,HY hh'.1,Jl,this,e]
   exact q h1 (kp.sm s1)
 ·have:¬(H':Int)=(H:Int):=by omega
  obtain ⟨d,h1,e,rfl,s1⟩:=(yes fun z=>e1 z.1.symm).ex
  unfold Bb at e
  simp [Bb,E2,this,e]
  exact q h1 (kp.sm s1)
theorem st9 (hh:1≤H∧H≤8) (hw:1≤W∧W≤8) (kp:Kp3 H W f b l h) (q:∀d h',NoB h' d→TabAt h'→Q (.nx,Bb ns k b H W f f' c7 c8 c9 c10 (some d) c12 c13) h'):Wp (Jz (Bb ns k b H W f f' c7 c8 c9 c10 c11 c12 c13) h) Q:=by
 unfold Jz
 simp [Bb]
 exact Zav kp.bx kp.b0 kp.tb hh hw fun d h1 n1 x1 t1 s1=>q d h1 n1 t1
theorem Zba {d:D} (n:NoB h d) (ht:TabAt h) (q:∀h',Sm h h'→Q (.nx,Bb ns k b H W f f' c7 c8 c9 c10 (some d) c12 c13) h'):Wp (JA (Bb ns k b H W f f' c7 c8 c9 c10 (some d) c12 c13) h) Q:=by
 unfold JA
 simp [Bb]
 refine RW (ds:=[d]) ht rfl ?_ fun h1 s1=>?_
 ·unfold Er
  simp
  exact Za6 n
 ·simp
  exact q h1 s1
inductive So (ns:List Int) (k b H W L:Nat) (f f':Nat→Nat→Bool) (c7 c8 c9 c10 c11:Option D) (h:HD) (ds:List D) (xs:List (D×D)) (ρ:Ai) (h':HD):Prop where
 |mk (y12 y13:Option D) (er:ρ=Bb ns k b H W f f' c7 c8 c9 c10 c11 y12 y13) (s:Sm h h') (e:h'[L]?=some (.lst ds)) (hp:∀p∈xs,NoB h p.1∨N5 p.1∧NoB h p.2):So ns k b H W L f f' c7 c8 c9 c10 c11 h ds xs ρ h'
theorem Zbb {d far:D} (hf:N5 far) (hh:1≤H∧H≤8) (hw:1≤W∧W≤8) (n:NoB h d) (ht:TabAt h) (q:∀y12 y13 h',TabAt h'→Q (.nx,Bb ns k b H W f f' c7 c8 c9 (some far) (some d) y12 y13) h'):Wp (JB (Bb ns k b H W f f' c7 c8 c9 (some far) (some d) c12 c13) h) Q:=by
 unfold JB
 refine DJ (src:=[(h.length,([(d,far),(far,d),(d,d),(bD H W f,d)]:List (D×D)).map fun p:D×D=>.tup [p.1,p.2])]) (xs:=[(d,far),(far,d),(d,d),(bD H W f,d)]) (fun p:D×D=>.tup [p.1,p.2])
  (So ns k b H W h.length f f' c7 c8 c9 (some far) (some d) h (([(d,far),(far,d),(d,d),(bD H W f,d)]:List (D×D)).map fun p:D×D=>.tup [p.1,p.2])) ?_ (fun ys ρ h' ⟨_,_,_,_,e,_⟩=>FO e) ?_ ?_
 ·unfold Bb
  simp
  refine Bi (by simp) fun l h' s e el _=>?_
  subst el
  rw [FU e]
  refine ⟨rfl,_,_,rfl,s,e,fun p hp=>?_⟩
  simp only [qa8,Cw,or_false] at hp
  rcases hp with rfl |rfl |rfl |rfl
  ·exact .inl n
  ·exact .inr ⟨hf,n⟩
  ·exact .inl n
  ·exact .inr ⟨⟨H,W,f,hh,hw,rfl⟩,n⟩
 ·rintro ⟨x1,x2⟩ xs ρ h' ⟨y12,y13,rfl,s,e,hp⟩
  refine ⟨_,rfl,?_⟩
  have hp1:=hp _ AO
  simp only at hp1
  simp [Bb]
  refine RW (ds:=[x1,x2]) (ht.sm s) rfl ?_ fun h2 s2=>?_
  ·unfold Er
   simp
   refine Za7 ?_
   rcases hp1 with z |⟨z1,z2⟩
   ·exact .inl (z.sm s)
   ·exact .inr ⟨z1,z2.sm s⟩
  ·simp [DI]
   exact ⟨_,_,rfl,s.trans s2,s2 _ _ e,fun y hy=>hp y (A1 _ hy)⟩
 ·rintro ρ h' ⟨y12,y13,rfl,s,e,hp⟩
  exact q _ _ _ (ht.sm s)
theorem Zbc {QB:Fl×Ai→HD→Prop} {x:Nat} (hb:∀i∈ns,Builtin.Int.intBits i≤2^20) (hk:x≤1000) (ht:TabAt h) (q:∀b2 b3 b4 b5 b6 b7 b8 b9 b10 b11 b12 b13 h',TabAt h'→QB (.nx,[some (.scr ns),some (.int (x:Nat)),b2,b3,b4,b5,b6,b7,b8,b9,b10,b11,b12,b13]) h'):
 Wp (Ak Jq (Ak Jr (Ak Js (Ak Jt (Ak Ju (Ak Jv (Ak Jw (Ak Jx (Ak Jy (Ak Jz (Ak JA JB)))))))))) [some (.scr ns),some (.int (x:Nat)),c2,c3,c4,c5,c6,c7,c8,c9,c10,c11,c12,c13] h) QB:=by
 rw [CC]
 refine st0 hb hk ht fun b h0 x0 b0 t0=>?_
 rw [Aj,CC]
 refine N6 x0 b0 t0 fun H W h1 hh hw x1 t1=>?_
 rw [Aj,CC]
 refine CQ hh hw x1 b0 t1 fun f f' h2 x2 t2=>?_
 rw [Aj,CC]
 refine Le hh hw x2 b0 t2 fun l h3 k3=>?_
 rw [Aj,CC]
 refine Lf hh hw k3 fun y8 y9 h4 k4=>?_
 rw [Aj,CC]
 refine Ei hh hw k4 fun h5 k5=>?_
 rw [Aj,CC]
 refine st6 hh hw k5 fun h6 k6=>?_
 rw [Aj,CC]
 refine Fv k6 fun H' W' g h7 hh' hw' k7=>?_
 rw [Aj,CC]
 refine st8 hh hw hh' hw' k7 fun h8 k8=>?_
 rw [Aj,CC]
 refine st9 hh hw k8 fun d h9 n9 t9=>?_
 rw [Aj,CC]
 refine Zba n9 t9 fun h10 s10=>?_
 rw [Aj]
 exact Zbb ⟨H',W',g,hh',hw',rfl⟩ hh hw (n9.sm s10) (t9.sm s10) fun y12 y13 h11 t11=>q _ _ _ _ _ _ _ _ _ _ _ _ _ t11
end
def IL (ns:List Int) (xs:List Nat) (ρ:Ai) (h':HD):Prop:=∃d1 d2 d3 d4 d5 d6 d7 d8 d9 d10 d11 d12 d13,ρ=[some (.scr ns),d1,d2,d3,d4,d5,d6,d7,d8,d9,d10,d11,d12,d13]∧TabAt h'∧∀k∈xs,k≤1000
theorem Zbd:K7 Ea Ay Ed Ca Dh Ds Bq B0 Eb B7=Ak (Ci (Cg (Aa (Ag (Bx IG) (Aa (mC (.int 1)) (Aa (Ag (Bx IH) (Aa (Ag (Am Bc) (Aa (Ab 0) (Ae))) (Aa (mC (.int 5)) (Ae)))) (Ae)))) (Ae))) (A3 1) (Ak Jq (Ak Jr (Ak Js (Ak Jt (Ak Ju (Ak Jv (Ak Jw (Ak Jx (Ak Jy (Ak Jz (Ak JA (JB))))))))))))) (AM (mC (.bl true))):=by
 unfold Jq Jr Js Jt Ju Jv Jw Jx Jy Jz JA JB
 rfl
theorem law_true (ns:List Int) (hl:ns.length≤63) (hb:∀i∈ns,Builtin.Int.intBits i≤2^20):∃h',F_law [.scr ns] [.tab]=.ok (.bl true) h':=by
 have main:Wp (F_law [.scr ns] [.tab]) fun d _=>d=.bl true:=by
  change Wp (As 14 (K7 Ea Ay Ed Ca Dh Ds Bq B0 Eb B7) [.scr ns] [.tab]) _
  rw [Zbd,Bu,CC]
  obtain ⟨n,en,hn⟩:∃n:Nat,(if (if (5:Int)<(ns.length:Int) then (5:Int) else (ns.length:Int))>1 then (if (5:Int)<(ns.length:Int) then (5:Int) else (ns.length:Int)) else 1)=(n:Int)∧n≤99:=by
   have h0:0≤(if (if (5:Int)<(ns.length:Int) then (5:Int) else (ns.length:Int))>1 then (if (5:Int)<(ns.length:Int) then (5:Int) else (ns.length:Int)) else 1)∧(if (if (5:Int)<(ns.length:Int) then (5:Int) else (ns.length:Int))>1 then (if (5:Int)<(ns.length:Int) then (5:Int) else (ns.length:Int)) else 1)≤99:=by
    constructor<;>(split<;>split<;>omega)
   generalize (if (if (5:Int)<(ns.length:Int) then (5:Int) else (ns.length:Int))>1 then (if (5:Int)<(ns.length:Int) then (5:Int) else (ns.length:Int)) else 1)=E at h0
   exact ⟨E.toNat,by omega,by omega⟩
  refine DJ (src:=[]) (xs:=List.range n) (fun i=>.int ((i:Nat):Int)) (IL ns) ?_ (fun ys ρ h' _=>CY) ?_ ?_
  ·simp
   rw [en,EF (by omega)]
   exact ⟨rfl,_,_,_,_,_,_,_,_,_,_,_,_,_,rfl,rfl,fun k hk=>by have:=qbG.mp hk;omega⟩
  ·rintro x xs ρ h' ⟨d1,d2,d3,d4,d5,d6,d7,d8,d9,d10,d11,d12,d13,rfl,t,hx⟩
   refine ⟨_,rfl,?_⟩
   exact Zbc hb (hx x AO) t fun _ _ _ _ _ _ _ _ _ _ _ _ h2 t2=>
    ⟨_,_,_,_,_,_,_,_,_,_,_,_,_,rfl,t2,fun k hk=>hx k (A1 _ hk)⟩
  ·rintro ρ h' ⟨d1,d2,d3,d4,d5,d6,d7,d8,d9,d10,d11,d12,d13,rfl,t,hx⟩
   simp
 obtain ⟨a,h',e,rfl⟩:=Wp.ex main
 exact ⟨h',e⟩
end LK
set_option maxHeartbeats 0
namespace LK
open PySem PySem.Spec PyProof.Rows L2 LS
def N7:Tp.Want:=⟨[(("is_whole":Str),Gw),(("is_line_tuple":Str),Gx),(("all_fours":Str),Gy),(("is_odd_four":Str),Gz),(("_law_cell":Str),GA),(("_law_mix":Str),GB),(("_law_take":Str),GC),(("_law_kind":Str),GD),(("_law_switched":Str),GE),(("_law_fours":Str),GF),(("is_between":Str),GG),(("_law_box":Str),GH),(("_law_wide_box":Str),GI),(("_law_no_board":Str),GJ),(("_law_lot":Str),GK),(("is_light":Str),GL),(("_law_board":Str),GM),(("is_row":Str),GN),(("_law_pair":Str),GO),(("is_board":Str),GP),(("need_board":Str),GQ),(("same_size":Str),GR),(("odd_fours":Str),GS),(("first_unlike":Str),GT),(("_law_first_right":Str),GU),(("law":Str),s_law),(("_law_said":Str),Ji)],[(("MOST_LINES":Str),(8:Int))],["ValueError","all","bool","dict","divmod","enumerate","int","isinstance","len","list","max","min","range","repr","tuple","zip"]⟩
theorem all_mk {l:PySem.W.OpenLaw} {w:World} {K:PySem.W.Frag} {h:Heap} {mg:Str→Option Value} {fa c T:Addr} (HS:Tp.Has N7 K c T) (X:K.In h) (G:h.Ns mainGlobals mg) (hfa:mg "law"=some (.ref fa)):
 ∃fd:FuncData,(∀(s:Shared) (v:Value),BindsTo s fd ⟨[v],[]⟩ [("_law_script",v)])∧∀base:Heap,K.In base→base.Ns mainGlobals mg→HK mg base→FnOk l.prog w K mg base (AD l.prog w K) 11 fa fd ["_law_script"] (Fg K F_law):=by
 obtain ⟨fs,cs,bs,et,tb,hd,no⟩:=HS
 obtain ⟨_,_,_,_,_,_,_,_,_,_,a0,l0,c0,k0⟩:=fs 0 "is_whole" Gw rfl
 obtain ⟨_,_,_,_,_,_,_,_,_,_,a1,l1,c1,k1⟩:=fs 1 "is_line_tuple" Gx rfl
 obtain ⟨_,_,_,_,_,_,_,_,_,_,a2,l2,c2,k2⟩:=fs 2 "all_fours" Gy rfl
 obtain ⟨_,_,_,_,_,_,_,_,_,_,a3,l3,c3,k3⟩:=fs 3 "is_odd_four" Gz rfl
 obtain ⟨_,_,_,_,_,_,_,_,_,_,a4,l4,c4,k4⟩:=fs 4 "_law_cell" GA rfl
 obtain ⟨_,_,_,_,_,_,_,_,_,_,a5,l5,c5,k5⟩:=fs 5 "_law_mix" GB rfl
 obtain ⟨_,_,_,_,_,_,_,_,_,_,a6,l6,c6,k6⟩:=fs 6 "_law_take" GC rfl
 obtain ⟨_,_,_,_,_,_,_,_,_,_,a7,l7,c7,k7⟩:=fs 7 "_law_kind" GD rfl
 obtain ⟨_,_,_,_,_,_,_,_,_,_,a8,l8,c8,k8⟩:=fs 8 "_law_switched" GE rfl
 obtain ⟨_,_,_,_,_,_,_,_,_,_,a9,l9,c9,k9⟩:=fs 9 "_law_fours" GF rfl
 obtain ⟨_,_,_,_,_,_,_,_,_,_,a10,l10,c10,k10⟩:=fs 10 "is_between" GG rfl
 obtain ⟨_,_,_,_,_,_,_,_,_,_,a11,l11,c11,k11⟩:=fs 11 "_law_box" GH rfl
 obtain ⟨_,_,_,_,_,_,_,_,_,_,a12,l12,c12,k12⟩:=fs 12 "_law_wide_box" GI rfl
 obtain ⟨_,_,_,_,_,_,_,_,_,_,a13,l13,c13,k13⟩:=fs 13 "_law_no_board" GJ rfl
 obtain ⟨_,_,_,_,_,_,_,_,_,_,a14,l14,c14,k14⟩:=fs 14 "_law_lot" GK rfl
 obtain ⟨_,_,_,_,_,_,_,_,_,_,a15,l15,c15,k15⟩:=fs 15 "is_light" GL rfl
 obtain ⟨_,_,_,_,_,_,_,_,_,_,a16,l16,c16,k16⟩:=fs 16 "_law_board" GM rfl
 obtain ⟨_,_,_,_,_,_,_,_,_,_,a17,l17,c17,k17⟩:=fs 17 "is_row" GN rfl
 obtain ⟨_,_,_,_,_,_,_,_,_,_,a18,l18,c18,k18⟩:=fs 18 "_law_pair" GO rfl
 obtain ⟨_,_,_,_,_,_,_,_,_,_,a19,l19,c19,k19⟩:=fs 19 "is_board" GP rfl
 obtain ⟨_,_,_,_,_,_,_,_,_,_,a20,l20,c20,k20⟩:=fs 20 "need_board" GQ rfl
 obtain ⟨_,_,_,_,_,_,_,_,_,_,a21,l21,c21,k21⟩:=fs 21 "same_size" GR rfl
 obtain ⟨_,_,_,_,_,_,_,_,_,_,a22,l22,c22,k22⟩:=fs 22 "odd_fours" GS rfl
 obtain ⟨_,_,_,_,_,_,_,_,_,_,a23,l23,c23,k23⟩:=fs 23 "first_unlike" GT rfl
 obtain ⟨_,_,_,_,_,_,_,_,_,_,a24,l24,c24,k24⟩:=fs 24 "_law_first_right" GU rfl
 obtain ⟨f_law,_,an_law,_,_,kV_law,dc_law,pm_law,cd_law,ct_law,a_law,l_law,c_law,k_law⟩:=fs 25 "law" s_law rfl
 obtain ⟨_,_,_,_,_,_,_,_,_,_,a26,l26,c26,k26⟩:=fs 26 "_law_said" Ji rfl
 cases Tp.tab_cd tb a_law l_law
 have e:=hfa.symm.trans (PySem.W.mg_of X G a_law)
 cases e
 have S_D:SaidD K mg Ji _ _:=SaidD.of (DM X G l26 c26 k26 a26 (fun _ _ _ _ _ _ _=>rfl))
 have B:Bl mg:=⟨PySem.W.mg_none_of X G (bs 0 "ValueError" rfl),PySem.W.mg_none_of X G (bs 1 "all" rfl),PySem.W.mg_none_of X G (bs 2 "bool" rfl),PySem.W.mg_none_of X G (bs 3 "dict" rfl),PySem.W.mg_none_of X G (bs 4 "divmod" rfl),PySem.W.mg_none_of X G (bs 5 "enumerate" rfl),PySem.W.mg_none_of X G (bs 6 "int" rfl),PySem.W.mg_none_of X G (bs 7 "isinstance" rfl),PySem.W.mg_none_of X G (bs 8 "len" rfl),PySem.W.mg_none_of X G (bs 9 "list" rfl),PySem.W.mg_none_of X G (bs 10 "max" rfl),PySem.W.mg_none_of X G (bs 11 "min" rfl),PySem.W.mg_none_of X G (bs 12 "range" rfl),PySem.W.mg_none_of X G (bs 13 "repr" rfl),PySem.W.mg_none_of X G (bs 14 "tuple" rfl),PySem.W.mg_none_of X G (bs 15 "zip" rfl)⟩
 obtain ⟨t_MOST_LINES,v_MOST_LINES⟩:=cs 0 "MOST_LINES" 8 rfl
 have M_MOST_LINES:=PySem.W.mg_of X G v_MOST_LINES
 refine ⟨PySem.W.fnOf "law" "law" (defArgs s_law) (defBody s_law) (defScope s_law) .none kV_law dc_law pm_law an_law (.ref c) ct_law,fun s v=>.of_eq rfl,fun base _ _ hbm=>?_⟩
 have C0:=ZF (P:=l.prog) (w:=w) (base:=base) B et (DM X G l0 c0 k0 a0 fun _ _ _ _ _ _ _=>rfl)
 have C1:=ZG (P:=l.prog) (w:=w) (base:=base) B et M_MOST_LINES (DM X G l1 c1 k1 a1 fun _ _ _ _ _ _ _=>rfl)
 have C2:=ZH (P:=l.prog) (w:=w) (base:=base) B et (DM X G l2 c2 k2 a2 fun _ _ _ _ _ _ _=>rfl)
 have C3:=ZI (P:=l.prog) (w:=w) (base:=base) B et (Fq X G l3 c3 k3 a3 fun _ _ _ _ _ _ _ _=>rfl)
 have C4:=ZJ (P:=l.prog) (w:=w) (base:=base) B et (Fq X G l4 c4 k4 a4 fun _ _ _ _ _ _ _ _=>rfl)
 have C5:=ZK (P:=l.prog) (w:=w) (base:=base) B et (Fq X G l5 c5 k5 a5 fun _ _ _ _ _ _ _ _=>rfl)
 have C6:=ZL (P:=l.prog) (w:=w) (base:=base) B et (Fq X G l6 c6 k6 a6 fun _ _ _ _ _ _ _ _=>rfl)
 have C7:=ZM (P:=l.prog) (w:=w) (base:=base) B et (DM X G l7 c7 k7 a7 fun _ _ _ _ _ _ _=>rfl)
 have C8:=ZN (P:=l.prog) (w:=w) (base:=base) B et (Jc X G l8 c8 k8 a8 fun _ _ _ _ _ _ _ _ _=>rfl)
 have C9:=ZO (P:=l.prog) (w:=w) (base:=base) B et (DM X G l9 c9 k9 a9 fun _ _ _ _ _ _ _=>rfl)
 have C10:=ZP (P:=l.prog) (w:=w) (base:=base) B et C0 (Jc X G l10 c10 k10 a10 fun _ _ _ _ _ _ _ _ _=>rfl)
 have C11:=ZQ (P:=l.prog) (w:=w) (base:=base) B et C4 C5 (Fq X G l11 c11 k11 a11 fun _ _ _ _ _ _ _ _=>rfl)
 have C12:=ZR (P:=l.prog) (w:=w) (base:=base) B et C6 (DM X G l12 c12 k12 a12 fun _ _ _ _ _ _ _=>rfl)
 have C13:=ZS (P:=l.prog) (w:=w) (base:=base) B et C6 (Fq X G l13 c13 k13 a13 fun _ _ _ _ _ _ _ _=>rfl)
 have C14:=ZT (P:=l.prog) (w:=w) (base:=base) B et C6 (Fq X G l14 c14 k14 a14 fun _ _ _ _ _ _ _ _=>rfl)
 have C15:=ZU (P:=l.prog) (w:=w) (base:=base) B et C10 (DM X G l15 c15 k15 a15 fun _ _ _ _ _ _ _=>rfl)
 have C16:=ZV (P:=l.prog) (w:=w) (base:=base) B et C6 C12 (Jc X G l16 c16 k16 a16 fun _ _ _ _ _ _ _ _ _=>rfl)
 have C17:=ZW (P:=l.prog) (w:=w) (base:=base) B et C1 C15 (DM X G l17 c17 k17 a17 fun _ _ _ _ _ _ _=>rfl)
 have C18:=ZX (P:=l.prog) (w:=w) (base:=base) B et C16 C14 C8 C6 (Jc X G l18 c18 k18 a18 fun _ _ _ _ _ _ _ _ _=>rfl)
 have C19:=ZY (P:=l.prog) (w:=w) (base:=base) B et C1 C17 (DM X G l19 c19 k19 a19 fun _ _ _ _ _ _ _=>rfl)
 have C20:=ZZ (P:=l.prog) (w:=w) (base:=base) B et C19 (DM X G l20 c20 k20 a20 fun _ _ _ _ _ _ _=>rfl)
 have C21:=Z0 (P:=l.prog) (w:=w) (base:=base) B et C20 (Fq X G l21 c21 k21 a21 fun _ _ _ _ _ _ _ _=>rfl)
 have C22:=Z1 (P:=l.prog) (w:=w) (base:=base) B et C20 C2 C3 (DM X G l22 c22 k22 a22 fun _ _ _ _ _ _ _=>rfl)
 have C23:=Z2 (P:=l.prog) (w:=w) (base:=base) B et C21 C2 C3 (Fq X G l23 c23 k23 a23 fun _ _ _ _ _ _ _ _=>rfl)
 have C24:=Z3 (P:=l.prog) (w:=w) (base:=base) B et C9 C23 (Jc X G l24 c24 k24 a24 fun _ _ _ _ _ _ _ _ _=>rfl)
 exact Xp l_law c_law sc_law (fun ds h e=>if_neg e) (fun ds h e=>if_pos e) (fun A outer s H E hr=>ZE B et C11 C6 C18 C9 C22 C24 C23 C16 C13 C7 tb hd hbm S_D _ A outer s H E hr)
end LK
namespace LK
open PySem PySem.W
abbrev top_q:Program:=view PySem.Challenge.pw_lineswitch_k23_odd_fours [42]
abbrev top_loose:List Str:=(PySem.Challenge.pw_lineswitch_k23_odd_fours.main.scope.names.map (·.1)).filter fun x=>!(x=="law")
set_option maxHeartbeats 0 in
theorem top_left:LeftO PySem.Challenge.pw_lineswitch_k23_odd_fours top_q top_loose (fun _=>true) (Tp.obsK N7) (fun _=>Tp.valK N7) 1000000:=
 Tp.left_of (n:=44) (by kernel_rfl) (fun s=>by kernel_rfl) (fun w=>by kernel_rfl) (fun w os=>by
  rw [PySem.W.Fast.te10156331382660048174,PySem.W.Fast.te11892475500146522536,PySem.W.Fast.te14364793385576792824,PySem.W.Fast.te10110043849684766642,PySem.W.Fast.te6613529449190102663,PySem.W.Fast.te4187177175401517315,PySem.W.Fast.te5923862056798008813]
  kernel_rfl)
end LK
open PySem PySem.W PyProof.Rows
set_option maxRecDepth 100000 in
set_option maxHeartbeats 0 in
theorem PySem.Challenge.cw_lineswitch_k23_odd_fours_holds : PySem.Challenge.rw_lineswitch_k23_odd_fours.Holds := by
 w_on;o_law
 refine PySem.W.holds_open (q:=LK.top_q) (loose:=LK.top_loose) (d:=⟨"law",L2.defArgs LK.s_law,L2.defBody LK.s_law,L2.defScope LK.s_law,_⟩) (kwd:=[]) (Xt:=fun _=>true) (XP:=fun _ _=>True) (N:=1000000) LK.top_left Tp.says_of Tp.Says.keeps (fun _ _=>trivial) (fun _ _ _ _ _=>trivial) (by rfl) (by kernel_rfl) (by kernel_rfl) (fun s _=>recFacts_nil (by rfl)) (by rfl) (by assumption) (by kernel_rfl) ⟨rfl,rfl,rfl,rfl,rfl,by decide +kernel⟩ ?hw ?hc
 case hw=>w_witness2
 case hc=>exact LS.walk_hd (n:=63) (k:=11) (x:="_law_script") (F:=LK.F_law) rfl (by decide) rfl ⟨rfl,by decide,by decide,rfl⟩ (fun w K c T mg fa h HS X G hfa=>LK.all_mk HS X G hfa) LK.law_true
