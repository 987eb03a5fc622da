import PyProof.Rows.All
import Wide.All
import OpenK.AllK
import Wide.FinOn
import Lean
import PyProof.EqAt
import PyProof.EqKinds
import PyProof.TupleCall
import PyProof.ExcBaseAll.ValueError
import PyProof.ZipIter
import KE.KIsAll
import KE.KTryMore
import PyProof.ExcArgsOwn
import PyProof.ExcAttrAll.ValueError
import KE.KLam
import KE.KNestM
import PyProof.NsDelKeeps
import PyProof.Rows.CatchPack
import PyProof.ReprRoads
import PyProof.Rows.FStr
import PyProof.ListRange
import PyProof.CollectIter
import KE.KRevSl
import PyProof.ExcInit
import PyProof.ExcClass2
import PyProof.InstStore
import PyProof.InstStoreFacts
import PyProof.InstLoad
import OpenK.KMore
import PyProof.Rows.StrKeys3
import PyProof.DictItemsLoops
import PyProof.DictTable
import PyProof.MeetsDictList
import PyProof.DictStraight
import PyProof.DictUpdate
import PySem.Challenge.RW_lineswitch_k75_whole_nets
set_option Elab.async false
set_option linter.all false
set_option maxRecDepth 100000
abbrev AY:=@PySem.Heap.get?_push_of_some
abbrev AC:=@List.prefix_refl
abbrev Bh:=@List.getElem?_eq_getElem
abbrev qa3:=@List.mem_cons
abbrev AZ:=@List.mem_cons_self
abbrev Bi:=@List.mem_append_right
abbrev Bb:=@List.mem_cons_of_mem
abbrev qa7:=@List.mem_singleton
abbrev qa8:=@List.getElem?_eq_some_iff
abbrev Bc:=@List.size_toArray
abbrev Bp:=@Nat.lt_of_lt_of_le
abbrev AK:=@Nat.le_refl
abbrev AS:=@PySem.Heap.lt_size
abbrev BF:=@Bool.false_ne_true
abbrev BR:=@PySem.Heap.get?_push_size
abbrev Br:=@List.map_cons
abbrev Bs:=@Nat.ne_of_gt
abbrev qaH:=@List.mem_append
abbrev Cu:=@List.mem_append_left
abbrev qaJ:=@List.mem_map
abbrev CI:=@List.getElem?_set_ne
abbrev Ca:=@List.not_mem_nil
abbrev BG:=@Nat.ne_of_lt
abbrev Cb:=@List.length_map
abbrev CN:=@List.map_congr_left
abbrev BS:=@List.map_map
abbrev Em:=@List.getD_eq_getElem?_getD
abbrev CO:=@List.append_assoc
abbrev qaS:=@Bool.eq_iff_iff
abbrev B8:=@Nat.le_trans
abbrev CP:=@Bool.and_eq_true
abbrev CQ:=@Nat.le_add_right
abbrev D4:=@List.getElem?_set_self
abbrev DF:=@Bool.false_eq_true
abbrev DG:=@List.getElem?_map
abbrev qaZ:=@List.all_eq_true
abbrev D5:=@List.length_append
abbrev Dq:=@PySem.Heap.size_push
abbrev qb2:=@List.mem_range
abbrev DR:=@List.map_append
abbrev En:=@List.reverse_cons
abbrev qb5:=@Option.map_eq_some_iff
abbrev D6:=@List.find?_cons
abbrev E2:=@List.append_inj'
abbrev Hg:=@List.getElem?_append_left
abbrev E3:=@List.append_nil
abbrev Gg:=@List.prefix_append
abbrev FA:=@List.length_cons
abbrev qbC:=@List.any_eq_true
abbrev Eo:=@Nat.lt_irrefl
abbrev GG:=@List.filterMap_cons
abbrev GH:=@List.replicate_succ
abbrev Hh:=@List.length_filter_le
abbrev qbH:=@List.nodup_append
abbrev GI:=@List.flatMap_cons
abbrev qbJ:=@List.nodup_cons
abbrev Gh:=@List.length_nil
abbrev Gi:=@Option.map_some
abbrev Ep:=@Nat.zero_le
abbrev JP:=@List.mem_of_find?_eq_some
abbrev qbO:=@List.mem_filter
abbrev Jd:=@List.mem_of_getElem?
abbrev GJ:=@List.nil_append
abbrev Hi:=@List.flatten_cons
abbrev Hj:=@Nat.lt_succ_of_lt
abbrev Hk:=@List.pairwise_map
abbrev Hl:=@List.length_range
abbrev qbV:=@List.find?_eq_none
abbrev Hm:=@List.forIn_cons
abbrev Lk:=@List.getElem?_append_right
abbrev Ll:=@List.drop_eq_getElem_cons
abbrev Hn:=@List.forIn_nil
abbrev Je:=@Nat.le_of_not_lt
abbrev Jf:=@List.lookup_cons
abbrev Lm:=@List.headD_eq_head?_getD
abbrev JQ:=@List.getElem_of_mem
abbrev Ho:=@List.sum_cons
abbrev Jg:=@List.find?_some
abbrev Jh:=@List.range_succ
abbrev JR:=@Int.toNat_natCast
abbrev Hq:=@List.map_nil
abbrev Ln:=@List.eq_nil_or_concat
abbrev Lo:=@List.concat_eq_append
abbrev JS:=@Nat.lt_succ_self
abbrev JT:=@List.getElem_mem
abbrev Lp:=@Nat.pow_le_pow_right
abbrev Ji:=@List.all_cons
abbrev Jj:=@List.any_cons
abbrev Jk:=@Bool.xor_self
abbrev qcH:=@List.filter_eq_self
abbrev JU:=@List.length_zip
abbrev Lq:=@List.zip_cons_cons
abbrev Lr:=@List.filter_append
abbrev Nk:=@List.filter_cons_of_neg
abbrev Nl:=@List.filter_cons_of_pos
abbrev Nm:=@Nat.add_sub_cancel_left
abbrev Ls:=@List.filter_congr
abbrev Nn:=@PySem.Heap.get?_update_other
abbrev qcQ:=@List.pairwise_lt_range
abbrev Np:=@List.take_of_length_le
abbrev Lu:=@List.zipIdx_cons
abbrev Lw:=@List.ext_getElem
abbrev Lx:=@List.map_zipWith
abbrev qcV:=@List.mem_flatMap
abbrev Nq:=@PySem.Heap.get?_update_self
abbrev Ly:=@List.of_mem_zip
abbrev Lz:=@List.sum_append
abbrev JV:=@List.any_map
abbrev LA:=@Int.le_antisymm
abbrev LB:=@List.zipIdx_nil
abbrev Nr:=@List.getLastD_concat
abbrev LC:=@List.nil_prefix
abbrev LD:=@Bool.false_and
abbrev LF:=@Bool.false_xor
namespace L2
open PySem PySem.Spec PyProof.Rows
abbrev Vu:=Sum Int Str
inductive V where
 |non |bl (b:Bool) |int (i:Int) |str (x:Str) |byt (b:Array UInt8) |flt (b:UInt64) |ref (a:Addr) |ty (n:String)
 deriving DecidableEq
def RelV:V→Value→Prop
 |.non,u=>u=Value.none
 |.bl b,u=>u=Value.bool b
 |.int i,u=>∃t,u=Value.int i t
 |.str x,u=>∃t,u=Value.str x t
 |.byt b,u=>∃t,u=Value.bytes b t
 |.flt b,u=>∃t,u=Value.float b t
 |.ref a,u=>u=Value.ref a
 |.ty n,u=>u=Value.type n
abbrev Vals:List V→List Value→Prop:=Paired RelV
theorem Vals.length {xs:List V} {us:List Value} (r:Vals xs us):xs.length=us.length:=Paired.length r
theorem Vals.get:∀{xs:List V} {us:List Value} {i:Nat} {x:V},Vals xs us→xs[i]?=some x→∃u,us[i]?=some u∧RelV x u
 |_,_,_,_,.nil,e=>by simp at e
 |_,_,0,_,.cons r _,e=>by simp at e;subst e;exact ⟨_,rfl,r⟩
 |_,_,i+1,x,.cons _ t,e=>by
  obtain ⟨u,h1,h2⟩:=Vals.get (i:=i) (x:=x) t (by simpa using e)
  exact ⟨u,by simpa using h1,h2⟩
theorem Vals.set {x:V} {u:Value} (r:RelV x u):∀{xs:List V} {us:List Value} (i:Nat),Vals xs us→Vals (xs.set i x) (us.set i u)
 |_,_,_,.nil=>.nil
 |_,_,0,.cons _ t=>.cons r t
 |_,_,i+1,.cons q t=>.cons q (Vals.set r i t)
theorem Vals.append:∀{xs ys:List V} {us ws:List Value},Vals xs us→Vals ys ws→Vals (xs++ys) (us++ws)
 |_,_,_,_,.nil,s=>s
 |_,_,_,_,.cons r t,s=>.cons r (Vals.append t s)
theorem Vals.take:∀{xs:List V} {us:List Value} (n:Nat),Vals xs us→Vals (xs.take n) (us.take n)
 |_,_,0,_=>.nil
 |_,_,_+1,.nil=>.nil
 |_,_,n+1,.cons r t=>.cons r (Vals.take n t)
theorem Vals.drop:∀{xs:List V} {us:List Value} (n:Nat),Vals xs us→Vals (xs.drop n) (us.drop n)
 |_,_,0,r=>r
 |_,_,_+1,.nil=>.nil
 |_,_,n+1,.cons _ t=>Vals.drop n t
def Vv:Option V→Option Value→Prop
 |some v,some u=>RelV v u
 |none,none=>True
 |_,_=>False
def kV:Vu→V
 |.inl i=>.int i
 |.inr x=>.str x
inductive HO where
 |lst (xs:List V)
 |tup (xs:List V)
 |own (x:Addr)
 |xd (fs:List (Str×V))
 |frz (o:Obj) (u:HO)
 |tbl (ps:Array Value)
 |ext (φ:Heap→Prop)
 |mex (φ:Heap→Prop)
 |dct (φ:Heap→Prop)
abbrev Hp:=Addr→Option HO
def Az (H:Hp) (a:Addr) (o:HO):Hp:=fun b=>if b=a then some o else H b
theorem Cz {H:Hp} {a:Addr} {o:HO}:Az H a o a=some o:=by unfold Az;rw [if_pos rfl]
theorem AJ {H:Hp} {a b:Addr} {o:HO} (h:b≠a):Az H a o b=H b:=by unfold Az;rw [if_neg h]
theorem BN {H:Hp} {a b:Addr} {o:HO} (h:H a=some o) (h':H b=none):a≠b:=by
 intro e;subst e;rw [h] at h';cases h'
section
variable (P:Program) (w:World)
inductive Qx (h:Heap) (a:Addr) (xs:List V):Prop where
 |mk (f1:xs.length≤sizeLine) (its:List Value) (n:Nat) (f2:Vals xs its) (f3:h.get? a=some {cls:=.type "list",data:=.seq its.toArray n}):Qx h a xs
def NoDict (h:Heap) (a:Addr):Prop:=∀o,h.get? a=some o→o.dict=none
inductive Nt (h:Heap) (a:Addr) (xs:List V):Prop where
 |mk (f1:xs.length≤sizeLine) (its:List Value) (f2:Vals xs its) (f3:IsTup h a its.toArray) (f4:NoDict h a):Nt h a xs
theorem NoDict.new {h:Heap} {o:Obj} (hd:o.dict=none:=by rfl) (hf:o.isFreed=false:=by rfl):NoDict (h.push o) h.objs.size:=fun u e=>by
 rw [BR _ hf] at e
 cases e
 exact hd
def ObjOk (P:Program) (w:World) (H:Hp) (h:Heap) (a:Addr):HO→Prop
 |.lst xs=>Qx h a xs
 |.tup xs=>Nt h a xs
 |.own _=>∃o,h.get? a=some o
 |.xd fs=>∃mA,h.Ns1 a mA∧∀f,Vv (fs.lookup f) (mA f)
 |.frz o u=>h.get? a=some o∧ObjOk P w H h a u
 |.tbl ps=>h.get? a=some {cls:=.none,data:=.fields ps}
 |.ext φ=>φ h∧(∃o,h.get? a=some o)∧∀h1 h2:Heap,φ h1→(∀o,h1.get? a=some o→h2.get? a=some o)→φ h2
 |.mex φ=>φ h∧(∃o,h.get? a=some o)∧∀h1 h2:Heap,φ h1→(∀o,h1.get? a=some o→h2.get? a=some o)→φ h2
 |.dct φ=>φ h∧(∃o,h.get? a=some o)∧∀h1 h2:Heap,φ h1→(∀o,h1.get? a=some o→h2.get? a=some o)→φ h2
def HOk (H:Hp) (h:Heap):Prop:=∀a o,H a=some o→ObjOk P w H h a o
end
section
variable {P:Program} {w:World} {H H':Hp} {h h':Heap} {a:Addr} {o:HO}
theorem ObjOk.lt (x:ObjOk P w H h a o):a<h.objs.size:=by
 cases o with
 |lst xs=>obtain ⟨_,_,_,_,e⟩:=x;exact AS e
 |tup xs=>obtain ⟨_,_,_,p,_⟩:=x;exact p.lt
 |own y=>obtain ⟨_,e⟩:=x;exact AS e
 |xd fs=>obtain ⟨_,⟨_,_,_,e,_⟩,_⟩:=x;exact AS e
 |frz ob u=>obtain ⟨e,_⟩:=x;exact AS e
 |tbl ps=>exact AS (show h.get? a=some _ from x)
 |ext φ=>obtain ⟨_,⟨_,e⟩,_⟩:=x;exact AS e
 |mex φ=>obtain ⟨_,⟨_,e⟩,_⟩:=x;exact AS e
 |dct φ=>obtain ⟨_,⟨_,e⟩,_⟩:=x;exact AS e
theorem ObjOk.stay (x:ObjOk P w H h a o) (k:∀b u,(b=a∨H b=some (.own a))→h.get? b=some u→h'.get? b=some u)
 (ho:∀b,H b=some (.own a)→H' b=some (.own a)) (ht:∀b xs,H b=some (.tup xs)→H' b=some (.tup xs)):ObjOk P w H' h' a o:=by
 induction o with
 |lst xs=>obtain ⟨z,its,n,r,e⟩:=x;exact ⟨z,its,n,r,k _ _ (.inl rfl) e⟩
 |tup xs=>obtain ⟨z,its,r,⟨ob,e,c⟩,nd⟩:=x;exact ⟨z,its,r,⟨ob,k _ _ (.inl rfl) e,c⟩,fun o e2=>by rw [k _ _ (.inl rfl) e] at e2;cases e2;exact nd _ e⟩
 |own y=>obtain ⟨ob,e⟩:=x;exact ⟨ob,k _ _ (.inl rfl) e⟩
 |xd fs=>obtain ⟨mA,⟨od,es,ep,e,c⟩,r⟩:=x;exact ⟨mA,⟨od,es,ep,k _ _ (.inl rfl) e,c⟩,r⟩
 |frz ob u ih=>obtain ⟨e,q⟩:=x;exact ⟨k _ _ (.inl rfl) e,ih q⟩
 |tbl ps=>
  have e:h.get? a=some {cls:=.none,data:=.fields ps}:=x
  show h'.get? a=some {cls:=.none,data:=.fields ps}
  exact k a _ (.inl rfl) e
 |ext φ=>obtain ⟨p,⟨o,e⟩,st⟩:=x;exact ⟨st _ _ p fun o q=>k _ _ (.inl rfl) q,⟨o,k _ _ (.inl rfl) e⟩,st⟩
 |mex φ=>obtain ⟨p,⟨o,e⟩,st⟩:=x;exact ⟨st _ _ p fun o q=>k _ _ (.inl rfl) q,⟨o,k _ _ (.inl rfl) e⟩,st⟩
 |dct φ=>obtain ⟨p,⟨o,e⟩,st⟩:=x;exact ⟨st _ _ p fun o q=>k _ _ (.inl rfl) q,⟨o,k _ _ (.inl rfl) e⟩,st⟩
theorem HOk.lt (x:HOk P w H h) (e:H a=some o):a<h.objs.size:=(x a o e).lt
theorem HOk.fresh (x:HOk P w H h) (e:h.objs.size≤a):H a=none:=by
 cases q:H a with
 |none=>rfl
 |some u=>exact absurd (Bp (x.lt q) e) (Eo _)
theorem HOk.kept (x:HOk P w H h) (k:∀b u,h.get? b=some u→h'.get? b=some u):HOk P w H h':=fun a o e=>
 (x a o e).stay (fun b u _ q=>k b u q) (fun _ q=>q) fun _ _ q=>q
theorem HOk.laid (x:HOk P w H h) (k:∀b u,h.get? b=some u→h'.get? b=some u) (hp:h.objs.size≤a) (new:ObjOk P w (Az H a o) h' a o):HOk P w (Az H a o) h':=fun b u e=>by
 have hn:=x.fresh hp
 by_cases hb:b=a
 ·subst hb;rw [Cz] at e;cases e;exact new
 ·rw [AJ hb] at e
  exact (x b u e).stay (fun c v _ q=>k c v q) (fun c q=>by rw [AJ (BN q hn)];exact q) fun c xs q=>by rw [AJ (BN q hn)];exact q
end
def Rd (H:Hp) (a:Addr) (u:HO):Prop:=H a=some u∨∃o,H a=some (.frz o u)
theorem Rd.ok {P:Program} {w:World} {H:Hp} {h:Heap} {a:Addr} {u:HO} (r:Rd H a u) (x:HOk P w H h):ObjOk P w H h a u:=by
 rcases r with r |⟨o,r⟩
 ·exact x a u r
 ·obtain ⟨_,q⟩:=x a _ r
  exact q
def LG:Option HO→Prop
 |some (.lst _)=>True
 |some (.ext _)=>True
 |some (.mex _)=>True
 |some (.dct _)=>True
 |_=>False
section
variable {P:Program} {w:World} {H:Hp} {h h':Heap} {x e:Addr} {o':HO}
theorem HOk.write (ok:HOk P w H h) (mu:LG (H x)) (he:e=x∨H e=some (.own x)) (k:∀b u,b≠e→h.get? b=some u→h'.get? b=some u) (heo:∃u,h'.get? e=some u)
 (new:ObjOk P w (Az H x o') h' x o'):HOk P w (Az H x o') h':=fun b u q=>by
 have nown:∀c y,H c=some (.own y)→c≠x:=fun c y r z=>by subst z;rw [r] at mu;exact mu
 have ntup:∀c xs,H c=some (.tup xs)→c≠x:=fun c xs r z=>by subst z;rw [r] at mu;exact mu
 by_cases hb:b=x
 ·subst hb;rw [Cz] at q;cases q;exact new
 ·rw [AJ hb] at q
  by_cases hbe:b=e
  ·have q':H b=some (.own x):=by
    rcases he with z |z
    ·exact absurd (hbe.trans z) hb
    ·rw [hbe];exact z
   rw [q] at q';cases q'
   obtain ⟨v,hv⟩:=heo
   exact ⟨v,by rw [hbe];exact hv⟩
  ·refine (ok b u q).stay (fun c v hc r=>k c v ?_ r) (fun c r=>by rw [AJ (nown c b r)];exact r) fun c xs r=>by rw [AJ (ntup c xs r)];exact r
   rcases hc with rfl |hc
   ·exact hbe
   ·rintro rfl
    rcases he with z |z
    ·exact nown c b hc z
    ·rw [hc] at z;cases z;exact hb rfl
end
structure Un (fs ex:List Addr) (H H':Hp) (h h':Heap):Prop where
 keep:∀b o,h.get? b=some o→H b=none→b∉fs→b∉ex→h'.get? b=some o
 slot:∀b o,h.get? b=some o→H b=none→b∈fs→b∉ex→∃sl,h'.get? b=some {o with slots:=sl}
 free:∀b o,h.get? b=some o→H b=none→b∉ex→H' b=none
 there:∀b o,h.get? b=some o→b∉ex→∃o',h'.get? b=some o'
 tups:∀b xs,H b=some (.tup xs)→H' b=some (.tup xs)
 frzs:∀b o u,H b=some (.frz o u)→H' b=some (.frz o u)
 tbls:∀b ps,H b=some (.tbl ps)→∃more,H' b=some (.tbl (ps++more))
section
variable {fs fs' ex ex':List Addr} {H H1 H2:Hp} {h h1 h2 h':Heap} {a x e:Addr} {o:HO}
theorem Un.any (u:Un fs ex H H1 h h1) {b:Addr} {ob:Obj} (q:h.get? b=some ob) (n:H b=none) (hx:b∉ex):∃sl,h1.get? b=some {ob with slots:=sl}:=by
 by_cases hb:b∈fs
 ·exact u.slot b ob q n hb hx
 ·exact ⟨ob.slots,u.keep b ob q n hb hx⟩
theorem Un.kept (k:∀b u,h.get? b=some u→h'.get? b=some u):Un fs ex H H h h':=
 ⟨fun b ob q _ _ _=>k b ob q,fun b ob q _ _ _=>⟨ob.slots,k b ob q⟩,fun _ _ _ n _=>n,fun b ob q _=>⟨ob,k b ob q⟩,fun _ _ q=>q,fun _ _ _ q=>q,fun _ ps q=>⟨#[],by rw [q];simp⟩⟩
theorem Un.refl:Un fs ex H H h h:=Un.kept fun _ _ q=>q
theorem Un.laid (k:∀b u,h.get? b=some u→h'.get? b=some u) (hp:h.objs.size≤a) (hn:H a=none):Un fs ex H (Az H a o) h h' where
 keep:=fun b u q _ _ _=>k b u q
 slot:=fun b u q _ _ _=>⟨u.slots,k b u q⟩
 free:=fun b u q n _=>by rw [AJ (BG (Bp (AS q) hp))];exact n
 there:=fun b u q _=>⟨u,k b u q⟩
 tups:=fun b xs q=>by rw [AJ (BN q hn)];exact q
 frzs:=fun b u xs q=>by rw [AJ (BN q hn)];exact q
 tbls:=fun b ps q=>⟨#[],by rw [AJ (BN q hn),q];simp⟩
theorem Un.write (mu:LG (H x)) (he:e=x∨H e=some (.own x)) (k:∀b u,b≠e→h.get? b=some u→h'.get? b=some u) (heo:∃u,h'.get? e=some u):Un fs ex H (Az H x o) h h':=by
 have hx:∀b,H b=none→b≠x:=fun b n z=>by subst z;rw [n] at mu;exact mu
 have hb:∀b,H b=none→b≠e:=fun b n z=>by
  subst z
  rcases he with r |r
  ·exact hx b n r
  ·rw [n] at r;cases r
 have hm:∀b u,H b=some u→¬LG (some u)→b≠x:=fun b u q nm z=>by subst z;rw [q] at mu;exact nm mu
 refine ⟨fun b u q n _ _=>k b u (hb b n) q,fun b u q n _ _=>⟨u.slots,k b u (hb b n) q⟩,fun b u q n _=>by rw [AJ (hx b n)];exact n,fun b u q _=>?_,
  fun b xs q=>by rw [AJ (hm b _ q fun z=>z)];exact q,fun b u xs q=>by rw [AJ (hm b _ q fun z=>z)];exact q,fun b ps q=>⟨#[],by rw [AJ (hm b _ q fun z=>z),q];simp⟩⟩
 by_cases hbe:b=e
 ·subst hbe;exact heo
 ·exact ⟨u,k b u hbe q⟩
end
def LH (h:Heap) (H:Hp):List Addr:=(List.range h.objs.size).filter fun a=>(H a).isSome
def FB (h:Heap) (H:Hp):Heap:=PySem.W.hideAll h (LH h H)
theorem Vw (h:Heap) (H:Hp):(FB h H).objs.size=h.objs.size:=PySem.W.hideAll_size _ _
theorem Vx {h:Heap} {H:Hp} {b:Addr} {o:Obj} (e:h.get? b=some o) (n:H b=none):(FB h H).get? b=some o:=
 PySem.W.hideAll_get _ e fun hm=>by
  have q:(H b).isSome=true:=(qbO.mp hm).2
  rw [n] at q;simp at q
theorem Vy {h:Heap} {H:Hp} {b:Addr} {o:Obj} (e:(FB h H).get? b=some o):h.get? b=some o∧H b=none:=by
 have e':h.get? b=some o:=PySem.W.of_hideAll (LH h H) e
 refine ⟨e',?_⟩
 cases q:H b with
 |none=>rfl
 |some x=>
  have hm:b∈LH h H:=qbO.mpr ⟨qb2.mpr (AS e'),by simp [q]⟩
  have z:(FB h H).get? b=none:=PySem.W.hideAll_none (LH h H) hm
  rw [z] at e;cases e
def Vz (g h:Heap) (L:Addr):List (Addr×Obj):=(List.range h.objs.size).filterMap fun a=>if a=L∨(g.get? a).isSome=true then none else (h.get? a).map fun o=>(a,o)
def rest (g h:Heap) (L d:Addr):List (Addr×Obj):=(Vz g h L).filter fun p=>decide (p.1≠d)
structure Mod (K:PySem.W.Frag) (mg:Str→Option Value) (base:Heap):Prop where
 kin:K.In base
 glob:base.Ns mainGlobals mg
 blt:∃mb,base.Ns builtinsNs mb∧∀x:Str,x≠"__name__"→mb x=bootBuiltins x
 nolimit:base.NoLimit
structure Cx where
 prog:Program
 w:World
 K:PySem.W.Frag
 mg:Str→Option Value
 base:Heap
 A:Around
 N:List Str
 s₀:Shared
 H₀:Hp
 env:Env
 outer:List Env
 stack:List Env
 ex:List Addr
 fn:Str→Bool
 calm:Bool
 pn:List (Addr×Obj)
 xe:Value→Shared→Prop
def frs (l:List Env):List Addr:=l.filterMap (·.frame)
abbrev Cx.fs (X:Cx):List Addr:=frs X.outer
def LI (sc:Scope) (x:Str):Prop:=sc.names.lookup x=some .local∨sc.names.lookup x=some .cell∨sc.names.lookup x=some .free
def Hr (sc:Scope) (x:Str):Prop:=sc.names.lookup x=some .local∨sc.names.lookup x=some .cell
def Qy (env:Env) (h:Heap) (m:Str→Option Value) (x:Str) (u:Value):Prop:=
 (env.kindOf x=some .local∧m x=some u)∨((env.kindOf x=some .cell∨env.kindOf x=some .free)∧∃c,env.cells.lookup x=some c∧h.IsCell c (some u))
structure Cx.Ok (X:Cx):Prop where
 mod:Mod X.K X.mg X.base
 kind:X.env.scope.kind=.function
 glob:X.env.globals=mainGlobals
 blt:X.env.builtins=builtinsNs
 above:X.s₀.heap.objs.size≤X.env.locals
 inj:∀x y c,X.env.cells.lookup x=some c→X.env.cells.lookup y=some c→x=y
 has:∀x,(X.env.kindOf x=some .cell∨X.env.kindOf x=some .free)→∃c,X.env.cells.lookup x=some c
 cab:∀x c,X.fn x=true→X.env.cells.lookup x=some c→X.s₀.heap.objs.size≤c
 hd:X.calm=true→X.A.handled=none
 frames:X.A.frames=some X.stack
 stk:X.stack=X.outer∨(X.stack=X.env::X.outer∧X.env.frame=some X.env.locals)
 exf:∀b∈X.ex,b≠X.env.locals∧∀x c,X.env.cells.lookup x=some c→c≠b
 bs:∀b o,X.base.get? b=some o→X.s₀.heap.get? b=some o∧X.H₀ b=none
 bsz:X.base.objs.size≤X.s₀.heap.objs.size
 noex:∀b o,X.base.get? b=some o→b∉X.ex
 exfs:∀b∈X.ex,b∉X.fs
 funs:X.s₀.heap.FunFrames X.base X.outer
 frf:∀b∈X.fs,X.H₀ b=none
structure Inv (X:Cx) (pins:List (Addr×Obj)) (σ:List (Option V)) (H:Hp) (s:Shared):Prop where
 ok:X.Ok
 os:s.os=X.s₀.os
 bare:AllBare s.gens
 base:Un X.fs X.ex X.H₀ H X.s₀.heap s.heap
 loc:∃m,s.heap.Ns X.env.locals m∧∀(i:Nat) (x:Str) (v:V),X.N[i]?=some x→σ[i]?=some (some v)→LI X.env.scope x→∃u,RelV v u∧Qy X.env s.heap m x u
 cell:∀x c,X.env.cells.lookup x=some c→∃v,s.heap.IsCell c v
 free:H X.env.locals=none
 freeC:∀x c,X.env.cells.lookup x=some c→H c=none
 pin:∀p∈X.pn++pins,s.heap.get? p.1=some p.2∧H p.1=none∧p.1≠X.env.locals∧p.1∉X.fs∧∀v,p.2.data≠.cell v
 hok:HOk X.prog X.w H s.heap
 len:σ.length=X.N.length
section
variable {X:Cx} {pins:List (Addr×Obj)} {σ:List (Option V)} {H H':Hp} {s:Shared} {h':Heap}
theorem Cx.Ok.nofr (ok:X.Ok) {b:Addr} {o:Obj} (e:X.base.get? b=some o):b∉X.fs:=fun hb=>by
 have:=(ok.funs.mem hb).1
 rw [e] at this;cases this
theorem Inv.bs (I:Inv X pins σ H s):∀b o,X.base.get? b=some o→s.heap.get? b=some o∧H b=none:=fun b o e=>
 ⟨I.base.keep b o (I.ok.bs b o e).1 (I.ok.bs b o e).2 (I.ok.nofr e) (I.ok.noex b o e),I.base.free b o (I.ok.bs b o e).1 (I.ok.bs b o e).2 (I.ok.noex b o e)⟩
theorem Inv.bk (I:Inv X pins σ H s):∀b o,X.base.get? b=some o→s.heap.get? b=some o:=fun b o e=>(I.bs b o e).1
theorem Inv.mod (I:Inv X pins σ H s):Mod X.K X.mg X.base:=I.ok.mod
theorem Inv.kIn (I:Inv X pins σ H s):X.K.In s.heap:=I.ok.mod.kin.keeps I.bk
theorem Inv.nolimit (I:Inv X pins σ H s):s.heap.NoLimit:=I.ok.mod.nolimit.keeps I.bk
theorem Inv.lt (I:Inv X pins σ H s):X.env.locals<s.heap.objs.size:=let ⟨_,hn,_⟩:=I.loc;hn.lt
theorem Inv.sz (I:Inv X pins σ H s):X.s₀.heap.objs.size≤s.heap.objs.size:=B8 I.ok.above (Nat.le_of_lt I.lt)
theorem Inv.nofs (I:Inv X pins σ H s) {a:Addr} (h:s.heap.objs.size≤a):a∉X.fs:=fun hb=>by
 obtain ⟨_,o,ho,_⟩:=I.ok.funs.mem hb
 exact absurd (Bp (AS ho) (B8 I.sz h)) (Eo _)
theorem Inv.cne (I:Inv X pins σ H s):∀x c,X.env.cells.lookup x=some c→c≠X.env.locals:=fun x c e z=>by
 obtain ⟨v,o,ho,hd⟩:=I.cell x c e
 obtain ⟨m,⟨o',es,ep,ho',hd',_⟩,_⟩:=I.loc
 rw [z,ho'] at ho;cases ho;rw [hd'] at hd;cases hd
theorem Inv.funs (I:Inv X pins σ H s):s.heap.FunFrames X.base X.outer:=by
 have all:∀(l:List Env),(∀b∈frs l,b∈X.fs)→X.s₀.heap.FunFrames X.base l→s.heap.FunFrames X.base l:=by
  intro l
  induction l with
  |nil=>intro _ _;trivial
  |cons env r ih=>
   intro hs hl
   obtain ⟨hk,⟨L,o,hf,hn,ho,hd⟩,hr⟩:=hl
   have hL:L∈X.fs:=hs L (by unfold frs;rw [GG,hf];exact AZ)
   obtain ⟨sl,e⟩:=I.base.slot L o ho (I.ok.frf L hL) hL fun z=>I.ok.exfs L z hL
   exact ⟨hk,⟨L,_,hf,hn,e,hd⟩,ih (fun b hb=>hs b (by unfold frs;rw [GG,hf];exact Bb _ hb)) hr⟩
 exact all X.outer (fun _ hb=>hb) I.ok.funs
theorem Inv.stack (I:Inv X pins σ H s):s.heap.FunFrames X.base X.stack:=by
 rcases I.ok.stk with e |⟨e,hf⟩
 ·rw [e];exact I.funs
 ·rw [e]
  obtain ⟨m,hn,_⟩:=I.loc
  refine .cons (by rw [I.ok.kind];decide) hf hn ?_ I.funs
  exact Heap.get?_none_of_le (B8 I.ok.bsz I.ok.above)
theorem Inv.stkSub (I:Inv X pins σ H s):∀b∈frs X.stack,b∈X.env.locals::X.fs:=fun b hb=>by
 rcases I.ok.stk with e |⟨e,hf⟩
 ·rw [e] at hb;exact Bb _ hb
 ·rw [e] at hb
  unfold frs at hb
  rw [GG,hf] at hb
  exact hb
theorem Inv.stkFree (I:Inv X pins σ H s):∀b∈frs X.stack,H b=none:=fun b hb=>by
 rcases qa3.mp (I.stkSub b hb) with e |hb
 ·rw [e];exact I.free
 ·obtain ⟨_,o,ho,_⟩:=I.ok.funs.mem hb
  exact I.base.free b o ho (I.ok.frf b hb) fun z=>I.ok.exfs b z hb
theorem Inv.step {g':Array GenState} {t':Nat} {d':Drawn} {ch:List Addr} (I:Inv X pins σ H s)
 (hch:∀b∈ch,(b∈X.ex∨X.s₀.heap.objs.size≤b)∧b≠X.env.locals∧(∀x c,X.env.cells.lookup x=some c→c≠b)∧∀p∈X.pn++pins,p.1≠b)
 (keep:∀b o,b≠X.env.locals→b∉X.fs→b∉ch→s.heap.get? b=some o→H b=none→h'.get? b=some o)
 (slot:∀b o,b≠X.env.locals→b∈X.fs→b∉ch→s.heap.get? b=some o→H b=none→∃sl,h'.get? b=some {o with slots:=sl}) (free:∀b o,b∉ch→s.heap.get? b=some o→H b=none→H' b=none)
 (there:∀b o,b∉ch→s.heap.get? b=some o→∃o',h'.get? b=some o')
 (tups:∀b xs,H b=some (.tup xs)→H' b=some (.tup xs)) (frzs:∀b o u,H b=some (.frz o u)→H' b=some (.frz o u)) (tbls:∀b ps,H b=some (.tbl ps)→∃more,H' b=some (.tbl (ps++more)))
 (ns:∀m,s.heap.Ns X.env.locals m→h'.Ns X.env.locals m) (hok:HOk X.prog X.w H' h') (hg:AllBare g'):
 Inv X pins σ H' {s with heap:=h',gens:=g',drawn:=d',toks:=t'}:=by
 have neL:∀b o,X.s₀.heap.get? b=some o→b≠X.env.locals:=fun b o e=>BG (Bp (AS e) I.ok.above)
 have neC:∀b o,X.s₀.heap.get? b=some o→b∉X.ex→b∉ch:=fun b o e hx hb=>by
  rcases (hch b hb).1 with z |z
  ·exact hx z
  ·exact absurd (Bp (AS e) z) (Eo _)
 have cellK:∀x c,X.env.cells.lookup x=some c→∀v,s.heap.IsCell c v→h'.IsCell c v:=fun x c e v z1_=>by
  obtain ⟨o,ho,hd⟩:=z1_
  have nch:c∉ch:=fun z=>(hch c z).2.2.1 x c e rfl
  by_cases hc:c∈X.fs
  ·obtain ⟨sl,q⟩:=slot c o (I.cne x c e) hc nch ho (I.freeC x c e)
   exact ⟨_,q,hd⟩
  ·exact ⟨o,keep c o (I.cne x c e) hc nch ho (I.freeC x c e),hd⟩
 refine ⟨I.ok,I.os,hg,⟨fun b o e n hb hx=>?_,fun b o e n hb hx=>?_,fun b o e n hx=>?_,fun b o e hx=>?_,fun b xs e=>tups b xs (I.base.tups b xs e),fun b o xs e=>frzs b o xs (I.base.frzs b o xs e),fun b ps e=>?_⟩,?_,fun x c e=>?_,?_,fun x c e=>?_,fun p hp=>?_,hok,I.len⟩
 ·exact keep b o (neL b o e) hb (neC b o e hx) (I.base.keep b o e n hb hx) (I.base.free b o e n hx)
 ·obtain ⟨sl,e1⟩:=I.base.slot b o e n hb hx
  obtain ⟨sl',e2⟩:=slot b _ (neL b o e) hb (neC b o e hx) e1 (I.base.free b o e n hx)
  exact ⟨sl',e2⟩
 ·obtain ⟨o',e1⟩:=I.base.there b o e hx
  exact free b o' (neC b o e hx) e1 (I.base.free b o e n hx)
 ·obtain ⟨o',e1⟩:=I.base.there b o e hx
  exact there b o' (neC b o e hx) e1
 ·obtain ⟨m1,e1⟩:=I.base.tbls b ps e
  obtain ⟨m2,e2⟩:=tbls b _ e1
  exact ⟨m1++m2,by rw [e2,Array.append_assoc]⟩
 ·obtain ⟨m,hn,hl⟩:=I.loc
  refine ⟨m,ns m hn,fun i x v e1 e2 e3=>?_⟩
  obtain ⟨u,r,l⟩:=hl i x v e1 e2 e3
  refine ⟨u,r,?_⟩
  rcases l with l |⟨k,c,e,z⟩
  ·exact .inl l
  ·exact .inr ⟨k,c,e,cellK x c e _ z⟩
 ·obtain ⟨v,z⟩:=I.cell x c e
  exact ⟨v,cellK x c e v z⟩
 ·obtain ⟨m,⟨o,_,_,ho,_⟩,_⟩:=I.loc
  exact free _ o (fun z=>(hch _ z).2.1 rfl) ho I.free
 ·obtain ⟨v,o,ho,hd⟩:=I.cell x c e
  exact free c o (fun z=>(hch c z).2.2.1 x c e rfl) ho (I.freeC x c e)
 ·obtain ⟨e,n,ne,nf,d⟩:=I.pin p hp
  have nch:p.1∉ch:=fun z=>(hch p.1 z).2.2.2 p hp rfl
  exact ⟨keep p.1 p.2 ne nf nch e n,free p.1 p.2 nch e n,ne,nf,d⟩
theorem Inv.un {t':Nat} (I:Inv X pins σ H s) (u:Un X.fs [] H H' s.heap h') (hok:HOk X.prog X.w H' h'):Inv X pins σ H' {s with heap:=h',toks:=t'}:=by
 obtain ⟨m,⟨o,es,ep,ho,r⟩,_⟩:=id I.loc
 obtain ⟨sl,hL⟩:=u.any ho I.free (by simp)
 exact I.step (g':=s.gens) (d':=s.drawn) (ch:=[]) (fun _ z=>nomatch z) (fun b o _ hb _ e n=>u.keep b o e n hb (by simp)) (fun b o _ hb _ e n=>u.slot b o e n hb (by simp)) (fun b o _ e n=>u.free b o e n (by simp)) (fun b o _ e=>u.there b o e (by simp)) u.tups u.frzs u.tbls (fun m' hm=>by
  obtain ⟨o',es',ep',ho',r'⟩:=hm
  rw [ho] at ho';cases ho'
  exact ⟨_,es',ep',hL,r'⟩) hok I.bare
theorem Inv.call {g':Array GenState} {t':Nat} {d':Drawn} {ch:List Addr} (I:Inv X pins σ H s) (u:Un (frs X.stack) ch H H' s.heap h') (hok:HOk X.prog X.w H' h') (hg:AllBare g')
 (hch:∀b∈ch,(b∈X.ex∨X.s₀.heap.objs.size≤b)∧b≠X.env.locals∧(∀x c,X.env.cells.lookup x=some c→c≠b)∧∀p∈X.pn++pins,p.1≠b):
 Inv X pins σ H' {s with heap:=h',gens:=g',drawn:=d',toks:=t'}:=by
 obtain ⟨m,⟨o,es,ep,ho,r⟩,_⟩:=id I.loc
 obtain ⟨sl,hL⟩:=u.any ho I.free fun z=>(hch _ z).2.1 rfl
 exact I.step (ch:=ch) hch (fun b o hL hb hc e n=>u.keep b o e n (fun z=>(qa3.mp (I.stkSub b z)).elim hL hb) hc) (fun b o _ _ hc e n=>u.any e n hc) (fun b o hc e n=>u.free b o e n hc) (fun b o hc e=>u.there b o e hc) u.tups u.frzs u.tbls (fun m' hm=>by
  obtain ⟨o',es',ep',ho',r'⟩:=hm
  rw [ho] at ho';cases ho'
  exact ⟨_,es',ep',hL,r'⟩) hok hg
theorem Inv.turned {t':Nat} {it:Addr} (I:Inv X pins σ H s) (k:∀b o,b≠it→s.heap.get? b=some o→h'.get? b=some o) (hn:H it=none) (hL:it≠X.env.locals)
 (h1:it∈X.ex∨X.s₀.heap.objs.size≤it) (h2:∀x c,X.env.cells.lookup x=some c→c≠it) (h3:∀p∈X.pn++pins,p.1≠it):Inv X pins σ H {s with heap:=h',toks:=t'}:=by
 have nit:∀b u,H b=some u→b≠it:=fun b u e z=>by rw [z,hn] at e;cases e
 refine I.step (g':=s.gens) (d':=s.drawn) (ch:=[it]) (fun b hb=>?_) (fun b o _ _ hc e _=>k b o (fun z=>hc (by simp [z])) e) (fun b o _ _ hc e _=>⟨o.slots,k b o (fun z=>hc (by simp [z])) e⟩) (fun _ _ _ _ n=>n)
  (fun b o hc e=>⟨o,k b o (fun z=>hc (by simp [z])) e⟩) (fun _ _ e=>e) (fun _ _ _ e=>e) (fun b ps e=>⟨#[],by rw [e];simp⟩) (fun m hm=>?_) (fun b u e=>?_) I.bare
 ·have e:b=it:=by simpa using hb
  subst e
  exact ⟨h1,hL,h2,h3⟩
 ·obtain ⟨o,es,ep,ho,r⟩:=hm
  exact ⟨o,es,ep,k _ o (Ne.symm hL) ho,r⟩
 ·refine (I.hok b u e).stay (fun c v hc q=>k c v ?_ q) (fun _ q=>q) fun _ _ q=>q
  rcases hc with z |z
  ·rw [z];exact nit b u e
  ·exact nit c _ z
theorem Inv.tok (I:Inv X pins σ H s) (t:Nat):Inv X pins σ H {s with toks:=t}:=I.un (h':=s.heap) (t':=t) Un.refl I.hok
theorem Inv.kept {t':Nat} (I:Inv X pins σ H s) (k:∀b u,s.heap.get? b=some u→h'.get? b=some u):Inv X pins σ H {s with heap:=h',toks:=t'}:=I.un (Un.kept k) (I.hok.kept k)
theorem Inv.laid {a:Addr} {o:HO} {t':Nat} (I:Inv X pins σ H s) (k:∀b u,s.heap.get? b=some u→h'.get? b=some u) (hp:s.heap.objs.size≤a) (new:ObjOk X.prog X.w (Az H a o) h' a o):
 Inv X pins σ (Az H a o) {s with heap:=h',toks:=t'}:=I.un (Un.laid k hp (I.hok.fresh hp)) (I.hok.laid k hp new)
theorem Inv.write {x e:Addr} {o:HO} {t':Nat} (I:Inv X pins σ H s) (mu:LG (H x)) (he:e=x∨H e=some (.own x)) (k:∀b u,b≠e→s.heap.get? b=some u→h'.get? b=some u) (heo:∃u,h'.get? e=some u)
 (new:ObjOk X.prog X.w (Az H x o) h' x o):Inv X pins σ (Az H x o) {s with heap:=h',toks:=t'}:=I.un (Un.write mu he k heo) (I.hok.write mu he k heo new)
theorem Inv.weak {σ':List (Option V)} (I:Inv X pins σ H s) (hl:σ'.length=σ.length) (w:∀(i:Nat) v,σ'[i]?=some (some v)→σ[i]?=some (some v)):Inv X pins σ' H s:=
 ⟨I.ok,I.os,I.bare,I.base,let ⟨m,hn,hl'⟩:=I.loc;⟨m,hn,fun i x v e1 e2 e3=>hl' i x v e1 (w i v e2) e3⟩,I.cell,I.free,I.freeC,I.pin,I.hok,hl.trans I.len⟩
theorem Inv.pins_of {pins':List (Addr×Obj)} (I:Inv X pins σ H s) (h:∀p∈pins',s.heap.get? p.1=some p.2∧H p.1=none∧p.1≠X.env.locals∧p.1∉X.fs∧∀v,p.2.data≠.cell v):Inv X pins' σ H s:=
 ⟨I.ok,I.os,I.bare,I.base,I.loc,I.cell,I.free,I.freeC,fun p hp=>(qaH.mp hp).elim (fun z=>I.pin p (Cu _ z)) (h p),I.hok,I.len⟩
theorem Qz {N:List Str} (hN:N.Nodup) {i j:Nat} {x:Str} (a:N[i]?=some x) (b:N[j]?=some x):i=j:=by
 obtain ⟨h1,e1⟩:=qa8.mp a
 obtain ⟨h2,e2⟩:=qa8.mp b
 exact (List.getElem_inj hN).mp (e1.trans e2.symm)
theorem Nu {M:Model} {A:Around} {E:Value→Shared→Prop} {i:Nat} {x:Str} {v:V} {u:Value} {Q:Unit→Shared→Prop} (I:Inv X pins σ H s) (hN:X.N.Nodup) (hi:X.N[i]?=some x) (hx:Hr X.env.scope x) (r:RelV v u)
 (h:∀s',Inv X pins (σ.set i (some v)) H s'→(∃a,Heap.SameBut a s.heap s'.heap∧(a=X.env.locals∨X.env.cells.lookup x=some a))→Q () s') (hf:X.fn x=true∨X.env.scope.names.lookup x=some .local:=by first |exact .inl rfl |exact .inr rfl |assumption):wpAny M A (storeName X.env x u) Q E s:=by
 obtain ⟨m,hn,hl⟩:=id I.loc
 have hcls:(X.env.scope.kind==.class||(X.env.scope.kind==.module&&X.env.locals != X.env.globals))=false:=by rw [I.ok.kind];rfl
 have hiσ:i < σ.length:=by rw [I.len];exact (qa8.mp hi).1
 have cne:=I.cne
 have tracked:∀{a:Addr} {h':Heap},(∃o,s.heap.get? a=some o∧H a=none)→Heap.SameBut a s.heap h'→HOk X.prog X.w H h':=fun {a h'} ha hs b ob e=>by
  obtain ⟨_,_,hfree⟩:=ha
  refine (I.hok b ob e).stay (fun c w' hc q=>(hs.2 c ?_).trans q) (fun _ q=>q) fun _ _ q=>q
  rintro rfl
  rcases hc with rfl |hc
  ·rw [hfree] at e;cases e
  ·rw [hfree] at hc;cases hc
 rcases hx with hk |hk
 ·refine wpAny_storeName_local hk hn (fun h' hn' hs=>?_) hcls
  obtain ⟨oL,_,_,hoL,_⟩:=id hn
  refine h _ ⟨I.ok,I.os,I.bare,⟨fun b o e n hb hx=>?_,fun b o e n hb hx=>?_,I.base.free,fun b o e hx=>?_,I.base.tups,I.base.frzs,I.base.tbls⟩,⟨_,hn',fun j y v' e1 e2 e3=>?_⟩,fun y c e=>?_,I.free,I.freeC,fun p hp=>?_,tracked ⟨oL,hoL,I.free⟩ hs,by simpa using I.len⟩ ⟨_,hs,.inl rfl⟩
  ·exact (hs.2 b (BG (Bp (AS e) I.ok.above))).trans (I.base.keep b o e n hb hx)
  ·obtain ⟨sl,e1⟩:=I.base.slot b o e n hb hx
   exact ⟨sl,(hs.2 b (BG (Bp (AS e) I.ok.above))).trans e1⟩
  ·obtain ⟨o',e1⟩:=I.base.there b o e hx
   exact ⟨o',(hs.2 b (BG (Bp (AS e) I.ok.above))).trans e1⟩
  ·by_cases hj:j=i
   ·subst hj
    rw [hi] at e1;cases e1
    rw [D4 hiσ] at e2
    cases e2
    exact ⟨u,r,.inl ⟨hk,by simp⟩⟩
   ·rw [CI (Ne.symm hj)] at e2
    obtain ⟨u',r',q⟩:=hl j y v' e1 e2 e3
    refine ⟨u',r',?_⟩
    rcases q with ⟨k,e⟩ |⟨k,c,e,z⟩
    ·refine .inl ⟨k,?_⟩
     have:y≠x:=fun e=>hj (Qz hN e1 (e ▸ hi))
     simp [this,e]
    ·exact .inr ⟨k,c,e,z.sameBut hs (cne y c e)⟩
  ·obtain ⟨w',z⟩:=I.cell y c e
   exact ⟨w',z.sameBut hs (cne y c e)⟩
  ·obtain ⟨e,n,ne,nf,d⟩:=I.pin p hp
   exact ⟨(hs.2 p.1 ne).trans e,n,ne,nf,d⟩
 ·have hfn:X.fn x=true:=by
   rcases hf with z |z
   ·exact z
   ·rw [z] at hk;cases hk
  obtain ⟨c,hc⟩:=I.ok.has x (.inl hk)
  obtain ⟨w',z⟩:=I.cell x c hc
  refine wpAny_storeName_cell I.ok.kind hk hc z (fun h' hc' hs=>?_)
  obtain ⟨oc,hoc,hocd⟩:=id z
  refine h {s with heap:=h'} ⟨I.ok,I.os,I.bare,⟨fun b o e n hb hx=>?_,fun b o e n hb hx=>?_,I.base.free,fun b o e hx=>?_,I.base.tups,I.base.frzs,I.base.tbls⟩,⟨m,hn.sameBut hs (Ne.symm (cne x c hc)),fun j y v' e1 e2 e3=>?_⟩,fun y c' e=>?_,I.free,I.freeC,fun p hp=>?_,tracked ⟨oc,hoc,I.freeC x c hc⟩ hs,by simpa using I.len⟩ ⟨c,hs,.inr hc⟩
  ·exact (hs.2 b (BG (Bp (AS e) (I.ok.cab x c hfn hc)))).trans (I.base.keep b o e n hb hx)
  ·obtain ⟨sl,e1⟩:=I.base.slot b o e n hb hx
   exact ⟨sl,(hs.2 b (BG (Bp (AS e) (I.ok.cab x c hfn hc)))).trans e1⟩
  ·obtain ⟨o',e1⟩:=I.base.there b o e hx
   exact ⟨o',(hs.2 b (BG (Bp (AS e) (I.ok.cab x c hfn hc)))).trans e1⟩
  ·by_cases hj:j=i
   ·subst hj
    rw [hi] at e1;cases e1
    rw [D4 hiσ] at e2
    cases e2
    exact ⟨u,r,.inr ⟨.inl hk,c,hc,hc'⟩⟩
   ·rw [CI (Ne.symm hj)] at e2
    obtain ⟨u',r',q⟩:=hl j y v' e1 e2 e3
    refine ⟨u',r',?_⟩
    rcases q with q |⟨k,c',e,z'⟩
    ·exact .inl q
    ·refine .inr ⟨k,c',e,z'.sameBut hs ?_⟩
     rintro rfl
     exact hj (Qz hN e1 (I.ok.inj _ _ _ e hc ▸ hi))
  ·by_cases hcc:c'=c
   ·subst hcc;exact ⟨_,hc'⟩
   ·obtain ⟨w2,z2⟩:=I.cell y c' e
    exact ⟨w2,z2.sameBut hs hcc⟩
  ·obtain ⟨e,n,ne,nf,d⟩:=I.pin p hp
   refine ⟨(hs.2 p.1 ?_).trans e,n,ne,nf,d⟩
   intro q
   rw [q,hoc] at e
   have q':oc=p.2:=Option.some.inj e
   exact d w' (by rw [←q'];exact hocd)
theorem LJ {M:Model} {A:Around} {E:Value→Shared→Prop} {i:Nat} {x:Str} {v:V} {u:Value} {Q:Unit→Shared→Prop} (I:Inv X pins σ H s) (hN:X.N.Nodup) (hi:X.N[i]?=some x) (hx:Hr X.env.scope x) (r:RelV v u)
 (h:∀s',Inv X pins (σ.set i (some v)) H s'→Q () s') (hf:X.fn x=true∨X.env.scope.names.lookup x=some .local:=by first |exact .inl rfl |exact .inr rfl |assumption):wpAny M A (storeName X.env x u) Q E s:=
 Nu I hN hi hx r (fun s' I' _=>h s' I') hf
theorem Inv.call' {s':Shared} {ch:List Addr} (I:Inv X pins σ H s) (ho:s'.os=s.os) (u:Un (frs X.stack) ch H H' s.heap s'.heap) (hok:HOk X.prog X.w H' s'.heap) (hg:AllBare s'.gens)
 (hch:∀b∈ch,(b∈X.ex∨X.s₀.heap.objs.size≤b)∧b≠X.env.locals∧(∀x c,X.env.cells.lookup x=some c→c≠b)∧∀p∈X.pn++pins,p.1≠b):Inv X pins σ H' s':=by
 obtain ⟨h',g',d',t',o'⟩:=s'
 have e:o'=s.os:=ho
 subst e
 exact I.call (g':=g') (t':=t') (d':=d') u hok hg hch
end
abbrev XK:=Value→Option Addr→Hp→Prop
abbrev St:=List (Option V)
abbrev VK:=V→Hp→Prop
abbrev TE:=St→Hp→VK→Prop
abbrev TT:=St→Hp→(Bool→Hp→Prop)→Prop
abbrev TA:=St→Hp→(List V→Hp→Prop)→Prop
structure Es where
 nx:St→Hp→Prop
 rt:VK
 bk:St→Hp→Prop:=fun _ _=>False
 ct:St→Hp→Prop:=fun _ _=>False
abbrev TS:=Es→St→Hp→Prop
inductive EP (X:Cx) (pins:List (Addr×Obj)) (σ:St) (Q:VK) (u:Value) (s':Shared):Prop where
 |mk (v:V) (H':Hp) (i:Inv X pins σ H' s') (r:RelV v u) (q:Q v H'):EP X pins σ Q u s'
inductive TP (X:Cx) (pins:List (Addr×Obj)) (σ:St) (Q:Bool→Hp→Prop) (b:Bool) (s':Shared):Prop where
 |mk (H':Hp) (i:Inv X pins σ H' s') (q:Q b H'):TP X pins σ Q b s'
inductive AP (X:Cx) (pins:List (Addr×Obj)) (σ:St) (Q:List V→Hp→Prop) (us:List Value) (s':Shared):Prop where
 |mk (vs:List V) (H':Hp) (i:Inv X pins σ H' s') (r:Vals vs us) (q:Q vs H'):AP X pins σ Q us s'
inductive SN (X:Cx) (pins:List (Addr×Obj)) (q:St→Hp→Prop) (s':Shared):Prop where
 |mk (σ':St) (H':Hp) (i:Inv X pins σ' H' s') (p:q σ' H'):SN X pins q s'
inductive SR (X:Cx) (pins:List (Addr×Obj)) (q:V→Hp→Prop) (u:Value) (s':Shared):Prop where
 |mk (v:V) (σ':St) (H':Hp) (i:Inv X pins σ' H' s') (r:RelV v u) (p:q v H'):SR X pins q u s'
def SP (X:Cx) (pins:List (Addr×Obj)) (D:Es) (f:Flow) (s':Shared):Prop:=
 match f with
 |.next=>SN X pins D.nx s'
 |.brk=>SN X pins D.bk s'
 |.cont=>SN X pins D.ct s'
 |.ret u=>SR X pins D.rt u s'
def PE (X:Cx) (e:Expr) (t:TE):Prop:=
 ∀(pins:List (Addr×Obj)) (s:Shared) (σ:St) (H:Hp) (Q:VK),Inv X pins σ H s→t σ H Q→wpAny (model X.prog X.w) X.A (eval e X.env) (EP X pins σ Q) X.xe s
def PT (X:Cx) (e:Expr) (t:TT):Prop:=
 ∀(pins:List (Addr×Obj)) (s:Shared) (σ:St) (H:Hp) (Q:Bool→Hp→Prop),Inv X pins σ H s→t σ H Q→wpAny (model X.prog X.w) X.A (isTrue e X.env (eval e X.env)) (TP X pins σ Q) X.xe s
def PW (X:Cx) (e:Expr) (t:TT):Prop:=
 ∀(FT:Sem Value) (pins:List (Addr×Obj)) (s:Shared) (σ:St) (H:Hp) (Q:Bool→Hp→Prop),Inv X pins σ H s→t σ H Q→wpAny (model X.prog X.w) X.A (isTrue e X.env FT) (TP X pins σ Q) X.xe s
theorem PW.pt {X:Cx} {e:Expr} {t:TT} (h:PW X e t):PT X e t:=h _
def PA (X:Cx) (es:List Expr) (t:TA):Prop:=
 ∀(pos:Pos) (pins:List (Addr×Obj)) (s:Shared) (σ:St) (H:Hp) (Q:List V→Hp→Prop),Inv X pins σ H s→t σ H Q→wpAny (model X.prog X.w) X.A (spliced (backTo pos (starEach es X.env))) (AP X pins σ Q) X.xe s
def PS (X:Cx) (st:Stmt) (t:TS):Prop:=
 ∀(pins:List (Addr×Obj)) (s:Shared) (σ:St) (H:Hp) (D:Es),Inv X pins σ H s→t D σ H→wpAny (model X.prog X.w) X.A (exec st X.env) (SP X pins D) X.xe s
def Eu (X:Cx) (st:List Stmt) (t:TS):Prop:=
 ∀(pins:List (Addr×Obj)) (s:Shared) (σ:St) (H:Hp) (D:Es),Inv X pins σ H s→t D σ H→wpAny (model X.prog X.w) X.A (execs st X.env) (SP X pins D) X.xe s
theorem AA {α:Type} {t:Sem α} {Q Q':α→Shared→Prop} {M:Model} {A:Around} {E:Value→Shared→Prop} {s:Shared} (h:wpAny M A t Q E s) (hQ:∀a s,Q a s→Q' a s):wpAny M A t Q' E s:=wpAny_mono h hQ fun _ _ x=>x
section
variable {X:Cx}
def Nv (i:Nat):TE:=fun σ H Q=>∃v,σ[i]?=some (some v)∧Q v H
def tC (v:V):TE:=fun _ H Q=>Q v H
theorem VA {i:Nat} {x:Str} {pos:Pos} (hN:X.N[i]?=some x) (hv:LI X.env.scope x) (hd:(x==("__debug__":Str))=false:=by decide) (hcd:(x==("__classdict__":Str))=false:=by decide):PE X (.Name x pos) (Nv i):=by
 intro pins s σ H Q I h
 obtain ⟨v,e,h⟩:=h
 obtain ⟨m,hn,hl⟩:=I.loc
 obtain ⟨u,r,l⟩:=hl i x v hN e hv
 have fin:EP X pins σ Q u s:=⟨v,H,I,r,h⟩
 rcases l with ⟨hk,hm⟩ |⟨hk,c,hc,hcell⟩
 ·exact wpAny_Name (wpAny_loadName_local I.ok.kind hk hn hm fin) hd
 ·rcases hk with hk |hk
  ·exact wpAny_Name (wpAny_loadName_cell I.ok.kind hk hc hcell fin) hd
  ·exact wpAny_Name (wpAny_loadName_free I.ok.kind hk hc hcell fin hcd) hd
theorem QC {i j pos}:PE X (.Constant (.int i) j pos) (tC (.int i)):=fun _ _ _ H _ I h=>wpAny_Constant_int ⟨.int i,H,I.tok _,⟨_,rfl⟩,h⟩
theorem VB {b j pos}:PE X (.Constant (.bool b) j pos) (tC (.bl b)):=fun _ _ _ H _ I h=>Constant_bool ⟨.bl b,H,I,rfl,h⟩
theorem VC {j pos}:PE X (.Constant .none j pos) (tC .non):=fun _ _ _ H _ I h=>Constant_none ⟨.non,H,I,rfl,h⟩
def Gl (X:Cx) (x:Str):Prop:=X.env.kindOf x=some .globalImplicit
theorem QE {E:Value→Shared→Prop} {pins:List (Addr×Obj)} {s:Shared} {σ:St} {H:Hp} {x:Str} {u:Value} {pos:Pos} {Q:Value→Shared→Prop} (I:Inv X pins σ H s) (hg:Gl X x) (hm:X.mg x=some u) (h:Q u s)
 (hd:(x==("__debug__":Str))=false:=by decide):wpAny (model X.prog X.w) X.A (eval (.Name x pos) X.env) Q E s:=
 Calls.Name_function_global I.ok.kind hg (Calls.loadGlobal_global (by rw [I.ok.glob];exact I.mod.glob.keeps I.bk) hm h) hd
theorem GK {E:Value→Shared→Prop} {pins:List (Addr×Obj)} {s:Shared} {σ:St} {H:Hp} {x:Str} {u:Value} {pos:Pos} {Q:Value→Shared→Prop} (I:Inv X pins σ H s) (hg:Gl X x) (hm:X.mg x=none) (hv:bootBuiltins x=some u) (h:Q u s)
 (hn:x≠"__name__":=by decide) (hd:(x==("__debug__":Str))=false:=by decide):wpAny (model X.prog X.w) X.A (eval (.Name x pos) X.env) Q E s:=by
 obtain ⟨mb,h1,h2⟩:=I.mod.blt
 exact Calls.Name_function_global I.ok.kind hg (Calls.loadGlobal_builtin (by rw [I.ok.glob];exact I.mod.glob.keeps I.bk) hm (by rw [I.ok.blt];exact h1.keeps I.bk) ((h2 x hn).trans hv) h) hd
theorem VD {x:Str} {v:V} {u:Value} {pos:Pos} (hg:Gl X x) (hm:X.mg x=some u) (r:RelV v u) (hd:(x==("__debug__":Str))=false:=by decide):PE X (.Name x pos) (tC v):=
 fun _ _ _ H _ I h=>QE I hg hm ⟨v,H,I,r,h⟩ hd
theorem VE {x:Str} {v:V} {u:Value} {pos:Pos} (hg:Gl X x) (hm:X.mg x=none) (hv:bootBuiltins x=some u) (r:RelV v u) (hn:x≠"__name__":=by decide) (hd:(x==("__debug__":Str))=false:=by decide):PE X (.Name x pos) (tC v):=
 fun _ _ _ H _ I h=>GK I hg hm hv ⟨v,H,I,r,h⟩ hn hd
variable {a b:Expr} {ta tb:TE} {pos:Pos}
variable {tA tB':TT} {rest:List Expr}
def VF (t u:TT):TT:=fun σ H Q=>t σ H fun c H1=>if c=true then u σ H1 Q else Q false H1
def VG (t u:TT):TT:=fun σ H Q=>t σ H fun c H1=>if c=true then Q true H1 else u σ H1 Q
def VH (t:TT):TT:=fun σ H Q=>t σ H fun c H1=>Q (!c) H1
theorem VI (ha:PT X a tA):PW X (.BoolOp .And [a] pos) tA:=by
 intro wh pins s σ H Q I h
 refine isTrue_and (AA (ha pins s σ H Q I h) fun c s1 e=>?_)
 cases c with
 |true=>exact isTrue_and_nil e
 |false=>exact e
theorem VJ (ha:PT X a tA):PW X (.BoolOp .Or [a] pos) tA:=by
 intro wh pins s σ H Q I h
 refine isTrue_or (AA (ha pins s σ H Q I h) fun c s1 e=>?_)
 cases c with
 |false=>exact isTrue_or_nil e
 |true=>exact e
theorem VL (ha:PT X a tA) (hb:PW X (.BoolOp .And (b::rest) pos) tB'):PW X (.BoolOp .And (a::b::rest) pos) (VF tA tB'):=by
 intro wh pins s σ H Q I h
 refine isTrue_and (AA (ha pins s σ H _ I h) fun c s1 z8_=>?_)
 obtain ⟨H1,I1,q1⟩:=z8_
 cases c with
 |true=>exact hb wh pins s1 σ H1 Q I1 q1
 |false=>exact ⟨H1,I1,q1⟩
theorem VM (ha:PT X a tA) (hb:PW X (.BoolOp .Or (b::rest) pos) tB'):PW X (.BoolOp .Or (a::b::rest) pos) (VG tA tB'):=by
 intro wh pins s σ H Q I h
 refine isTrue_or (AA (ha pins s σ H _ I h) fun c s1 z9_=>?_)
 obtain ⟨H1,I1,q1⟩:=z9_
 cases c with
 |true=>exact ⟨H1,I1,q1⟩
 |false=>exact hb wh pins s1 σ H1 Q I1 q1
theorem VN (ha:PT X a tA):PT X (.UnaryOp .Not a pos) (VH tA):=by
 intro pins s σ H Q I h
 exact isTrue_not (AA (ha pins s σ H (fun c H1=>Q (!c) H1) I h) fun c s1 z=>by cases z with |mk H1 I1 q=>exact ⟨H1,I1,q⟩)
def VO (ta tb:TE):TE:=fun σ H Q=>ta σ H fun x H1=>∃c,x=.bl c∧if c=true then tb σ H1 Q else Q (.bl false) H1
def Zft (ta tb:TE):TE:=fun σ H Q=>ta σ H fun x H1=>∃c,x=.bl c∧if c=true then Q (.bl true) H1 else tb σ H1 Q
def VP (ta:TE):TE:=fun σ H Q=>ta σ H fun x H1=>∃c,x=.bl c∧Q (.bl (!c)) H1
theorem VQ {op} {t:TE} (h:PE X a t):PE X (.BoolOp op [a] pos) t:=fun pins s σ H Q I hw=>BoolOp_one (h pins s σ H Q I hw)
theorem VR (ha:PE X a ta) (hb:PE X (.BoolOp .And (b::rest) pos) tb):PE X (.BoolOp .And (a::b::rest) pos) (VO ta tb):=by
 intro pins s σ H Q I h
 refine BoolOp_and (AA (ha pins s σ H _ I h) fun v s1 z10_=>?_)
 obtain ⟨x,H1,I1,r1,q1⟩:=z10_
 obtain ⟨c,rfl,q1⟩:=q1
 cases r1
 refine wpAny_truthy_bool ?_
 cases c with
 |true=>exact hb pins s1 σ H1 Q I1 q1
 |false=>exact ⟨.bl false,H1,I1,rfl,q1⟩
theorem VS (ha:PE X a ta):PE X (.UnaryOp .Not a pos) (VP ta):=by
 intro pins s σ H Q I h
 refine UnaryOp_ (AA (ha pins s σ H _ I h) fun v s1 z12_=>?_)
 obtain ⟨x,H1,I1,r1,q1⟩:=z12_
 obtain ⟨c,rfl,q1⟩:=q1
 cases r1
 exact not_of (wpAny_truthy_bool ⟨.bl (!c),H1,I1,rfl,q1⟩)
def VT (t:TT) (ta tb:TE):TE:=fun σ H Q=>t σ H fun c H1=>if c=true then ta σ H1 Q else tb σ H1 Q
theorem VU {c:Expr} (hc:PT X c tA) (ha:PE X a ta) (hb:PE X b tb):PE X (.IfExp c a b pos) (VT tA ta tb):=by
 intro pins s σ H Q I h
 refine wpAny_IfExp (AA (hc pins s σ H _ I h) fun d s1 z13_=>?_)
 obtain ⟨H1,I1,q1⟩:=z13_
 cases d with
 |true=>exact ha pins s1 σ H1 Q I1 q1
 |false=>exact hb pins s1 σ H1 Q I1 q1
end
def SqL (K:PySem.W.Frag) (H:Hp) (a:Addr) (xs:List V):Prop:=
 Rd H a (.lst xs)∨
  ∃(o:Obj) (its:Array Value) (n:Nat),K.lookup a=some o∧o.cls=.type "list"∧o.dict=none∧o.data=.seq its n∧its.size≤sizeLine∧Vals xs its.toList
def SqT (K:PySem.W.Frag) (H:Hp) (a:Addr) (xs:List V):Prop:=
 Rd H a (.tup xs)∨
  ∃(o:Obj) (its:Array Value) (n:Nat),K.lookup a=some o∧o.cls=.type "tuple"∧o.data=.seq its n∧its.size≤sizeLine∧Vals xs its.toList
def VV:Value→Option V
 |.none=>some .non
 |.bool b=>some (.bl b)
 |.int i _=>some (.int i)
 |.str x _=>some (.str x)
 |.bytes b _=>some (.byt b)
 |.float b _=>some (.flt b)
 |.ref a=>some (.ref a)
 |.type n=>some (.ty n)
 |_=>none
theorem RelV.abs {x:V} {u:Value} (r:RelV x u):VV u=some x:=by
 cases x with
 |non=>cases r;rfl
 |bl _=>cases r;rfl
 |int _=>obtain ⟨t,rfl⟩:=r;rfl
 |str _=>obtain ⟨t,rfl⟩:=r;rfl
 |byt _=>obtain ⟨t,rfl⟩:=r;rfl
 |flt _=>obtain ⟨t,rfl⟩:=r;rfl
 |ref _=>cases r;rfl
 |ty _=>cases r;rfl
theorem RelV.inj {x y:V} {u:Value} (r:RelV x u) (q:RelV y u):x=y:=Option.some.inj (r.abs.symm.trans q.abs)
theorem Vals.inj {xs ys:List V} {us:List Value} (h:Vals xs us) (g:Vals ys us):xs=ys:=by
 induction h generalizing ys with
 |nil=>cases g;rfl
 |cons r t ih=>cases g with |cons r' t'=>rw [r.inj r',ih t']
section
variable {X:Cx} {pins:List (Addr×Obj)} {σ:St} {H:Hp} {s:Shared} {a:Addr} {xs ys:List V}
theorem SqL.of {K:PySem.W.Frag} (h:H a=some (.lst xs)):SqL K H a xs:=.inl (.inl h)
theorem SqT.of {K:PySem.W.Frag} (h:H a=some (.tup xs)):SqT K H a xs:=.inl (.inl h)
theorem Inv.list (I:Inv X pins σ H s) (h:SqL X.K H a xs):∃its:List Value,Vals xs its∧PlainL s.heap a its.toArray∧xs.length≤sizeLine:=by
 rcases h with h |⟨o,its,n,hk,hc,hd,hs,hz,r⟩
 ·obtain ⟨z,its,n,r,e⟩:=h.ok I.hok
  exact ⟨its,r,⟨_,n,e,rfl,rfl,rfl⟩,z⟩
 ·refine ⟨its.toList,r,⟨o,n,I.kIn a o hk,hc,hd,by simpa using hs⟩,?_⟩
  have e:=r.length
  simp only [Array.length_toList] at e
  omega
theorem Inv.tuple (I:Inv X pins σ H s) (h:SqT X.K H a xs):∃its:List Value,Vals xs its∧IsTup s.heap a its.toArray∧xs.length≤sizeLine:=by
 rcases h with h |⟨o,its,n,hk,hc,hs,hz,r⟩
 ·obtain ⟨z,its,r,p,_⟩:=h.ok I.hok
  exact ⟨its,r,p,z⟩
 ·refine ⟨its.toList,r,⟨o,I.kIn a o hk,hc,n,by simpa using hs⟩,?_⟩
  have e:=r.length
  simp only [Array.length_toList] at e
  omega
theorem Inv.list_inj (I:Inv X pins σ H s) (h:SqL X.K H a xs) (h':SqL X.K H a ys):xs=ys:=by
 obtain ⟨its,r,⟨o,n,e,_,_,d⟩,_⟩:=I.list h
 obtain ⟨its',r',⟨o',n',e',_,_,d'⟩,_⟩:=I.list h'
 rw [e] at e';cases e'
 rw [d] at d'
 injection d' with d1 _
 have:its=its':=by simpa using congrArg Array.toList d1
 subst this
 exact r.inj r'
theorem Inv.tuple_inj (I:Inv X pins σ H s) (h:SqT X.K H a xs) (h':SqT X.K H a ys):xs=ys:=by
 obtain ⟨its,r,⟨o,e,_,n,d⟩,_⟩:=I.tuple h
 obtain ⟨its',r',⟨o',e',_,n',d'⟩,_⟩:=I.tuple h'
 rw [e] at e';cases e'
 rw [d] at d'
 injection d' with d1 _
 have:its=its':=by simpa using congrArg Array.toList d1
 subst this
 exact r.inj r'
end
section
variable {X:Cx} {pins:List (Addr×Obj)} {σ:St} {H:Hp} {s:Shared} {E:Value→Shared→Prop}
end
section
variable {X:Cx} {st:Stmt} {rest:List Stmt} {t u:TS} {e:Expr} {te:TE} {pos:Pos}
def VW:TS:=fun D σ H=>D.nx σ H
def VX (t u:TS):TS:=fun D σ H=>t {D with nx:=u D} σ H
theorem VY:Eu X [] VW:=fun _ _ σ H _ I h=>wpAny_execs_nil ⟨σ,H,I,h⟩
theorem VZ (h1:PS X st t) (h2:Eu X rest u):Eu X (st::rest) (VX t u):=by
 intro pins s σ H D I h
 refine wpAny_execs_cons (AA (h1 pins s σ H {D with nx:=u D} I h) fun f s1 q=>?_)
 cases f with
 |next=>
  obtain ⟨σ',H',I',q⟩:=q
  exact h2 pins s1 σ' H' D I' q
 |ret v=>exact q
 |brk=>exact q
 |cont=>exact q
theorem V0 (h1:PS X st t):Eu X [st] t:=by
 intro pins s σ H D I h
 refine wpAny_execs_cons (AA (h1 pins s σ H D I h) fun f s1 q=>?_)
 cases f with
 |next=>exact wpAny_execs_nil q
 |ret v=>exact q
 |brk=>exact q
 |cont=>exact q
theorem Inv.quiet {pins:List (Addr×Obj)} {σ:St} {H:Hp} {s:Shared} (I:Inv X pins σ H s):interactive X.env=false:=by simp [interactive,I.ok.kind]
def V1 (te:TE):TS:=fun D σ H=>te σ H fun _ H1=>D.nx σ H1
theorem V2 (he:PE X e te) (hs:swapsWith e none pos.line X.env=pure false:=by rfl):PS X (.Expr e pos) (V1 te):=by
 intro pins s σ H D I h
 exact wpAny_Expr_any (AA (he pins s σ H _ I h) fun v s1 z16_=>by obtain ⟨x,H1,I1,r1,q1⟩:=z16_;exact (⟨σ,H1,I1,q1⟩)) I.quiet hs
def V3 (te:TE):TS:=fun D σ H=>te σ H D.rt
theorem V4 (he:PE X e te):PS X (.Return (some e) pos) (V3 te):=by
 intro pins s σ H D I h
 exact wpAny_Return_some (AA (he pins s σ H _ I h) fun v s1 z17_=>by obtain ⟨x,H1,I1,r1,q1⟩:=z17_;exact (⟨x,σ,H1,I1,r1,q1⟩))
def V5 (c:TT) (t u:TS):TS:=fun D σ H=>c σ H fun b H1=>if b=true then t D σ H1 else u D σ H1
theorem V6 {c:Expr} {a b:List Stmt} {tc:TT} (hc:PT X c tc) (ha:Eu X a t) (hb:Eu X b u):PS X (.If c a b pos) (V5 tc t u):=by
 intro pins s σ H D I h
 refine wpAny_If (AA (hc pins s σ H _ I h) fun d s1 z18_=>?_)
 obtain ⟨H1,I1,q1⟩:=z18_
 cases d with
 |true=>exact ha pins s1 σ H1 D I1 q1
 |false=>exact hb pins s1 σ H1 D I1 q1
def V7:TS:=fun _ _ _=>False
theorem V8:PS X st V7:=fun _ _ _ _ _ _ h=>h.elim
end
abbrev TG:=V→St→Hp→(St→Hp→Prop)→Prop
abbrev GL:=List V→St→Hp→(St→Hp→Prop)→Prop
def PG (X:Cx) (target:Expr) (t:TG):Prop:=
 ∀(pins:List (Addr×Obj)) (s:Shared) (σ:St) (H:Hp) (v:V) (u:Value) (Q:St→Hp→Prop),Inv X pins σ H s→RelV v u→t v σ H Q→
  wpAny (model X.prog X.w) X.A (assign target X.env u) (fun _ s'=>SN X pins Q s') X.xe s
def LM (X:Cx) (ts:List Expr) (t:GL):Prop:=
 ∀(pins:List (Addr×Obj)) (s:Shared) (σ:St) (H:Hp) (vs:List V) (us:List Value) (Q:St→Hp→Prop),Inv X pins σ H s→Vals vs us→t vs σ H Q→
  wpAny (model X.prog X.w) X.A (assignInOrder ((assignEach ts X.env).map (·.2)) us) (fun _ s'=>SN X pins Q s') X.xe s
abbrev Nw:=V→V→V→Hp→(Hp→Prop)→Prop
def LN (X:Cx) (t:Nw):Prop:=
 ∀(pins:List (Addr×Obj)) (s:Shared) (σ:St) (H:Hp) (o i v:V) (ov iv u:Value) (Q:Hp→Prop),Inv X pins σ H s→RelV o ov→RelV i iv→RelV v u→t o i v H Q→
  wpAny (model X.prog X.w) X.A (setItem ov iv u) (fun _ s'=>∃H',Inv X pins σ H' s'∧Q H') X.xe s
section
variable {X:Cx} {pos:Pos}
def Cc (i:Nat):TG:=fun v σ H Q=>Q (σ.set i (some v)) H
theorem Av {i:Nat} {x:Str} (hN:X.N.Nodup) (hi:X.N[i]?=some x) (hx:Hr X.env.scope x:=by first |exact .inl rfl |exact .inr rfl) (hf:X.fn x=true∨X.env.scope.names.lookup x=some .local:=by first |exact .inl rfl |exact .inr rfl |assumption):PG X (.Name x pos) (Cc i):=by
 intro pins s σ H v u Q I r h
 exact wpAny_assign_Name (LJ I hN hi hx r (fun s' I'=>⟨_,H,I',h⟩) hf)
def FC:GL:=fun vs σ H Q=>vs=[]∧Q σ H
def CJ (t:TG) (u:GL):GL:=fun vs σ H Q=>∃v r,vs=v::r∧t v σ H fun σ' H'=>u r σ' H' Q
theorem GM:LM X [] FC:=by
 intro pins s σ H vs us Q I r h
 obtain ⟨e,h⟩:=h
 subst e
 cases r
 exact assignInOrder_nil ⟨σ,H,I,h⟩
theorem Cm {e:Expr} {es:List Expr} {t:TG} {u:GL} (h1:PG X e t) (h2:LM X es u)
 (hs:(assignEach (e::es) X.env).map (·.2)=assign e X.env::(assignEach es X.env).map (·.2):=by rfl):LM X (e::es) (CJ t u):=by
 intro pins s σ H vs us Q I r h
 obtain ⟨v,vr,e1,h⟩:=h
 subst e1
 cases r with
 |cons r rr=>
  rw [hs]
  refine assignInOrder_cons (AA (h1 pins s σ H _ _ _ I r h) fun _ s1 z19_=>?_)
  obtain ⟨σ1,H1,I1,q1⟩:=z19_
  exact h2 pins s1 σ1 H1 _ _ Q I1 rr q1
def E4 (K:PySem.W.Frag) (n:Nat) (t:GL):TG:=fun v σ H Q=>∃a xs,v=.ref a∧SqT K H a xs∧xs.length=n∧t xs σ H Q
theorem GN {es:List Expr} {k:Nat} {t:GL} {n:Nat} (hc:X.calm=true) (h:LM X es t)
 (hn:(assignEach es X.env).length=n:=by rfl) (hst:(assignEach es X.env).findIdx? (·.1)=none:=by rfl):PG X (.Tuple es k pos) (E4 X.K n t):=by
 intro pins s σ H v u Q I r hw
 obtain ⟨a,xs,e1,hq,hl,hw⟩:=hw
 subst e1
 cases r
 obtain ⟨its,rv,ht,hz⟩:=I.tuple hq
 refine assign_Tuple_tuple (I.ok.hd hc) ht (by simp [hn,←hl,rv.length]) hst fun h' hx=>?_
 have I1:Inv X pins σ H {s with heap:=h'}:=I.kept (t':=s.toks) fun b o e=>hx b o (BG (AS e)) e
 exact h pins _ σ H xs _ Q I1 (by simpa using rv) hw
def V9 (to ti:TE) (t:Nw):TG:=fun v σ H Q=>to σ H fun o H1=>ti σ H1 fun i H2=>t o i v H2 fun H3=>Q σ H3
theorem Nx {o i:Expr} {to ti:TE} {t:Nw} (ho:PE X o to) (hi:PE X i ti) (hs:LN X t)
 (ha:∀v,assign (.Subscript o i pos) X.env v=(do
  let ov ←holding [v] (eval o X.env)
  let iv ←holding [v,ov] (eval i X.env)
  standAt pos
  holding [v,ov,iv] (setItem ov iv v)
  release [v,ov,iv] []):=by intro _;rfl):PG X (.Subscript o i pos) (V9 to ti t):=by
 intro pins s σ H v u Q I r h
 rw [ha]
 refine wpAny_bind (wpAny_holding (AA (ho pins s σ H _ I h) fun ov s1 z20_=>?_))
 obtain ⟨x,H1,I1,r1,q1⟩:=z20_
 refine wpAny_bind (wpAny_holding (AA (hi pins s1 σ H1 _ I1 q1) fun iv s2 z21_=>?_))
 obtain ⟨y,H2,I2,r2,q2⟩:=z21_
 refine wpAny_bind (wpAny_standAt (wpAny_bind (wpAny_holding (AA (hs pins s2 σ H2 x y v ov iv u _ I2 r1 r2 r q2) fun _ s3 z22_=>?_))))
 obtain ⟨H3,I3,q3⟩:=z22_
 exact wpAny_release ⟨σ,H3,I3,q3⟩
def QF (te:TE) (g:TG):TS:=fun D σ H=>te σ H fun x H1=>g x σ H1 D.nx
theorem LO {tg e:Expr} {te:TE} {g:TG} (he:PE X e te) (hg:PG X tg g) (hs:swapsWithSole [tg] e pos.line X.env=pure false:=by rfl) (hw:swappedStores [tg] e X.env=pure none:=by rfl)
 (h1:(assignEach [tg] X.env).map (·.2)=[assign tg X.env]:=by rfl):PS X (.Assign [tg] e pos) (QF te g):=by
 intro pins s σ H D I h
 refine wpAny_Assign_stores (AA (he pins s σ H _ I h) fun v s1 z23_=>?_) hs hw
 obtain ⟨x,H1,I1,r1,q1⟩:=z23_
 rw [h1]
 exact AA (hg pins s1 σ H1 x v _ I1 r1 q1) fun _ s2 q=>q
theorem Wa {i:Nat} {x:Str} {e:Expr} {te:TE} {pos':Pos} (hN:X.N.Nodup) (hi:X.N[i]?=some x) (hx:Hr X.env.scope x) (he:PE X e te) (hs:swapsWith e (some (.Name x pos')) pos.line X.env=pure false:=by rfl) (hf:X.fn x=true∨X.env.scope.names.lookup x=some .local:=by first |exact .inl rfl |exact .inr rfl |assumption):
 PS X (.Assign [.Name x pos'] e pos) (QF te (Cc i)):=by
 intro pins s σ H D I h
 refine wpAny_Assign_Name (AA (he pins s σ H _ I h) fun v s1 z24_=>?_) hs
 obtain ⟨y,H1,I1,r1,q1⟩:=z24_
 exact LJ I1 hN hi hx r1 (fun s2 I2=>⟨_,H1,I2,q1⟩) hf
def Wb (i j:Nat) (ta:TA):TS:=fun D σ H=>ta σ H fun vs H1=>∃v w,vs=[v,w]∧D.nx ((σ.set i (some v)).set j (some w)) H1
theorem Wc {i j:Nat} {x y:Str} {a b:Expr} {ta:TA} {px py pt:Pos} {kt k2 pt2} (hc:X.calm=true) (hN:X.N.Nodup) (hi:X.N[i]?=some x) (hj:X.N[j]?=some y) (hij:i≠j)
 (hx:X.env.scope.names.lookup x=some .local) (hy:X.env.scope.names.lookup y=some .local) (ha:PA X [a,b] ta)
 (hw:swappedStores [.Tuple [.Name x px,.Name y py] kt pt] (.Tuple [a,b] k2 pt2) X.env=pure (some [x,y]))
 (hs:swapsWithSole [.Tuple [.Name x px,.Name y py] kt pt] (.Tuple [a,b] k2 pt2) pos.line X.env=pure false:=by rfl):
 PS X (.Assign [.Tuple [.Name x px,.Name y py] kt pt] (.Tuple [a,b] k2 pt2) pos) (Wb i j ta):=by
 intro pins s σ H D I h
 rw [exec_Assign_arm]
 refine wpAny_bind (wpAny_standAt ?_)
 rw [hs]
 refine wpAny_bind (wpAny_pure ?_)
 rw [if_neg (by decide)]
 refine wpAny_bind (Tuple_ (AA (ha _ pins s σ H _ I h) fun us s1 z25_=>?_))
 obtain ⟨vs,H1,I1,r1,q1⟩:=z25_
 obtain ⟨v,w,e1,q1⟩:=q1
 subst e1
 obtain ⟨u1,u2,rfl,rv,rw'⟩:∃u1 u2,us=[u1,u2]∧RelV v u1∧RelV w u2:=by
  cases r1 with
  |cons p q=>
   cases q with
   |cons p' q'=>
    cases q'
    exact ⟨_,_,rfl,p,p'⟩
 refine wpAny_newObj_type ?_ (by show 2≤sizeLine;decide)
 have I2:Inv X pins σ H1 {s1 with heap:=s1.heap.push {cls:=.type "tuple",data:=.seq [u1,u2].toArray}}:=I1.kept (t':=s1.toks) fun b o e=>AY _ e
 rw [hw]
 refine wpAny_bind (wpAny_pure ?_)
 show wpAny (model X.prog X.w) X.A (do rule "assign.swapped-stores";let items ←unpackItems (.ref s1.heap.objs.size) 2 none;assignInOrder [fun v=>bindName X.env y v,fun v=>bindName X.env x v] items.reverse;pure Flow.next) _ _ _
 refine wpAny_bind (wpAny_rule (wpAny_bind (unpackItems_tuple (items:=#[u1,u2]) (I.ok.hd hc) (IsTup.new s1.heap _) fun h' hx'=>?_)))
 have I3:=I2.kept (h':=h') (t':=s1.toks) fun b o e=>hx' b o (BG (AS e)) e
 show wpAny _ _ (assignInOrder [fun v=>bindName X.env y v,fun v=>bindName X.env x v] [u2,u1] >>=fun _=>pure Flow.next) _ _ _
 refine wpAny_bind (assignInOrder_cons (wpAny_bindName (LJ I3 hN hj (.inl hy) rw' (fun s2 I4=>?_) (.inr hy))))
 refine assignInOrder_cons (wpAny_bindName (LJ I4 hN hi (.inl hx) rv (fun s3 I5=>assignInOrder_nil (wpAny_pure ?_)) (.inr hx)))
 rw [List.set_comm _ _ (Ne.symm hij)] at I5
 exact ⟨_,H1,I5,q1⟩
end
section
variable {X:Cx} {pos:Pos}
def Wd (c:TT) (tb:TS):TS:=fun D σ H=>∃W:Nat→St→Hp→Prop,(∃m,W m σ H)∧∀m σ H,W m σ H→
 c σ H fun b H1=>if b=true then ∃N:St→Hp→Prop,(∀σ' H',N σ' H'→∃m',m' < m∧W m' σ' H')∧tb {D with nx:=N,ct:=N,bk:=D.nx} σ H1 else D.nx σ H1
theorem Wf {c:Expr} {body:List Stmt} {tc:TT} {tb:TS} (hp:PassesOwn (model X.prog X.w) X.A X.env X.xe) (hc:PT X c tc) (hb:Eu X body tb):PS X (.While c body [] pos) (Wd tc tb):=by
 intro pins s σ H D I h
 obtain ⟨W,⟨m0,w0⟩,turn⟩:=h
 refine wpAny_While (codeAny_whileLoop (fun n s'=>SN X pins (W n) s') ?_ m0 ⟨σ,H,I,w0⟩)
 rintro n s1 ⟨σ1,H1,I1,w1⟩
 refine wpAny_passesOwn hp (AA (hc pins s1 σ1 H1 _ I1 (turn n σ1 H1 w1)) fun b s2 z34_=>?_)
 obtain ⟨H2,I2,q2⟩:=z34_
 cases b with
 |true=>
  obtain ⟨N,hN,q2⟩:=q2
  rw [if_pos rfl]
  refine wpAny_passesOwn hp (AA (hb pins s2 σ1 H2 _ I2 q2) fun f s3 q3=>?_)
  cases f with
  |next=>
   obtain ⟨σ3,H3,I3,n3⟩:=q3
   obtain ⟨m',hm,w3⟩:=hN σ3 H3 n3
   exact ⟨m',hm,σ3,H3,I3,w3⟩
  |cont=>
   obtain ⟨σ3,H3,I3,n3⟩:=q3
   obtain ⟨m',hm,w3⟩:=hN σ3 H3 n3
   exact ⟨m',hm,σ3,H3,I3,w3⟩
  |brk=>exact q3
  |ret v=>exact q3
 |false=>
  rw [if_neg BF]
  exact wpAny_execs_nil ⟨σ1,H2,I2,q2⟩
end
structure It where
 go:Nat→Hp→Prop
 yld:Nat→Hp→V→Hp→Prop
 stop:Nat→Hp→Prop
def Dr (X:Cx) (pins:List (Addr×Obj)) (H:Hp) (b:Addr):Prop:=
 H b=none∧b≠X.env.locals∧b∉X.fs∧(b∈X.ex∨X.s₀.heap.objs.size≤b)∧(∀x c,X.env.cells.lookup x=some c→c≠b)∧∀p∈X.pn++pins,p.1≠b
theorem Inv.fpOk {X:Cx} {pins:List (Addr×Obj)} {σ:St} {H H':Hp} {s:Shared} {b:Addr} (I:Inv X pins σ H s) (hb:s.heap.objs.size≤b) (hn:H' b=none):Dr X pins H' b:=by
 refine ⟨hn,Bs (Bp I.lt hb),I.nofs hb,.inr (B8 I.sz hb),fun x c e z=>?_,fun p hp z=>?_⟩
 ·obtain ⟨v,q⟩:=I.cell x c e
  exact absurd (Bp q.lt (by rw [z];exact hb)) (Eo _)
 ·exact absurd (Bp (AS (I.pin p hp).1) (by rw [z];exact hb)) (Eo _)
structure Gj (P:Program) (w:World) (K:PySem.W.Frag) (tg:Expr) (J:It) (fp:List Addr) (it:Addr) (tn:Nat→Heap→Prop):Prop where
 mem:it∈fp
 obj:∀i h,tn i h→∀b∈fp,∃o,h.get? b=some o∧∀v,o.data≠.cell v
 keep:∀i h h',tn i h→(∀b∈fp,∀o,h.get? b=some o→h'.get? b=some o)→tn i h'
 item:∀(X:Cx),X.prog=P→X.w=w→X.K=K→X.calm=true→∀(i:Nat) (pins:List (Addr×Obj)) (s:Shared) (σ:St) (H:Hp) (E:Value→Shared→Prop),Inv X pins σ H s→(∀b∈fp,Dr X pins H b)→tn i s.heap→J.go i H→
  wpAny (model P w) X.A (pyNext (.ref it)) (fun r s1=>∃u,r=some u∧
   wpAny (model P w) X.A (letOwnedTupleGo tg (.ref it) u) (fun _ s2=>∃x H',Inv X pins σ H' s2∧RelV x u∧J.yld i H x H'∧tn (i+1) s2.heap∧∀b∈fp,H' b=none) E s1) E s
 done:∀(X:Cx),X.prog=P→X.w=w→X.K=K→X.calm=true→∀(i:Nat) (pins:List (Addr×Obj)) (s:Shared) (σ:St) (H:Hp) (E:Value→Shared→Prop),Inv X pins σ H s→(∀b∈fp,Dr X pins H b)→tn i s.heap→J.stop i H→
  wpAny (model P w) X.A (pyNext (.ref it)) (fun r s1=>r=none∧Inv X pins σ H s1) E s
 self:∀(A:Around) (i:Nat) (s:Shared) (Q:Value→Shared→Prop) (E:Value→Shared→Prop),tn i s.heap→Q (.ref it) s→wpAny (model P w) A (pyIter (.ref it)) Q E s
abbrev TI:=St→Hp→(It→Hp→Prop)→Prop
inductive Ny (X:Cx) (pins:List (Addr×Obj)) (σ:St) (tg:Expr) (R:It→Hp→Prop) (itv:Value) (s2:Shared):Prop where
 |mk (it:Addr) (fp:List Addr) (tn:Nat→Heap→Prop) (J:It) (H':Hp) (e:itv=.ref it) (i:Inv X pins σ H' s2) (t:Gj X.prog X.w X.K tg J fp it tn) (st:tn 0 s2.heap) (f:∀b∈fp,Dr X pins H' b) (r:R J H'):Ny X pins σ tg R itv s2
def PI (X:Cx) (tg iter:Expr) (wi:TI):Prop:=
 ∀(pins:List (Addr×Obj)) (s:Shared) (σ:St) (H:Hp) (R:It→Hp→Prop),Inv X pins σ H s→wi σ H R→
  wpAny (model X.prog X.w) X.A (eval iter X.env) (fun v s1=>wpAny (model X.prog X.w) X.A (pyIter v) (Ny X pins σ tg R) X.xe s1) X.xe s
theorem Nz {M:Model} {A:Around} {E:Value→Shared→Prop} {s:Shared} {tg:Expr} {it:Addr} {u:Value} {o:Obj} {n:String} {vs:Array Value} {Q:Unit→Shared→Prop} (ho:s.heap.get? it=some o) (hc:o.cls=.type n) (hd:o.data=.fields vs)
 (hn:["enumerate","zip","dict_itemiterator","dict_reverseitemiterator","odict_iterator","itertools.zip_longest","itertools.pairwise"].contains n=false) (hQ:Q () s):wpAny M A (letOwnedTupleGo tg (.ref it) u) Q E s:=by
 unfold letOwnedTupleGo
 cases tg<;>first
  |exact wpAny_pure hQ
  |(cases u<;>first
   |exact wpAny_pure hQ
   |(refine wpAny_bind (wpAny_load ho ?_)
     rw [hc,hd]
     show wpAny M A (if (["enumerate","zip","dict_itemiterator","dict_reverseitemiterator","odict_iterator","itertools.zip_longest","itertools.pairwise"].contains n&&vs[0]?==some (rawInt _))=true then _ else _) Q E s
     rw [if_neg (by intro h;rw [hn,LD] at h;cases h)]
     exact wpAny_pure hQ))
def JW (K:PySem.W.Frag) (a:Addr):It:=
 ⟨fun i H=>∃xs x,SqL K H a xs∧xs[i]?=some x,fun i H x H'=>H'=H∧∀xs,SqL K H a xs→xs[i]?=some x,fun i H=>∃xs,SqL K H a xs∧xs.length≤i⟩
def JX (K:PySem.W.Frag) (a:Addr):It:=
 ⟨fun i H=>∃xs x,SqT K H a xs∧xs[i]?=some x,fun i H x H'=>H'=H∧∀xs,SqT K H a xs→xs[i]?=some x,fun i H=>∃xs,SqT K H a xs∧xs.length≤i⟩
def JY (lo:Int) (n:Nat):It:=⟨fun i _=>i<n,fun i H x H'=>H'=H∧x=.int (lo+i),fun i _=>n≤i⟩
theorem Wg {P:Program} {w:World} {K:PySem.W.Frag} {tg:Expr} (a it:Addr):Gj P w K tg (JW K a) [it] it (fun i h=>h.IsListIter it a i) where
 mem:=by simp
 obj:=fun i h st b hb=>by
  have e:b=it:=by simpa using hb
  subst e
  obtain ⟨o,e,c,d⟩:=st
  exact ⟨o,e,fun v z=>by rw [d] at z;cases z⟩
 keep:=fun i h h' st k=>st.at fun o e=>k it (by simp) o e
 item:=by
  intro X hP hw hK hc i pins s σ H E I hf st hg
  subst hP hw hK
  obtain ⟨xs,x,hq,hx⟩:=hg
  obtain ⟨its,rv,p,hz⟩:=I.list hq
  obtain ⟨u,hu,ru⟩:=rv.get hx
  obtain ⟨f0,f1,f2,f3,f4,f5⟩:=hf it (by simp)
  refine wpAny_pyNext_list_item st p.isList (x:=u) (by simpa using hu) fun h' st' sb=>?_
  have I1:Inv X pins σ H {s with heap:=h'}:=I.turned (t':=s.toks) (fun b o hb e=>(sb.2 b hb).trans e) f0 f1 f3 f4 f5
  obtain ⟨o,e,c,d⟩:=id st'
  exact ⟨u,rfl,Nz (s:={s with heap:=h'}) e c d (by decide) ⟨x,H,I1,ru,⟨rfl,fun ys hy=>by rw [I.list_inj hy hq];exact hx⟩,st',fun b hb=>(hf b hb).1⟩⟩
 done:=by
  intro X hP hw hK hc i pins s σ H E I hf st hg
  subst hP hw hK
  obtain ⟨xs,hq,hx⟩:=hg
  obtain ⟨its,rv,p,hz⟩:=I.list hq
  obtain ⟨f0,f1,f2,f3,f4,f5⟩:=hf it (by simp)
  have hl:=rv.length
  exact wpAny_pyNext_list_end (I.ok.hd hc) st p.isList (by simp;omega) fun h' eb=>⟨rfl,I.turned (t':=s.toks) (fun b o hb e=>eb b o hb e) f0 f1 f3 f4 f5⟩
 self:=fun _ _ _ _ _ st h=>wpAny_pyIter_listiter st h
theorem Wh {P:Program} {w:World} {K:PySem.W.Frag} {tg:Expr} (a it:Addr):Gj P w K tg (JX K a) [it] it (fun i h=>h.IsTupleIter it a i) where
 mem:=by simp
 obj:=fun i h st b hb=>by
  have e:b=it:=by simpa using hb
  subst e
  obtain ⟨o,e,c,d⟩:=st
  exact ⟨o,e,fun v z=>by rw [d] at z;cases z⟩
 keep:=fun i h h' st k=>st.at fun o e=>k it (by simp) o e
 item:=by
  intro X hP hw hK hc i pins s σ H E I hf st hg
  subst hP hw hK
  obtain ⟨xs,x,hq,hx⟩:=hg
  obtain ⟨its,rv,p,hz⟩:=I.tuple hq
  obtain ⟨u,hu,ru⟩:=rv.get hx
  obtain ⟨f0,f1,f2,f3,f4,f5⟩:=hf it (by simp)
  refine wpAny_pyNext_tuple_item st (show s.heap.IsTuple a its.toArray from p) (x:=u) (by simpa using hu) fun h' st' sb=>?_
  have I1:Inv X pins σ H {s with heap:=h'}:=I.turned (t':=s.toks) (fun b o hb e=>(sb.2 b hb).trans e) f0 f1 f3 f4 f5
  obtain ⟨o,e,c,d⟩:=id st'
  exact ⟨u,rfl,Nz (s:={s with heap:=h'}) e c d (by decide) ⟨x,H,I1,ru,⟨rfl,fun ys hy=>by rw [I.tuple_inj hy hq];exact hx⟩,st',fun b hb=>(hf b hb).1⟩⟩
 done:=by
  intro X hP hw hK hc i pins s σ H E I hf st hg
  subst hP hw hK
  obtain ⟨xs,hq,hx⟩:=hg
  obtain ⟨its,rv,p,hz⟩:=I.tuple hq
  obtain ⟨f0,f1,f2,f3,f4,f5⟩:=hf it (by simp)
  have hl:=rv.length
  exact wpAny_pyNext_tuple_end (I.ok.hd hc) st (show s.heap.IsTuple a its.toArray from p) (by simp;omega) fun h' eb=>⟨rfl,I.turned (t':=s.toks) (fun b o hb e=>eb b o hb e) f0 f1 f3 f4 f5⟩
 self:=fun _ _ _ _ _ st h=>wpAny_pyIter_tupleiter st h
theorem Wi {P:Program} {w:World} {K:PySem.W.Frag} {tg:Expr} (it:Addr) (lo:Int) (n:Nat):Gj P w K tg (JY lo n) [it] it (fun i h=>IsRangeIter h it (lo+(i:Nat)*1) ((n:Int) - (i:Nat)) 1) where
 mem:=by simp
 obj:=fun i h st b hb=>by
  have e:b=it:=by simpa using hb
  subst e
  exact ⟨_,st,fun v z=>by
   have z':Data.fields _=Data.cell v:=z
   cases z'⟩
 keep:=fun i h h' st k=>k it (by simp) _ st
 item:=by
  intro X hP hw hK hc i pins s σ H E I hf st hg
  subst hP hw hK
  obtain ⟨f0,f1,f2,f3,f4,f5⟩:=hf it (by simp)
  have W:=Walks.range (prog:=X.prog) (w:=X.w) (I.ok.hd hc) it lo 1 n
  refine W.item i s _ _ hg st fun v h' tk hv st' kk=>?_
  obtain ⟨t,rfl⟩:=hv
  have I1:Inv X pins σ H {s with heap:=h',toks:=tk}:=I.turned (fun b o hb e=>kk b o (by simpa using hb) e) f0 f1 f3 f4 f5
  refine ⟨_,rfl,Nz (s:={s with heap:=h',toks:=tk}) (n:="range_iterator") st' rfl rfl (by decide) ⟨.int (lo+i),H,I1,⟨t,?_⟩,⟨rfl,rfl⟩,st',fun b hb=>(hf b hb).1⟩⟩
  rw [Int.mul_one]
 done:=by
  intro X hP hw hK hc i pins s σ H E I hf st hg
  subst hP hw hK
  obtain ⟨f0,f1,f2,f3,f4,f5⟩:=hf it (by simp)
  exact wpAny_pyNext_range_end (I.ok.hd hc) st (by have:n≤i:=hg;omega) fun h' eb=>⟨rfl,I.turned (t':=s.toks) (fun b o hb e=>eb b o hb e) f0 f1 f3 f4 f5⟩
 self:=fun _ _ _ _ _ st h=>wpAny_pyIter_rangeiter st h
section
variable {X:Cx} {tg:Expr}
theorem QG {pins:List (Addr×Obj)} {σ:St} {H:Hp} {s:Shared} {R:It→Hp→Prop} {E:Value→Shared→Prop} {lo hi:Int} {t u v:Tok} {tk:Nat} (I:Inv X pins σ H s) (h1:-(2^62)≤lo) (h2:lo<2^62) (h3:-(2^62)≤hi) (h4:hi<2^62)
 (q:R (JY lo (hi - lo).toNat) H):wpAny (model X.prog X.w) X.A (pyIter (.ref s.heap.objs.size)) (Ny X pins σ tg R) E {s with heap:=s.heap.push {cls:=.type "range",data:=.fields #[.int lo t,.int hi u,.int 1 v]},toks:=tk}:=by
 refine wpAny_pyIter_range (IsRange.new ..) (small_one h1 h2 h3 h4) ?_
 have I1:Inv X pins σ H {s with heap:=s.heap.push {cls:=.type "range",data:=.fields #[.int lo t,.int hi u,.int 1 v]},toks:=tk}:=I.kept fun b o e=>AY _ e
 refine ⟨(s.heap.push {cls:=.type "range",data:=.fields #[.int lo t,.int hi u,.int 1 v]}).objs.size,[(s.heap.push {cls:=.type "range",data:=.fields #[.int lo t,.int hi u,.int 1 v]}).objs.size],_,_,H,rfl,
  I1.kept (t':=tk) fun b o e=>AY _ e,Wi _ lo (hi - lo).toNat,?_,fun b hb=>?_,q⟩
 ·have e1:lo+((0:Nat):Int)*1=lo:=by simp
  have e2:(((hi - lo).toNat:Nat):Int) - ((0:Nat):Int)=Builtin.Range.rangeSize lo hi 1:=by rw [rangeSize_one];split<;>omega
  show IsRangeIter _ _ (lo+((0:Nat):Int)*1) ((((hi - lo).toNat:Nat):Int) - ((0:Nat):Int)) 1
  rw [e1,e2]
  exact BR _ rfl
 ·have e:b=(s.heap.push {cls:=.type "range",data:=.fields #[.int lo t,.int hi u,.int 1 v]}).objs.size:=by simpa using hb
  subst e
  exact I1.fpOk (AK _) (I1.hok.fresh (AK _))
def Wj (ta:TA):TI:=fun σ H R=>ta σ H fun vs H1=>∃j:Int,vs=[.int j]∧-(2^62)≤j∧j<2^62∧R (JY 0 j.toNat) H1
def Wk (ta:TA):TI:=fun σ H R=>ta σ H fun vs H1=>∃i j:Int,vs=[.int i,.int j]∧(-(2^62)≤i∧i<2^62∧-(2^62)≤j∧j<2^62)∧R (JY i (j - i).toNat) H1
theorem Wl {a:Expr} {ta:TA} {p pos:Pos} (hg:Gl X "range") (hm:X.mg "range"=none) (ha:PA X [a] ta) (hs:starEach [a] X.env=[(false,eval a X.env)]:=by rfl):PI X tg (.Call (.Name "range" p) [a] [] pos) (Wj ta):=by
 intro pins s σ H R I h
 refine Call_ (GK I hg hm boot_range (PyProof.Rows.callWith_type1 (AA (ha pos pins s σ H _ I h) fun us s1 z37_=>?_) hs rfl))
 obtain ⟨vs,H1,I1,r1,q1⟩:=z37_
 obtain ⟨j,e,q1,q2,q⟩:=q1
 subst e
 cases r1 with
 |cons r rr=>
  cases rr
  obtain ⟨t,rfl⟩:=r
  exact call_range_1 (QG I1 (by omega) (by omega) q1 q2 (by simpa using q))
theorem Wm {a b:Expr} {ta:TA} {p pos:Pos} (hg:Gl X "range") (hm:X.mg "range"=none) (ha:PA X [a,b] ta) (hs:starEach [a,b] X.env=[(false,eval a X.env),(false,eval b X.env)]:=by rfl) (hs2:starEach [b] X.env=[(false,eval b X.env)]:=by rfl):
 PI X tg (.Call (.Name "range" p) [a,b] [] pos) (Wk ta):=by
 intro pins s σ H R I h
 refine Call_ (GK I hg hm boot_range (PyProof.Rows.callWith_type1 (AA (ha pos pins s σ H _ I h) fun us s1 ⟨vs,H1,I1,r1,q1⟩=>?_) (by rw [hs,hs2]) (by rw [hs2];rfl)))
 obtain ⟨i,j,e,⟨q1,q2,q3,q4⟩,q⟩:=q1
 subst e
 cases r1 with
 |cons r rr=>
  cases rr with
  |cons r' rr=>
   cases rr
   obtain ⟨t,rfl⟩:=r
   obtain ⟨t',rfl⟩:=r'
   exact call_range_2 (QG I1 q1 q2 q3 q4 q)
def Wn (wi:TI) (g:TG) (tb:TS):TS:=fun D σ H=>wi σ H fun J H1=>∃W:Nat→Nat→St→Hp→Prop,(∃m,W 0 m σ H1)∧∀i m σ H,W i m σ H→
 (J.stop i H∧D.nx σ H)∨(J.go i H∧∃N:St→Hp→Prop,(∀σ' H',N σ' H'→∃m',m' < m∧W (i+1) m' σ' H')∧∀x H',J.yld i H x H'→g x σ H' fun σ2 H2=>tb {D with nx:=N,ct:=N,bk:=D.nx} σ2 H2)
def GO (fp:List Addr) (h:Heap):List (Addr×Obj):=fp.filterMap fun b=>(h.get? b).map fun o=>(b,o)
theorem JZ {fp:List Addr} {h:Heap} {b:Addr} {o:Obj} (hb:b∈fp) (e:h.get? b=some o):(b,o)∈GO fp h:=List.mem_filterMap.mpr ⟨b,hb,by rw [e];rfl⟩
theorem QH {fp:List Addr} {h:Heap} {p:Addr×Obj} (hp:p∈GO fp h):p.1∈fp∧h.get? p.1=some p.2:=by
 obtain ⟨b,hb,e⟩:=List.mem_filterMap.mp hp
 cases q:h.get? b with
 |none=>rw [q] at e;cases e
 |some o=>
  rw [q] at e
  have e':(b,o)=p:=Option.some.inj e
  subst e'
  exact ⟨hb,q⟩
theorem Inv.pinned {pins:List (Addr×Obj)} {σ:St} {H:Hp} {s:Shared} {fp:List Addr} (I:Inv X pins σ H s) (hf:∀b∈fp,Dr X pins H b) (ho:∀b∈fp,∃o,s.heap.get? b=some o∧∀v,o.data≠.cell v):Inv X (pins++GO fp s.heap) σ H s:=
 I.pins_of fun p hp=>(qaH.mp hp).elim (fun z=>I.pin p (Bi _ z)) fun z=>by
  obtain ⟨hb,e⟩:=QH z
  obtain ⟨f0,f1,f2,_⟩:=hf p.1 hb
  obtain ⟨o,e',d⟩:=ho p.1 hb
  rw [e] at e';cases e'
  exact ⟨e,f0,f1,f2,d⟩
theorem Inv.unpinned {pins pl:List (Addr×Obj)} {σ:St} {H:Hp} {s:Shared} (I:Inv X (pins++pl) σ H s):Inv X pins σ H s:=I.pins_of fun p hp=>I.pin p (Bi _ (Cu _ hp))
inductive NA (X:Cx) (pins:List (Addr×Obj)) (tn:Nat→Heap→Prop) (fp:List Addr) (W:Nat→Nat→St→Hp→Prop) (n:Nat) (s':Shared):Prop where
 |mk (i:Nat) (σ':St) (H':Hp) (ii:Inv X pins σ' H' s') (st:tn i s'.heap) (fr:∀b∈fp,H' b=none) (w:W i n σ' H'):NA X pins tn fp W n s'
theorem Wo {iter:Expr} {body:List Stmt} {wi:TI} {g:TG} {tb:TS} {pos:Pos} (hp:PassesOwn (model X.prog X.w) X.A X.env X.xe) (hc:X.calm=true) (hi:PI X tg iter wi) (hg:PG X tg g) (hb:Eu X body tb)
 (hs:∀x,foldedSetIterable iter X.env x=pure x:=by intro _;rfl):PS X (.For tg iter body [] pos) (Wn wi g tb):=by
 intro pins s σ H D I h
 refine wpAny_For (AA (hi pins s σ H _ I h) fun v s1 h1=>AA h1 fun itv s2 h2=>?_) hs
 obtain ⟨it,fp,tn,J,H2,e,I2,T,Cy,f2,W,⟨m0,w0⟩,turn⟩:=h2
 subst e
 have stat:∀{H':Hp},(∀b∈fp,H' b=none)→∀b∈fp,Dr X pins H' b:=fun hn b hb=>⟨hn b hb,(f2 b hb).2⟩
 refine codeAny_forLoop_any (NA X pins tn fp W) ?_ m0 ⟨0,σ,H2,I2,Cy,fun b hb=>(f2 b hb).1,w0⟩
 rintro n s3 ⟨i,σ3,H3,I3,JO,fr3,w3⟩
 rcases turn i n σ3 H3 w3 with ⟨stop,qn⟩ |⟨go,N,hN,step⟩
 ·refine wpAny_passesOwn hp (AA (T.done X rfl rfl rfl hc i pins s3 σ3 H3 X.xe I3 (stat fr3) JO stop) fun r s4 z39_=>?_)
  obtain ⟨hr,I4⟩:=z39_
  subst hr
  exact wpAny_execs_nil ⟨σ3,H3,I4,qn⟩
 ·refine wpAny_passesOwn hp (AA (T.item X rfl rfl rfl hc i pins s3 σ3 H3 X.xe I3 (stat fr3) JO go) fun r s4 z40_=>?_)
  obtain ⟨u,hr,h4⟩:=z40_
  subst hr
  refine wpAny_passesOwn hp (AA h4 fun _ s5 z41_=>?_)
  obtain ⟨x,H5,I5,r5,y5,Fz,fr5⟩:=z41_
  have I5':=I5.pinned (stat fr5) (T.obj _ _ Fz)
  refine wpAny_passesOwn hp (AA (hg _ s5 σ3 H5 x u _ I5' r5 (step x H5 y5)) fun _ s6 z42_=>?_)
  obtain ⟨σ6,H6,I6,q6⟩:=z42_
  refine wpAny_passesOwn hp (AA (hb _ s6 σ6 H6 _ I6 q6) fun f s7 q7=>?_)
  have again:∀{σ7:St} {H7:Hp},Inv X (pins++GO fp s5.heap) σ7 H7 s7→N σ7 H7→∃m,m<n∧NA X pins tn fp W m s7:=fun {σ7 H7} I7 n7=>by
   obtain ⟨m',hm,w7⟩:=hN σ7 H7 n7
   refine ⟨m',hm,i+1,σ7,H7,I7.unpinned,T.keep _ _ _ Fz fun b hb o e=>(I7.pin (b,o) (Bi _ (Bi _ (JZ hb e)))).1,fun b hb=>?_,w7⟩
   obtain ⟨o,e,d⟩:=T.obj _ _ Fz b hb
   exact (I7.pin (b,o) (Bi _ (Bi _ (JZ hb e)))).2.1
  cases f with
  |next=>obtain ⟨σ7,H7,I7,n7⟩:=q7;exact again I7 n7
  |cont=>obtain ⟨σ7,H7,I7,n7⟩:=q7;exact again I7 n7
  |brk=>obtain ⟨σ7,H7,I7,q7⟩:=q7;exact ⟨σ7,H7,I7.unpinned,q7⟩
  |ret v=>obtain ⟨x7,σ7,H7,I7,r7,q7⟩:=q7;exact ⟨x7,σ7,H7,I7.unpinned,r7,q7⟩
end
abbrev R2:=V→V→Hp→VK→Prop
def OpR (X:Cx) (f:Value→Value→Sem Value) (r:R2):Prop:=
 ∀(pins:List (Addr×Obj)) (s:Shared) (σ:St) (H:Hp) (x y:V) (v u:Value) (Q:VK),Inv X pins σ H s→RelV x v→RelV y u→r x y H Q→
  wpAny (model X.prog X.w) X.A (f v u) (EP X pins σ Q) X.xe s
def NB (X:Cx) (f:Value→Sem Value) (r:V→Hp→VK→Prop):Prop:=
 ∀(pins:List (Addr×Obj)) (s:Shared) (σ:St) (H:Hp) (x:V) (v:Value) (Q:VK),Inv X pins σ H s→RelV x v→r x H Q→
  wpAny (model X.prog X.w) X.A (f v) (EP X pins σ Q) X.xe s
def DS (X:Cx) (f:Value) (r:List V→Hp→VK→Prop):Prop:=
 ∀(pins:List (Addr×Obj)) (s:Shared) (σ:St) (H:Hp) (xs:List V) (us:List Value) (Q:VK),Inv X pins σ H s→Vals xs us→r xs H Q→
  wpAny (model X.prog X.w) X.A (call f us) (EP X pins σ Q) X.xe s
def Wq (X:Cx) (r:V→Hp→(Bool→Hp→Prop)→Prop):Prop:=
 ∀(pins:List (Addr×Obj)) (s:Shared) (σ:St) (H:Hp) (x:V) (v:Value) (Q:Bool→Hp→Prop),Inv X pins σ H s→RelV x v→r x H Q→
  wpAny (model X.prog X.w) X.A (truthy v) (TP X pins σ Q) X.xe s
def LP (r:R2) (ta tb:TE):TE:=fun σ H Q=>ta σ H fun x H1=>tb σ H1 fun y H2=>r x y H2 Q
def QJ (r:V→Hp→VK→Prop) (ta:TE):TE:=fun σ H Q=>ta σ H fun x H1=>r x H1 Q
def rI (C:Int→Int→Prop) (g:Int→Int→V):R2:=fun x y H Q=>∃i j,x=.int i∧y=.int j∧C i j∧Q (g i j) H
def GP (g:Int→Int→V):R2:=fun x y H Q=>∃i j,x=.int i∧y=.int j∧Q (g i j) H
def rU (g:Int→V):V→Hp→VK→Prop:=fun x H Q=>∃i,x=.int i∧Q (g i) H
section
variable {X:Cx} {a b c:Expr} {ta tb tc:TE} {pos:Pos}
theorem NC (ha:PE X a ta) (hb:PE X b tb) {pins:List (Addr×Obj)} {s:Shared} {σ:St} {H:Hp} {R:V→V→Hp→Prop} (I:Inv X pins σ H s)
 (h:ta σ H fun x H1=>tb σ H1 fun y H2=>R x y H2) {Q:Value→Shared→Prop} {f:Value→Value→Sem Value}
 (hf:∀v u s2 x y H2,Inv X pins σ H2 s2→RelV x v→RelV y u→R x y H2→wpAny (model X.prog X.w) X.A (f v u) Q X.xe s2):
 wpAny (model X.prog X.w) X.A (eval a X.env) (fun v s₁=>wpAny (model X.prog X.w) X.A (eval b X.env) (fun u s₂=>wpAny (model X.prog X.w) X.A (f v u) Q X.xe s₂) X.xe s₁) X.xe s:=by
 refine AA (ha pins s σ H _ I h) fun v s1 z44_=>?_
 obtain ⟨x,H1,I1,r1,q1⟩:=z44_
 refine AA (hb pins s1 σ H1 _ I1 q1) fun u s2 z45_=>?_
 obtain ⟨y,H2,I2,r2,q2⟩:=z45_
 exact hf v u s2 x y H2 I2 r1 r2 q2
theorem Wr {op:Operator} {r:R2} (ho:OpR X (binaryOp op) r) (ha:PE X a ta) (hb:PE X b tb):PE X (.BinOp a op b pos) (LP r ta tb):=by
 intro pins s σ H Q I h
 exact wpAny_BinOp (NC ha hb I h fun v u s2 x y H2 I2 rx ry q=>ho pins s2 σ H2 x y v u Q I2 rx ry q)
theorem QK {op:UnaryOp} {r:V→Hp→VK→Prop} (ho:NB X (unaryOp op) r) (ha:PE X a ta):PE X (.UnaryOp op a pos) (QJ r ta):=by
 intro pins s σ H Q I h
 exact UnaryOp_ (AA (ha pins s σ H _ I h) fun v s1 z46_=>by obtain ⟨x,H1,I1,r1,q1⟩:=z46_;exact (ho pins s1 σ H1 x v Q I1 r1 q1))
theorem ND {f:Value→Value→Sem Value} {C:Int→Int→Prop} {g:Int→Int→Int}
 (rule:∀(i j:Int) (t u:Tok) (s:Shared) (Q:Value→Shared→Prop) (E:Value→Shared→Prop),C i j→Q (.int (g i j) s.toks) {s with toks:=s.toks+1}→wpAny (model X.prog X.w) X.A (f (.int i t) (.int j u)) Q E s):
 OpR X f (rI C fun i j=>.int (g i j)):=by
 intro pins s σ H x y v u Q I rx ry h
 obtain ⟨i,j,rfl,rfl,hc,q⟩:=h
 obtain ⟨t,rfl⟩:=rx
 obtain ⟨t',rfl⟩:=ry
 exact rule i j t t' s _ _ hc ⟨.int (g i j),H,I.tok _,⟨_,rfl⟩,q⟩
theorem QL {f:Value→Value→Sem Value} {g:Int→Int→Int}
 (rule:∀(i j:Int) (t u:Tok) (s:Shared) (Q:Value→Shared→Prop) (E:Value→Shared→Prop),Q (.int (g i j) s.toks) {s with toks:=s.toks+1}→wpAny (model X.prog X.w) X.A (f (.int i t) (.int j u)) Q E s):
 OpR X f (GP fun i j=>.int (g i j)):=by
 intro pins s σ H x y v u Q I rx ry h
 obtain ⟨i,j,rfl,rfl,q⟩:=h
 obtain ⟨t,rfl⟩:=rx
 obtain ⟨t',rfl⟩:=ry
 exact rule i j t t' s _ _ ⟨.int (g i j),H,I.tok _,⟨_,rfl⟩,q⟩
theorem NF {f:Value→Value→Sem Value} {g:Int→Int→Bool}
 (rule:∀(i j:Int) (t u:Tok) (s:Shared) (Q:Value→Shared→Prop) (E:Value→Shared→Prop),Q (.bool (g i j)) s→wpAny (model X.prog X.w) X.A (f (.int i t) (.int j u)) Q E s):
 OpR X f (GP fun i j=>.bl (g i j)):=by
 intro pins s σ H x y v u Q I rx ry h
 obtain ⟨i,j,rfl,rfl,q⟩:=h
 obtain ⟨t,rfl⟩:=rx
 obtain ⟨t',rfl⟩:=ry
 exact rule i j t t' s _ _ ⟨.bl (g i j),H,I,rfl,q⟩
def QM (i j:Int):Prop:=0<j∧j<1073741824
def NG (i j:Int):Prop:=0≤j∧j≤1000000∧i.natAbs<2^64
def CMul (i j:Int):Prop:=(-(2^64)<i∧i<2^64)∨(-(2^64)<j∧j<2^64)
theorem CMul.ok {i j:Int} (h:CMul i j):IntMulOk i j:=by
 rcases h with ⟨h1,h2⟩ |⟨h1,h2⟩
 ·exact .of_left (intBits_le_64 h1 h2)
 ·exact .of_right (intBits_le_64 h1 h2)
theorem op_add:OpR X (binaryOp .Add) (GP fun i j=>.int (i+j)):=QL fun _ _ _ _ _ _ _ q=>add_int q
theorem Ws:OpR X (binaryOp .Sub) (GP fun i j=>.int (i - j)):=QL fun _ _ _ _ _ _ _ q=>sub_int q
theorem Wt:OpR X (binaryOp .Mod) (rI (fun _ j=>0<j) fun i j=>.int (i % j)):=ND fun i j _ _ _ _ _ hc q=>by
 have h1:(0:Int)<j:=hc
 exact mod_int' (by omega) (by rw [Int.fmod_eq_emod_of_nonneg i (by omega)];exact q)
theorem Wu {f:Value→Sem Value} {g:Int→Int}
 (rule:∀(i:Int) (t:Tok) (s:Shared) (Q:Value→Shared→Prop) (E:Value→Shared→Prop),Q (.int (g i) s.toks) {s with toks:=s.toks+1}→wpAny (model X.prog X.w) X.A (f (.int i t)) Q E s):
 NB X f (rU fun i=>.int (g i)):=by
 intro pins s σ H x v Q I rx h
 obtain ⟨i,rfl,q⟩:=h
 obtain ⟨t,rfl⟩:=rx
 exact rule i t s _ _ ⟨.int (g i),H,I.tok _,⟨_,rfl⟩,q⟩
theorem QN:NB X (unaryOp .USub) (rU fun i=>.int (-i)):=Wu fun _ _ _ _ _ q=>neg_int q
end
def QP:V→V→Bool
 |.non,.non=>true |.non,.int _=>true |.int _,.non=>true |.non,.bl _=>true |.bl _,.non=>true |.non,.str _=>true |.str _,.non=>true
 |.int _,.int _=>true |.bl _,.bl _=>true |.str _,.str _=>true |.byt _,.byt _=>true
 |.int _,.str _=>true |.str _,.int _=>true |.bl _,.str _=>true |.str _,.bl _=>true
 |_,_=>false
def Wv:R2:=fun x y H Q=>QP x y=true∧Q (.bl (decide (x=y))) H
def Ww:R2:=fun x y H Q=>QP x y=true∧Q (.bl (!decide (x=y))) H
theorem QR {i j:Int}:decide (V.int i=V.int j)=(i==j):=by
 rw [qaS]
 simp
theorem QT {i j:Bool}:decide (V.bl i=V.bl j)=(i==j):=by
 rw [qaS]
 simp
theorem LQ {i j:Str}:decide (V.str i=V.str j)=(i==j):=by
 rw [qaS]
 simp
theorem QU {i j:Array UInt8}:decide (V.byt i=V.byt j)=(i.toList==j.toList):=by
 rw [qaS]
 cases i
 cases j
 simp
section
variable {X:Cx} {a b c:Expr} {ta tb tc:TE} {pos:Pos}
theorem BB {pins:List (Addr×Obj)} {σ:St} {H:Hp} {s:Shared} {Q:VK} {k k':Bool} (I:Inv X pins σ H s) (q:Q (.bl k) H) (e:k=k'):EP X pins σ Q (.bool k') s:=by
 subst e
 exact ⟨.bl k,H,I,rfl,q⟩
theorem op_eq:OpR X (compareOp .Eq) Wv:=by
 intro pins s σ H x y v u Q I rx ry h
 obtain ⟨hs,q⟩:=h
 cases x with
 |non=>
  cases rx
  cases y with
  |non=>cases ry;exact PySem.EqNone.eq_none_none (BB I q (by simp))
  |bl j=>cases ry;exact PySem.EqNone.eq_none_bool (BB I q (by simp))
  |int j=>obtain ⟨t',rfl⟩:=ry;exact PySem.EqNone.eq_none_int (BB I q (by simp))
  |str j=>obtain ⟨t',rfl⟩:=ry;exact PySem.EqNone.eq_none_str (BB I q (by simp))
  |_=>exact absurd (show false=true from hs) BF
 |bl i=>
  cases rx
  cases y with
  |non=>cases ry;exact PySem.EqNone.eq_bool_none (BB I q (by simp))
  |bl j=>cases ry;exact eq_bool (BB I q QT)
  |str j=>obtain ⟨t',rfl⟩:=ry;exact PySem.EqMixed.eq_bool_str (BB I q (by simp))
  |_=>exact absurd (show false=true from hs) BF
 |int i=>
  obtain ⟨t,rfl⟩:=rx
  cases y with
  |non=>cases ry;exact PySem.EqNone.eq_int_none (BB I q (by simp))
  |int j=>obtain ⟨t',rfl⟩:=ry;exact eq_int (BB I q QR)
  |str j=>obtain ⟨t',rfl⟩:=ry;exact PySem.EqMixed.eq_int_str (BB I q (by simp))
  |_=>exact absurd (show false=true from hs) BF
 |str i=>
  obtain ⟨t,rfl⟩:=rx
  cases y with
  |non=>cases ry;exact PySem.EqNone.eq_str_none (BB I q (by simp))
  |bl j=>cases ry;exact PySem.EqMixed.eq_str_bool (BB I q (by simp))
  |int j=>obtain ⟨t',rfl⟩:=ry;exact PySem.EqMixed.eq_str_int (BB I q (by simp))
  |str j=>obtain ⟨t',rfl⟩:=ry;exact eq_str (BB I q LQ)
  |_=>exact absurd (show false=true from hs) BF
 |byt i=>
  obtain ⟨t,rfl⟩:=rx
  cases y with
  |byt j=>obtain ⟨t',rfl⟩:=ry;exact PySem.W.eq_bytes (BB I q QU)
  |_=>exact absurd (show false=true from hs) BF
 |_=>cases y<;>exact absurd (show false=true from hs) BF
theorem op_ne:OpR X (compareOp .NotEq) Ww:=by
 intro pins s σ H x y v u Q I rx ry h
 obtain ⟨hs,q⟩:=h
 cases x with
 |non=>
  cases rx
  cases y with
  |non=>cases ry;exact PySem.EqNone.ne_none_none (BB I q (by simp))
  |bl j=>cases ry;exact PySem.EqNone.ne_none_bool (BB I q (by simp))
  |int j=>obtain ⟨t',rfl⟩:=ry;exact PySem.EqNone.ne_none_int (BB I q (by simp))
  |str j=>obtain ⟨t',rfl⟩:=ry;exact PySem.EqNone.ne_none_str (BB I q (by simp))
  |_=>exact absurd (show false=true from hs) BF
 |bl i=>
  cases rx
  cases y with
  |non=>cases ry;exact PySem.EqNone.ne_bool_none (BB I q (by simp))
  |bl j=>cases ry;exact ne_bool (BB I q (congrArg not QT))
  |str j=>obtain ⟨t',rfl⟩:=ry;exact PySem.EqMixed.ne_bool_str (BB I q (by simp))
  |_=>exact absurd (show false=true from hs) BF
 |int i=>
  obtain ⟨t,rfl⟩:=rx
  cases y with
  |non=>cases ry;exact PySem.EqNone.ne_int_none (BB I q (by simp))
  |int j=>obtain ⟨t',rfl⟩:=ry;exact ne_int (BB I q (congrArg not QR))
  |str j=>obtain ⟨t',rfl⟩:=ry;exact PySem.EqMixed.ne_int_str (BB I q (by simp))
  |_=>exact absurd (show false=true from hs) BF
 |str i=>
  obtain ⟨t,rfl⟩:=rx
  cases y with
  |non=>cases ry;exact PySem.EqNone.ne_str_none (BB I q (by simp))
  |bl j=>cases ry;exact PySem.EqMixed.ne_str_bool (BB I q (by simp))
  |int j=>obtain ⟨t',rfl⟩:=ry;exact PySem.EqMixed.ne_str_int (BB I q (by simp))
  |str j=>obtain ⟨t',rfl⟩:=ry;exact ne_str (BB I q (congrArg not LQ))
  |_=>exact absurd (show false=true from hs) BF
 |byt i=>
  obtain ⟨t,rfl⟩:=rx
  cases y with
  |byt j=>obtain ⟨t',rfl⟩:=ry;exact PySem.W.ne_bytes (BB I q (congrArg not QU))
  |_=>exact absurd (show false=true from hs) BF
 |_=>cases y<;>exact absurd (show false=true from hs) BF
theorem Wx:OpR X (compareOp .Lt) (GP fun i j=>.bl (decide (i<j))):=NF fun _ _ _ _ _ _ _ q=>lt_int q
theorem Wy:OpR X (compareOp .LtE) (GP fun i j=>.bl (decide (i≤j))):=NF fun _ _ _ _ _ _ _ q=>le_int q
theorem Wz:OpR X (compareOp .Gt) (GP fun i j=>.bl (decide (j<i))):=NF fun _ _ _ _ _ _ _ q=>gt_int q
theorem WA:OpR X (compareOp .Is) (fun x y H Q=>y=.non∧Q (.bl (decide (x=.non))) H):=by
 intro pins s σ H x y v u Q I rx ry h
 obtain ⟨rfl,q⟩:=h
 cases ry
 refine is_none_gen (BB I q ?_)
 cases x<;>first
  |(cases rx;rfl)
  |(obtain ⟨t,rfl⟩:=rx;rfl)
theorem WB:OpR X (compareOp .IsNot) (fun x y H Q=>y=.non∧Q (.bl (!decide (x=.non))) H):=by
 intro pins s σ H x y v u Q I rx ry h
 obtain ⟨rfl,q⟩:=h
 cases ry
 refine isnot_none_gen (BB I q ?_)
 cases x<;>first
  |(cases rx;rfl)
  |(obtain ⟨t,rfl⟩:=rx;rfl)
theorem OpR.or {f:Value→Value→Sem Value} {r r':R2} (h:OpR X f r) (h':OpR X f r'):OpR X f (fun x y H Q=>r x y H Q∨r' x y H Q):=by
 intro pins s σ H x y v u Q I rx ry q
 rcases q with q |q
 ·exact h pins s σ H x y v u Q I rx ry q
 ·exact h' pins s σ H x y v u Q I rx ry q
theorem Bo (b:Expr) {op:CmpOp} (h:op≠.In:=by decide) (h2:op≠.NotIn:=by decide):behindInMarks op b=false:=by
 have e1:(op==CmpOp.In)=false:=by cases op<;>first |rfl |exact absurd rfl h
 have e2:(op==CmpOp.NotIn)=false:=by cases op<;>first |rfl |exact absurd rfl h2
 cases b with
 |Set elts k p=>
  show (k==0&&(op==.In||op==.NotIn)&&elts.all (constantsAlone 8))=false
  rw [e1,e2,Bool.or_self,Bool.and_false,LD]
 |_=>rfl
theorem WC {op:CmpOp} {r:R2} (ho:OpR X (compareOp op) r) (ha:PE X a ta) (hb:PE X b tb) (hm:behindInMarks op b=false):PE X (.Compare a [op] [b] pos) (LP r ta tb):=by
 intro pins s σ H Q I h
 exact wpAny_Compare1 (NC ha hb I h fun v u s2 x y H2 I2 rx ry q=>ho pins s2 σ H2 x y v u Q I2 rx ry q) hm
def QV (t:TE):TT:=fun σ H Q=>t σ H fun x H'=>∃k,x=.bl k∧Q k H'
theorem WD {op:CmpOp} {r:R2} (ho:OpR X (compareOp op) r) (ha:PE X a ta) (hb:PE X b tb) (hm:behindInMarks op b=false):PT X (.Compare a [op] [b] pos) (QV (LP r ta tb)):=by
 intro pins s σ H Q I h
 refine wpAny_isTrue_Compare1 (AA (ha pins s σ H _ I h) fun v s1 ⟨x,H1,I1,r1,q1⟩=>AA (hb pins s1 σ H1 _ I1 q1) ?_) hm
 rintro u s2 ⟨y,H2,I2,r2,q2⟩
 refine AA (ho pins s2 σ H2 x y v u _ I2 r1 r2 q2) fun c s3 z49_=>?_
 obtain ⟨z,H3,I3,r3,k,e,q3⟩:=z49_
 subst e
 cases r3
 exact wpAny_truthy_bool ⟨H3,I3,q3⟩
def NH (r r':R2) (ta tb tc:TE):TE:=fun σ H Q=>ta σ H fun x H1=>tb σ H1 fun y H2=>r x y H2 fun z H3=>∃k,z=.bl k∧
 (if k=true then tc σ H3 fun w' H4=>r' y w' H4 Q else Q (.bl false) H3)
theorem WE {op op':CmpOp} {r r':R2} (ho:OpR X (compareOp op) r) (ho':OpR X (compareOp op') r') (ha:PE X a ta) (hb:PE X b tb) (hc:PE X c tc)
 (hm:lastMarks [op,op'] [b,c]=false:=by with_unfolding_all rfl):PE X (.Compare a [op,op'] [b,c] pos) (NH r r' ta tb tc):=by
 intro pins s σ H Q I h
 refine Compare_chain (AA (ha pins s σ H _ I h) fun v s1 ⟨x,H1,I1,r1,q1⟩=>chain_link (AA (hb pins s1 σ H1 _ I1 q1) ?_)) hm
 rintro u s2 ⟨y,H2,I2,r2,q2⟩
 refine AA (ho pins s2 σ H2 x y v u _ I2 r1 r2 q2) fun d s3 z52_=>?_
 obtain ⟨z,H3,I3,r3,k,e,q3⟩:=z52_
 subst e
 cases r3
 refine wpAny_truthy_bool ?_
 cases k with
 |false=>exact ite_ff ⟨.bl false,H3,I3,rfl,q3⟩
 |true=>exact ite_tt (chain_last (AA (hc pins s3 σ H3 _ I3 q3) fun w' s4 z53_=>by obtain ⟨z',H4,I4,r4,q4⟩:=z53_;exact (ho' pins s4 σ H4 y z' u w' Q I4 r2 r4 q4)))
theorem WG {op op':CmpOp} {r r':R2} (ho:OpR X (compareOp op) r) (ho':OpR X (compareOp op') r') (ha:PE X a ta) (hb:PE X b tb) (hc:PE X c tc)
 (hm:lastMarks [op,op'] [b,c]=false:=by with_unfolding_all rfl):PT X (.Compare a [op,op'] [b,c] pos) (QV (NH r r' ta tb tc)):=by
 intro pins s σ H Q I h
 refine isTrue_chain (AA (ha pins s σ H _ I h) fun v s1 ⟨x,H1,I1,r1,q1⟩=>test_link (AA (hb pins s1 σ H1 _ I1 q1) ?_)) hm
 rintro u s2 ⟨y,H2,I2,r2,q2⟩
 refine AA (ho pins s2 σ H2 x y v u _ I2 r1 r2 q2) fun d s3 z56_=>?_
 obtain ⟨z,H3,I3,r3,k,e,q3⟩:=z56_
 subst e
 cases r3
 refine wpAny_truthy_bool ?_
 cases k with
 |false=>
  obtain ⟨k',e',q'⟩:=q3
  cases e'
  exact ite_ff ⟨H3,I3,q'⟩
 |true=>
  refine ite_tt (test_last (AA (hc pins s3 σ H3 _ I3 q3) ?_))
  rintro w' s4 ⟨z',H4,I4,r4,q4⟩
  refine AA (ho' pins s4 σ H4 y z' u w' _ I4 r2 r4 q4) fun d' s5 z58_=>?_
  obtain ⟨z2,H5,I5,r5,k2,e2,q5⟩:=z58_
  subst e2
  cases r5
  exact wpAny_truthy_bool ⟨H5,I5,q5⟩
def NI (K:PySem.W.Frag) (x:V) (H:Hp) (k:Bool):Prop:=
 match x with
 |.non=>k=false
 |.bl b=>k=b
 |.int i=>k=(i != 0)
 |.str y=>y.length≤sizeLine∧k=((y.length:Int) != 0)
 |.byt y=>y.size≤sizeLine∧k=((y.size:Int) != 0)
 |.ref p=>(∃xs,SqL K H p xs∧k=!xs.isEmpty)∨(∃xs,SqT K H p xs∧k=!xs.isEmpty)
 |_=>False
theorem QW {xs:List V} {its:List Value} (r:Vals xs its):(!its.toArray.isEmpty)=!xs.isEmpty:=by
 cases r<;>simp
theorem J0:(sizeLine:Nat)<2^63:=by rw [sizeLine_eq];decide
theorem WH:Wq X (fun x H Q=>∃k,NI X.K x H k∧Q k H):=by
 intro pins s σ H x v Q I rx h
 obtain ⟨k,e,q⟩:=h
 have hl:=J0
 have hs:sizeLine=16777216:=sizeLine_eq
 cases x with
 |non=>
  cases rx
  have e':k=false:=e
  subst e'
  exact truthy_none ⟨H,I,q⟩
 |bl b=>
  cases rx
  have e':k=b:=e
  subst e'
  exact wpAny_truthy_bool ⟨H,I,q⟩
 |int i=>
  obtain ⟨t,rfl⟩:=rx
  have e':k=(i != 0):=e
  subst e'
  exact PySem.P.truthy_int ⟨H,I,q⟩
 |str y=>
  obtain ⟨t,rfl⟩:=rx
  obtain ⟨hy,e'⟩:y.length≤sizeLine∧k=((y.length:Int) != 0):=e
  subst e'
  exact PySem.P.truthy_str (by omega) ⟨H,I.tok _,q⟩
 |byt y=>
  obtain ⟨t,rfl⟩:=rx
  obtain ⟨hy,e'⟩:y.size≤sizeLine∧k=((y.size:Int) != 0):=e
  subst e'
  exact PySem.W.truthy_bytes (by omega) ⟨H,I.tok _,q⟩
 |ref p=>
  cases rx
  have e':(∃xs,SqL X.K H p xs∧k=!xs.isEmpty)∨(∃xs,SqT X.K H p xs∧k=!xs.isEmpty):=e
  rcases e' with ⟨xs,hx,e'⟩ |⟨xs,hx,e'⟩
  ·subst e'
   obtain ⟨its,r,pl,hz⟩:=I.list hx
   have hlen:=r.length
   exact wpAny_truthy_list pl.isList (by simp only [Bc];omega) ⟨H,I.tok _,by rw [QW r];exact q⟩
  ·subst e'
   obtain ⟨its,r,pl,hz⟩:=I.tuple hx
   have hlen:=r.length
   exact truthy_tuple pl (by simp only [Bc];omega) ⟨H,I.tok _,by rw [QW r];exact q⟩
 |_=>exact (show False from e).elim
theorem WI (ha:PE X a ta) (he:∀FT,isTrue a X.env FT=(do let v ←FT;standAt a.pos;holding [v] (truthy v))):
 PT X a (fun σ H Q=>ta σ H fun x H'=>∃k,NI X.K x H' k∧Q k H'):=by
 intro pins s σ H Q I h
 exact isTrue_plain (AA (ha pins s σ H _ I h) fun v s1 z59_=>by obtain ⟨x,H1,I1,r1,q1⟩:=z59_;exact (WH pins s1 σ H1 x v Q I1 r1 q1)) (he _)
theorem WJ:OpR X (binaryOp .Add) (fun x y H Q=>∃i j,x=.str i∧y=.str j∧i.length+j.length≤sizeLine∧Q (.str (i++j)) H):=by
 intro pins s σ H x y v u Q I rx ry h
 obtain ⟨i,j,rfl,rfl,hz,q⟩:=h
 obtain ⟨t,rfl⟩:=rx
 obtain ⟨t',rfl⟩:=ry
 exact add_str (fun t' tk=>⟨.str (i++j),H,I.tok _,⟨_,rfl⟩,q⟩) hz
theorem Gk {x:V} {us:List Value} (r:Vals [x] us):∃u,us=[u]∧RelV x u:=by
 cases r with
 |cons r1 r2=>cases r2;exact ⟨_,rfl,r1⟩
theorem LR {x y:V} {us:List Value} (r:Vals [x,y] us):∃u w',us=[u,w']∧RelV x u∧RelV y w':=by
 cases r with
 |cons r1 r2=>
  cases r2 with
  |cons r3 r4=>cases r4;exact ⟨_,_,rfl,r1,r3⟩
theorem WK (hc:X.calm=true):DS X (.builtin "max") (fun xs H Q=>∃i j,xs=[.int i,.int j]∧Q (.int (if j>i then j else i)) H):=by
 intro pins s σ H xs us Q I r h
 obtain ⟨i,j,rfl,q⟩:=h
 obtain ⟨u,w',rfl,⟨t,rfl⟩,⟨t',rfl⟩⟩:=LR r
 refine max_two_ints (I.ok.hd hc) fun h' tk k=>⟨_,H,I.kept k,?_,q⟩
 by_cases hj:j>i
 ·rw [if_pos hj,if_pos hj];exact ⟨_,rfl⟩
 ·rw [if_neg hj,if_neg hj];exact ⟨_,rfl⟩
theorem WL (hc:X.calm=true):DS X (.builtin "min") (fun xs H Q=>∃i j,xs=[.int i,.int j]∧Q (.int (if j<i then j else i)) H):=by
 intro pins s σ H xs us Q I r h
 obtain ⟨i,j,rfl,q⟩:=h
 obtain ⟨u,w',rfl,⟨t,rfl⟩,⟨t',rfl⟩⟩:=LR r
 refine min_two_ints (I.ok.hd hc) fun h' tk k=>⟨_,H,I.kept k,?_,q⟩
 by_cases hj:j<i
 ·rw [if_pos hj,if_pos hj];exact ⟨_,rfl⟩
 ·rw [if_neg hj,if_neg hj];exact ⟨_,rfl⟩
theorem WM:DS X (.type "int") (fun xs H Q=>(∃i,xs=[.int i]∧Q (.int i) H)∨∃k,xs=[.bl k]∧Q (.int (if k then 1 else 0)) H):=by
 intro pins s σ H xs us Q I r h
 rcases h with ⟨i,rfl,q⟩ |⟨k,rfl,q⟩
 ·obtain ⟨u,rfl,t,rfl⟩:=Gk r
  exact call_int_int ⟨.int i,H,I,⟨_,rfl⟩,q⟩
 ·obtain ⟨u,rfl,r1⟩:=Gk r
  cases r1
  exact call_int_bool ⟨.int (if k then 1 else 0),H,I.tok _,⟨_,rfl⟩,q⟩
end
section
variable {prog:Program} {w:World} {A:Around} {E:Value→Shared→Prop} {s:Shared} {K:PySem.W.Frag} {x dx C f:Addr} {mA:Str→Option Value} {name:Str} {v:Value}
end
section
variable {P:Program} {w:World} {H H':Hp} {h h':Heap} {a C dx:Addr} {fs fs':List (Str×V)}
end
section
variable {X:Cx} {pins:List (Addr×Obj)} {σ:St} {H:Hp} {s:Shared} {a C dx:Addr} {fs:List (Str×V)} {f:Str} {v:V} {A:Around} {E:Value→Shared→Prop}
end
section
variable {X:Cx} {o e value:Expr} {f:Str} {pos pos' tpos:Pos} {ta tv:TE}
end
section
variable {X:Cx} {pins:List (Addr×Obj)} {σ:St} {H:Hp} {s:Shared} {A:Around} {E:Value→Shared→Prop} {Q:Value→Shared→Prop} {c:Value} {b:Bool}
inductive E5 (K:PySem.W.Frag) (H:Hp):V→Value→Prop where
 |non:E5 K H .non (.type "NoneType")
 |bl (x:Bool):E5 K H (.bl x) (.type "bool")
 |int (i:Int):E5 K H (.int i) (.type "int")
 |str (x:Str):E5 K H (.str x) (.type "str")
 |flt (x:UInt64):E5 K H (.flt x) (.type "float")
 |lst {a:Addr} {xs:List V} (e:H a=some (.lst xs)):E5 K H (.ref a) (.type "list")
 |frz {a:Addr} {o:Obj} {xs:List V} (e:H a=some (.frz o (.lst xs))):E5 K H (.ref a) (.type "list")
 |tup {a:Addr} {xs:List V} (e:H a=some (.tup xs)):E5 K H (.ref a) (.type "tuple")
theorem WN {x:V} {u t:Value} (I:Inv X pins σ H s) (rx:RelV x u) (ty:E5 X.K H x t) (e:PySem.W.kitOne X.K t c=some b) (h:∀tk,Q (.bool b) {s with toks:=tk}):
 wpAny (model X.prog X.w) A (call (.builtin "isinstance") [u,c]) Q E s:=by
 cases ty with
 |non=>cases (show u=Value.none from rx);exact PySem.W.kia_one PySem.W.kitx_none I.kIn True.intro e (fun z=>nomatch z) h
 |bl y=>cases (show u=Value.bool y from rx);exact PySem.W.kia_one PySem.W.kitx_bool I.kIn True.intro e (fun z=>nomatch z) h
 |int i=>obtain ⟨t,q⟩:=(show ∃t,u=Value.int i t from rx);cases q;exact PySem.W.kia_one PySem.W.kitx_int I.kIn True.intro e (fun z=>nomatch z) h
 |str y=>obtain ⟨t,q⟩:=(show ∃t,u=Value.str y t from rx);cases q;exact PySem.W.kia_one PySem.W.kitx_str I.kIn True.intro e (fun z=>nomatch z) h
 |flt y=>obtain ⟨t,q⟩:=(show ∃t,u=Value.float y t from rx);cases q;exact PySem.W.kia_one PySem.W.kitx_float I.kIn True.intro e (fun z=>nomatch z) h
 |@lst a xs ea=>
  cases (show u=Value.ref a from rx)
  obtain ⟨_,_,n,_,h1⟩:=(show ObjOk X.prog X.w H s.heap a (.lst xs) from I.hok a _ ea)
  exact PySem.W.kia_one PySem.W.kitx_list I.kIn ⟨_,h1,rfl⟩ e (fun z=>nomatch z) h
 |@frz a ob xs ea=>
  cases (show u=Value.ref a from rx)
  obtain ⟨_,_,_,n,_,h1⟩:=(show ObjOk X.prog X.w H s.heap a (.frz ob (.lst xs)) from I.hok a _ ea)
  exact PySem.W.kia_one PySem.W.kitx_list I.kIn ⟨_,h1,rfl⟩ e (fun z=>nomatch z) h
 |@tup a xs ea=>
  cases (show u=Value.ref a from rx)
  obtain ⟨_,_,_,p,_⟩:=(show ObjOk X.prog X.w H s.heap a (.tup xs) from I.hok a _ ea)
  obtain ⟨o,h1,h2,_⟩:=p
  exact PySem.W.kia_one PySem.W.kitx_tuple I.kIn ⟨o,h1,h2⟩ e (fun z=>nomatch z) h
end
structure Room (k:Nat) (A:Around):Prop where
 hd:A.handled=none
 dp:A.depth+3*k+5<recursionLimit
 un:A.units+16*k+200<cLine
 gd:A.guards=some []
theorem Room.mono {j k:Nat} {A:Around} (r:Room k A) (h:j≤k):Room j A:=⟨r.hd,by have:=r.dp;omega,by have:=r.un;omega,r.gd⟩
theorem Room.deeper {k:Nat} {A:Around} (r:Room (k+1) A) (env:Env):Room k (A.deeper env):=
 ⟨r.hd,by have:=r.dp;show A.depth+1+3*k+5<_;omega,by have:=r.un;show A.units+3+16*k+200<_;omega,r.gd⟩
theorem Room.depth {k:Nat} {A:Around} (r:Room k A):A.depth<recursionLimit:=by have:=r.dp;omega
theorem Room.units {k:Nat} {A:Around} (r:Room k A):A.units+64<cLine:=by have:=r.un;omega
def WO:TA:=fun _ H Q=>Q [] H
def WQ (ta:TE) (tr:TA):TA:=fun σ H Q=>ta σ H fun x H1=>tr σ H1 fun xs H2=>Q (x::xs) H2
section
variable {X:Cx} {e:Expr} {es:List Expr} {te:TE} {t:TA} {pos:Pos}
theorem WR:PA X [] WO:=fun _ _ _ _ H Q I h=>Calls.spliced_nil ⟨[],H,I,.nil,h⟩
theorem WS (ha:PE X e te) (hr:PA X es t) (hs:starEach (e::es) X.env=(false,eval e X.env)::starEach es X.env:=by rfl):PA X (e::es) (WQ te t):=by
 intro pos pins s σ H Q I h
 rw [hs]
 show wpAny _ _ (spliced ((false,eval e X.env)::backTo pos (starEach es X.env))) _ _ s
 refine Calls.spliced_cons (AA (ha pins s σ H _ I h) fun u s1 z68_=>?_)
 obtain ⟨x,H1,I1,r1,q1⟩:=z68_
 exact AA (hr pos pins s1 σ H1 _ I1 q1) fun us s2 z69_=>by obtain ⟨xs,H2,I2,r2,q2⟩:=z69_;exact (⟨x::xs,H2,I2,.cons r1 r2,q2⟩)
def WT (t:TA):TE:=fun σ H Q=>t σ H fun xs H1=>xs.length≤sizeLine∧∀p,H1 p=none→Q (.ref p) (Az H1 p (.tup xs))
def WU (t:TA):TE:=fun σ H Q=>t σ H fun xs H1=>xs.length≤sizeLine∧∀p,H1 p=none→Q (.ref p) (Az H1 p (.lst xs))
theorem WV {x1} (h:PA X es t):PE X (.Tuple es x1 pos) (WT t):=by
 intro pins s σ H Q I hq
 refine wpAny_Tuple_spliced (AA (h pos pins s σ H _ I hq) fun us s1 ⟨xs,H1,I1,r,z,q⟩=>⟨by rw [←r.length];exact z,?_⟩)
 have hf:H1 s1.heap.objs.size=none:=I1.hok.fresh (AK _)
 refine ⟨.ref s1.heap.objs.size,Az H1 s1.heap.objs.size (.tup xs),I1.laid (t':=s1.toks) (fun b u e=>AY _ e) (AK _) ?_,rfl,q _ hf⟩
 exact ⟨z,us,r,⟨_,BR _ rfl,rfl,_,rfl⟩,NoDict.new⟩
theorem WW (h:PA X es t):PE X (.List es pos) (WU t):=by
 intro pins s σ H Q I hq
 refine wpAny_List_spliced (AA (h pos pins s σ H _ I hq) fun us s1 ⟨xs,H1,I1,r,z,q⟩=>⟨by rw [←r.length];exact z,?_⟩)
 have hf:H1 s1.heap.objs.size=none:=I1.hok.fresh (AK _)
 refine ⟨.ref s1.heap.objs.size,Az H1 s1.heap.objs.size (.lst xs),I1.laid (t':=s1.toks) (fun b u e=>AY _ e) (AK _) ?_,rfl,q _ hf⟩
 exact ⟨z,us,0,r,BR _ rfl⟩
end
abbrev Sp:=List V→Hp→VK→XK→Prop
abbrev E6:=List Env→Hp→Shared→XK→Value→Shared→Prop
structure J1 (P:Program) (w:World) (K:PySem.W.Frag) (mg:Str→Option Value) (base:Heap) (A:Around) (outer:List Env) (s:Shared) (H:Hp):Prop where
 frames:A.frames=some outer
 mod:Mod K mg base
 bs:∀b o,base.get? b=some o→s.heap.get? b=some o∧H b=none
 bsz:base.objs.size≤s.heap.objs.size
 funs:s.heap.FunFrames base outer
 frf:∀b∈frs outer,H b=none
 hok:HOk P w H s.heap
 bare:AllBare s.gens
inductive CE (outer:List Env) (P:Program) (w:World) (H:Hp) (s:Shared) (Q:VK) (u:Value) (s':Shared):Prop where
 |mk (v:V) (H':Hp) (os:s'.os=s.os) (bare:AllBare s'.gens) (un:Un (frs outer) [] H H' s.heap s'.heap) (hok:HOk P w H' s'.heap) (r:RelV v u) (q:Q v H'):CE outer P w H s Q u s'
def CR (CX:E6) (outer:List Env) (P:Program) (w:World) (H:Hp) (s:Shared) (Q:VK) (E:XK) (r:Result) (s':Shared):Prop:=
 match r with
 |.ok (.ret u)=>CE outer P w H s Q u s'
 |.ok _=>False
 |.error e=>CX outer H s E e s'
structure FnOk (P:Program) (w:World) (K:PySem.W.Frag) (mg:Str→Option Value) (base:Heap) (CX:E6) (k:Nat) (f:Addr) (fd:FuncData) (ps:List Str) (sp:Sp):Prop where
 len:∀vs H Q E,sp vs H Q E→vs.length=ps.length
 run:∀(A:Around) (outer:List Env) (s:Shared) (H:Hp) (args:Args) (us:List Value) (vs:List V) (Q:VK) (E:XK),Room k A→J1 P w K mg base A outer s H→BindsTo s fd args (ps.zip us)→Vals vs us→sp vs H Q E→
  codeAny (model P w) A (.call (.ref f) args) (CR CX outer P w H s Q E) s
theorem FnOk.mono {P:Program} {w:World} {K:PySem.W.Frag} {mg:Str→Option Value} {base:Heap} {CX:E6} {j k:Nat} {f:Addr} {fd:FuncData} {ps:List Str} {sp:Sp} (F:FnOk P w K mg base CX j f fd ps sp) (h:j≤k):
 FnOk P w K mg base CX k f fd ps sp:=⟨F.len,fun A outer s H args us vs Q E hr=>F.run A outer s H args us vs Q E (hr.mono h)⟩
theorem FnOk.imp {P:Program} {w:World} {K:PySem.W.Frag} {mg:Str→Option Value} {base:Heap} {CX:E6} {k:Nat} {f:Addr} {fd:FuncData} {ps:List Str} {sp sp':Sp} (F:FnOk P w K mg base CX k f fd ps sp)
 (h:∀vs H Q E,sp' vs H Q E→sp vs H Q E):FnOk P w K mg base CX k f fd ps sp':=
 ⟨fun vs H Q E q=>F.len vs H Q E (h _ _ _ _ q),fun A outer s H args us vs Q E hr he hb hv hs=>F.run A outer s H args us vs Q E hr he hb hv (h _ _ _ _ hs)⟩
section
variable {X:Cx} {pins:List (Addr×Obj)} {σ:St} {H:Hp} {s s':Shared}
theorem Inv.env0 (I:Inv X pins σ H s):J1 X.prog X.w X.K X.mg X.base X.A X.stack s H:=
 ⟨I.ok.frames,I.ok.mod,I.bs,B8 I.ok.bsz I.sz,I.stack,I.stkFree,I.hok,I.bare⟩
theorem Inv.after {Q:VK} {u:Value} (I:Inv X pins σ H s) (h:CE X.stack X.prog X.w H s Q u s'):EP X pins σ Q u s':=by
 obtain ⟨v,H',os,bare,un,hok,r,q⟩:=h
 obtain ⟨hh,g,d,t,os'⟩:=s'
 obtain rfl:os'=s.os:=os
 exact ⟨v,H',I.call (h':=hh) (g':=g) (d':=d) (t':=t) (ch:=[]) un hok bare (fun b z=>absurd z (by simp)),r,q⟩
end
def WX (sp:Sp) (dvs:List V) (E:XK) (t:TA):TE:=fun σ H Q=>t σ H fun vs H1=>sp (vs++dvs) H1 Q E
def Binds (K:PySem.W.Frag) (fd:FuncData) (ps:List Str) (ds:List Value):Prop:=
 ∀(s:Shared) (us:List Value),K.In s.heap→(us++ds).length=ps.length→BindsTo s fd ⟨us,[]⟩ (ps.zip (us++ds))
theorem Binds.all {K:PySem.W.Frag} {fd:FuncData} {ps:List Str} (h:∀us:List Value,us.length=ps.length→bindArgs fd ⟨us,[]⟩=pure (ps.zip us)):Binds K fd ps []:=fun s us _ hl=>by
 rw [E3] at hl ⊢
 exact .of_eq (h us hl)
def Jl (CX:E6) (X:Cx) (E:XK):Prop:=∀(pins:List (Addr×Obj)) (σ:St) (H:Hp) (s:Shared) (e:Value) (s':Shared),Inv X pins σ H s→CX X.stack H s E e s'→X.xe e s'
section
variable {X:Cx} {CX:E6} {k:Nat} {f C:Addr} {fd:FuncData} {ps:List Str} {sp:Sp} {dvs:List V} {ds:List Value} {E:XK} {x m:Str} {p pos apos:Pos} {e o:Expr} {es:List Expr} {ta:TE} {t:TA}
theorem WY {pins:List (Addr×Obj)} {σ:St} {H:Hp} {s:Shared} {Q:VK} {us:List Value} {vs:List V} (F:FnOk X.prog X.w X.K X.mg X.base CX k f fd ps sp) (hr:Room k X.A) (hb:Binds X.K fd ps ds) (hd:Vals dvs ds) (hx:Jl CX X E)
 (I:Inv X pins σ H s) (r:Vals vs us) (h:sp (vs++dvs) H Q E):wpAny (model X.prog X.w) X.A (call (.ref f) us) (EP X pins σ Q) X.xe s:=by
 have r2:Vals (vs++dvs) (us++ds):=r.append hd
 have hl:(us++ds).length=ps.length:=by rw [←r2.length];exact F.len _ _ _ _ h
 refine wpAny_call (codeAny_mono (F.run X.A X.stack s H ⟨us,[]⟩ (us++ds) (vs++dvs) Q E hr I.env0 (hb s us I.kIn hl) r2 h) fun r s' hq=>?_)
 cases r with
 |error e=>exact hx pins σ H s e s' I hq
 |ok fl=>
  cases fl with
  |ret u=>exact I.after hq
  |next=>exact False.elim hq
  |brk=>exact False.elim hq
  |cont=>exact False.elim hq
theorem WZ (F:FnOk X.prog X.w X.K X.mg X.base CX k f fd ps sp) (hr:Room k X.A) (hg:Gl X x) (hm:X.mg x=some (.ref f)) (hk:PySem.W.keepIn X.K (.ref f)=true) (hb:Binds X.K fd ps ds) (hd:Vals dvs ds) (hx:Jl CX X E)
 (ha:PA X (e::es) t) (hdb:(x==("__debug__":Str))=false:=by decide) (he:starEach (e::es) X.env=(false,eval e X.env)::starEach es X.env:=by rfl) (hpl:(backTo pos (starEach es X.env)).any (·.1)=false:=by rfl):
 PE X (.Call (.Name x p) (e::es) [] pos) (WX sp dvs E t):=by
 intro pins s σ H Q I h
 refine wpAny_Call_Name_kw (QE I hg hm ?_ hdb)
 refine PySem.W.callWith_K (h₀:=X.base) I.ok.mod.kin hk (AA (ha pos pins s σ H _ I h) ?_) he hpl
 rintro us s1 ⟨vs,H1,I1,r,q⟩
 refine ⟨I1.kIn,?_⟩
 exact WY F hr hb hd hx I1 r q
end
section
variable {X:Cx} {CX:E6} {k:Nat} {f C:Addr} {fd:FuncData} {ps ks:List Str} {sp:Sp} {E:XK} {x m:Str} {p pos apos kpos:Pos} {e o:Expr} {es:List Expr} {kws:List Keyword} {te ta:TE} {t tk:TA} {nm:Option Str}
variable {g:List Value→List Value→List Value} {gV:List V→List V→List V}
end
structure A5 (N P:List Str) (sc:Scope):Prop where
 kind:sc.kind=.function
 co:sc.isCoroutine=false
 gen:sc.isGenerator=false
 nd:N.Nodup
 pre:N.take P.length=P
 par:∀x∈P,sc.names.lookup x=some .local∨sc.names.lookup x=some .cell
 nofree:∀y∈sc.names,y.2≠.free
theorem QX {kindOf:Str→Option NameKind} {x:Str}:∀{binds:List (Str×Value)} {m:Str→Option Value},(∀v,(x,v)∉binds)→bindL kindOf binds m x=m x
 |[],_,_=>rfl
 |(n,v)::r,m,h=>by
  unfold bindL
  rw [QX fun w hw=>h w (Bb _ hw)]
  split
  ·have:x≠n:=by rintro rfl;exact h v AZ
   simp [this]
  ·rfl
theorem QY {kindOf:Str→Option NameKind} {x:Str}:∀{binds:List (Str×Value)} {m:Str→Option Value},(∀v,(x,v)∉binds)→bindC kindOf binds m x=m x
 |[],_,_=>rfl
 |(n,v)::r,m,h=>by
  unfold bindC
  rw [QY fun w hw=>h w (Bb _ hw)]
  split
  ·rfl
  ·have:x≠n:=by rintro rfl;exact h v AZ
   simp [this]
theorem QZ {kindOf:Str→Option NameKind} {x:Str} {v:Value}:∀{P:List Str} {vs:List Value} {i:Nat} {m:Str→Option Value},P.Nodup→P[i]?=some x→vs[i]?=some v→kindOf x=some .local→
 bindL kindOf (P.zip vs) m x=some v
 |[],_,_,_,_,h,_,_=>by simp at h
 |_::_,[],_,_,_,_,h,_=>by simp at h
 |p::P,w::vs,0,m,nd,h1,h2,hk=>by
  simp at h1 h2;subst h1;subst h2
  show bindL kindOf ((p,w)::P.zip vs) m p=_
  unfold bindL
  rw [QX fun v hv=>(qbJ.mp nd).1 (Ly hv).1,if_pos hk]
  simp
 |p::P,w::vs,i+1,m,nd,h1,h2,hk=>by
  show bindL kindOf ((p,w)::P.zip vs) m x=_
  unfold bindL
  exact QZ (i:=i) (qbJ.mp nd).2 (by simpa using h1) (by simpa using h2) hk
theorem Q0 {kindOf:Str→Option NameKind} {x:Str} {v:Value}:∀{P:List Str} {vs:List Value} {i:Nat} {m:Str→Option Value},P.Nodup→P[i]?=some x→vs[i]?=some v→kindOf x≠some .local→
 bindC kindOf (P.zip vs) m x=some v
 |[],_,_,_,_,h,_,_=>by simp at h
 |_::_,[],_,_,_,_,h,_=>by simp at h
 |p::P,w::vs,0,m,nd,h1,h2,hk=>by
  simp at h1 h2;subst h1;subst h2
  show bindC kindOf ((p,w)::P.zip vs) m p=_
  unfold bindC
  rw [QY fun v hv=>(qbJ.mp nd).1 (Ly hv).1,if_neg hk]
  simp
 |p::P,w::vs,i+1,m,nd,h1,h2,hk=>by
  show bindC kindOf ((p,w)::P.zip vs) m x=_
  unfold bindC
  exact Q0 (i:=i) (qbJ.mp nd).2 (by simpa using h1) (by simpa using h2) hk
def start (N:List Str) (vs:List V):St:=vs.map some++List.replicate (N.length - vs.length) none
def AQ (CX:E6) (P:Program) (w:World) (K:PySem.W.Frag) (mg:Str→Option Value) (base:Heap) (N:List Str) (qual:Str) (scope:Scope) (f:Addr) (cd:Value) (A:Around) (outer:List Env) (s:Shared) (H:Hp) (E:XK):Cx where
 prog:=P
 w:=w
 K:=K
 mg:=mg
 base:=base
 A:=A.deeper (envOfC qual scope s.heap.objs.size f cd)
 N:=N
 s₀:=s
 H₀:=H
 env:=envOfC qual scope s.heap.objs.size f cd
 outer:=outer
 stack:=envOfC qual scope s.heap.objs.size f cd::outer
 ex:=[]
 calm:=true
 fn:=fun _=>true
 pn:=[]
 xe:=fun e s'=>wpAny (model P w) (A.deeper (envOfC qual scope s.heap.objs.size f cd)) (leaving (envOfC qual scope s.heap.objs.size f cd) e) (fun _ s''=>CX outer H s E e s'') (fun e' s''=>CX outer H s E e' s'') s'
theorem Q1 {sc:Scope} {n:Nat} {x:Str} (h:sc.names.lookup x=some .cell):∃c,(cellsFrom n sc.names []).lookup x=some c:=by
 have q:=PySem.W.cellsFrom_some sc.names n [] (.inl h)
 exact Option.isSome_iff_exists.mp q
theorem W0 {CX:E6} {P:Program} {w:World} {K:PySem.W.Frag} {mg:Str→Option Value} {base:Heap} {N ps:List Str} {qual:Str} {scope:Scope} {f:Addr} {cd:Value} {A:Around} {outer:List Env} {s s1:Shared} {H:Hp} {E:XK} {us:List Value} {vs:List V}
 (S:A5 N ps scope) (hd:A.handled=none) (e0:J1 P w K mg base A outer s H) (hl:vs.length=ps.length) (r:Vals vs us)
 (x:InCallC s s.heap.objs.size (bindL (envOfC qual scope s.heap.objs.size f cd).kindOf (ps.zip us) fun _=>none) (cellsFrom (s.heap.objs.size+1) scope.names []) (bindC (envOfC qual scope s.heap.objs.size f cd).kindOf (ps.zip us) fun _=>none) s1):
 Inv (AQ CX P w K mg base N qual scope f cd A outer s H E) [] (start N vs) H s1:=by
 have hpl:ps.length≤N.length:=by have:=congrArg List.length S.pre;rw [List.length_take] at this;omega
 obtain ⟨h1,tk,rfl,hk⟩:=x.done
 have noA:∀b:Addr,b∉(AQ CX P w K mg base N qual scope f cd A outer s H E).ex:=fun b z=>absurd (show b∈([]:List Addr) from z) (by simp)
 refine ⟨⟨e0.mod,S.kind,rfl,rfl,AK _,fun y z c h1 h2=>?_,fun y hy=>?_,fun y c _ h=>?_,fun _=>hd,Around.frames_deeper e0.frames,.inr ⟨rfl,rfl⟩,fun b z=>absurd z (noA b),e0.bs,e0.bsz,fun b _ _=>noA b,fun b z=>absurd z (noA b),e0.funs,e0.frf⟩,
  rfl,e0.bare,Un.kept hk,⟨_,x.toInCall.ns,fun i y v h1 h2 h3=>?_⟩,fun y c h=>⟨_,x.cell y c h⟩,e0.hok.fresh (AK _),fun y c h=>?_,fun p hp=>absurd (show p∈([]:List (Addr×Obj)) from hp) (by simp),e0.hok.kept hk,?_⟩
 ·exact name_of_addr x.apart (PySem.mem_of_lookup h1) (PySem.mem_of_lookup h2)
 ·have hy:scope.names.lookup y=some .cell∨scope.names.lookup y=some .free:=hy
  rcases hy with hy |hy
  ·exact Q1 hy
  ·exact absurd rfl (S.nofree _ (PySem.mem_of_lookup hy))
 ·exact Nat.le_of_lt (x.above y c (PySem.mem_of_lookup h))
 ·have hi:i<vs.length:=by
   unfold start at h2
   by_cases hi:i<vs.length
   ·exact hi
   ·rw [Lk (by simpa using hi)] at h2
    rw [List.getElem?_replicate] at h2
    split at h2<;>cases h2
  have ha:vs[i]?=some v:=by
   unfold start at h2
   rw [Hg (by simpa using hi),DG] at h2
   cases e:vs[i]? with
   |none=>rw [e] at h2;cases h2
   |some a=>rw [e] at h2;cases h2;rfl
  obtain ⟨u,hu,rv⟩:=r.get ha
  have hp:ps[i]?=some y:=by
   rw [←S.pre,List.getElem?_take_of_lt (by omega)];exact h1
  have ndP:ps.Nodup:=by rw [←S.pre];exact S.nd.sublist (List.take_sublist _ _)
  refine ⟨u,rv,?_⟩
  rcases S.par y (Jd hp) with k |k
  ·exact .inl ⟨k,QZ ndP hp hu k⟩
  ·obtain ⟨c,e⟩:=Q1 (n:=s.heap.objs.size+1) k
   refine .inr ⟨.inl k,c,e,?_⟩
   have q:=x.cell y c e
   rw [Q0 ndP hp hu (by show scope.names.lookup y≠_;rw [k];decide)] at q
   exact q
 ·exact e0.hok.fresh (Nat.le_of_lt (x.above y c (PySem.mem_of_lookup h)))
 ·unfold start
  show _=N.length
  rw [D5,Cb,List.length_replicate]
  omega
theorem W1 {CX:E6} {P:Program} {w:World} {K:PySem.W.Frag} {mg:Str→Option Value} {base:Heap} {k:Nat} {f:Addr} {name qual:Str} {params:Arguments} {body:List Stmt} {scope:Scope} {dV kV doc pm cdv ct oc:Value} {an od:Option Addr}
 {osl:Array (Option Value)} {N ps:List Str} {sp:Sp} (lk:K.lookup f=some ⟨oc,od,.func (PySem.W.fnOf name qual params body scope dV kV doc pm an cdv ct),osl⟩) (hcd:PySem.W.codeIn K cdv qual=true) (S:A5 N ps scope)
 (len:∀vs H Q E,sp vs H Q E→vs.length=ps.length)
 (hbody:∀(A:Around) (outer:List Env) (s:Shared) (H:Hp) (vs:List V) (Q:VK) (E:XK),Room k (A.deeper (envOfC qual scope s.heap.objs.size f cdv))→sp vs H Q E→
  ∃t,Eu (AQ CX P w K mg base N qual scope f cdv A outer s H E) body t∧t {nx:=fun _ H'=>Q .non H',rt:=Q} (start N vs) H):
 FnOk P w K mg base CX (k+1) f (PySem.W.fnOf name qual params body scope dV kV doc pm an cdv ct) ps sp:=by
 refine ⟨len,fun A outer s H args us vs Q E hr e0 hb r hsp=>?_⟩
 have hl:=len _ _ _ _ hsp
 have KX:K.In s.heap:=e0.mod.kin.keeps fun b o e=>(e0.bs b o e).1
 have lim:s.heap.NoLimit:=e0.mod.nolimit.keeps fun b o e=>(e0.bs b o e).1
 have hkind:∀y∈ps.zip us,scope.names.lookup y.1=some .local∨(scope.names.lookup y.1=some .cell∧((cellsFrom (s.heap.objs.size+1) scope.names []).lookup y.1).isSome=true):=fun z81_ hy=>by
  obtain ⟨n,v⟩:=z81_
  rcases S.par n (Ly hy).1 with q |q
  ·exact .inl q
  ·exact .inr ⟨q,PySem.W.cellsFrom_some _ _ _ (.inl q)⟩
 refine codeAny_call_function hr.depth (KX _ _ lk) rfl S.co S.gen rfl (PySem.W.codeRec_of KX hcd) (hb _ _ _ _ ?_)
 refine wpAny_newFunctionEnv_cells S.kind hkind fun env he s1 x=>?_
 subst he
 refine ⟨lim.keeps x.toInCall.keep,codeAny_func ?_⟩
 obtain ⟨t,ht,hq⟩:=hbody A outer s H vs Q E (hr.deeper _) hsp
 have I:Inv (AQ CX P w K mg base N qual scope f cdv A outer s H E) [] (start N vs) H s1:=W0 S hr.hd e0 hl r x
 refine wpAny_mono (ht [] s1 (start N vs) H _ I hq) (fun fl s' hs=>?_) fun e s' hs=>hs
 have fin:∀{σ':St} {H':Hp} {v:V} {u:Value},Inv (AQ CX P w K mg base N qual scope f cdv A outer s H E) [] σ' H' s'→RelV v u→Q v H'→CE outer P w H s Q u s':=
  fun {σ' H' v u} J rv q=>⟨v,H',J.os,J.bare,J.base,J.hok,rv,q⟩
 cases fl with
 |ret u=>
  obtain ⟨v,σ',H',J,rv,q⟩:=hs
  exact fin J rv q
 |next=>
  obtain ⟨σ',H',J,q⟩:=hs
  exact fin (v:=V.non) (u:=Value.none) J rfl q
 |brk=>
  obtain ⟨_,_,_,q⟩:=hs
  exact False.elim q
 |cont=>
  obtain ⟨_,_,_,q⟩:=hs
  exact False.elim q
section
variable {X:Cx} {x:Str} {p pos:Pos} {e:Expr} {es:List Expr} {t:TA} {id T:String} {r:List V→Hp→VK→Prop}
def Q2 (r:List V→Hp→VK→Prop) (t:TA):TE:=fun σ H Q=>t σ H fun vs H1=>r vs H1 Q
theorem W2 (hc:DS X (.builtin id) r) (hg:Gl X x) (hm:X.mg x=none) (hv:bootBuiltins x=some (.builtin id)) (ha:PA X (e::es) t) (hn:x≠"__name__":=by decide) (hdb:(x==("__debug__":Str))=false:=by decide)
 (he:starEach (e::es) X.env=(false,eval e X.env)::starEach es X.env:=by rfl) (hpl:(backTo pos (starEach es X.env)).any (·.1)=false:=by rfl):PE X (.Call (.Name x p) (e::es) [] pos) (Q2 r t):=by
 intro pins s σ H Q I h
 refine wpAny_Call_Name_kw (GK I hg hm hv ?_ hn hdb)
 exact PyProof.Rows.callWith_builtin1 (AA (ha pos pins s σ H _ I h) fun us s1 z82_=>by obtain ⟨vs,H1,I1,r1,q1⟩:=z82_;exact (hc pins s1 σ H1 vs us Q I1 r1 q1)) he hpl
theorem W3 (hc:DS X (.type T) r) (hg:Gl X x) (hm:X.mg x=none) (hv:bootBuiltins x=some (.type T)) (ha:PA X (e::es) t) (hn:x≠"__name__":=by decide) (hdb:(x==("__debug__":Str))=false:=by decide)
 (he:starEach (e::es) X.env=(false,eval e X.env)::starEach es X.env:=by rfl) (hpl:(backTo pos (starEach es X.env)).any (·.1)=false:=by rfl):PE X (.Call (.Name x p) (e::es) [] pos) (Q2 r t):=by
 intro pins s σ H Q I h
 refine wpAny_Call_Name_kw (GK I hg hm hv ?_ hn hdb)
 exact PyProof.Rows.callWith_type1 (AA (ha pos pins s σ H _ I h) fun us s1 z83_=>by obtain ⟨vs,H1,I1,r1,q1⟩:=z83_;exact (hc pins s1 σ H1 vs us Q I1 r1 q1)) he hpl
end
end L2
namespace HT
open PySem PyProof.Rows
def lexLt:List Int→List Int→Bool
 |[],[]=>false
 |[],_::_=>true
 |_::_,[]=>false
 |x::xs,y::ys=>if x=y then lexLt xs ys else decide (x<y)
theorem lexLt_cons (x y:Int) (xs ys:List Int):lexLt (x::xs) (y::ys)=if x=y then lexLt xs ys else decide (x<y):=rfl
theorem W4:lexLt [] []=false:=rfl
theorem W5 (y:Int) (ys:List Int):lexLt [] (y::ys)=true:=rfl
theorem W6 (x:Int) (xs:List Int):lexLt (x::xs) []=false:=rfl
theorem W7 (A:Around) (s:Shared) (a:Int) (t:Tok) (c:Int) (u:Tok):∃e,SeqAt.EqAt A s (.int a t) (.int c u) e∧(e=true↔a=c):=
 ⟨(a==c),SeqAt.EqAt.int_int a t c u,by simp⟩
theorem W8 (A:Around) (s:Shared) (a:Int) (t:Tok) (c:Int) (u:Tok) (prog:Program) (w:World) (E:Value→Shared→Prop) (Q:Value→Shared→Prop) (h:Q (.bool (decide (a<c))) s):
 wpAny (model prog w) A (richCompare .Lt (.int a t) (.int c u)) Q E s:=
 (PyProof.Rows.lt_int h:wpAny (model prog w) A (compareOp .Lt (.int a t) (.int c u)) Q E s)
section
open PySem.SeqAt
open PySem.AutoSeq1 (wpAny_loadPart')
open PySem.MeetsSeq PySem.MeetsSeq2 PySem.MeetsSeq3
theorem W9 (l b:Addr) (items items2:Array Value) (n n2:Nat) (dd dd2:Option Addr) (sl sl2:Array (Option Value)) (ns ms:List Int) (hi:IntsAre items.toList ns) (hj:IntsAre items2.toList ms):
 Meets (Builtin.«tuple.__lt__» ⟨[.ref l,.ref b],[]⟩)
  (fun _ R s=>s.heap.get? l=some {cls:=.type "tuple",dict:=dd,data:=.seq items n,slots:=sl}∧s.heap.get? b=some {cls:=.type "tuple",dict:=dd2,data:=.seq items2 n2,slots:=sl2}∧
   R (.ok (.ret (.bool (lexLt ns ms)))) s):=
 .of_wp fun prog w A R s h=>by
  obtain ⟨hp,g,d,tk,os⟩:=s;obtain ⟨hl,hb,h⟩:=h
  have f2:=AutoSeq1.sub_tuple_tuple
  have z1:items.size=ns.length:=by rw [←hi.length];simp
  have z2:items2.size=ms.length:=by rw [←hj.length];simp
  wp_walk using wpAny_loadPart' hl,wpAny_loadPart' hb,wpAny_forIn_list _ (fun rest b s'=>b.1=none∧s'=⟨hp,g,d,tk,os⟩∧∃(vs ws:List Value) (ns' ms':List Int),rest=vs.zip ws∧
   IntsAre vs ns'∧IntsAre ws ms'∧ns'.length+items2.size=ms'.length+items.size∧R (.ok (.ret (.bool (lexLt ns' ms')))) ⟨hp,g,d,tk,os⟩) _
  case turn=>
   rintro ⟨y,x⟩ rest b s' ⟨hb',rfl,vs,ws,ns',ms',hz,hvi,hwi,hlen,hR⟩
   cases hvi with
   |nil=>rw [List.zip_nil_left] at hz;cases hz
   |cons a t hvi'=>
    cases hwi with
    |nil=>rw [List.zip_nil_right] at hz;cases hz
    |cons c u hwi'=>
     rw [Lq] at hz
     injection hz with hyx hrest
     injection hyx with hy hx
     subst hy hx
     rw [lexLt_cons] at hR
     simp only [FA] at hlen
     obtain ⟨e,he,hiff⟩:=W7 A.in1 ⟨hp,g,d,tk,os⟩ a t c u
     refine wpAny_bind (he prog w _ _ ?_)
     cases e with
     |true=>
      rw [if_pos (hiff.mp rfl)] at hR
      wp_walk
      exact ⟨rfl,rfl,_,_,_,_,hrest,hvi',hwi',by omega,hR⟩
     |false=>
      rw [if_neg (fun q=>absurd (hiff.mpr q) BF)] at hR
      have hri:=W8 A.in1 ⟨hp,g,d,tk,os⟩ a t c u prog w
      wp_walk using hri
      exact ⟨_,rfl,by simpa using hR⟩
  case fin=>
   rintro ⟨b1,b2⟩ s' ⟨hb',rfl,vs,ws,ns',ms',hz,hvi,hwi,hlen,hR⟩
   simp only at hb'
   subst hb'
   have hv:lexLt ns' ms'=decide (items.size<items2.size):=by
    cases hvi with
    |nil=>
     cases hwi with
     |nil=>
      simp only [Gh] at hlen
      rw [W4]
      exact (decide_eq_false (by omega)).symm
     |cons c u hw=>
      simp only [Gh,FA] at hlen
      rw [W5]
      exact (decide_eq_true (by omega)).symm
    |cons a t hv=>
     cases hwi with
     |nil=>
      simp only [Gh,FA] at hlen
      rw [W6]
      exact (decide_eq_false (by omega)).symm
     |cons c u hw=>
      rw [Lq] at hz
      cases hz
   rw [hv] at hR
   wp_walk
   exact ⟨_,rfl,by simpa [Builtin.Tuple.tupleCompareSizes] using hR⟩
  case h=>
   exact ⟨rfl,rfl,items.toList,items2.toList,ns,ms,rfl,hi,hj,by omega,h⟩
end
section
variable {prog:Program} {w:World} {A:Around} {E:Value→Shared→Prop} {s:Shared}
theorem lt_tupInts {l b:Addr} {items items2:Array Value} {ns ms:List Int} {Q:Value→Shared→Prop} (hl:IsTup s.heap l items) (hb:IsTup s.heap b items2) (hi:IntsAre items.toList ns) (hj:IntsAre items2.toList ms)
 (hu:A.units<cLine) (h:Q (.bool (lexLt ns ms)) s):wpAny (model prog w) A (compareOp .Lt (.ref l) (.ref b)) Q E s:=by
 obtain ⟨⟨cls,dd,data,sl⟩,ho,hc,n,hd⟩:=id hl
 obtain ⟨⟨cls2,dd2,data2,sl2⟩,ho2,hc2,n2,hd2⟩:=id hb
 simp only at hc hd hc2 hd2
 subst hc hd hc2 hd2
 exact richCompare_meets_room (op:=.Lt) ⟨_,ho,rfl⟩ ⟨_,ho2,rfl⟩ PySem.F.slot_tuple_lt PySem.F.entry_tuple_lt (PySem.F.args_tuple_lt_2 _ _) (W9 l b items items2 n n2 dd dd2 sl sl2 ns ms hi hj)
  ⟨ho,ho2,show Value.bool (lexLt ns ms)≠Value.notImplemented∧Q (.bool (lexLt ns ms)) s from ⟨(fun x=>nomatch x),h⟩⟩ hu
theorem cat_tup {t b:Addr} {vs ws:List Value} {Q:Value→Shared→Prop} (ht:IsTup s.heap t vs.toArray) (hb:IsTup s.heap b ws.toArray) (hv:vs≠[])
 (h1:ws=[]→Q (.ref t) s) (h2:ws≠[]→Q (.ref s.heap.objs.size) {s with heap:=s.heap.push {cls:=.type "tuple",data:=.seq (vs++ws).toArray}})
 (hsz:vs.length+ws.length≤sizeLine):wpAny (model prog w) A (binaryOp .Add (.ref t) (.ref b)) Q E s:=by
 obtain ⟨⟨cls,dd,data,sl⟩,ho,hc,n,hd⟩:=id ht
 obtain ⟨⟨cls2,dd2,data2,sl2⟩,ho2,hc2,n2,hd2⟩:=id hb
 simp only at hc hd hc2 hd2
 subst hc hd hc2 hd2
 have e:vs.toArray++ws.toArray=(vs++ws).toArray:=by simp
 by_cases hw:ws=[]
 ·exact concat_meets ⟨_,ho,rfl⟩ ⟨_,ho2,rfl⟩ noFill_tuple_add seq_tuple_add PySem.F.slot_tuple_add PySem.F.entry_tuple_add (PySem.F.args_tuple_add_2 _ _)
   (tuple_addW1 t b vs.toArray ws.toArray n n2 dd dd2 sl sl2 (by simpa using hv) (by simp [hw])) ⟨ho,ho2,h1 hw⟩
 ·refine concat_meets ⟨_,ho,rfl⟩ ⟨_,ho2,rfl⟩ noFill_tuple_add seq_tuple_add PySem.F.slot_tuple_add PySem.F.entry_tuple_add (PySem.F.args_tuple_add_2 _ _)
   (tuple_addW2 t b vs.toArray ws.toArray n n2 dd dd2 sl sl2 (by simpa using hv) (by simpa using hw) (by rw [Bc,Bc];exact hsz)) ⟨ho,ho2,?_⟩
  rw [e]
  exact h2 hw
def sIx (n d:Nat):Option Int→Nat
 |none=>d
 |some v=>if v<0 then (v+(n:Int)).toNat else min v.toNat n
theorem sIx_none (n d:Nat):sIx n d none=d:=rfl
theorem sIx_nat (n d k:Nat):sIx n d (some (k:Int))=min k n:=by
 show (if (k:Int)<0 then ((k:Int)+(n:Int)).toNat else min (k:Int).toNat n)=min k n
 rw [if_neg (by omega),JR]
theorem Xa (n d:Nat) (hd:d≤n) (o:Option Int):sIx n d o≤n:=by
 cases o with
 |none=>exact hd
 |some v=>
  show (if v<0 then (v+(n:Int)).toNat else min v.toNat n)≤n
  by_cases hv:v<0
  ·rw [if_pos hv];omega
  ·rw [if_neg hv];exact Nat.min_le_right _ _
theorem Q3 (v:Int) (n d:Nat):(if v<0 then max (v+(n:Int)) 0 else min v (n:Int))=((sIx n d (some v):Nat):Int):=by
 show (if v<0 then max (v+(n:Int)) 0 else min v (n:Int))=(((if v<0 then (v+(n:Int)).toNat else min v.toNat n):Nat):Int)
 by_cases hv:v<0
 ·simp only [if_pos hv];omega
 ·simp only [if_neg hv];omega
theorem Xb (lo hi:Option Int) (n:Nat):Builtin.Slice.sliceAdjust lo hi 1 (n:Int)=(((sIx n 0 lo:Nat):Int),((sIx n n hi:Nat):Int)):=by
 have h1:¬((1:Int)<0):=by omega
 unfold Builtin.Slice.sliceAdjust
 simp only [h1,if_false]
 refine Prod.ext ?_ ?_
 ·cases lo with
  |none=>rfl
  |some v=>exact Q3 v n 0
 ·cases hi with
  |none=>rfl
  |some v=>exact Q3 v n n
theorem Xd (i j:Nat):Builtin.Slice.slicePlaces (i:Int) (j:Int) 1=j - i:=by
 unfold Builtin.Slice.slicePlaces
 have h1:(1:Int)>0:=by omega
 simp only [h1,if_true,Int.ediv_one]
 split<;>omega
theorem Q4 {v:Value} {o:Option Int} {Q:Option Int→Shared→Prop} (p:IsPart v o) (h:Q o s):wpAny (model prog w) A (Builtin.Slice.slicePartIndex v) Q E s:=by
 cases p with
 |none=>exact slicePart_none h
 |int i t=>exact slicePart_int h
theorem sliceApplied_gen {sl:Addr} {vl vu:Value} {lo hi:Option Int} {n:Nat} {Q:Int×Int×Nat→Shared→Prop} (hs:s.heap.IsSliceOf sl vl vu .none) (pl:IsPart vl lo) (pu:IsPart vu hi)
 (h:Q (((sIx n 0 lo:Nat):Int),1,sIx n n hi - sIx n 0 lo) s):wpAny (model prog w) A (Builtin.Slice.sliceApplied (.ref sl) (pure (n:Int))) Q E s:=by
 obtain ⟨os,hos,hcs,hds⟩:=id hs
 unfold Builtin.Slice.sliceApplied Builtin.Slice.sliceFields
 refine wpAny_bind (wpAny_bind (wpAny_field hos hds (x:=vl) rfl (wpAny_bind (wpAny_field hos hds (x:=vu) rfl (wpAny_bind (wpAny_field hos hds (x:=.none) rfl (wpAny_pure ?_)))))))
 refine wpAny_bind (slicePart_none ?_)
 show wpAny _ _ (if ((1:Int)==0)=true then _ else _) _ _ s
 rw [if_neg (by decide)]
 refine wpAny_bind (Q4 pl (wpAny_bind (Q4 pu (wpAny_bind (wpAny_pure ?_)))))
 show wpAny _ _ (match Builtin.Slice.sliceAdjust lo hi 1 (n:Int) with |(lo,hi)=>pure (lo,(1:Int),Builtin.Slice.slicePlaces lo hi 1)) _ _ s
 rw [Xb lo hi n]
 show wpAny _ _ (pure (((sIx n 0 lo:Nat):Int),(1:Int),Builtin.Slice.slicePlaces ((sIx n 0 lo:Nat):Int) ((sIx n n hi:Nat):Int) 1)) _ _ s
 rw [Xd]
 exact wpAny_pure h
theorem Xe (xs:Array Value) (i k:Nat):((List.range k).filterMap fun (m:Nat)=>xs[((i:Int)+(m:Int)*1).toNat]?).toArray=((xs.toList.drop i).take k).toArray:=by
 have e:(fun (m:Nat)=>xs[((i:Int)+(m:Int)*1).toNat]?)=fun m=>xs[i+m]?:=by
  funext m
  have:((i:Int)+(m:Int)*1).toNat=i+m:=by omega
  rw [this]
 rw [e]
 have:=pick_run xs i k
 rw [List.filterMap_map] at this
 have e2:((fun x=>xs[x]?)∘fun x=>i+x)=fun m=>xs[i+m]?:=rfl
 rw [e2] at this
 rw [this]
theorem getItem_tuple_cut {t sl:Addr} {items:Array Value} {vl vu:Value} {lo hi:Option Int} {Q:Value→Shared→Prop} (ht:IsTup s.heap t items) (hs:s.heap.IsSliceOf sl vl vu .none) (pl:IsPart vl lo) (pu:IsPart vu hi)
 (hw:¬(sIx items.size 0 lo=0∧sIx items.size items.size hi=items.size))
 (h:Q (.ref s.heap.objs.size) {s with heap:=s.heap.push {cls:=.type "tuple",data:=.seq ((items.toList.drop (sIx items.size 0 lo)).take (sIx items.size items.size hi - sIx items.size 0 lo)).toArray}})
 (hsz:items.size≤sizeLine):wpAny (model prog w) A (getItem (.ref t) (.ref sl)) Q E s:=by
 have htake:sizeOk (.seq ((items.toList.drop (sIx items.size 0 lo)).take (sIx items.size items.size hi - sIx items.size 0 lo)).toArray):=by
  show ((items.toList.drop (sIx items.size 0 lo)).take (sIx items.size items.size hi - sIx items.size 0 lo)).toArray.size≤sizeLine
  rw [Bc,List.length_take,List.length_drop,Array.length_toList]
  omega
 have hj:sIx items.size items.size hi≤items.size:=Xa _ _ (AK _) hi
 obtain ⟨os,hos,hcs,hds⟩:=id hs
 have hTs:s.TypeIs (.ref sl) "slice":=⟨os,hos,hcs⟩
 unfold getItem
 try with_reducible refine wpAny_holding ?_
 first |refine wpAny_bind (wpAny_pure ?_) |skip
 refine wpAny_bind (wpAny_sequenceKey ht.typeIs (by decide) ?_)
 refine wpAny_bind (wpAny_callSpecial?_slot (name:=Str.ofString "__getitem__") ht.typeIs PyProof.Rows.slot_tuple_getitem
  (wpAny_call_entry PyProof.Rows.slot_tuple_getitem ht.typeIs entry_tuple_getitem ?_ (args_tuple_getitem _ _)))
 show wpAny _ _ (Builtin.Tuple.tupleItemsOf (.ref t) >>=_) _ _ s
 refine wpAny_bind (tupleItemsOf_ ht ?_)
 refine wpAny_bind (wpAny_typeOf hTs ?_)
 rw [if_pos (by decide)]
 refine wpAny_bind (sliceApplied_gen hs pl pu ?_)
 have hno:¬((((sIx items.size 0 lo:Nat):Int)==0&&(1:Int)==1&&(sIx items.size items.size hi - sIx items.size 0 lo)==items.size)=true):=by
  intro q
  rw [CP,CP] at q
  have q1:((sIx items.size 0 lo:Nat):Int)=0:=eq_of_beq q.1.1
  have q2:sIx items.size items.size hi - sIx items.size 0 lo=items.size:=eq_of_beq q.2
  exact hw ⟨by omega,by omega⟩
 show wpAny _ _ (if (((sIx items.size 0 lo:Nat):Int)==0&&(1:Int)==1&&(sIx items.size items.size hi - sIx items.size 0 lo)==items.size)=true then _ else _) _ _ s
 rw [if_neg hno,Xe]
 first
  |exact wpAny_bind (m:=Builtin.Tuple.tupleExact _) (wpAny_newObj_type (wpAny_pure ⟨_,rfl,wpAny_pure h⟩) htake)
  |exact wpAny_bind (m:=Builtin.Tuple.tupleExact _) (wpAny_newObj_type (wpAny_bind (wpAny_pure (wpAny_pure ⟨_,rfl,wpAny_pure h⟩))) htake)
  |exact wpAny_bind (wpAny_bind (m:=Builtin.Tuple.tupleExact _) (wpAny_newObj_type (wpAny_pure (wpAny_pure ⟨_,rfl,wpAny_pure h⟩)) htake))
  |exact wpAny_bind (wpAny_bind (m:=Builtin.Tuple.tupleExact _) (wpAny_newObj_type (wpAny_pure ⟨_,rfl,wpAny_pure h⟩) htake))
end
end HT
namespace L2
open PySem PySem.Spec PyProof.Rows
abbrev TO:=St→Hp→(Option Int→Hp→Prop)→Prop
def PO (X:Cx) (e:Option Expr) (t:TO):Prop:=
 ∀(pins:List (Addr×Obj)) (s:Shared) (σ:St) (H:Hp) (Q:Option Int→Hp→Prop),Inv X pins σ H s→t σ H Q→
  wpAny (model X.prog X.w) X.A (evalPart e X.env) (fun u s'=>∃o H',Inv X pins σ H' s'∧IsPart u o∧Q o H') X.xe s
def Xf:TO:=fun _ H Q=>Q none H
def Xg (t:TE):TO:=fun σ H Q=>t σ H fun x H1=>∃i,x=.int i∧Q (some i) H1
theorem Q5 {ns:List Int}:∀{us:List Value},Vals (ns.map V.int) us→IntsAre us ns:=by
 induction ns with
 |nil=>intro us r;rw [Hq] at r;cases r;exact .nil
 |cons n ns ih=>
  intro us r
  rw [Br] at r
  cases r with
  |cons r1 r2=>
   obtain ⟨t,e⟩:=r1
   subst e
   exact .cons n t (ih r2)
section
variable {X:Cx} {e:Expr} {te:TE} {lo hi:Option Expr} {tl th:TO} {pos p2:Pos}
theorem Xh:PO X none Xf:=by
 intro pins s σ H Q I h
 rw [evalPart_none]
 exact wpAny_pure ⟨none,H,I,.none,h⟩
theorem Xi (h:PE X e te):PO X (some e) (Xg te):=by
 intro pins s σ H Q I hw
 rw [evalPart_some]
 refine AA (h pins s σ H _ I hw) fun u s1 z84_=>?_
 obtain ⟨x,H1,I1,r1,q1⟩:=z84_
 obtain ⟨i,rfl,q⟩:=q1
 obtain ⟨t,rfl⟩:=r1
 exact ⟨some i,H1,I1,.int i t,q⟩
def SlR (X:Cx) (r:V→Option Int→Option Int→Hp→VK→Prop):Prop:=
 ∀(pins:List (Addr×Obj)) (s:Shared) (σ:St) (H:Hp) (x:V) (v vl vu:Value) (lo hi:Option Int) (sl:Addr) (Q:VK),Inv X pins σ H s→RelV x v→s.heap.IsSliceOf sl vl vu .none→IsPart vl lo→IsPart vu hi→r x lo hi H Q→
  ∃T id,typeLookup (.type T) "__getitem__"=pure (some (.builtin id))∧s.TypeIs v T∧wpAny (model X.prog X.w) X.A (getItem v (.ref sl)) (EP X pins σ Q) X.xe s
theorem SlR.or {r r':V→Option Int→Option Int→Hp→VK→Prop} (h:SlR X r) (h':SlR X r'):SlR X (fun x lo hi H Q=>r x lo hi H Q∨r' x lo hi H Q):=by
 intro pins s σ H x v vl vu lo hi sl Q I rx hs pl pu q
 rcases q with q |q
 ·exact h pins s σ H x v vl vu lo hi sl Q I rx hs pl pu q
 ·exact h' pins s σ H x v vl vu lo hi sl Q I rx hs pl pu q
def Xj (r:V→Option Int→Option Int→Hp→VK→Prop) (te:TE) (tl th:TO):TE:=fun σ H Q=>te σ H fun x H1=>tl σ H1 fun l H2=>th σ H2 fun u H3=>r x l u H3 Q
theorem Xk {r:V→Option Int→Option Int→Hp→VK→Prop} (hr:SlR X r) (he:PE X e te) (hl:PO X lo tl) (hu:PO X hi th):PE X (.Subscript e (.Slice lo hi none p2) pos) (Xj r te tl th):=by
 intro pins s σ H Q I h
 refine Subscript_ (AA (he pins s σ H _ I h) fun v s1 z85_=>?_)
 obtain ⟨x,H1,I1,r1,q1⟩:=z85_
 refine wpAny_Slice (AA (hl pins s1 σ H1 _ I1 q1) ?_)
 rintro vl s2 ⟨l,H2,I2,pl,q2⟩
 refine AA (hu pins s2 σ H2 _ I2 q2) fun vu s3 z87_=>?_
 obtain ⟨u,H3,I3,pu,q3⟩:=z87_
 rw [evalPart_none]
 refine wpAny_pure ?_
 have I4:Inv X pins σ H3 {s3 with heap:=s3.heap.push {cls:=.type "slice",data:=.fields #[vl,vu,.none]}}:=I3.kept (t':=s3.toks) fun b ob q=>AY _ q
 obtain ⟨T,id,hT,ht,hg⟩:=hr pins {s3 with heap:=s3.heap.push {cls:=.type "slice",data:=.fields #[vl,vu,.none]}} σ H3 x v vl vu l u s3.heap.objs.size Q I4 r1 (Heap.IsSliceOf.new ..) pl pu q3
 show wpAny (model X.prog X.w) X.A (subscriptTail e (.Slice lo hi none p2) v (.ref s3.heap.objs.size)) (EP X pins σ Q) X.xe {s3 with heap:=s3.heap.push {cls:=.type "slice",data:=.fields #[vl,vu,.none]}}
 exact tail_any (ops:=[.ref s3.heap.objs.size,v]) ht hT hg (by with_unfolding_all rfl)
def Jm (xs:List V) (lo hi:Option Int):List V:=(xs.drop (HT.sIx xs.length 0 lo)).take (HT.sIx xs.length xs.length hi - HT.sIx xs.length 0 lo)
theorem Xl (xs:List V) (lo hi:Option Int):(Jm xs lo hi).length≤xs.length:=by
 unfold Jm
 rw [List.length_take,List.length_drop]
 omega
def Xm (K:PySem.W.Frag):V→Option Int→Option Int→Hp→VK→Prop:=fun x lo hi H Q=>∃a xs,x=.ref a∧SqT K H a xs∧
 ¬(HT.sIx xs.length 0 lo=0∧HT.sIx xs.length xs.length hi=xs.length)∧∀p,H p=none→Q (.ref p) (Az H p (.tup (Jm xs lo hi)))
theorem Xn:SlR X (Xm X.K):=by
 intro pins s σ H x v vl vu lo hi sl Q I rx hs pl pu h
 obtain ⟨a,xs,rfl,hx,hw,q⟩:=h
 cases rx
 obtain ⟨its,r,ht,hz⟩:=I.tuple hx
 have hlen:its.toArray.size=xs.length:=by rw [Bc];exact r.length.symm
 refine ⟨"tuple",_,PyProof.Rows.slot_tuple_getitem.lookup,ht.typeIs,?_⟩
 refine HT.getItem_tuple_cut ht hs pl pu (by rw [hlen];exact hw) ?_ (by rw [hlen];exact hz)
 rw [hlen]
 refine ⟨.ref s.heap.objs.size,_,I.laid (t':=s.toks) (o:=.tup (Jm xs lo hi)) (fun b ob q=>AY _ q) (AK _) ?_,rfl,q _ (I.hok.fresh (AK _))⟩
 exact ⟨B8 (Xl xs lo hi) hz,_,(r.drop (HT.sIx xs.length 0 lo)).take (HT.sIx xs.length xs.length hi - HT.sIx xs.length 0 lo),IsTup.new _ _,NoDict.new⟩
def Xo (K:PySem.W.Frag):R2:=fun x y H Q=>∃a b ns ms,x=.ref a∧y=.ref b∧SqT K H a (ns.map V.int)∧SqT K H b (ms.map V.int)∧Q (.bl (HT.lexLt ns ms)) H
theorem Xp (hu:X.A.units<cLine):OpR X (compareOp .Lt) (Xo X.K):=by
 intro pins s σ H x y v u Q I rx ry h
 obtain ⟨a,b,ns,ms,rfl,rfl,ha,hb,q⟩:=h
 cases rx
 cases ry
 obtain ⟨its,r1,p1,_⟩:=I.tuple ha
 obtain ⟨its2,r2,p2,_⟩:=I.tuple hb
 have i1:IntsAre its.toArray.toList ns:=Q5 r1
 have i2:IntsAre its2.toArray.toList ms:=Q5 r2
 exact HT.lt_tupInts p1 p2 i1 i2 hu ⟨.bl (HT.lexLt ns ms),H,I,rfl,q⟩
def Xq (K:PySem.W.Frag):R2:=fun x y H Q=>∃a b xs ys,x=.ref a∧y=.ref b∧SqT K H a xs∧SqT K H b ys∧xs≠[]∧xs.length+ys.length≤sizeLine∧
 (ys=[]→Q (.ref a) H)∧(ys≠[]→∀p,H p=none→Q (.ref p) (Az H p (.tup (xs++ys))))
theorem Vals.nil_iff {xs:List V} {us:List Value} (r:Vals xs us):us=[]↔xs=[]:=by
 cases r with
 |nil=>simp
 |cons _ _=>simp
theorem op_catT:OpR X (binaryOp .Add) (Xq X.K):=by
 intro pins s σ H x y v u Q I rx ry h
 obtain ⟨a,b,xs,ys,rfl,rfl,ha,hb,hx,hz,q1,q2⟩:=h
 cases rx
 cases ry
 obtain ⟨its,r1,p1,_⟩:=I.tuple ha
 obtain ⟨its2,r2,p2,_⟩:=I.tuple hb
 refine HT.cat_tup p1 p2 (fun z=>hx (r1.nil_iff.mp z)) (fun z=>⟨.ref a,H,I,rfl,q1 (r2.nil_iff.mp z)⟩) (fun z=>?_) (by rw [←r1.length,←r2.length];exact hz)
 refine ⟨.ref s.heap.objs.size,_,I.laid (t':=s.toks) (o:=.tup (xs++ys)) (fun b ob q=>AY _ q) (AK _) ?_,rfl,q2 (fun w=>z (r2.nil_iff.mpr w)) _ (I.hok.fresh (AK _))⟩
 exact ⟨by rw [D5];exact hz,_,r1.append r2,IsTup.new _ _,NoDict.new⟩
end
def D7 (n:Nat) (i:Int):Option Nat:=if 0≤i then (if i<n then some i.toNat else none) else if -(n:Int)≤i then some (i+n).toNat else none
def Ds {α:Type} (xs:List α) (i:Int):Option α:=(D7 xs.length i).bind fun j=>xs[j]?
theorem Q6 {n:Nat} {i:Int} {j:Nat} (h:D7 n i=some j):seqIndex? i n=some j∧j<n∧-(n:Int)≤i∧i<n:=by
 unfold D7 at h
 by_cases h0:0≤i
 ·rw [if_pos h0] at h
  by_cases h1:i<n
  ·rw [if_pos h1] at h
   have e:i.toNat=j:=Option.some.inj h
   exact ⟨by rw [seqIndex_of h0 h1,e],by omega,by omega,h1⟩
  ·rw [if_neg h1] at h;cases h
 ·rw [if_neg h0] at h
  by_cases h1:-(n:Int)≤i
  ·rw [if_pos h1] at h
   have e:(i+n).toNat=j:=Option.some.inj h
   exact ⟨by rw [seqIndex_neg (by omega) h1,e],by omega,h1,by omega⟩
  ·rw [if_neg h1] at h;cases h
theorem Q7 {α:Type} {xs:List α} {i:Int} {v:α} (h:Ds xs i=some v):∃j,seqIndex? i xs.length=some j∧xs[j]?=some v∧j<xs.length∧-(xs.length:Int)≤i∧i<xs.length:=by
 unfold Ds at h
 cases e:D7 xs.length i with
 |none=>rw [e] at h;cases h
 |some j=>
  rw [e] at h
  obtain ⟨h1,h2,h3,h4⟩:=Q6 e
  exact ⟨j,h1,h,h2,h3,h4⟩
def NJ (b:Expr):Prop:=∀o i,subscripted b false o i=operate [o,i] (getItem o i)
def IxR (X:Cx) (r:R2):Prop:=
 ∀(value slice:Expr) (pins:List (Addr×Obj)) (s:Shared) (σ:St) (H:Hp) (x y:V) (v u:Value) (Q:VK),Inv X pins σ H s→RelV x v→RelV y u→r x y H Q→
  subscripted slice false v u=operate [v,u] (getItem v u)→wpAny (model X.prog X.w) X.A (subscriptTail value slice v u) (EP X pins σ Q) X.xe s
def LU (X:Cx) (id:String) (r:V→List V→Hp→VK→Prop):Prop:=
 ∀(pins:List (Addr×Obj)) (s:Shared) (σ:St) (H:Hp) (x:V) (xs:List V) (v:Value) (us:List Value) (Q:VK),Inv X pins σ H s→RelV x v→Vals xs us→r x xs H Q→
  wpAny (model X.prog X.w) X.A (call (.builtin id) (v::us)) (EP X pins σ Q) X.xe s
section
variable {X:Cx} {a b:Expr} {ta tb:TE} {pos:Pos}
theorem IxR.or {r r':R2} (h:IxR X r) (h':IxR X r'):IxR X (fun x y H Q=>r x y H Q∨r' x y H Q):=by
 intro value slice pins s σ H x y v u Q I rx ry q hs
 rcases q with q |q
 ·exact h value slice pins s σ H x y v u Q I rx ry q hs
 ·exact h' value slice pins s σ H x y v u Q I rx ry q hs
theorem Q8 {r:R2} (hr:IxR X r) (ha:PE X a ta) (hb:PE X b tb) (hs:NJ b):PE X (.Subscript a b pos) (LP r ta tb):=by
 intro pins s σ H Q I h
 exact Subscript_ (NC ha hb I h fun v u s2 x y H2 I2 rx ry q=>hr a b pins s2 σ H2 x y v u Q I2 rx ry q (hs _ _))
def Xr (K:PySem.W.Frag):R2:=fun x y H Q=>∃p xs i v,x=.ref p∧y=.int i∧SqL K H p xs∧Ds xs i=some v∧Q v H
def Xs (K:PySem.W.Frag):R2:=fun x y H Q=>∃p xs i v,x=.ref p∧y=.int i∧SqT K H p xs∧Ds xs i=some v∧Q v H
theorem ix_list:IxR X (Xr X.K):=by
 intro value slice pins s σ H x y v u Q I rx ry h hs
 obtain ⟨p,xs,i,z,rfl,rfl,hq,he,q⟩:=h
 cases rx
 obtain ⟨t,rfl⟩:=ry
 obtain ⟨its,r,pl,hz⟩:=I.list hq
 obtain ⟨j,h1,h2,h3,h4,h5⟩:=Q7 he
 obtain ⟨w,ew,rw'⟩:=r.get h2
 have hl:=r.length
 have hn:=J0
 have fin:EP X pins σ Q w s:=⟨z,H,I,rw',q⟩
 by_cases h0:0≤i
 ·have hj:i.toNat=j:=by
   rw [seqIndex_of h0 h5] at h1
   exact Option.some.inj h1
  exact item_listR pl.isList h0 (by omega) (by rw [hj];simpa using ew) fin hs
 ·have hj:(i+(its.toArray.size:Int)).toNat=j:=by
   rw [seqIndex_neg (by omega) h4] at h1
   rw [Bc,←hl]
   exact Option.some.inj h1
  exact subscriptTail_builtinR (x:=w) pl.isList.typeIs slot_list_getitem.lookup
   (wpAny_getItem_list_neg (Q:=fun r s'=>r=w∧EP X pins σ Q r s') pl.isList (by omega) (by rw [Bc]<;>omega) (by omega) (by rw [hj];simpa using ew) ⟨rfl,fin⟩) hs
theorem ix_tup:IxR X (Xs X.K):=by
 intro value slice pins s σ H x y v u Q I rx ry h hs
 obtain ⟨p,xs,i,z,rfl,rfl,hq,he,q⟩:=h
 cases rx
 obtain ⟨t,rfl⟩:=ry
 obtain ⟨its,r,pl,hz⟩:=I.tuple hq
 obtain ⟨j,h1,h2,h3,h4,h5⟩:=Q7 he
 obtain ⟨w,ew,rw'⟩:=r.get h2
 have hl:=r.length
 have hn:=J0
 have fin:EP X pins σ Q w s:=⟨z,H,I,rw',q⟩
 exact subscriptTail_builtinR (x:=w) pl.typeIs slot_tuple_getitem.lookup
  (getItem_tuple (j:=j) (Q:=fun r s'=>r=w∧EP X pins σ Q r s') pl (by omega) (by omega) (by rw [Bc,←hl];exact h1) (by simpa using ew) ⟨rfl,fin⟩) hs
theorem Xu (its:List Value) (n j:Nat) (u:Value):Obj.mapSeq (·.setIfInBounds j u) {cls:=.type "list",data:=.seq its.toArray n}={cls:=.type "list",data:=.seq (its.set j u).toArray n}:=by
 simp [Obj.mapSeq]
theorem Inv.lst {pins:List (Addr×Obj)} {σ:St} {H:Hp} {s:Shared} {p:Addr} {xs:List V} (I:Inv X pins σ H s) (h:H p=some (.lst xs)):
 ∃(its:List Value) (n:Nat),Vals xs its∧s.heap.get? p=some {cls:=.type "list",data:=.seq its.toArray n}∧xs.length≤sizeLine:=by
 obtain ⟨z,its,n,r,e⟩:=I.hok p _ h
 exact ⟨its,n,r,e,z⟩
theorem Inv.lstUpd {pins:List (Addr×Obj)} {σ:St} {H:Hp} {s:Shared} {p:Addr} {xs ys:List V} {its its':List Value} {n n':Nat} {f:Obj→Obj} (I:Inv X pins σ H s) (h:H p=some (.lst xs))
 (ho:s.heap.get? p=some {cls:=.type "list",data:=.seq its.toArray n}) (hf:f {cls:=.type "list",data:=.seq its.toArray n}={cls:=.type "list",data:=.seq its'.toArray n'}) (r:Vals ys its') (hz:ys.length≤sizeLine) (t:Nat):
 Inv X pins σ (Az H p (.lst ys)) {s with heap:=s.heap.update p f,toks:=t}:=by
 have e:(s.heap.update p f).get? p=some {cls:=.type "list",data:=.seq its'.toArray n'}:=by
  rw [Nq f ho (by rw [hf]<;>rfl),hf]
 refine I.write (x:=p) (e:=p) (by rw [h];trivial) (.inl rfl) (fun b u hb q=>(Nn _ _ (Ne.symm hb)).trans q) ⟨_,e⟩ ?_
 exact ⟨hz,its',n',r,e⟩
def Xv:V→V→V→Hp→(Hp→Prop)→Prop:=fun o i v H Q=>∃p xs k j,o=.ref p∧i=.int k∧H p=some (.lst xs)∧D7 xs.length k=some j∧Q (Az H p (.lst (xs.set j v)))
theorem Xw:LN X Xv:=by
 intro pins s σ H o i v ov iv u Q I ro ri rv h
 obtain ⟨p,xs,k,j,rfl,rfl,hp,hj,q⟩:=h
 cases ro
 obtain ⟨t,rfl⟩:=ri
 obtain ⟨its,n,r,ho,hz⟩:=I.lst hp
 obtain ⟨h1,h2,h3,h4⟩:=Q6 hj
 have hl:=r.length
 have hn:=J0
 have I':Inv X pins σ (Az H p (.lst (xs.set j v))) {s with heap:=s.heap.update p (Obj.mapSeq (·.setIfInBounds j u))}:=
  I.lstUpd hp ho (Xu its n j u) (r.set rv j) (by rw [List.length_set];exact hz) s.toks
 by_cases h0:0≤k
 ·have hk:k.toNat=j:=by
   rw [seqIndex_of h0 h4] at h1
   exact Option.some.inj h1
  exact PySem.W.ki_setAt ho h0 (by omega) (by rw [Bc,←hl];exact h4) (by rw [hk];exact ⟨_,I',q⟩)
 ·have hk:(k+(its.toArray.size:Int)).toNat=j:=by
   rw [seqIndex_neg (by omega) h3] at h1
   rw [Bc,←hl]
   exact Option.some.inj h1
  exact PySem.W.ki_setBack ho (by omega) (by rw [Bc,←hl];exact h3) (by omega) (by rw [hk];exact ⟨_,I',q⟩)
def E7:V→Bool
 |.non=>true
 |.bl _=>true
 |.int _=>true
 |.str _=>true
 |_=>false
def Ew:V→V→Bool
 |.non,.non=>true
 |.bl a,.bl b=>a==b
 |.bl a,.int b=>(if a then 1 else 0)==b
 |.int a,.bl b=>a==(if b then 1 else 0)
 |.int a,.int b=>a==b
 |.str a,.str b=>a==b
 |_,_=>false
theorem Xx {A:Around} {s:Shared} {y x:V} {u v:Value} (ry:RelV y u) (rx:RelV x v) (fy:E7 y=true) (fx:E7 x=true):SeqAt.EqAt A s u v (Ew y x):=by
 cases y with
 |non=>
  cases ry
  cases x with
  |non=>cases rx;exact SeqAt.EqAt.same _
  |bl b=>cases rx;exact SeqAt.EqAt.none_bool b
  |int b=>obtain ⟨t,rfl⟩:=rx;exact SeqAt.EqAt.none_int b t
  |str b=>obtain ⟨t,rfl⟩:=rx;exact SeqAt.EqAt.none_str b t
  |_=>exact absurd (show false=true from fx) BF
 |bl a=>
  cases ry
  cases x with
  |non=>cases rx;exact SeqAt.EqAt.bool_none a
  |bl b=>cases rx;exact SeqAt.EqAt.bool_bool a b
  |int b=>obtain ⟨t,rfl⟩:=rx;exact SeqAt.EqAt.bool_int a b t
  |str b=>obtain ⟨t,rfl⟩:=rx;exact SeqAt.EqAt.bool_str a b t
  |_=>exact absurd (show false=true from fx) BF
 |int a=>
  obtain ⟨t',rfl⟩:=ry
  cases x with
  |non=>cases rx;exact SeqAt.EqAt.int_none a t'
  |bl b=>cases rx;exact SeqAt.EqAt.int_bool a t' b
  |int b=>obtain ⟨t,rfl⟩:=rx;exact SeqAt.EqAt.int_int a t' b t
  |str b=>obtain ⟨t,rfl⟩:=rx;exact SeqAt.EqAt.int_str a t' b t
  |_=>exact absurd (show false=true from fx) BF
 |str a=>
  obtain ⟨t',rfl⟩:=ry
  cases x with
  |non=>cases rx;exact SeqAt.EqAt.str_none a t'
  |bl b=>cases rx;exact SeqAt.EqAt.str_bool a t' b
  |int b=>obtain ⟨t,rfl⟩:=rx;exact SeqAt.EqAt.str_int a t' b t
  |str b=>obtain ⟨t,rfl⟩:=rx;exact SeqAt.EqAt.str_str a t' b t
  |_=>exact absurd (show false=true from fx) BF
 |_=>exact absurd (show false=true from fy) BF
def Ey (x:V) (u:Value):Bool:=match u with
 |.none=>Ew .non x
 |.bool b=>Ew (.bl b) x
 |.int i _=>Ew (.int i) x
 |.str z _=>Ew (.str z) x
 |_=>false
theorem NK {x y:V} {u:Value} (r:RelV y u) (f:E7 y=true):Ey x u=Ew y x:=by
 cases y with
 |non=>cases r;rfl
 |bl b=>cases r;rfl
 |int i=>obtain ⟨t,rfl⟩:=r;rfl
 |str z=>obtain ⟨t,rfl⟩:=r;rfl
 |_=>exact absurd (show false=true from f) BF
theorem NM {x:V}:∀{xs:List V} {us:List Value},Vals xs us→xs.all E7=true→us.any (Ey x)=xs.any fun y=>Ew y x
 |_,_,.nil,_=>rfl
 |y::xs,u::us,.cons r t,f=>by
  rw [Ji,CP] at f
  rw [Jj,Jj,NK r f.1,NM t f.2]
theorem LV {A:Around} {s:Shared} {x:V} {v:Value} (rx:RelV x v) (fx:E7 x=true):∀{xs:List V} {us:List Value},Vals xs us→xs.all E7=true→∀u∈us,SeqAt.EqAt A s u v (Ey x u)
 |_,_,.nil,_=>fun u hu=>by cases hu
 |y::xs,u::us,.cons r t,f=>fun u' hu=>by
  rw [Ji,CP] at f
  rcases qa3.mp hu with rfl |hu
  ·rw [NK r f.1];exact Xx r rx f.1 fx
  ·exact LV rx fx t f.2 u' hu
def Jn (x:V) (xs:List V):Bool:=xs.any fun y=>Ew y x
def Q9 (K:PySem.W.Frag) (neg:Bool):R2:=fun x y H Q=>∃p xs,y=.ref p∧(SqL K H p xs∨SqT K H p xs)∧E7 x=true∧xs.all E7=true∧Q (.bl (if neg then !Jn x xs else Jn x xs)) H
theorem Xy:OpR X (compareOp .In) (Q9 X.K false):=by
 intro pins s σ H x y v u Q I rx ry h
 obtain ⟨p,xs,rfl,hq,fx,fs,q⟩:=h
 cases ry
 rcases hq with hq |hq
 ·obtain ⟨its,r,pl,hz⟩:=I.list hq
  refine SeqAt.in_listAt (Ey x) pl.isList (fun w hw=>LV rx fx r fs w (by simpa using hw)) ⟨.bl _,H,I,rfl,?_⟩
  rw [show its.toArray.any (Ey x)=its.any (Ey x) by simp,NM r fs]
  exact q
 ·obtain ⟨its,r,pl,hz⟩:=I.tuple hq
  refine SeqAt.in_tupleAt (Ey x) pl (fun w hw=>LV rx fx r fs w (by simpa using hw)) ⟨.bl _,H,I,rfl,?_⟩
  rw [show its.toArray.any (Ey x)=its.any (Ey x) by simp,NM r fs]
  exact q
theorem Xz:DS X (.builtin "len") (fun xs H Q=>∃p ys,xs=[.ref p]∧(SqL X.K H p ys∨SqT X.K H p ys)∧Q (.int ys.length) H):=by
 intro pins s σ H xs us Q I r h
 obtain ⟨p,ys,rfl,hq,q⟩:=h
 obtain ⟨u,rfl,rx⟩:=Gk r
 cases rx
 have hn:=J0
 rcases hq with hq |hq
 ·obtain ⟨its,r',pl,hz⟩:=I.list hq
  have hlen:=r'.length
  exact Calls.call_len_list pl.isList (by simp only [Bc]<;>omega) ⟨.int ys.length,H,I.tok _,⟨s.toks+1,by rw [Bc,hlen]⟩,q⟩
 ·obtain ⟨its,r',pl,hz⟩:=I.tuple hq
  have hlen:=r'.length
  exact len_tuple pl (by simp only [Bc]<;>omega) ⟨.int ys.length,H,I.tok _,⟨s.toks+1,by rw [Bc,hlen]⟩,q⟩
theorem XA:DS X (.type "tuple") (fun xs H Q=>∃p ys,xs=[.ref p]∧((SqL X.K H p ys∧∀l,H l=none→Q (.ref l) (Az H l (.tup ys)))∨(SqT X.K H p ys∧Q (.ref p) H))):=by
 intro pins s σ H xs us Q I r h
 obtain ⟨p,ys,rfl,h⟩:=h
 obtain ⟨u,rfl,rx⟩:=Gk r
 cases rx
 rcases h with ⟨hq,q⟩ |⟨hq,q⟩
 ·obtain ⟨its,r',pl,hz⟩:=I.list hq
  have hlen:=r'.length
  refine call_tuple_list pl.isList (fun h' kp=>?_) (by simp only [Bc]<;>omega)
  have I1:Inv X pins σ H {s with heap:=h'}:=I.kept (t':=s.toks) kp
  have I2:Inv X pins σ (Az H h'.objs.size (.tup ys)) {s with heap:=h'.push {cls:=.type "tuple",data:=.seq its.toArray}}:=
   I1.laid (t':=s.toks) (fun b o e=>AY _ e) (AK _) (show ObjOk X.prog X.w _ _ _ (.tup ys) from ⟨hz,its,r',IsTup.new _ _,NoDict.new⟩)
  exact ⟨.ref h'.objs.size,_,I2,rfl,q _ (I1.hok.fresh (AK _))⟩
 ·obtain ⟨its,r',pl,hz⟩:=I.tuple hq
  exact call_tuple_same pl ⟨.ref p,H,I,rfl,q⟩
def NO (K:PySem.W.Frag) (T:String) (x:V) (H:Hp):Prop:=match x with
 |.str _=>T="str"
 |.int _=>T="int"
 |.ref p=>(T="list"∧∃xs,SqL K H p xs)∨(T="tuple"∧∃o,K.lookup p=some o∧o.cls=.type "tuple"∧o.dict=none)
 |_=>False
theorem Ra {pins:List (Addr×Obj)} {σ:St} {H:Hp} {s:Shared} {T:String} {x:V} {v:Value} (I:Inv X pins σ H s) (r:RelV x v) (ty:NO X.K T x H):
 s.TypeIs v T∧∀a,v=.ref a→∃ob,s.heap.get? a=some ob∧ob.dict=none:=by
 cases x with
 |str z=>
  obtain ⟨t,rfl⟩:=r
  cases (show T="str" from ty)
  exact ⟨typeIs_str s z t,fun _ e=>nomatch e⟩
 |int i=>
  obtain ⟨t,rfl⟩:=r
  cases (show T="int" from ty)
  exact ⟨typeIs_int s i t,fun _ e=>nomatch e⟩
 |ref p=>
  cases r
  rcases ty with ⟨rfl,xs,hq⟩ |⟨rfl,o,hk,hc,hd⟩
  ·obtain ⟨its,_,pl,_⟩:=I.list hq
   refine ⟨pl.isList.typeIs,fun a e=>?_⟩
   cases e
   obtain ⟨o,n,e,c,hd,_⟩:=pl
   exact ⟨o,e,hd⟩
  ·refine ⟨⟨o,I.kIn p o hk,hc⟩,fun a e=>?_⟩
   cases e
   exact ⟨o,I.kIn _ o hk,hd⟩
 |_=>exact False.elim ty
def XB (K:PySem.W.Frag) (T:String) (r:V→List V→Hp→VK→Prop) (to:TE):TE:=fun σ H Q=>to σ H fun x H1=>NO K T x H1∧r x [] H1 Q
def XC (K:PySem.W.Frag) (T:String) (r:V→List V→Hp→VK→Prop) (to:TE) (t:TA):TE:=fun σ H Q=>to σ H fun x H1=>NO K T x H1∧t σ H1 fun xs H2=>r x xs H2 Q
variable {o e:Expr} {es:List Expr} {to:TE} {t:TA} {name:Str} {apos cpos:Pos} {T id:String} {r:V→List V→Hp→VK→Prop}
theorem XE (pa:PlainAttrs T) (slot:Slot T name id) (hty:typeOf (.builtin id)=pure (.type "method_descriptor")) (hm:LU X id r) (ho:PE X o to)
 (hbase:attributeBase o name X.env (eval o X.env)=eval o X.env:=by rfl) (hline:(apos.endLine==cpos.line)=true:=by rfl):PE X (.Call (.Attribute o name apos) [] [] cpos) (XB X.K T r to):=by
 intro pins s σ H Q I h
 refine wpAny_Call_method0_late hbase hline (AA (ho pins s σ H _ I h) fun v s1 z88_=>?_)
 obtain ⟨x,H1,I1,r1,ty,q1⟩:=z88_
 obtain ⟨h1,h2⟩:=Ra I1 r1 ty
 exact ⟨T,id,pa,slot,hty,h1,h2,Calls.callWith_builtin rfl (PySem.evalArgs_none (hm pins s1 σ H1 x [] v [] Q I1 r1 .nil q1))⟩
theorem Rb (pa:PlainAttrs T) (slot:Slot T name id) (hty:typeOf (.builtin id)=pure (.type "method_descriptor")) (hm:LU X id r) (ho:PE X o to) (ha:PA X (e::es) t)
 (hbase:attributeBase o name X.env (eval o X.env)=eval o X.env:=by rfl)
 (hfew:((backTo cpos (starEach (e::es) X.env)).all (fun x=>!x.1)&&(backToKw cpos (keywordEach [] X.env)).all (fun x=>x.1.isSome)
  &&decide ((e::es).length+([]:List Keyword).length+(if ([]:List Keyword).isEmpty then 0 else 1)<30))=true:=by rfl)
 (hline:(apos.endLine==cpos.line)=true:=by rfl) (hs:starEach (e::es) X.env=(false,eval e X.env)::starEach es X.env:=by rfl) (hplain:(backTo cpos (starEach es X.env)).any (·.1)=false:=by rfl):
 PE X (.Call (.Attribute o name apos) (e::es) [] cpos) (XC X.K T r to t):=by
 intro pins s σ H Q I h
 refine wpAny_Call_method_late hbase hfew hline rfl (AA (ho pins s σ H _ I h) fun v s1 z89_=>?_)
 obtain ⟨x,H1,I1,r1,ty,q1⟩:=z89_
 obtain ⟨h1,h2⟩:=Ra I1 r1 ty
 refine ⟨T,id,pa,slot,hty,h1,h2,?_⟩
 have hA:=ha cpos pins s1 σ H1 _ I1 q1
 rw [hs] at hA ⊢
 refine Calls.callWith_builtin (by show (false||(backTo cpos (starEach es X.env)).any (·.1))=false;rw [hplain]<;>rfl) (Calls.evalArgs_plain ?_)
 exact AA hA fun us s2 z90_=>by obtain ⟨vs,H2,I2,r2,q2⟩:=z90_;exact (hm pins s2 σ H2 x vs v us Q I2 r1 r2 q2)
end
def NP (X:Cx) (id:String) (r:V→List V→Hp→VK→Prop):Prop:=
 ∀(pins:List (Addr×Obj)) (s:Shared) (σ:St) (H:Hp) (x:V) (xs:List V) (v:Value) (us:List Value) (Q:VK),Inv X pins σ H s→RelV x v→Vals xs us→r x xs H Q→
  wpAny (model X.prog X.w) X.A (call (.builtin id) (v::us)) (EP X pins σ Q) X.xe s
theorem Vals.one {x:V} {us:List Value} (h:Vals [x] us):∃u,us=[u]∧RelV x u:=by
 cases h with
 |cons r t=>cases t;exact ⟨_,rfl,r⟩
theorem Vals.zero:∀{us:List Value},Vals [] us→us=[]
 |_,.nil=>rfl
theorem Vals.dropLast {xs:List V} {us:List Value} (h:Vals xs us):Vals xs.dropLast us.dropLast:=by
 induction h with
 |nil=>exact .nil
 |cons r t ih=>
  cases t with
  |nil=>exact .nil
  |cons q t'=>exact .cons r ih
theorem Vals.reverse {xs:List V} {us:List Value} (h:Vals xs us):Vals xs.reverse us.reverse:=by
 induction h with
 |nil=>exact .nil
 |cons r t ih=>rw [En,En];exact Vals.append ih (.cons r .nil)
theorem Vals.rep {xs:List V} {us:List Value} (h:Vals xs us):∀k:Nat,Vals (List.replicate k xs).flatten (List.replicate k us).flatten
 |0=>.nil
 |k+1=>by
  rw [GH,GH,Hi,Hi]
  exact Vals.append h (Vals.rep h k)
theorem XF {α:Type} (l:List α):l.eraseIdx (l.length - 1)=l.dropLast:=by
 induction l with
 |nil=>rfl
 |cons a r ih=>
  cases r with
  |nil=>rfl
  |cons b r=>
   have e:(a::b::r).length - 1=((b::r).length - 1)+1:=by
    have h1:(a::b::r).length=r.length+2:=rfl
    have h2:(b::r).length=r.length+1:=rfl
    omega
   rw [e,List.eraseIdx_cons_succ,ih]
   all_goals rfl
theorem LW (its:List Value):∀(k:Nat) (acc:List Value),
 List.foldl (fun x1 x2=>x1++x2) acc.toArray (List.replicate k its.toArray)=(acc++(List.replicate k its).flatten).toArray
 |0,acc=>by simp
 |k+1,acc=>by
  have e:acc.toArray++its.toArray=(acc++its).toArray:=by simp
  have e2:(acc++its)++(List.replicate k its).flatten=acc++(List.replicate (k+1) its).flatten:=by
   rw [GH,Hi,CO]
  rw [←e2,←LW its k (acc++its),←e,GH,List.foldl_cons]
section
variable {X:Cx} {pins:List (Addr×Obj)} {σ:St} {H:Hp} {s:Shared} {l b:Addr} {xs ys zs:List V}
theorem Inv.lset {its its':List Value} {n:Nat} {f:Array Value→Array Value} {t':Nat} (I:Inv X pins σ H s) (hH:H l=some (.lst xs))
 (e:s.heap.get? l=some {cls:=.type "list",data:=.seq its.toArray n}) (hf:f its.toArray=its'.toArray) (hv:Vals ys its') (hz:ys.length≤sizeLine):
 Inv X pins σ (Az H l (.lst ys)) {s with heap:=s.heap.update l (Obj.mapSeq f),toks:=t'}:=by
 have q:=PySem.IsL.update e f
 rw [hf] at q
 refine I.write (x:=l) (e:=l) (by rw [hH];exact trivial) (.inl rfl) (fun b' u hb hu=>(Nn s.heap (Obj.mapSeq f) (Ne.symm hb)).trans hu) ⟨_,q⟩ ?_
 exact ⟨hz,its',_,hv,q⟩
theorem Inv.lnew {its:List Value} {t':Nat} (I:Inv X pins σ H s) (hv:Vals ys its) (hz:ys.length≤sizeLine):
 Inv X pins σ (Az H s.heap.objs.size (.lst ys)) {s with heap:=s.heap.push {cls:=.type "list",data:=.seq its.toArray},toks:=t'}:=
 I.laid (fun _ _ q=>AY _ q) (AK _) ⟨hz,its,0,hv,BR _ rfl⟩
theorem Inv.fresh (I:Inv X pins σ H s):H s.heap.objs.size=none:=I.hok.fresh (AK _)
theorem Inv.lstM (I:Inv X pins σ H s) (hH:H l=some (.lst xs)):xs.length≤sizeLine∧∃(its:List Value) (n:Nat),Vals xs its∧xs.length=its.length∧s.heap.get? l=some {cls:=.type "list",data:=.seq its.toArray n}:=by
 obtain ⟨z,its,n,r,e⟩:=I.hok l _ hH
 exact ⟨z,its,n,r,r.length,e⟩
theorem Rc {n:Nat} (h:n≤sizeLine):Builtin.List.listTooLong n=false:=by
 unfold Builtin.List.listTooLong
 exact decide_eq_false (by omega)
end
section
variable {X:Cx}
def XG:V→List V→Hp→VK→Prop:=fun x vs H Q=>∃l xs y,x=.ref l∧vs=[y]∧H l=some (.lst xs)∧xs.length<sizeLine∧Q .non (Az H l (.lst (xs++[y])))
theorem XH:NP X "list.append" XG:=by
 intro pins s σ H x vs v us Q I rx rv h
 obtain ⟨l,xs,y,rfl,rfl,hH,hz,q⟩:=h
 cases rx
 obtain ⟨u,rfl,ru⟩:=rv.one
 obtain ⟨z,its,n,r,hl,e⟩:=I.lstM hH
 refine call_meets F.slot_list_append ⟨_,e,rfl⟩ F.entry_list_append (F.args_list_append_2 _ _) (PySem.list_append l its.toArray n u (by rw [Bc];omega)) ⟨e,?_⟩
 refine ⟨.non,_,I.lset (its':=its++[u]) hH e (by simp) (r.append (.cons ru .nil)) ?_,rfl,q⟩
 rw [D5,List.length_singleton]
 omega
def XI:V→List V→Hp→VK→Prop:=fun x vs H Q=>∃l b xs zs,x=.ref l∧vs=[.ref b]∧H l=some (.lst xs)∧H b=some (.lst zs)∧xs.length+zs.length≤sizeLine∧Q .non (Az H l (.lst (xs++zs)))
theorem XJ:NP X "list.extend" XI:=by
 intro pins s σ H x vs v us Q I rx rv h
 obtain ⟨l,b,xs,zs,rfl,rfl,hH,hB,hz,q⟩:=h
 cases rx
 obtain ⟨u,rfl,ru⟩:=rv.one
 cases ru
 obtain ⟨z,its,n,r,hl,e⟩:=I.lstM hH
 obtain ⟨z2,its2,n2,r2,hl2,e2⟩:=I.lstM hB
 have hsz:its.toArray.size+its2.toArray.size≤sizeLine:=by rw [Bc,Bc];omega
 have hlong:¬(!its.toArray.isEmpty&&Builtin.List.listTooLong (its.toArray.size+its2.toArray.size))=true:=by
  rw [Rc hsz,Bool.and_false]
  exact BF
 refine call_meets F.slot_list_extend ⟨_,e,rfl⟩ F.entry_list_extend (F.args_list_extend_2 _ _)
  (AutoSeq1.list_extend_list_list_0 l its.toArray n b its2.toArray n2 hlong (by rw [Bc];omega) (by omega)) ⟨e,e2,?_⟩
 refine ⟨.non,_,I.lset (its':=its++its2) hH e (by simp) (r.append r2) ?_,rfl,q⟩
 rw [D5]
 omega
def XM:V→List V→Hp→VK→Prop:=fun x vs H Q=>∃l xs y,x=.ref l∧vs=[]∧H l=some (.lst xs)∧xs[xs.length - 1]?=some y∧Q y (Az H l (.lst xs.dropLast))
theorem XN:NP X "list.pop" XM:=by
 intro pins s σ H x vs v us Q I rx rv h
 obtain ⟨l,xs,y,rfl,rfl,hH,hy,q⟩:=h
 cases rx
 have hus:=rv.zero
 subst hus
 obtain ⟨z,its,n,r,hl,e⟩:=I.lstM hH
 obtain ⟨u,hu,ru⟩:=r.get hy
 have hy':its.toArray[its.toArray.size - 1]?=some u:=by
  show its.toArray[its.length - 1]?=some u
  rw [←Array.getElem?_toList,←hl]
  exact hu
 refine call_meets F.slot_list_pop ⟨_,e,rfl⟩ F.entry_list_pop (F.args_list_pop_1 _) (MeetsSeq.list_pop_last l its.toArray n u hy' (by rw [Bc];omega)) ⟨e,?_⟩
 refine ⟨y,_,I.lset (its':=its.dropLast) hH e ?_ r.dropLast ?_,ru,q⟩
 ·show its.toArray.eraseIdxIfInBounds (its.toArray.size - 1)=its.dropLast.toArray
  rw [Bc,List.eraseIdxIfInBounds_toArray,XF]
 ·rw [List.length_dropLast]
  omega
def XO:R2:=fun x y H Q=>∃l b xs zs,x=.ref l∧y=.ref b∧H l=some (.lst xs)∧H b=some (.lst zs)∧xs.length+zs.length≤sizeLine∧∀p,H p=none→Q (.ref p) (Az H p (.lst (xs++zs)))
theorem op_cat:OpR X (binaryOp .Add) XO:=by
 intro pins s σ H x y v u Q I rx ry h
 obtain ⟨l,b,xs,zs,rfl,rfl,hH,hB,hz,q⟩:=h
 cases rx
 cases ry
 obtain ⟨z,its,n,r,hl,e⟩:=I.lstM hH
 obtain ⟨z2,its2,n2,r2,hl2,e2⟩:=I.lstM hB
 refine PySem.P.add_list e e2 ?_ (by rw [Bc,Bc];omega)
 have ea:its.toArray++its2.toArray=(its++its2).toArray:=by simp
 rw [ea]
 exact ⟨.ref _,_,I.lnew (t':=s.toks) (r.append r2) (by rw [D5];omega),rfl,q _ I.fresh⟩
def XQ:R2:=fun x y H Q=>∃l k xs,x=.ref l∧y=.int k∧H l=some (.lst xs)∧-(2^63)≤k∧k<2^63∧xs.length*k.toNat≤sizeLine∧
 ∀p,H p=none→Q (.ref p) (Az H p (.lst (List.replicate k.toNat xs).flatten))
theorem LX {α:Type} (xs:List α) (k:Nat):(List.replicate k xs).flatten.length=k*xs.length:=by
 induction k with
 |zero=>simp
 |succ k ih=>rw [GH,Hi,D5,ih,Nat.succ_mul,Nat.add_comm]
theorem XR:OpR X (binaryOp .Mult) XQ:=by
 intro pins s σ H x y v u Q I rx ry h
 obtain ⟨l,k,xs,rfl,rfl,hH,h1,h2,hz,q⟩:=h
 cases rx
 obtain ⟨t,rfl⟩:=ry
 obtain ⟨z,its,n,r,hl,e⟩:=I.lstM hH
 have hlen:its.toArray.size*k.toNat≤sizeLine:=by rw [Bc,←hl];exact hz
 have hcap:¬its.toArray.size*k.toNat>(2^63 - 1) / 8:=by
  have:(sizeLine:Nat)≤(2^63 - 1) / 8:=by decide
  omega
 have hfit:¬(!Builtin.List.listFitsIndex k)=true:=by
  rw [fitsIndex_both h1 h2]
  exact BF
 have hlong:¬Builtin.List.listTooLong (its.toArray.size*k.toNat)=true:=by
  rw [Rc hlen]
  exact BF
 have hnew:List.foldl (fun x1 x2=>x1++x2) #[] (List.replicate (if its.toArray.isEmpty=true then 0 else k.toNat) its.toArray)=(List.replicate k.toNat its).flatten.toArray:=by
  have f0:∀m:Nat,List.foldl (fun x1 x2=>x1++x2) #[] (List.replicate m its.toArray)=(List.replicate m its).flatten.toArray:=fun m=>by
   have:=LW its m []
   rw [GJ] at this
   exact this
  rw [f0]
  cases its with
  |nil=>simp
  |cons a r'=>rw [if_neg (by simp)]
 refine wpAny_binaryOp_repeat_ref (T:="list") (U:="int") (by decide) ⟨_,e,rfl⟩ (fun s'=>typeIs_int s' k t) noFill_list_mul F.fills_int_mul F.slot_int_rmul repeat_list F.slot_int_index.lookup
  (call_meets F.slot_int_rmul (typeIs_int s k t) F.entry_int_rmul (F.args_int_rmul_2 _ _) (int___rmul___int_list k t l its.toArray n)
   ⟨e,rfl,⟨_,e,rfl⟩,call_meets F.slot_list_mul ⟨_,e,rfl⟩ F.entry_list_mul (F.args_list_mul_2 _ _) (AutoListH.list___mul___list_int_3 l its.toArray n k t hfit hcap hlong) ⟨e,?_⟩⟩)
 rw [hnew]
 exact ⟨.ref _,_,I.lnew (t':=s.toks) (r.rep k.toNat) (by rw [LX,Nat.mul_comm];exact hz),rfl,q _ I.fresh⟩
end
section
variable {prog:Program} {w:World} {A:Around} {E:Value→Shared→Prop} {s:Shared}
end
section
variable {X:Cx}
end
end L2
namespace Att
open PySem PySem.W PySem.Calls PyProof.Rows
theorem XS {P:Params} {h:Heap}:∀(ns:List Int) (vs:List Value),WellAll P h vs (ns.map WData.int)→IntsAre vs ns:=by
 intro ns
 induction ns with
 |nil=>
  intro vs w
  rw [Hq] at w
  cases w
  exact .nil
 |cons n ns ih=>
  intro vs w
  rw [Br] at w
  cases w with
  |cons a b=>
   cases a
   exact .cons _ _ (ih _ b)
theorem XT {l:OpenLaw} {n:Nat} (hn:l.most=some n) {P:Params} {h:Heap} {args:List WData} {vals:List Value}
 (hpre:l.row.toRowW.claim.pre args=true) (hwl:WellAll P h vals args):
 ∃a vs ns,vals=[Value.ref a]∧args=[WData.list (ns.map WData.int)]∧h.get? a=some {cls:=.type "list",data:=.seq vs.toArray}∧IntsAre vs ns∧ns.length≤n:=by
 have hsh:WShape.hasAll [] args [.list .int]=true:=(pre_splitW hpre).1
 have hc:l.pre.holds [] {args:=args}=true:=(pre_splitW hpre).2
 obtain ⟨d,r,rfl,h1,h2⟩:=hasAllW_cons hsh
 obtain rfl:=hasAllW_nil h2
 obtain ⟨xs,rfl,h3⟩:=hasW_list h1
 obtain ⟨ns,rfl⟩:=items_int h3
 have hlen:ns.length≤n:=by
  unfold OpenLaw.pre at hc
  have h4:(WTm.not (.lt (.lit (.int (n:Int))) (.len (.arg 0)))).holds [] {args:=[.list (ns.map .int)]}=true:=by
   have h4:=(holds_andW hc).1
   rw [hn] at h4
   exact h4
  have h5:=condW_of h4 (w_not (w_lt w_lit (w_len_list (w_arg rfl))))
  rw [Cb] at h5
  refine Je fun q=>?_
  have q':(n:Int)<((ns.length:Nat):Int):=by omega
  first
   |(rw [decide_eq_true q'] at h5;exact absurd h5 (by decide))
   |(simp at h5;omega)
 cases hwl with
 |cons w1 w2=>
  cases w2
  cases w1 with
  |list ho hall=>exact ⟨_,_,ns,rfl,rfl,ho,XS ns _ hall,hlen⟩
theorem XU (l:OpenLaw) (args:List WData):l.row.toRowW.claim.post args (.bool true) args=true:=
 postW_of (r:=l.row.toRowW) (X:=(true==true))
  (show WShape.has [] (.bool true) .bool=true by first |rfl |decide |simp [WShape.has,WShape.arms,WShape.armsAll])
  (show (WTm.eq .res (.lit (.bool true))).value [] {args:=args,res:=some (.bool true),after:=args}=some (.bool (true==true)) from w_eq_bool (w_res rfl) w_lit) rfl
section
variable {prog:Program} {w:World} {A:Around} {E:Value→Shared→Prop} {s:Shared} {K:Frag}
end
end Att
namespace L2
open PySem PySem.Spec PyProof.Rows
theorem vals_ints:∀{vs:List Value} {ns:List Int},IntsAre vs ns→Vals (ns.map V.int) vs
 |_,_,.nil=>.nil
 |_,_,.cons n t h=>.cons ⟨t,rfl⟩ (vals_ints h)
def defArgs (s:Stmt):Arguments:=match s with
 |.FunctionDef _ a _ _ _ _ _ _ _ _=>a
 |_=>{posonlyargs:=[],args:=[],vararg:=none,kwonlyargs:=[],kw_defaults:=[],kwarg:=none,defaults:=[]}
def defBody (s:Stmt):List Stmt:=match s with
 |.FunctionDef _ _ b _ _ _ _ _ _ _=>b
 |_=>[]
def defScope (s:Stmt):Scope:=match s with
 |.FunctionDef _ _ _ _ _ _ sc _ _ _=>sc
 |_=>{kind:=.function,names:=[],isGenerator:=false,isCoroutine:=false}
abbrev Re:E6:=fun _ _ _ _ _ _=>False
abbrev E0:XK:=fun _ _ _=>False
inductive Rf (K:PySem.W.Frag) (x qual:Str) (st:Stmt) (f:Addr) (fd:FuncData):Prop where
 |mk (oc:Value) (od:Option Addr) (kV doc pm:Value) (an:Option Addr) (cdv ct:Value) (osl:Array (Option Value)) (f1:fd=PySem.W.fnOf x qual (defArgs st) (defBody st) (defScope st) .none kV doc pm an cdv ct) (f2:K.lookup f=some ⟨oc,od,.func fd,osl⟩) (f3:PySem.W.codeIn K cdv qual=true):Rf K x qual st f fd
structure Fun (K:PySem.W.Frag) (x qual:Str) (st:Stmt) (f:Addr) (fd:FuncData):Prop where
 ex:Rf K x qual st f fd
 kp:PySem.W.keepIn K (.ref f)=true
section
variable {P:Program} {w:World} {K:PySem.W.Frag} {mg:Str→Option Value} {base:Heap}
theorem Fun.binds {x qual:Str} {st:Stmt} {f:Addr} {fd:FuncData} {ps:List Str} (F:Fun K x qual st f fd)
 (h:∀(kV doc pm:Value) (an:Option Addr) (cdv ct:Value) (us:List Value),us.length=ps.length→bindArgs (PySem.W.fnOf x qual (defArgs st) (defBody st) (defScope st) .none kV doc pm an cdv ct) ⟨us,[]⟩=pure (ps.zip us)):Binds K fd ps []:=by
 obtain ⟨oc,od,kV,doc,pm,an,cdv,ct,osl,rfl,lk,hcd⟩:=F.ex
 exact .all (h kV doc pm an cdv ct)
theorem Jo {x qual:Str} {st:Stmt} {f:Addr} {oc:Value} {od an:Option Addr} {osl:Array (Option Value)} {kV doc pm cdv ct:Value} (l:K.lookup f=some ⟨oc,od,.func (PySem.W.fnOf x qual (defArgs st) (defBody st) (defScope st) .none kV doc pm an cdv ct),osl⟩)
 (c:PySem.W.codeIn K cdv qual=true) (k:PySem.W.keepIn K (.ref f)=true):Fun K x qual st f (PySem.W.fnOf x qual (defArgs st) (defBody st) (defScope st) .none kV doc pm an cdv ct):=⟨⟨oc,od,kV,doc,pm,an,cdv,ct,osl,rfl,l,c⟩,k⟩
end
section
variable {X:Cx}
theorem pv (i:Nat) {x:Str} {pos:Pos} (hN:X.N[i]?=some x:=by rfl) (hv:LI X.env.scope x:=by first |exact Or.inl rfl |exact Or.inr (Or.inl rfl) |exact Or.inr (Or.inr rfl)) (hd:(x==("__debug__":Str))=false:=by decide)
 (hcd:(x==("__classdict__":Str))=false:=by decide):PE X (.Name x pos) (Nv i):=VA hN hv hd hcd
end
end L2
namespace LS
open PySem PySem.Spec PyProof.Rows L2
inductive D where
 |non |bl (b:Bool) |int (i:Int) |str (x:Str) |tup (ds:List D) |loc (l:Nat) |scr (ns:List Int) |adr (a:Addr) |ty (n:String) |exc (n:Str) (fs:List (Str×Int)) |edic |glo (n:Str) |clo (a:Addr) (vs:List V) (ds:List D)
inductive Kyd where
 |i (n:Int) |t (ns:List Int) |b (rs:List (List Int))
 deriving DecidableEq
def kD:Kyd→D
 |.i n=>.int n
 |.t ns=>.tup (ns.map D.int)
 |.b rs=>.tup (rs.map fun r=>.tup (r.map D.int))
inductive Cell where
 |lst (ds:List D) |tab |dic (fz:Bool) (kvs:List (Kyd×D))
abbrev HD:=List Cell
abbrev Ai:=List (Option D)
inductive Out (α:Type) where
 |ok (a:α) (h:HD) |err (C:Value) (fs:List (Str×D)) (h:HD) |stuck
def Out.bind {α β:Type} (o:Out α) (k:α→HD→Out β):Out β:=match o with
 |.ok a h=>k a h
 |.err C fs h=>.err C fs h
 |.stuck=>.stuck
@[simp] theorem Out.bind_ok {α β:Type} (a:α) (h:HD) (k:α→HD→Out β):(Out.ok a h).bind k=k a h:=rfl
@[simp] theorem Out.bind_err {α β:Type} (C:Value) (fs:List (Str×D)) (h:HD) (k:α→HD→Out β):(Out.err C fs h:Out α).bind k=.err C fs h:=rfl
@[simp] theorem Out.bind_stuck {α β:Type} (k:α→HD→Out β):(Out.stuck:Out α).bind k=.stuck:=rfl
def NQ:HO→Bool
 |.tup _=>true
 |.frz _ _=>true
 |.ext _=>true
 |.xd _=>true
 |_=>false
def Kp (H H':Hp):Prop:=∀b o,H b=some o→NQ o=true→H' b=some o
theorem Kp.refl (H:Hp):Kp H H:=fun _ _ e _=>e
theorem Kp.trans {H H1 H2:Hp} (a:Kp H H1) (b:Kp H1 H2):Kp H H2:=fun c o e i=>b c o (a c o e i) i
theorem Kp.new {H:Hp} {p:Addr} {o:HO} (h:H p=none):Kp H (Az H p o):=fun b u e _=>by rw [AJ (BN e h)];exact e
theorem Kp.set {H:Hp} {p:Addr} {o u:HO} (h:H p=some o) (i:NQ o=false):Kp H (Az H p u):=fun b w e iw=>by
 rw [AJ]
 ·exact e
 ·intro z
  rw [z,h] at e;cases e;rw [i] at iw;cases iw
def FzL (K:PySem.W.Frag) (H:Hp) (a:Addr) (xs:List V):Prop:=(∃o,H a=some (.frz o (.lst xs)))∨SqL K (fun _=>none) a xs
theorem Kp.fzL {K:PySem.W.Frag} {H H':Hp} {a:Addr} {xs:List V} (k:Kp H H') (h:FzL K H a xs):FzL K H' a xs:=by
 rcases h with ⟨o,h⟩ |h
 ·exact .inl ⟨o,k _ _ h rfl⟩
 ·exact .inr h
theorem FzL.sq {K:PySem.W.Frag} {H:Hp} {a:Addr} {xs:List V} (h:FzL K H a xs):SqL K H a xs:=by
 rcases h with ⟨o,h⟩ |(h |⟨o,h⟩) |h
 ·exact .inl (.inr ⟨o,h⟩)
 ·cases h
 ·cases h
 ·exact .inr h
def XW (C:Addr) (da:Option Addr) (a:Addr) (h:Heap):Prop:=∃o vs,h.get? a=some o∧o.cls=.ref C∧(∀d,da=some d→o.dict=some d)∧o.data=.fields vs
def XX (a:Addr) (h:Heap):Prop:=a≠sysModules∧∃o ep,h.get? a=some o∧o.ExactDict∧o.data=.dict #[] ep
mutual
def DV (K:PySem.W.Frag) (m:List Addr) (H:Hp):D→V→Prop
 |.non,v=>v=.non
 |.bl b,v=>v=.bl b
 |.int i,v=>v=.int i
 |.str x,v=>v=.str x
 |.tup ds,v=>∃a vs,v=.ref a∧H a=some (.tup vs)∧DVs K m H ds vs
 |.loc l,v=>∃a,v=.ref a∧m[l]?=some a
 |.scr ns,v=>∃a,v=.ref a∧FzL K H a (ns.map V.int)
 |.adr a,v=>v=.ref a
 |.ty n,v=>v=.ty n
 |.exc n fs,v=>∃a C da,v=.ref a∧PySem.W.nsIn K mainGlobals n=some (some (.ref C))∧H a=some (.ext (XW C da a))∧∀f i,fs.lookup f=some i→∃d fv,da=some d∧H d=some (.xd fv)∧fv.lookup f=some (.int i)
 |.edic,v=>∃a,v=.ref a∧H a=some (.ext (XX a))
 |.glo n,v=>∃a,v=.ref a∧PySem.W.nsIn K mainGlobals n=some (some (.ref a))
 |.clo a vs ds,v=>v=.ref a∧DVs K m H ds vs
def DVs (K:PySem.W.Frag) (m:List Addr) (H:Hp):List D→List V→Prop
 |[],vs=>vs=[]
 |d::ds,vs=>∃v r,vs=v::r∧DV K m H d v∧DVs K m H ds r
end
section
variable {K:PySem.W.Frag} {m m':List Addr} {H H':Hp}
theorem Jp {l:Nat} {a:Addr} (p:m <+:m') (h:m[l]?=some a):m'[l]?=some a:=by
 obtain ⟨t,rfl⟩:=p
 have hl:l<m.length:=(qa8.mp h).1
 rw [Hg hl];exact h
mutual
theorem DV.keep (p:m <+:m') (k:Kp H H'):∀{d:D} {v:V},DV K m H d v→DV K m' H' d v
 |.non,_,h=>by simpa [DV] using h
 |.bl _,_,h=>by simpa [DV] using h
 |.int _,_,h=>by simpa [DV] using h
 |.str _,_,h=>by simpa [DV] using h
 |.tup ds,_,h=>by
  simp only [DV] at h ⊢
  obtain ⟨a,vs,e,q,r⟩:=h
  exact ⟨a,vs,e,k _ _ q rfl,DVs.keep p k r⟩
 |.loc l,_,h=>by
  simp only [DV] at h ⊢
  obtain ⟨a,e,q⟩:=h
  exact ⟨a,e,Jp p q⟩
 |.scr ns,_,h=>by
  simp only [DV] at h ⊢
  obtain ⟨a,e,q⟩:=h
  exact ⟨a,e,k.fzL q⟩
 |.adr _,_,h=>by simpa [DV] using h
 |.ty _,_,h=>by simpa [DV] using h
 |.exc _ _,_,h=>by
  simp only [DV] at h ⊢
  obtain ⟨a,C,da,e,q,r,t⟩:=h
  exact ⟨a,C,da,e,q,k _ _ r rfl,fun f i z=>let ⟨d,fv,z1,z2,z3⟩:=t f i z;⟨d,fv,z1,k _ _ z2 rfl,z3⟩⟩
 |.edic,_,h=>by
  simp only [DV] at h ⊢
  obtain ⟨a,e,r⟩:=h
  exact ⟨a,e,k _ _ r rfl⟩
 |.glo _,_,h=>by simpa [DV] using h
 |.clo _ _ ds,_,h=>by
  simp only [DV] at h ⊢
  exact ⟨h.1,DVs.keep p k h.2⟩
theorem DVs.keep (p:m <+:m') (k:Kp H H'):∀{ds:List D} {vs:List V},DVs K m H ds vs→DVs K m' H' ds vs
 |[],_,h=>by simpa [DVs] using h
 |d::ds,_,h=>by
  simp only [DVs] at h ⊢
  obtain ⟨v,r,e,q,t⟩:=h
  exact ⟨v,r,e,DV.keep p k q,DVs.keep p k t⟩
end
theorem DVs.nil:DVs K m H [] []:=by simp [DVs]
theorem DVs.cons {d:D} {v:V} {ds:List D} {vs:List V} (h:DV K m H d v) (t:DVs K m H ds vs):DVs K m H (d::ds) (v::vs):=by
 simp only [DVs];exact ⟨v,vs,rfl,h,t⟩
theorem DVs.len:∀{ds:List D} {vs:List V},DVs K m H ds vs→ds.length=vs.length
 |[],_,h=>by simp only [DVs] at h;subst h;rfl
 |d::ds,_,h=>by
  simp only [DVs] at h
  obtain ⟨v,r,e,_,t⟩:=h
  subst e
  simp [DVs.len t]
theorem DVs.get:∀{ds:List D} {vs:List V} {i:Nat} {d:D},DVs K m H ds vs→ds[i]?=some d→∃v,vs[i]?=some v∧DV K m H d v
 |[],_,_,_,_,e=>by simp at e
 |d::ds,_,i,x,h,e=>by
  simp only [DVs] at h
  obtain ⟨v,r,rfl,q,t⟩:=h
  cases i with
  |zero=>simp at e;subst e;exact ⟨v,rfl,q⟩
  |succ i=>
   obtain ⟨w,h1,h2⟩:=DVs.get (i:=i) t (by simpa using e)
   exact ⟨w,by simpa using h1,h2⟩
theorem DVs.app:∀{ds es:List D} {vs ws:List V},DVs K m H ds vs→DVs K m H es ws→DVs K m H (ds++es) (vs++ws)
 |[],_,_,_,h,t=>by simp only [DVs] at h;subst h;exact t
 |d::ds,_,_,_,h,t=>by
  simp only [DVs] at h
  obtain ⟨v,r,rfl,q,u⟩:=h
  exact .cons q (DVs.app u t)
theorem DVs.set:∀{ds:List D} {vs:List V} {d:D} {v:V} (i:Nat),DVs K m H ds vs→DV K m H d v→DVs K m H (ds.set i d) (vs.set i v)
 |[],_,_,_,_,h,_=>by simp only [DVs] at h;subst h;exact .nil
 |d::ds,_,_,_,i,h,q'=>by
  simp only [DVs] at h
  obtain ⟨v,r,rfl,q,u⟩:=h
  cases i with
  |zero=>exact .cons q' u
  |succ i=>exact .cons q (DVs.set i u q')
theorem DVs.take:∀{ds:List D} {vs:List V} (n:Nat),DVs K m H ds vs→DVs K m H (ds.take n) (vs.take n)
 |_,_,0,_=>by simpa using (DVs.nil:DVs K m H [] [])
 |[],_,n+1,h=>by simp only [DVs] at h;subst h;exact .nil
 |d::ds,_,n+1,h=>by
  simp only [DVs] at h
  obtain ⟨v,r,rfl,q,u⟩:=h
  exact .cons q (DVs.take n u)
theorem DVs.drop:∀{ds:List D} {vs:List V} (n:Nat),DVs K m H ds vs→DVs K m H (ds.drop n) (vs.drop n)
 |_,_,0,h=>by simpa using h
 |[],_,n+1,h=>by simp only [DVs] at h;subst h;exact .nil
 |d::ds,_,n+1,h=>by
  simp only [DVs] at h
  obtain ⟨v,r,rfl,q,u⟩:=h
  simpa using DVs.drop n u
theorem DVs.rep {ds:List D} {vs:List V} (h:DVs K m H ds vs):∀n,DVs K m H (List.replicate n ds).flatten (List.replicate n vs).flatten
 |0=>by simpa using (DVs.nil:DVs K m H [] [])
 |n+1=>by
  rw [GH,Hi,GH,Hi]
  exact h.app (DVs.rep h n)
def XY (q:Str) (c:Addr) (h:Heap):Prop:=h.CodeRec (.ref c) q
def tabP (K:PySem.W.Frag):Option (Addr×Addr):=match PySem.W.nsIn K mainGlobals "law" with
 |some (some (.ref f))=>(match K.lookup f with
  |some ⟨_,_,.func fd,_⟩=>(match fd.code with
   |.ref c=>(match K.lookup c with
    |some ⟨_,_,.fields vs,_⟩=>(match (vs[11]?:Option Value) with
     |some (.ref P)=>some (c,P)
     |_=>none)
    |_=>none)
   |_=>none)
  |_=>none)
 |_=>none
def TabIs (K:PySem.W.Frag) (H:Hp) (a:Addr):Prop:=(∃c,tabP K=some (c,a))∧∃ps,H a=some (.tbl ps)∧TriplesOk ps.toList∧∀pos cv,codeAmong pos ps.toList=some cv→∃c,cv=.ref c∧H c=some (.ext (XY "law.<locals>.<lambda>" c))
theorem TabIs.keep {K:PySem.W.Frag} {H H':Hp} {a:Addr} (t:TabIs K H a) (k:Kp H H') (e:H' a=H a):TabIs K H' a:=by
 obtain ⟨z,ps,h1,h2,h3⟩:=t
 exact ⟨z,ps,e.trans h1,h2,fun pos cv q=>let ⟨c,q1,q2⟩:=h3 pos cv q;⟨c,q1,k _ _ q2 rfl⟩⟩
def NR (hs:List Int):Int:=reduceHash (Builtin.Tuple.tupleHashOf hs)
def XZ:Kyd→Int
 |.i n=>hashInt n
 |.t ns=>NR (ns.map hashInt)
 |.b rs=>NR (rs.map fun r=>NR (r.map hashInt))
def J2 (p:Kyd×V×V) (e:DictEntry):Prop:=e.hash=XZ p.1∧RelV p.2.1 e.key∧RelV p.2.2 e.val
def BH (a:Addr) (es:List (Kyd×V×V)) (h:Heap):Prop:=(a==sysModules)=false∧es.length≤sizeLine∧(es.map (·.1)).Nodup∧∃o us ep,h.get? a=some o∧o.ExactDict∧o.data=.dict us ep∧Paired J2 es us.toList
def EntD (K:PySem.W.Frag) (m:List Addr) (H:Hp):List (Kyd×D)→List (Kyd×V×V)→Prop
 |[],es=>es=[]
 |p::r,es=>∃kv vv r',es=(p.1,kv,vv)::r'∧DV K m H (kD p.1) kv∧DV K m H p.2 vv∧EntD K m H r r'
theorem EntD.keep {K:PySem.W.Frag} {m m':List Addr} {H H':Hp} (p:m <+:m') (k:Kp H H'):∀{kvs:List (Kyd×D)} {es:List (Kyd×V×V)},EntD K m H kvs es→EntD K m' H' kvs es
 |[],_,h=>h
 |_::_,_,h=>by
  obtain ⟨kv,vv,r',e,d1,d2,t⟩:=h
  exact ⟨kv,vv,r',e,d1.keep p k,d2.keep p k,t.keep p k⟩
def DicH (fz:Bool) (H:Hp) (a:Addr) (es:List (Kyd×V×V)):Prop:=match fz with
 |true=>∃o,H a=some (.frz o (.dct (BH a es)))
 |false=>H a=some (.dct (BH a es))
theorem DicH.some {fz:Bool} {H:Hp} {a:Addr} {es:List (Kyd×V×V)} (d:DicH fz H a es):∃o,H a=some o:=by
 cases fz with
 |true=>obtain ⟨o,e⟩:=d;exact ⟨_,e⟩
 |false=>exact ⟨_,d⟩
theorem DicH.same {fz:Bool} {H H':Hp} {a:Addr} {es:List (Kyd×V×V)} (d:DicH fz H a es) (e:H' a=H a):DicH fz H' a es:=by
 cases fz with
 |true=>obtain ⟨o,z⟩:=d;exact ⟨o,e.trans z⟩
 |false=>exact e.trans d
theorem DicH.rd {fz:Bool} {H:Hp} {a:Addr} {es:List (Kyd×V×V)} (d:DicH fz H a es):Rd H a (.dct (BH a es)):=by
 cases fz with
 |true=>obtain ⟨o,z⟩:=d;exact .inr ⟨o,z⟩
 |false=>exact .inl d
def LY (K:PySem.W.Frag) (m:List Addr) (H:Hp):Cell→Addr→Prop
 |.lst ds,a=>∃vs,H a=some (.lst vs)∧DVs K m H ds vs
 |.tab,a=>TabIs K H a
 |.dic fz kvs,a=>∃es,DicH fz H a es∧EntD K m H kvs es
structure HR (K:PySem.W.Frag) (m:List Addr) (h:HD) (H:Hp):Prop where
 len:m.length=h.length
 nd:m.Nodup
 cells:∀(l:Nat) (c:Cell) (a:Addr),h[l]?=some c→m[l]?=some a→LY K m H c a
theorem HR.at {h:HD} {l:Nat} {c:Cell} (r:HR K m h H) (e:h[l]?=some c):∃a,m[l]?=some a∧LY K m H c a:=by
 have hl:l<h.length:=(qa8.mp e).1
 have:l<m.length:=by rw [r.len];exact hl
 exact ⟨m[l],Bh this,r.cells l c _ e (Bh this)⟩
theorem HR.mem {h:HD} {a:Addr} (r:HR K m h H) (ha:a∈m):H a≠none:=by
 obtain ⟨l,hl,rfl⟩:=JQ ha
 have hl':l<h.length:=by rw [←r.len];exact hl
 have:=r.cells l h[l] m[l] (Bh hl') (Bh hl)
 cases hc:h[l] with
 |lst ds=>
  rw [hc] at this
  obtain ⟨vs,e,_⟩:=this
  rw [e];simp
 |tab=>
  rw [hc] at this
  obtain ⟨_,ps,e,_⟩:=this
  rw [e];simp
 |dic fz kvs=>
  rw [hc] at this
  obtain ⟨es,e,_⟩:=this
  obtain ⟨o,e⟩:=e.some
  rw [e];simp
theorem HR.same {h:HD} (r:HR K m h H) (k:Kp H H') (s:∀a∈m,H' a=H a):HR K m h H':=by
 refine ⟨r.len,r.nd,fun l c a e q=>?_⟩
 have hm:a∈m:=Jd q
 have:=r.cells l c a e q
 cases c with
 |lst ds=>
  obtain ⟨vs,e1,e2⟩:=this
  exact ⟨vs,by rw [s a hm];exact e1,e2.keep (AC _) k⟩
 |tab=>exact TabIs.keep this k (s a hm)
 |dic fz kvs=>
  obtain ⟨es,e1,e2⟩:=this
  exact ⟨es,e1.same (s a hm),e2.keep (AC _) k⟩
theorem HR.new {h:HD} {p:Addr} {o:HO} (r:HR K m h H) (hp:H p=none):HR K m h (Az H p o):=
 r.same (.new hp) fun a ha=>AJ fun z=>r.mem ha (z ▸ hp)
theorem HR.newCell {h:HD} {p:Addr} {o:HO} {c:Cell} (r:HR K m h H) (hp:H p=none) (hc:LY K (m++[p]) (Az H p o) c p):HR K (m++[p]) (h++[c]) (Az H p o):=by
 have hpm:p∉m:=fun z=>r.mem z hp
 refine ⟨by simp [r.len],?_,fun l c' a e q=>?_⟩
 ·rw [qbH]
  refine ⟨r.nd,by simp,fun a ha b hb=>?_⟩
  rw [qa7] at hb
  subst hb
  intro z;subst z;exact hpm ha
 ·by_cases hl:l<m.length
  ·rw [Hg hl] at q
   rw [Hg (by rw [←r.len];exact hl)] at e
   have:=r.cells l c' a e q
   have hne:a≠p:=fun z=>hpm (z ▸ Jd q)
   cases c' with
   |lst ds=>
    obtain ⟨vs,e1,e2⟩:=this
    exact ⟨vs,by rw [AJ hne];exact e1,e2.keep (Gg _ _) (.new hp)⟩
   |tab=>exact TabIs.keep this (.new hp) (AJ hne)
   |dic fz kvs=>
    obtain ⟨es,e1,e2⟩:=this
    exact ⟨es,e1.same (AJ hne),e2.keep (Gg _ _) (.new hp)⟩
  ·have h1:m.length≤l:=Je hl
   rw [Lk h1] at q
   rw [Lk (by rw [←r.len];exact h1)] at e
   have e0:l - m.length=0:=by
    cases hz:l - m.length with
    |zero=>rfl
    |succ n=>rw [hz] at q;simp at q
   rw [←r.len] at e
   rw [e0] at q e
   simp at q e
   subst q e
   exact hc
theorem HR.setCell {h:HD} {p:Addr} {l:Nat} {o u:HO} {c:Cell} (r:HR K m h H) (hl:m[l]?=some p) (ho:H p=some o) (i:NQ o=false) (hc:LY K m (Az H p u) c p):HR K m (h.set l c) (Az H p u):=by
 refine ⟨by simp [r.len],r.nd,fun j c' a e q=>?_⟩
 by_cases hj:j=l
 ·subst hj
  rw [hl] at q;cases q
  have hlt:j<h.length:=by rw [←r.len];exact (qa8.mp hl).1
  rw [D4 hlt] at e
  cases e
  exact hc
 ·rw [CI (Ne.symm hj)] at e
  have:=r.cells j c' a e q
  have hne:a≠p:=by
   intro z
   subst z
   obtain ⟨h1,e1⟩:=qa8.mp q
   obtain ⟨h2,e2⟩:=qa8.mp hl
   exact hj ((List.getElem_inj r.nd).mp (e1.trans e2.symm))
  cases c' with
  |lst ds=>
   obtain ⟨vs,e1,e2⟩:=this
   exact ⟨vs,by rw [AJ hne];exact e1,e2.keep (AC _) (.set ho i)⟩
  |tab=>exact TabIs.keep this (.set ho i) (AJ hne)
  |dic fz kvs=>
   obtain ⟨es,e1,e2⟩:=this
   exact ⟨es,e1.same (AJ hne),e2.keep (AC _) (.set ho i)⟩
def ER (K:PySem.W.Frag) (m:List Addr) (H:Hp) (ρ:Ai) (σ:L2.St):Prop:=ρ.length=σ.length∧∀(i:Nat) (d:D),ρ[i]?=some (some d)→∃v,σ[i]?=some (some v)∧DV K m H d v
theorem ER.keep {ρ:Ai} {σ:L2.St} (p:m <+:m') (k:Kp H H') (e:ER K m H ρ σ):ER K m' H' ρ σ:=⟨e.1,fun i d h=>let ⟨v,a,b⟩:=e.2 i d h;⟨v,a,b.keep p k⟩⟩
theorem ER.set {ρ:Ai} {σ:L2.St} {i:Nat} {d:D} {v:V} (e:ER K m H ρ σ) (r:DV K m H d v):ER K m H (ρ.set i (some d)) (σ.set i (some v)):=by
 refine ⟨by simp [e.1],fun j d' h=>?_⟩
 by_cases hj:i=j
 ·subst hj
  by_cases hl:i < ρ.length
  ·rw [D4 hl] at h
   cases h
   exact ⟨v,by rw [D4 (by rw [←e.1];exact hl)],r⟩
  ·rw [List.getElem?_eq_none (by simp;omega)] at h;cases h
 ·rw [CI hj] at h
  obtain ⟨w,a,b⟩:=e.2 j d' h
  exact ⟨w,by rw [CI hj];exact a,b⟩
theorem ER.start {N:List Str} {ds:List D} {vs:List V} (h:DVs K m H ds vs):ER K m H (ds.map some++List.replicate (N.length - ds.length) none) (L2.start N vs):=by
 refine ⟨by simp [L2.start,h.len],fun i d e=>?_⟩
 by_cases hl:i<ds.length
 ·rw [Hg (by simpa using hl),DG] at e
  obtain ⟨d',e1⟩:∃d',ds[i]?=some d':=⟨ds[i],Bh hl⟩
  rw [e1] at e
  simp at e
  subst e
  obtain ⟨v,q,r⟩:=h.get e1
  refine ⟨v,?_,r⟩
  unfold L2.start
  rw [Hg (by simpa [←h.len] using hl),DG,q]
  rfl
 ·rw [Lk (by simpa using Je hl)] at e
  rw [List.getElem?_replicate] at e
  split at e<;>cases e
def XD (K:PySem.W.Frag) (m:List Addr) (H:Hp) (fs:List (Str×D)) (da:Option Addr):Prop:=
 ∀f d,fs.lookup f=some d→∃a fv v,da=some a∧H a=some (.xd fv)∧fv.lookup f=some v∧DV K m H d v
def Post {α β:Type} (K:PySem.W.Frag) (R:List Addr→Hp→α→β→Prop) (m:List Addr) (H:Hp) (E:XK) (Q:β→Hp→Prop):Out α→Prop
 |.ok a h'=>∀v m' H',m <+:m'→Kp H H'→HR K m' h' H'→R m' H' a v→Q v H'
 |.err C fs h'=>∀da m' H',m <+:m'→Kp H H'→HR K m' h' H'→XD K m' H' fs da→E C da H'
 |.stuck=>False
theorem Post.ahead {α β:Type} {R:List Addr→Hp→α→β→Prop} {E:XK} {Q:β→Hp→Prop} {o:Out α} (p:m <+:m') (k:Kp H H') (h:Post K R m H E Q o):Post K R m' H' E Q o:=by
 cases o with
 |ok a h'=>exact fun v m2 H2 p2 k2=>h v m2 H2 (p.trans p2) (k.trans k2)
 |err C fs h'=>exact fun da m2 H2 p2 k2=>h da m2 H2 (p.trans p2) (k.trans k2)
 |stuck=>exact h
theorem Post.bind {α β γ δ:Type} {R:List Addr→Hp→α→β→Prop} {R':List Addr→Hp→γ→δ→Prop} {E:XK} {Q:δ→Hp→Prop} {Q':β→Hp→Prop} {o:Out α} {k:α→HD→Out γ}
 (h:Post K R' m H E Q (o.bind k)) (f:∀a h1 v m1 H1,o=.ok a h1→m <+:m1→Kp H H1→HR K m1 h1 H1→R m1 H1 a v→Post K R' m1 H1 E Q (k a h1)→Q' v H1):Post K R m H E Q' o:=by
 cases o with
 |ok a h1=>exact fun v m1 H1 p kk hr r=>f a h1 v m1 H1 rfl p kk hr r (h.ahead p kk)
 |err C fs h1=>exact h
 |stuck=>exact h
theorem Post.mono {α β:Type} {R:List Addr→Hp→α→β→Prop} {E:XK} {Q Q':β→Hp→Prop} {o:Out α} (h:Post K R m H E Q o) (f:∀v H',Q v H'→Q' v H'):Post K R m H E Q' o:=by
 cases o with
 |ok a h1=>exact fun v m1 H1 p k hr r=>f _ _ (h v m1 H1 p k hr r)
 |err C fs h1=>exact h
 |stuck=>exact h
end
abbrev ME:=Ai→HD→Out D
abbrev MT:=Ai→HD→Out Bool
abbrev MA:=Ai→HD→Out (List D)
inductive Fl where
 |nx |bk |ct |rt (d:D)
abbrev MS:=Ai→HD→Out (Fl×Ai)
def rD (K:PySem.W.Frag):List Addr→Hp→D→V→Prop:=fun m H d v=>DV K m H d v
def rB:List Addr→Hp→Bool→Bool→Prop:=fun _ _ a b=>a=b
def Ez (K:PySem.W.Frag):List Addr→Hp→List D→List V→Prop:=fun m H d v=>DVs K m H d v
inductive tM {α β:Type} (K:PySem.W.Frag) (R:List Addr→Hp→α→β→Prop) (E:XK) (f:Ai→HD→Out α) (σ:L2.St) (H:Hp) (Q:β→Hp→Prop):Prop where
 |mk (m:List Addr) (ρ:Ai) (h:HD) (hr:HR K m h H) (er:ER K m H ρ σ) (p:Post K R m H E Q (f ρ h)):tM K R E f σ H Q
abbrev tD (K:PySem.W.Frag) (E:XK) (f:ME):TE:=tM K (rD K) E f
abbrev E8 (K:PySem.W.Frag) (E:XK) (f:MT):TT:=tM K rB E f
abbrev X0 (K:PySem.W.Frag) (E:XK) (f:MA):TA:=tM K (Ez K) E f
def Rg (K:PySem.W.Frag) (m:List Addr) (H:Hp) (D:Es):Fl×Ai→Prop
 |(.nx,ρ)=>∀σ,ER K m H ρ σ→D.nx σ H
 |(.bk,ρ)=>∀σ,ER K m H ρ σ→D.bk σ H
 |(.ct,ρ)=>∀σ,ER K m H ρ σ→D.ct σ H
 |(.rt d,_)=>∀v,DV K m H d v→D.rt v H
def PostS (K:PySem.W.Frag) (m:List Addr) (H:Hp) (E:XK) (D:Es):Out (Fl×Ai)→Prop
 |.ok a h'=>∀m' H',m <+:m'→Kp H H'→HR K m' h' H'→Rg K m' H' D a
 |.err C fs h'=>∀da m' H',m <+:m'→Kp H H'→HR K m' h' H'→XD K m' H' fs da→E C da H'
 |.stuck=>False
inductive NS (K:PySem.W.Frag) (E:XK) (g:MS) (D:Es) (σ:L2.St) (H:Hp):Prop where
 |mk (m:List Addr) (ρ:Ai) (h:HD) (hr:HR K m h H) (er:ER K m H ρ σ) (p:PostS K m H E D (g ρ h)):NS K E g D σ H
theorem PostS.ahead {K:PySem.W.Frag} {m m':List Addr} {H H':Hp} {E:XK} {D:Es} {o:Out (Fl×Ai)} (p:m <+:m') (k:Kp H H') (h:PostS K m H E D o):PostS K m' H' E D o:=by
 cases o with
 |ok a h'=>exact fun m2 H2 p2 k2=>h m2 H2 (p.trans p2) (k.trans k2)
 |err C fs h'=>exact fun da m2 H2 p2 k2=>h da m2 H2 (p.trans p2) (k.trans k2)
 |stuck=>exact h
abbrev Ev (X:Cx) (E:XK) (e:Expr) (f:ME):Prop:=PE X e (tD X.K E f)
abbrev DT (X:Cx) (E:XK) (e:Expr) (f:MT):Prop:=PT X e (E8 X.K E f)
abbrev DU (X:Cx) (E:XK) (es:List Expr) (f:MA):Prop:=PA X es (X0 X.K E f)
abbrev Ex (X:Cx) (E:XK) (st:Stmt) (g:MS):Prop:=PS X st (NS X.K E g)
abbrev AU (X:Cx) (E:XK) (sts:List Stmt) (g:MS):Prop:=Eu X sts (NS X.K E g)
section
variable {X:Cx}
theorem Cd {e:Expr} {t t':TE} (h:PE X e t) (i:∀σ H Q,t' σ H Q→t σ H Q):PE X e t':=fun pins s σ H Q I q=>h pins s σ H Q I (i σ H Q q)
theorem LZ {e:Expr} {t t':TT} (h:PT X e t) (i:∀σ H Q,t' σ H Q→t σ H Q):PT X e t':=fun pins s σ H Q I q=>h pins s σ H Q I (i σ H Q q)
theorem Rh {e:List Expr} {t t':TA} (h:PA X e t) (i:∀σ H Q,t' σ H Q→t σ H Q):PA X e t':=fun pos pins s σ H Q I q=>h pos pins s σ H Q I (i σ H Q q)
theorem EA {e:Stmt} {t t':TS} (h:PS X e t) (i:∀D σ H,t' D σ H→t D σ H):PS X e t':=fun pins s σ H D I q=>h pins s σ H D I (i D σ H q)
theorem Ri {e:List Stmt} {t t':TS} (h:Eu X e t) (i:∀D σ H,t' D σ H→t D σ H):Eu X e t':=fun pins s σ H D I q=>h pins s σ H D I (i D σ H q)
end
end LS
namespace LS
open PySem PySem.Spec PyProof.Rows L2
section
variable {X:Cx} {E:XK} {a b c:Expr} {pos:Pos} {f g k:ME}
def Aa (i:Nat):ME:=fun ρ h=>match ρ[i]? with
 |some (some d)=>.ok d h
 |_=>.stuck
theorem Ac {i:Nat} (h:PE X a (Nv i)):Ev X E a (Aa i):=Cd h fun σ H Q z1_=>by
 obtain ⟨m,ρ,hd,hr,er,p⟩:=z1_
 unfold Aa at p
 split at p
 ·rename_i d e
  obtain ⟨v,e1,r⟩:=er.2 i d e
  exact ⟨v,e1,p v m H (AC _) (.refl _) hr r⟩
 ·exact p.elim
def mC (d:D):ME:=fun _ h=>.ok d h
theorem J3 {d:D} {v:V} (h:PE X a (tC v)) (r:∀m H,DV X.K m H d v):Ev X E a (mC d):=Cd h fun σ H Q z2_=>by obtain ⟨m,ρ,hd,hr,er,p⟩:=z2_;exact (p v m H (AC _) (.refl _) hr (r m H))
theorem Al {i:Int} {j:Nat}:Ev X E (.Constant (.int i) j pos) (mC (.int i)):=J3 QC fun _ _=>by simp [DV]
theorem Cn {i:Bool} {j:Nat}:Ev X E (.Constant (.bool i) j pos) (mC (.bl i)):=J3 VB fun _ _=>by simp [DV]
theorem Hs {j:Nat}:Ev X E (.Constant .none j pos) (mC .non):=J3 VC fun _ _=>by simp [DV]
theorem NT {x:Str} {i:Int} {t:Tok} {pos:Pos} (hg:Gl X x) (hm:X.mg x=some (.int i t)) (hd:(x==("__debug__":Str))=false:=by decide):Ev X E (.Name x pos) (mC (.int i)):=
 J3 (VD (v:=.int i) hg hm ⟨t,rfl⟩ hd) fun _ _=>by simp [DV]
def Ah (op:D→D→HD→Out D) (f g:ME):ME:=fun ρ h=>(f ρ h).bind fun x h1=>(g ρ h1).bind fun y h2=>op x y h2
theorem J4 {op:D→D→HD→Out D} {Q:VK} {R:V→V→Hp→Prop} {σ:L2.St} {H:Hp} (h:tD X.K E (Ah op f g) σ H Q)
 (i:∀m H2 h2 x y v u,HR X.K m h2 H2→DV X.K m H2 x v→DV X.K m H2 y u→Post X.K (rD X.K) m H2 E Q (op x y h2)→R v u H2):tD X.K E f σ H fun v H1=>tD X.K E g σ H1 fun u H2=>R v u H2:=by
 obtain ⟨m,ρ,hd,hr,er,p⟩:=h
 refine ⟨m,ρ,hd,hr,er,Post.bind p fun x h1 v m1 H1 _ p1 k1 hr1 r1 q1=>?_⟩
 refine ⟨m1,ρ,h1,hr1,er.keep p1 k1,Post.bind q1 fun y h2 u m2 H2 _ p2 k2 hr2 r2 q2=>?_⟩
 exact i m2 H2 h2 x y v u hr2 (DV.keep p2 k2 r1) r2 q2
def BI (X:Cx) (f:Value→Value→Sem Value) (op:D→D→HD→Out D):Prop:=
 ∃r:R2,OpR X f r∧∀m H h E x y v u Q,HR X.K m h H→DV X.K m H x v→DV X.K m H y u→Post X.K (rD X.K) m H E Q (op x y h)→r v u H Q
theorem AN {o:Operator} {op:D→D→HD→Out D} (ho:BI X (binaryOp o) op) (ha:Ev X E a f) (hb:Ev X E b g):Ev X E (.BinOp a o b pos) (Ah op f g):=by
 obtain ⟨r,ho,i⟩:=ho
 exact Cd (Wr ho ha hb) fun σ H Q h=>J4 h fun m H2 h2 x y v u hr rx ry q=>i m H2 h2 E x y v u Q hr rx ry q
theorem D8 {o:CmpOp} {op:D→D→HD→Out D} (ho:BI X (compareOp o) op) (ha:Ev X E a f) (hb:Ev X E b g) (hm:behindInMarks o b=false):Ev X E (.Compare a [o] [b] pos) (Ah op f g):=by
 obtain ⟨r,ho,i⟩:=ho
 exact Cd (WC ho ha hb hm) fun σ H Q h=>J4 h fun m H2 h2 x y v u hr rx ry q=>i m H2 h2 E x y v u Q hr rx ry q
def J5:D→HD→Out Bool
 |.bl b,h=>.ok b h
 |_,_=>.stuck
def AO (f:ME):MT:=fun ρ h=>(f ρ h).bind J5
theorem Rj {m:List Addr} {H:Hp} {x:D} {v:V} {h:HD} {Q:Bool→Hp→Prop} (hr:HR X.K m h H) (r:DV X.K m H x v) (q:Post X.K rB m H E Q (J5 x h)):∃k,v=.bl k∧Q k H:=by
 cases x with
 |bl b=>
  simp only [DV] at r
  exact ⟨b,r,q b m H (AC _) (.refl _) hr rfl⟩
 |_=>exact q.elim
theorem Bw {o:CmpOp} {op:D→D→HD→Out D} (ho:BI X (compareOp o) op) (ha:Ev X E a f) (hb:Ev X E b g) (hm:behindInMarks o b=false):DT X E (.Compare a [o] [b] pos) (AO (Ah op f g)):=by
 obtain ⟨r,ho,i⟩:=ho
 refine LZ (WD ho ha hb hm) fun σ H Q h=>?_
 obtain ⟨m,ρ,hd,hr,er,p⟩:=h
 have h':tD X.K E (Ah op f g) σ H fun x H'=>∃k,x=.bl k∧Q k H':=
  ⟨m,ρ,hd,hr,er,Post.bind p fun x h1 v m1 H1 _ p1 k1 hr1 r1 q1=>Rj hr1 r1 q1⟩
 exact J4 h' fun m H2 h2 x y v u hr rx ry q=>i m H2 h2 E x y v u _ hr rx ry q
def EB:D→HD→Out Bool
 |.non,h=>.ok false h
 |.bl b,h=>.ok b h
 |.int i,h=>.ok (i != 0) h
 |.tup ds,h=>.ok (!ds.isEmpty) h
 |.loc l,h=>match h[l]? with
  |some (.lst ds)=>.ok (!ds.isEmpty) h
  |_=>.stuck
 |_,_=>.stuck
def B9 (f:ME):MT:=fun ρ h=>(f ρ h).bind EB
theorem Rk {α β:Type} {xs:List α} {ys:List β} (h:xs.length=ys.length):xs.isEmpty=ys.isEmpty:=by
 cases xs<;>cases ys<;>simp_all
theorem X3 {m:List Addr} {H:Hp} {x:D} {v:V} {h:HD} {Q:Bool→Hp→Prop} (hr:HR X.K m h H) (r:DV X.K m H x v) (q:Post X.K rB m H E Q (EB x h)):∃k,NI X.K v H k∧Q k H:=by
 have go:∀k,EB x h=.ok k h→Q k H:=fun k e=>by rw [e] at q;exact q k m H (AC _) (.refl _) hr rfl
 cases x with
 |non=>simp only [DV] at r;subst r;exact ⟨false,rfl,go _ rfl⟩
 |bl b=>simp only [DV] at r;subst r;exact ⟨b,rfl,go _ rfl⟩
 |int i=>simp only [DV] at r;subst r;exact ⟨_,rfl,go _ rfl⟩
 |str x=>exact q.elim
 |tup ds=>
  simp only [DV] at r
  obtain ⟨p,vs,rfl,hp,dv⟩:=r
  exact ⟨_,.inr ⟨vs,SqT.of hp,rfl⟩,by rw [←Rk dv.len];exact go _ rfl⟩
 |loc l=>
  simp only [DV] at r
  obtain ⟨p,rfl,hp⟩:=r
  simp only [EB] at q
  split at q
  ·rename_i ds e
   obtain ⟨vs,e1,dv⟩:=hr.cells l _ p e hp
   exact ⟨_,.inl ⟨vs,SqL.of e1,rfl⟩,by rw [←Rk dv.len];exact q _ m H (AC _) (.refl _) hr rfl⟩
  ·exact q.elim
 |scr ns=>exact q.elim
 |adr a=>exact q.elim
 |ty a=>exact q.elim
 |exc n fs=>exact q.elim
 |edic=>exact q.elim
 |glo n=>exact q.elim
 |clo a vs ds=>exact q.elim
theorem CK (ha:Ev X E a f) (he:∀FT,isTrue a X.env FT=(do let v ←FT;standAt a.pos;holding [v] (truthy v)):=by intro _;rfl):DT X E a (B9 f):=
 LZ (WI ha he) fun σ H Q z3_=>by obtain ⟨m,ρ,hd,hr,er,p⟩:=z3_;exact (⟨m,ρ,hd,hr,er,Post.bind p fun x h1 v m1 H1 _ p1 k1 hr1 r1 q1=>X3 hr1 r1 q1⟩)
variable {tf tg:MT} {rest:List Expr}
def Gm (f g:MT):MT:=fun ρ h=>(f ρ h).bind fun b h1=>if b=true then g ρ h1 else .ok false h1
def Ce (f g:MT):MT:=fun ρ h=>(f ρ h).bind fun b h1=>if b=true then .ok true h1 else g ρ h1
def Cf (f:MT):MT:=fun ρ h=>(f ρ h).bind fun b h1=>.ok (!b) h1
abbrev Ht (X:Cx) (E:XK) (e:Expr) (f:MT):Prop:=PW X e (E8 X.K E f)
theorem Rl {e:Expr} {t t':TT} (h:PW X e t) (i:∀σ H Q,t' σ H Q→t σ H Q):PW X e t':=fun wh pins s σ H Q I q=>h wh pins s σ H Q I (i σ H Q q)
theorem Rm (ha:DT X E a tf):Ht X E (.BoolOp .And [a] pos) tf:=VI ha
theorem ED (ha:DT X E a tf):Ht X E (.BoolOp .Or [a] pos) tf:=VJ ha
theorem Rn (ha:DT X E a tf) (hb:Ht X E (.BoolOp .And (b::rest) pos) tg):Ht X E (.BoolOp .And (a::b::rest) pos) (Gm tf tg):=
 Rl (VL ha hb) fun σ H Q z4_=>by obtain ⟨m,ρ,hd,hr,er,p⟩:=z4_;exact (⟨m,ρ,hd,hr,er,Post.bind p fun x h1 v m1 H1 _ p1 k1 hr1 r1 q1=>by
  cases r1
  cases x with
  |true=>exact ⟨m1,ρ,h1,hr1,er.keep p1 k1,q1⟩
  |false=>exact q1 false m1 H1 (AC _) (.refl _) hr1 rfl⟩)
theorem D9 (ha:DT X E a tf) (hb:Ht X E (.BoolOp .Or (b::rest) pos) tg):Ht X E (.BoolOp .Or (a::b::rest) pos) (Ce tf tg):=
 Rl (VM ha hb) fun σ H Q z5_=>by obtain ⟨m,ρ,hd,hr,er,p⟩:=z5_;exact (⟨m,ρ,hd,hr,er,Post.bind p fun x h1 v m1 H1 _ p1 k1 hr1 r1 q1=>by
  cases r1
  cases x with
  |false=>exact ⟨m1,ρ,h1,hr1,er.keep p1 k1,q1⟩
  |true=>exact q1 true m1 H1 (AC _) (.refl _) hr1 rfl⟩)
theorem DW (h:Ht X E a tf):DT X E a tf:=PW.pt h
theorem CS (ha:DT X E a tf):DT X E (.UnaryOp .Not a pos) (Cf tf):=
 LZ (VN ha) fun σ H Q z6_=>by obtain ⟨m,ρ,hd,hr,er,p⟩:=z6_;exact (⟨m,ρ,hd,hr,er,Post.bind p fun x h1 v m1 H1 _ p1 k1 hr1 r1 q1=>by
  cases r1
  exact q1 _ m1 H1 (AC _) (.refl _) hr1 rfl⟩)
def Gn (f g:ME):ME:=fun ρ h=>(f ρ h).bind fun x h1=>match x with
 |.bl true=>g ρ h1
 |.bl false=>.ok (.bl false) h1
 |_=>.stuck
def Ro (f g:ME):ME:=fun ρ h=>(f ρ h).bind fun x h1=>match x with
 |.bl true=>.ok (.bl true) h1
 |.bl false=>g ρ h1
 |_=>.stuck
def L0 (f:ME):ME:=fun ρ h=>(f ρ h).bind fun x h1=>match x with
 |.bl b=>.ok (.bl (!b)) h1
 |_=>.stuck
theorem Jq {o:BoolOp} (h:Ev X E a f):Ev X E (.BoolOp o [a] pos) f:=VQ h
theorem Jr (ha:Ev X E a f) (hb:Ev X E (.BoolOp .And (b::rest) pos) g):Ev X E (.BoolOp .And (a::b::rest) pos) (Gn f g):=
 Cd (VR ha hb) fun σ H Q ⟨m,ρ,hd,hr,er,p⟩=>⟨m,ρ,hd,hr,er,Post.bind p fun x h1 v m1 H1 _ p1 k1 hr1 r1 q1=>by
  cases x with
  |bl b=>
   refine ⟨b,by simpa [rD,DV] using r1,?_⟩
   cases b with
   |true=>exact ⟨m1,ρ,h1,hr1,er.keep p1 k1,q1⟩
   |false=>exact q1 _ m1 H1 (AC _) (.refl _) hr1 (by simp [rD,DV])
  |_=>exact q1.elim⟩
theorem X4 (ha:Ev X E a f):Ev X E (.UnaryOp .Not a pos) (L0 f):=
 Cd (VS ha) fun σ H Q z9_=>by obtain ⟨m,ρ,hd,hr,er,p⟩:=z9_;exact (⟨m,ρ,hd,hr,er,Post.bind p fun x h1 v m1 H1 _ p1 k1 hr1 r1 q1=>by
  cases x with
  |bl b=>exact ⟨b,by simpa [rD,DV] using r1,q1 _ m1 H1 (AC _) (.refl _) hr1 (by simp [rD,DV])⟩
  |_=>exact q1.elim⟩)
def Js (t:MT) (f g:ME):ME:=fun ρ h=>(t ρ h).bind fun b h1=>if b=true then f ρ h1 else g ρ h1
theorem NU (hc:DT X E c tf) (ha:Ev X E a f) (hb:Ev X E b g):Ev X E (.IfExp c a b pos) (Js tf f g):=
 Cd (VU hc ha hb) fun σ H Q z10_=>by obtain ⟨m,ρ,hd,hr,er,p⟩:=z10_;exact (⟨m,ρ,hd,hr,er,Post.bind p fun x h1 v m1 H1 _ p1 k1 hr1 r1 q1=>by
  cases r1
  cases x with
  |true=>exact ⟨m1,ρ,h1,hr1,er.keep p1 k1,q1⟩
  |false=>exact ⟨m1,ρ,h1,hr1,er.keep p1 k1,q1⟩⟩)
def FD (op op':D→D→HD→Out D) (f g k:ME):ME:=fun ρ h=>(f ρ h).bind fun x h1=>(g ρ h1).bind fun y h2=>(op x y h2).bind fun z h3=>match z with
 |.bl true=>(k ρ h3).bind fun w h4=>op' y w h4
 |.bl false=>.ok (.bl false) h3
 |_=>.stuck
theorem Rq {r r':R2} {op op':D→D→HD→Out D} {o o':Value→Value→Sem Value} (i:∀m H h E x y v u Q,HR X.K m h H→DV X.K m H x v→DV X.K m H y u→Post X.K (rD X.K) m H E Q (op x y h)→r v u H Q)
 (i':∀m H h E x y v u Q,HR X.K m h H→DV X.K m H x v→DV X.K m H y u→Post X.K (rD X.K) m H E Q (op' x y h)→r' v u H Q) {σ:L2.St} {H:Hp} {Q:VK} (h:tD X.K E (FD op op' f g k) σ H Q):
 NH r r' (tD X.K E f) (tD X.K E g) (tD X.K E k) σ H Q:=by
 obtain ⟨m,ρ,hd,hr,er,p⟩:=h
 refine ⟨m,ρ,hd,hr,er,Post.bind p fun x h1 v m1 H1 _ p1 k1 hr1 r1 q1=>?_⟩
 refine ⟨m1,ρ,h1,hr1,er.keep p1 k1,Post.bind q1 fun y h2 u m2 H2 _ p2 k2 hr2 r2 q2=>?_⟩
 refine i m2 H2 h2 E x y v u _ hr2 (DV.keep p2 k2 r1) r2 (Post.bind q2 fun z h3 w m3 H3 _ p3 k3 hr3 r3 q3=>?_)
 cases z with
 |bl b=>
  refine ⟨b,by simpa [rD,DV] using r3,?_⟩
  cases b with
  |false=>exact q3 _ m3 H3 (AC _) (.refl _) hr3 (by simp [rD,DV])
  |true=>
   refine ⟨m3,ρ,h3,hr3,((er.keep p1 k1).keep p2 k2).keep p3 k3,Post.bind q3 fun z h4 w' m4 H4 _ p4 k4 hr4 r4 q4=>?_⟩
   exact i' m4 H4 h4 E y z u w' Q hr4 (DV.keep p4 k4 (DV.keep p3 k3 r2)) r4 q4
 |_=>exact q3.elim
theorem Rr {o o':CmpOp} {op op':D→D→HD→Out D} (ho:BI X (compareOp o) op) (ho':BI X (compareOp o') op') (ha:Ev X E a f) (hb:Ev X E b g) (hc:Ev X E c k)
 (hm:lastMarks [o,o'] [b,c]=false:=by with_unfolding_all rfl):Ev X E (.Compare a [o,o'] [b,c] pos) (FD op op' f g k):=by
 obtain ⟨r,ho,i⟩:=ho
 obtain ⟨r',ho',i'⟩:=ho'
 exact Cd (WE ho ho' ha hb hc hm) fun σ H Q h=>Rq (o:=compareOp o) (o':=compareOp o') i i' h
theorem Rt {o o':CmpOp} {op op':D→D→HD→Out D} (ho:BI X (compareOp o) op) (ho':BI X (compareOp o') op') (ha:Ev X E a f) (hb:Ev X E b g) (hc:Ev X E c k)
 (hm:lastMarks [o,o'] [b,c]=false:=by with_unfolding_all rfl):DT X E (.Compare a [o,o'] [b,c] pos) (AO (FD op op' f g k)):=by
 obtain ⟨r,ho,i⟩:=ho
 obtain ⟨r',ho',i'⟩:=ho'
 refine LZ (WG ho ho' ha hb hc hm) fun σ H Q h=>?_
 obtain ⟨m,ρ,hd,hr,er,p⟩:=h
 exact Rq (o:=compareOp o) (o':=compareOp o') i i' ⟨m,ρ,hd,hr,er,Post.bind p fun x h1 v m1 H1 _ p1 k1 hr1 r1 q1=>Rj hr1 r1 q1⟩
variable {es:List Expr} {fa:MA}
def Ae:MA:=fun _ h=>.ok [] h
def Ab (f:ME) (r:MA):MA:=fun ρ h=>(f ρ h).bind fun x h1=>(r ρ h1).bind fun xs h2=>.ok (x::xs) h2
theorem Ag:DU X E [] Ae:=Rh WR fun σ H Q z11_=>by obtain ⟨m,ρ,hd,hr,er,p⟩:=z11_;exact (p [] m H (AC _) (.refl _) hr .nil)
theorem Ad (ha:Ev X E a f) (hr:DU X E es fa) (hs:starEach (a::es) X.env=(false,eval a X.env)::starEach es X.env:=by rfl):DU X E (a::es) (Ab f fa):=
 Rh (WS ha hr hs) fun σ H Q z12_=>by obtain ⟨m,ρ,hd,hr,er,p⟩:=z12_;exact (⟨m,ρ,hd,hr,er,Post.bind p fun x h1 v m1 H1 _ p1 k1 hr1 r1 q1=>
  ⟨m1,ρ,h1,hr1,er.keep p1 k1,Post.bind q1 fun xs h2 vs m2 H2 _ p2 k2 hr2 r2 q2=>q2 _ m2 H2 (AC _) (.refl _) hr2 (DVs.cons (DV.keep p2 k2 r1) r2)⟩⟩)
def BO (fa:MA):ME:=fun ρ h=>(fa ρ h).bind fun xs h1=>if xs.length≤sizeLine then .ok (.tup xs) h1 else .stuck
def Du (xs:List D) (h:HD):Out D:=if xs.length≤sizeLine then .ok (.loc h.length) (h++[.lst xs]) else .stuck
def Ea (fa:MA):ME:=fun ρ h=>(fa ρ h).bind Du
theorem Hu {m:List Addr} {H:Hp} {h:HD} {xs:List D} {vs:List V} {Q:VK} (hr:HR X.K m h H) (r:DVs X.K m H xs vs) (q:Post X.K (rD X.K) m H E Q (.ok (.tup xs) h)):∀p,H p=none→Q (.ref p) (Az H p (.tup vs)):=fun p hp=>
 q (.ref p) m _ (AC _) (.new hp) (hr.new hp) (by simp only [rD,DV];exact ⟨p,vs,rfl,Cz,r.keep (AC _) (.new hp)⟩)
theorem J6 {m:List Addr} {H:Hp} {h:HD} {xs:List D} {vs:List V} {Q:VK} (hr:HR X.K m h H) (r:DVs X.K m H xs vs) (q:Post X.K (rD X.K) m H E Q (Du xs h)):vs.length≤sizeLine∧∀p,H p=none→Q (.ref p) (Az H p (.lst vs)):=by
 unfold Du at q
 by_cases hz:xs.length≤sizeLine
 ·rw [if_pos hz] at q
  refine ⟨by rw [←r.len];exact hz,fun p hp=>?_⟩
  refine q (.ref p) (m++[p]) _ (Gg _ _) (.new hp) (hr.newCell hp ⟨vs,Cz,r.keep (Gg _ _) (.new hp)⟩) ?_
  simp only [rD,DV]
  exact ⟨p,rfl,by rw [←hr.len];simp⟩
 ·rw [if_neg hz] at q;exact q.elim
theorem Co {x1:Nat} (h:DU X E es fa):Ev X E (.Tuple es x1 pos) (BO fa):=
 Cd (WV h) fun σ H Q z13_=>by obtain ⟨m,ρ,hd,hr,er,p⟩:=z13_;exact (⟨m,ρ,hd,hr,er,Post.bind p fun xs h1 vs m1 H1 _ p1 k1 hr1 r1 q1=>by
  by_cases hz:xs.length≤sizeLine
  ·rw [if_pos hz] at q1
   exact ⟨by rw [←DVs.len r1];exact hz,Hu hr1 r1 q1⟩
  ·rw [if_neg hz] at q1;exact q1.elim⟩)
theorem FE (h:DU X E es fa):Ev X E (.List es pos) (Ea fa):=
 Cd (WW h) fun σ H Q z14_=>by obtain ⟨m,ρ,hd,hr,er,p⟩:=z14_;exact (⟨m,ρ,hd,hr,er,Post.bind p fun xs h1 vs m1 H1 _ p1 k1 hr1 r1 q1=>J6 hr1 r1 q1⟩)
inductive NV (K:PySem.W.Frag) (F:List D→HD→Out D) (vs:List V) (H:Hp) (Q:VK) (E:XK):Prop where
 |mk (m:List Addr) (ds:List D) (h:HD) (hr:HR K m h H) (r:DVs K m H ds vs) (p:Post K (rD K) m H E0 Q (F ds h)):NV K F vs H Q E
def Ar (n:Nat) (F:List D→HD→Out D):Prop:=∀ds h,ds.length≠n→F ds h=.stuck
theorem Ar.len {K:PySem.W.Frag} {n:Nat} {F:List D→HD→Out D} (ar:Ar n F) {vs:List V} {H:Hp} {Q:VK} {E':XK} (h:NV K F vs H Q E'):vs.length=n:=by
 obtain ⟨m,ds,hd,hr,r,p⟩:=h
 rw [←r.len]
 by_cases e:ds.length=n
 ·exact e
 ·rw [ar ds hd e] at p;exact p.elim
def ar0 (F:HD→Out D):List D→HD→Out D:=fun ds h=>match ds with
 |[]=>F h
 |_=>.stuck
def Au (F:D→HD→Out D):List D→HD→Out D:=fun ds h=>match ds with
 |[a]=>F a h
 |_=>.stuck
def Cg (F:D→D→HD→Out D):List D→HD→Out D:=fun ds h=>match ds with
 |[a,b]=>F a b h
 |_=>.stuck
def X5 (F:D→D→D→HD→Out D):List D→HD→Out D:=fun ds h=>match ds with
 |[a,b,c]=>F a b c h
 |_=>.stuck
def Af (F:List D→HD→Out D) (fa:MA):ME:=fun ρ h=>(fa ρ h).bind F
def DX (X:Cx) (f:Value) (F:List D→HD→Out D):Prop:=
 ∃r:List V→Hp→VK→Prop,DS X f r∧∀m H h E ds vs Q,HR X.K m h H→DVs X.K m H ds vs→Post X.K (rD X.K) m H E Q (F ds h)→r vs H Q
theorem A8 {id:String} {F:List D→HD→Out D} {x:Str} {p pos:Pos} {e:Expr} (hc:DX X (.builtin id) F) (hg:Gl X x) (hm:X.mg x=none) (hv:bootBuiltins x=some (.builtin id)) (ha:DU X E (e::es) fa) (hn:x≠"__name__":=by decide) (hdb:(x==("__debug__":Str))=false:=by decide)
 (hs:starEach (e::es) X.env=(false,eval e X.env)::starEach es X.env:=by rfl) (hpl:(backTo pos (starEach es X.env)).any (·.1)=false:=by rfl):Ev X E (.Call (.Name x p) (e::es) [] pos) (Af F fa):=by
 obtain ⟨r,hc,i⟩:=hc
 exact Cd (W2 hc hg hm hv ha hn hdb hs hpl) fun σ H Q z17_=>by obtain ⟨m,ρ,hd,hr,er,p⟩:=z17_;exact (⟨m,ρ,hd,hr,er,Post.bind p fun xs h1 vs m1 H1 e1 p1 k1 hr1 r1 q1=>i m1 H1 h1 E xs vs Q hr1 r1 q1⟩)
theorem Dv {id:String} {F:List D→HD→Out D} {x:Str} {p pos:Pos} {e:Expr} (hc:DX X (.type id) F) (hg:Gl X x) (hm:X.mg x=none) (hv:bootBuiltins x=some (.type id)) (ha:DU X E (e::es) fa) (hn:x≠"__name__":=by decide) (hdb:(x==("__debug__":Str))=false:=by decide)
 (hs:starEach (e::es) X.env=(false,eval e X.env)::starEach es X.env:=by rfl) (hpl:(backTo pos (starEach es X.env)).any (·.1)=false:=by rfl):Ev X E (.Call (.Name x p) (e::es) [] pos) (Af F fa):=by
 obtain ⟨r,hc,i⟩:=hc
 exact Cd (W3 hc hg hm hv ha hn hdb hs hpl) fun σ H Q z18_=>by obtain ⟨m,ρ,hd,hr,er,p⟩:=z18_;exact (⟨m,ρ,hd,hr,er,Post.bind p fun xs h1 vs m1 H1 e1 p1 k1 hr1 r1 q1=>i m1 H1 h1 E xs vs Q hr1 r1 q1⟩)
end
section
variable {X:Cx} {E:XK}
theorem Bt {K:PySem.W.Frag} {m:List Addr} {H:Hp} {h:HD} {d:D} {v:V} {Q:VK} (hr:HR K m h H) (q:Post K (rD K) m H E Q (.ok d h)) (r:DV K m H d v):Q v H:=q v m H (AC _) (.refl _) hr r
theorem op_catT0:OpR X (binaryOp .Add) (fun x y H Q=>∃a b ys,x=.ref a∧y=.ref b∧SqT X.K H a []∧SqT X.K H b ys∧Q (.ref b) H):=by
 intro pins s σ H x y v u Q I rx ry h
 obtain ⟨a,b,ys,rfl,rfl,ha,hb,q⟩:=h
 cases rx
 cases ry
 obtain ⟨its,r1,p1,_⟩:=I.tuple ha
 obtain ⟨its2,r2,p2,_⟩:=I.tuple hb
 cases r1
 obtain ⟨⟨cls,dd,data,sl⟩,ho,hc,n,hd⟩:=id p1
 obtain ⟨⟨cls2,dd2,data2,sl2⟩,ho2,hc2,n2,hd2⟩:=id p2
 simp only at hc hd hc2 hd2
 subst hc hd hc2 hd2
 exact concat_meets ⟨_,ho,rfl⟩ ⟨_,ho2,rfl⟩ noFill_tuple_add seq_tuple_add PySem.F.slot_tuple_add PySem.F.entry_tuple_add (PySem.F.args_tuple_add_2 _ _)
  (tuple_addW0 a b _ its2.toArray n n2 dd dd2 sl sl2 (by simp)) ⟨ho,ho2,⟨.ref b,H,I,rfl,q⟩⟩
def AV:D→D→HD→Out D
 |.int i,.int j,h=>.ok (.int (i+j)) h
 |.str x,.str y,h=>if x.length+y.length≤sizeLine then .ok (.str (x++y)) h else .stuck
 |.tup xs,.tup ys,h=>if xs.length+ys.length≤sizeLine then .ok (.tup (xs++ys)) h else .stuck
 |.loc l,.loc k,h=>match h[l]?,h[k]? with
  |some (.lst xs),some (.lst ys)=>Du (xs++ys) h
  |_,_=>.stuck
 |_,_,_=>.stuck
theorem BJ:BI X (binaryOp .Add) AV:=by
 refine ⟨_,op_add.or (op_catT0.or (op_catT.or (op_cat.or WJ))),fun m H h E x y v u Q hr rx ry q=>?_⟩
 unfold AV at q
 split at q
 ·simp only [DV] at rx ry
  subst rx ry
  exact .inl ⟨_,_,rfl,rfl,Bt hr q (by simp [DV])⟩
 ·simp only [DV] at rx ry
  subst rx ry
  split at q
  ·rename_i hz
   exact .inr (.inr (.inr (.inr ⟨_,_,rfl,rfl,hz,Bt hr q (by simp [DV])⟩)))
  ·exact q.elim
 ·rename_i xs ys
  simp only [DV] at rx ry
  obtain ⟨a,vs,rfl,ha,dx⟩:=rx
  obtain ⟨b,ws,rfl,hb,dy⟩:=ry
  split at q
  ·rename_i hz
   cases xs with
   |nil=>
    simp only [DVs] at dx
    subst dx
    exact .inr (.inl ⟨a,b,ws,rfl,rfl,SqT.of ha,SqT.of hb,Bt hr q (by simp only [DV];exact ⟨b,ws,rfl,hb,dy⟩)⟩)
   |cons x xs=>
    refine .inr (.inr (.inl ⟨a,b,vs,ws,rfl,rfl,SqT.of ha,SqT.of hb,?_,by rw [←dx.len,←dy.len];exact hz,fun e=>?_,fun e=>?_⟩))
    ·intro e;have:=dx.len;rw [e] at this;simp at this
    ·subst e
     have:ys=[]:=by have:=dy.len;simpa using this
     subst this
     exact Bt hr q (by simp only [DV];exact ⟨a,vs,rfl,ha,by simpa using dx⟩)
    ·exact Hu hr (dx.app dy) q
  ·exact q.elim
 ·simp only [DV] at rx ry
  obtain ⟨a,rfl,ha⟩:=rx
  obtain ⟨b,rfl,hb⟩:=ry
  split at q
  ·rename_i xs ys e1 e2
   obtain ⟨vs,h1,d1⟩:=hr.cells _ _ a e1 ha
   obtain ⟨ws,h2,d2⟩:=hr.cells _ _ b e2 hb
   obtain ⟨z,q'⟩:=J6 hr (d1.app d2) q
   exact .inr (.inr (.inr (.inl ⟨a,b,vs,ws,rfl,rfl,h1,h2,by simpa using z,q'⟩)))
  ·exact q.elim
 ·exact q.elim
def Hv (f:Int→Int→D) (c:Int→Int→Prop) [∀i j,Decidable (c i j)]:D→D→HD→Out D
 |.int i,.int j,h=>if c i j then .ok (f i j) h else .stuck
 |_,_,_=>.stuck
theorem Ru {o:Value→Value→Sem Value} {f:Int→Int→V} {g:Int→Int→D} {c c':Int→Int→Prop} [∀i j,Decidable (c' i j)] (h:OpR X o (rI c f)) (hc:∀i j,c' i j→c i j) (hg:∀m H i j,DV X.K m H (g i j) (f i j)):BI X o (Hv g c'):=by
 refine ⟨_,h,fun m H h E x y v u Q hr rx ry q=>?_⟩
 unfold Hv at q
 split at q
 ·simp only [DV] at rx ry
  subst rx ry
  split at q
  ·rename_i hc'
   exact ⟨_,_,rfl,rfl,hc _ _ hc',Bt hr q (hg _ _ _ _)⟩
  ·exact q.elim
 ·exact q.elim
def GQ (f:Int→Int→D):D→D→HD→Out D
 |.int i,.int j,h=>.ok (f i j) h
 |_,_,_=>.stuck
theorem L1 {o:Value→Value→Sem Value} {f:Int→Int→V} {g:Int→Int→D} (h:OpR X o (GP f)) (hg:∀m H i j,DV X.K m H (g i j) (f i j)):BI X o (GQ g):=by
 refine ⟨_,h,fun m H h E x y v u Q hr rx ry q=>?_⟩
 unfold GQ at q
 split at q
 ·simp only [DV] at rx ry
  subst rx ry
  exact ⟨_,_,rfl,rfl,Bt hr q (hg _ _ _ _)⟩
 ·exact q.elim
abbrev FG:=GQ fun i j=>.int (i - j)
theorem GR:BI X (binaryOp .Sub) FG:=L1 Ws fun _ _ _ _=>by simp [DV]
abbrev GS:=GQ fun i j=>.bl (decide (i<j))
abbrev Hw:=GQ fun i j=>.bl (decide (i≤j))
abbrev J7:=GQ fun i j=>.bl (decide (j<i))
theorem Jt:BI X (compareOp .Lt) GS:=L1 Wx fun _ _ _ _=>by simp [DV]
theorem J8:BI X (compareOp .LtE) Hw:=L1 Wy fun _ _ _ _=>by simp [DV]
theorem NW:BI X (compareOp .Gt) J7:=L1 Wz fun _ _ _ _=>by simp [DV]
instance (i j:Int):Decidable (CMul i j):=by unfold CMul;infer_instance
instance (i j:Int):Decidable (QM i j):=by unfold QM;infer_instance
instance (i j:Int):Decidable (NG i j):=by unfold NG;infer_instance
abbrev Dw:=Hv (fun i j=>.int (i % j)) fun _ j=>0<j
theorem FH:BI X (binaryOp .Mod) Dw:=Ru Wt (fun _ _ h=>h) fun _ _ _ _=>by simp [DV]
abbrev Zfu:=Hv (fun i j=>.int (i^j.toNat)) NG
def Zfv:D→D→HD→Out D
 |.int i,.int j,h=>if CMul i j then .ok (.int (i*j)) h else .stuck
 |.loc l,.int k,h=>match h[l]? with
  |some (.lst xs)=>if -(2^63)≤k∧k<2^63 then Du (List.replicate k.toNat xs).flatten h else .stuck
  |_=>.stuck
 |_,_,_=>.stuck
theorem op_isB:OpR X (compareOp .Is) (fun x y H Q=>∃b c,x=.bl b∧y=.bl c∧Q (.bl (b==c)) H):=by
 intro pins s σ H x y v u Q I rx ry h
 obtain ⟨b,c,rfl,rfl,q⟩:=h
 cases rx
 cases ry
 exact wpAny_is_plain rfl ⟨.bl _,H,I,by cases b<;>cases c<;>rfl,q⟩
theorem op_isnotB:OpR X (compareOp .IsNot) (fun x y H Q=>∃b c,x=.bl b∧y=.bl c∧Q (.bl (!(b==c))) H):=by
 intro pins s σ H x y v u Q I rx ry h
 obtain ⟨b,c,rfl,rfl,q⟩:=h
 cases rx
 cases ry
 exact wpAny_isNot_plain rfl ⟨.bl _,H,I,by cases b<;>cases c<;>rfl,q⟩
def J9:D→Bool
 |.non=>true
 |_=>false
def Gp:D→D→HD→Out D
 |.bl b,.bl c,h=>.ok (.bl (b==c)) h
 |x,.non,h=>.ok (.bl (J9 x)) h
 |_,_,_=>.stuck
def Eb:D→D→HD→Out D
 |.bl b,.bl c,h=>.ok (.bl (!(b==c))) h
 |x,.non,h=>.ok (.bl (!J9 x)) h
 |_,_,_=>.stuck
theorem Rv {m:List Addr} {H:Hp} {x:D} {v:V} (r:DV X.K m H x v):decide (v=.non)=J9 x:=by
 cases x<;>simp only [DV] at r<;>first |(subst r;rfl) |(obtain ⟨_,rfl,_⟩:=r;rfl) |(obtain ⟨_,_,rfl,_⟩:=r;rfl) |(obtain ⟨_,_,_,rfl,_⟩:=r;rfl) |(obtain ⟨rfl,_⟩:=r;rfl)
theorem Rw:BI X (compareOp .Is) Gp:=by
 refine ⟨_,op_isB.or WA,fun m H h E x y v u Q hr rx ry q=>?_⟩
 unfold Gp at q
 split at q
 ·simp only [DV] at rx ry
  subst rx ry
  exact .inl ⟨_,_,rfl,rfl,Bt hr q (by simp [DV])⟩
 ·simp only [DV] at ry
  subst ry
  exact .inr ⟨rfl,Bt hr q (by simp [DV,Rv rx])⟩
 ·exact q.elim
theorem NX:BI X (compareOp .IsNot) Eb:=by
 refine ⟨_,op_isnotB.or WB,fun m H h E x y v u Q hr rx ry q=>?_⟩
 unfold Eb at q
 split at q
 ·simp only [DV] at rx ry
  subst rx ry
  exact .inl ⟨_,_,rfl,rfl,Bt hr q (by simp [DV])⟩
 ·simp only [DV] at ry
  subst ry
  exact .inr ⟨rfl,Bt hr q (by simp [DV,Rv rx])⟩
 ·exact q.elim
end
def Bk {α:Type}:List (Option α)→Option (List α)
 |[]=>some []
 |none::_=>none
 |some a::r=>(Bk r).map (a::·)
def A6 (h:HD):Nat→D→Option PyData
 |_,.non=>some .none
 |_,.bl b=>some (.bool b)
 |_,.int i=>some (.int i)
 |_,.str x=>some (.str x)
 |n+1,.tup ds=>(Bk (ds.map (A6 h n))).map .tuple
 |n+1,.loc l=>match h[l]? with
  |some (.lst ds)=>(Bk (ds.map (A6 h n))).map .list
  |_=>none
 |_,_=>none
section
variable {X:Cx} {E:XK} {pins:List (Addr×Obj)} {σ:L2.St} {H:Hp} {s:Shared} {m:List Addr} {h:HD}
theorem NY {n:Nat} (ih:∀(d:D) (v:V) (u:Value) (p:PyData),DV X.K m H d v→RelV v u→A6 h n d=some p→∃as,Reads s.heap u p as):
 ∀(ds:List D) (vs:List V) (us:List Value) (ps:List PyData),DVs X.K m H ds vs→Vals vs us→Bk (ds.map (A6 h n))=some ps→∃as,ReadsAll s.heap us ps as
 |[],vs,us,ps,r,q,e=>by
  simp only [DVs] at r
  subst r
  cases q
  simp [Bk] at e
  subst e
  exact ⟨[],.nil⟩
 |d::ds,vs,us,ps,r,q,e=>by
  simp only [DVs] at r
  obtain ⟨v,w,rfl,rv,rw'⟩:=r
  cases q with
  |cons q1 q2=>
   rw [Br] at e
   cases ed:A6 h n d with
   |none=>rw [ed] at e;simp [Bk] at e
   |some p=>
    rw [ed] at e
    simp only [Bk,qb5] at e
    obtain ⟨ps',e1,rfl⟩:=e
    obtain ⟨as,h1⟩:=ih d v _ p rv q1 ed
    obtain ⟨bs,h2⟩:=NY ih ds w _ ps' rw' q2 e1
    exact ⟨as++bs,.cons h1 h2⟩
theorem Rx (hok:HOk X.prog X.w H s.heap) (hr:HR X.K m h H):∀(n:Nat) (d:D) (v:V) (u:Value) (p:PyData),DV X.K m H d v→RelV v u→A6 h n d=some p→∃as,Reads s.heap u p as:=by
 intro n
 induction n with
 |zero=>
  intro d v u p r q e
  cases d<;>simp only [A6,DV,Option.some.injEq] at e r<;>try (cases e;done)
  ·subst e r;cases q;exact ⟨[],.none⟩
  ·subst e r;cases q;exact ⟨[],.bool _⟩
  ·subst e r;obtain ⟨t,rfl⟩:=q;exact ⟨[],.int _ _⟩
  ·subst e r;obtain ⟨t,rfl⟩:=q;exact ⟨[],.str _ _⟩
 |succ n ih=>
  intro d v u p r q e
  cases d with
  |non=>simp only [A6,DV,Option.some.injEq] at e r;subst e r;cases q;exact ⟨[],.none⟩
  |bl b=>simp only [A6,DV,Option.some.injEq] at e r;subst e r;cases q;exact ⟨[],.bool _⟩
  |int i=>simp only [A6,DV,Option.some.injEq] at e r;subst e r;obtain ⟨t,rfl⟩:=q;exact ⟨[],.int _ _⟩
  |str x=>simp only [A6,DV,Option.some.injEq] at e r;subst e r;obtain ⟨t,rfl⟩:=q;exact ⟨[],.str _ _⟩
  |tup ds=>
   simp only [A6,DV,qb5] at e r
   obtain ⟨a,vs,rfl,ha,dv⟩:=r
   obtain ⟨ps,e1,rfl⟩:=e
   cases q
   obtain ⟨_,its,rv,⟨o,ho,hc,k,hd⟩,_⟩:=hok a _ ha
   obtain ⟨as,h1⟩:=NY ih ds vs its ps dv rv e1
   exact ⟨as,.tuple ho hc hd (by simpa using h1)⟩
  |loc l=>
   simp only [DV] at r
   obtain ⟨a,rfl,ha⟩:=r
   cases q
   simp only [A6] at e
   split at e
   ·rename_i ds el
    simp only [qb5] at e
    obtain ⟨ps,e1,rfl⟩:=e
    obtain ⟨vs,hv,dv⟩:=hr.cells l _ a el ha
    obtain ⟨_,its,k,rv,ho⟩:=hok a _ hv
    obtain ⟨as,h1⟩:=NY ih ds vs its ps dv rv e1
    exact ⟨_,.list ho rfl rfl (by simpa using h1)⟩
   ·cases e
  |scr ns=>simp [A6] at e
  |adr a=>simp [A6] at e
  |ty a=>simp [A6] at e
  |exc n fs=>simp [A6] at e
  |edic=>simp [A6] at e
  |glo n=>simp [A6] at e
  |clo a vs ds=>simp [A6] at e
def Gq (f:PyData→PyData→Bool):D→D→HD→Out D:=fun x y h=>match A6 h 8 x,A6 h 8 y with
 |some p,some q=>if SeqAt.shaped p=true∧SeqAt.shaped q=true then .ok (.bl (f p q)) h else .stuck
 |_,_=>.stuck
abbrev Hx:=Gq PyData.eqv
abbrev EE:=Gq fun p q=>!PyData.eqv p q
theorem Ry {o:CmpOp} {f:PyData→PyData→Bool}
 (rule:∀{s:Shared} {a b:Value} {p q:PyData} {as bs:List Addr} {Q:Value→Shared→Prop},Reads s.heap a p as→Reads s.heap b q bs→SeqAt.shaped p=true→SeqAt.shaped q=true→Q (.bool (f p q)) s→wpAny (model X.prog X.w) X.A (compareOp o a b) Q X.xe s):
 BI X (compareOp o) (Gq f):=by
 refine ⟨fun v u H Q=>∃m h x y,HR X.K m h H∧DV X.K m H x v∧DV X.K m H y u∧Post X.K (rD X.K) m H E0 Q (Gq f x y h),?_,fun m H h E x y v u Q hr rx ry q=>⟨m,h,x,y,hr,rx,ry,?_⟩⟩
 ·intro pins s σ H x y v u Q I rx ry hq
  obtain ⟨m,h,dx,dy,hr,r1,r2,q⟩:=hq
  unfold Gq at q
  split at q
  ·rename_i p p' e1 e2
   split at q
   ·rename_i hs
    obtain ⟨as,h1⟩:=Rx I.hok hr 8 dx x v p r1 rx e1
    obtain ⟨bs,h2⟩:=Rx I.hok hr 8 dy y u p' r2 ry e2
    exact rule h1 h2 hs.1 hs.2 ⟨.bl _,H,I,rfl,Bt hr q (by simp [DV])⟩
   ·exact q.elim
  ·exact q.elim
 ·unfold Gq at q ⊢
  split
  ·split
   ·rename_i e1 e2 hs
    rw [e1,e2] at q
    simp only [hs] at q
    exact q
   ·rename_i e1 e2 hs
    rw [e1,e2] at q
    simp only [hs] at q
    exact q.elim
  ·rename_i hn
   split at q
   ·rename_i e1 e2
    exact (hn _ _ e1 e2).elim
   ·exact q.elim
theorem X6 (hu:X.A.units+64<cLine):BI X (compareOp .Eq) Hx:=Ry fun ra rb ha hb h=>eq_dataH ra rb ha hb hu h
theorem X7 (hu:X.A.units+64<cLine):BI X (compareOp .NotEq) EE:=Ry fun ra rb ha hb h=>ne_dataH ra rb ha hb hu h
def CT:D→Option V
 |.non=>some .non
 |.bl b=>some (.bl b)
 |.int i=>some (.int i)
 |.str x=>some (.str x)
 |_=>none
theorem NZ {d:D} {v w:V} (r:DV X.K m H d v) (e:CT d=some w):v=w∧E7 v=true:=by
 cases d<;>simp only [CT,Option.some.injEq,DV] at e r<;>first |(subst e r;exact ⟨rfl,rfl⟩) |cases e
theorem N0:∀{ds:List D} {vs ws:List V},DVs X.K m H ds vs→Bk (ds.map CT)=some ws→vs=ws∧vs.all E7=true
 |[],vs,ws,r,e=>by
  simp only [DVs] at r
  simp [Bk] at e
  subst r e
  exact ⟨rfl,rfl⟩
 |d::ds,vs,ws,r,e=>by
  simp only [DVs] at r
  obtain ⟨v,w,rfl,rv,rw'⟩:=r
  rw [Br] at e
  cases ed:CT d with
  |none=>rw [ed] at e;simp [Bk] at e
  |some p=>
   rw [ed] at e
   simp only [Bk,qb5] at e
   obtain ⟨ps',e1,rfl⟩:=e
   obtain ⟨h1,h2⟩:=NZ rv ed
   obtain ⟨h3,h4⟩:=N0 rw' e1
   subst h1 h3
   exact ⟨rfl,by simp [h2,h4]⟩
def BY:D→HD→Option (List D)
 |.tup ds,_=>some ds
 |.loc l,h=>match h[l]? with
  |some (.lst ds)=>some ds
  |_=>none
 |.scr ns,_=>some (ns.map .int)
 |_,_=>none
theorem Rz {ns:List Int}:DVs X.K m H (ns.map .int) (ns.map V.int):=by
 induction ns with
 |nil=>exact .nil
 |cons n ns ih=>exact .cons (by simp [DV]) ih
theorem L3 {d:D} {v:V} {ds:List D} (hr:HR X.K m h H) (r:DV X.K m H d v) (e:BY d h=some ds):∃p vs,v=.ref p∧(SqL X.K H p vs∨SqT X.K H p vs)∧DVs X.K m H ds vs:=by
 cases d with
 |tup xs=>
  simp only [DV,BY,Option.some.injEq] at r e
  subst e
  obtain ⟨a,vs,rfl,ha,dv⟩:=r
  exact ⟨a,vs,rfl,.inr (SqT.of ha),dv⟩
 |loc l=>
  simp only [DV] at r
  obtain ⟨a,rfl,ha⟩:=r
  simp only [BY] at e
  split at e
  ·rename_i xs el
   cases e
   obtain ⟨vs,hv,dv⟩:=hr.cells l _ a el ha
   exact ⟨a,vs,rfl,.inl (SqL.of hv),dv⟩
  ·cases e
 |scr ns=>
  simp only [DV,BY,Option.some.injEq] at r e
  subst e
  obtain ⟨a,rfl,ha⟩:=r
  exact ⟨a,_,rfl,.inl ha.sq,Rz⟩
 |_=>simp [BY] at e
def E9 (neg:Bool):D→D→HD→Out D:=fun x y h=>match BY y h with
 |none=>.stuck
 |some ds=>match CT x,Bk (ds.map CT) with
  |some v,some vs=>.ok (.bl (if neg then !Jn v vs else Jn v vs)) h
  |_,_=>.stuck
theorem X8 {neg:Bool}:∀m H h E x y v u Q,HR X.K m h H→DV X.K m H x v→DV X.K m H y u→Post X.K (rD X.K) m H E Q (E9 neg x y h)→Q9 X.K neg v u H Q:=fun m H h E x y v u Q hr rx ry q=>by
 unfold E9 at q
 split at q
 ·exact q.elim
 ·rename_i ds e
  split at q
  ·rename_i w ws e1 e2
   obtain ⟨p,vs,rfl,hs,dv⟩:=L3 hr ry e
   obtain ⟨h1,h2⟩:=NZ rx e1
   obtain ⟨h3,h4⟩:=N0 dv e2
   subst h1 h3
   exact ⟨p,vs,rfl,hs,h2,h4,Bt hr q (by simp [DV])⟩
  ·exact q.elim
theorem Ka:BI X (compareOp .In) (E9 false):=⟨_,Xy,X8⟩
def AE:D→D→HD→Out D:=fun x y h=>match BY x h,y with
 |some ds,.int i=>match Ds ds i with
  |some d=>.ok d h
  |none=>.stuck
 |_,_=>.stuck
theorem X9 {ds:List D} {vs:List V} {i:Int} {d:D} (r:DVs X.K m H ds vs) (e:Ds ds i=some d):∃v,Ds vs i=some v∧DV X.K m H d v:=by
 unfold Ds at e ⊢
 rw [r.len] at e
 cases k:D7 vs.length i with
 |none=>rw [k] at e;cases e
 |some j=>
  rw [k] at e
  exact r.get e
theorem BP {a b:Expr} {pos:Pos} {f g:ME} (ha:Ev X E a f) (hb:Ev X E b g) (hs:NJ b):Ev X E (.Subscript a b pos) (Ah AE f g):=
 Cd (Q8 (ix_list.or ix_tup) ha hb hs) fun σ H Q hq=>J4 hq fun m H2 h2 x y v u hr rx ry q=>by
  unfold AE at q
  split at q
  ·rename_i ds i e
   split at q
   ·rename_i d ed
    simp only [DV] at ry
    subst ry
    obtain ⟨p,vs,rfl,hsq,dv⟩:=L3 hr rx e
    obtain ⟨w,e1,r1⟩:=X9 dv ed
    rcases hsq with hsq |hsq
    ·exact .inl ⟨p,vs,i,w,rfl,rfl,hsq,e1,Bt hr q r1⟩
    ·exact .inr ⟨p,vs,i,w,rfl,rfl,hsq,e1,Bt hr q r1⟩
   ·exact q.elim
  ·exact q.elim
def BK:D→HD→Out D:=fun x h=>match BY x h with
 |some ds=>.ok (.int ds.length) h
 |none=>.stuck
theorem Hz {F:D→HD→Out D} {ds:List D} {vs:List V} {Q:VK} {C:Prop} (r:DVs X.K m H ds vs) (q:Post X.K (rD X.K) m H E Q (Au F ds h)) (k:∀d v,vs=[v]→DV X.K m H d v→Post X.K (rD X.K) m H E Q (F d h)→C):C:=by
 unfold Au at q
 split at q
 ·simp only [DVs] at r
  obtain ⟨v,w,rfl,rv,rfl⟩:=r
  exact k _ v rfl rv q
 ·exact q.elim
theorem two_of {F:D→D→HD→Out D} {ds:List D} {vs:List V} {Q:VK} {C:Prop} (r:DVs X.K m H ds vs) (q:Post X.K (rD X.K) m H E Q (Cg F ds h)) (k:∀d d' v v',vs=[v,v']→DV X.K m H d v→DV X.K m H d' v'→Post X.K (rD X.K) m H E Q (F d d' h)→C):C:=by
 unfold Cg at q
 split at q
 ·simp only [DVs] at r
  obtain ⟨v,w,rfl,rv,v',w',rfl,rv',rfl⟩:=r
  exact k _ _ v v' rfl rv rv' q
 ·exact q.elim
theorem Di:DX X (.builtin "len") (Au BK):=by
 refine ⟨_,Xz,fun m H h E ds vs Q hr r q=>Hz r q fun d v ev rv q=>?_⟩
 unfold BK at q
 split at q
 ·rename_i xs e
  obtain ⟨p,ws,rfl,hs,dv⟩:=L3 hr rv e
  exact ⟨p,ws,ev,hs,by rw [←dv.len];exact Bt hr q (by simp [DV])⟩
 ·exact q.elim
def CDv (i j:Int):Prop:=0<j∧j<18446744073709551616
instance (i j:Int):Decidable (CDv i j):=by unfold CDv;infer_instance
theorem CDv.no {i j:Int} (h:CDv i j):Builtin.divisionGoesByPylong i j=false:=by
 refine PyProof.noPylong_of_log2 ?_
 have h0:j.natAbs≠0:=by have:=h.1;omega
 have h1:j.natAbs<2^64:=by have:=h.2;have:=h.1;omega
 exact Nat.lt_trans ((Nat.log2_lt h0).mpr h1) (by decide)
theorem Yb:DS X (.builtin "divmod") (fun xs H Q=>∃i j,xs=[.int i,.int j]∧CDv i j∧∀p,H p=none→Q (.ref p) (Az H p (.tup [.int (i / j),.int (i % j)]))):=by
 intro pins s σ H xs us Q I r h
 obtain ⟨i,j,rfl,hc,q⟩:=h
 obtain ⟨u,w',rfl,⟨t,rfl⟩,⟨t',rfl⟩⟩:=LR r
 have h1:=hc.1
 refine divmod_int (by omega) ?_ (.inl hc.no)
 rw [Int.fdiv_eq_ediv_of_nonneg i (by omega),Int.fmod_eq_emod_of_nonneg i (by omega)]
 have hn:H s.heap.objs.size=none:=I.hok.fresh (AK _)
 refine ⟨.ref s.heap.objs.size,_,?_,rfl,q _ hn⟩
 refine I.laid (fun b o e=>AY _ e) (AK _) ⟨by simp only [FA,Gh];rw [sizeLine_eq];decide,[.int (i / j) s.toks,.int (i % j) (s.toks+1)],.cons ⟨_,rfl⟩ (.cons ⟨_,rfl⟩ .nil),?_,NoDict.new⟩
 exact ⟨_,BR s.heap rfl,rfl,0,rfl⟩
def Kb:D→D→HD→Out D
 |.int i,.int j,h=>if CDv i j then .ok (.tup [.int (i / j),.int (i % j)]) h else .stuck
 |_,_,_=>.stuck
theorem Yc:DX X (.builtin "divmod") (Cg Kb):=by
 refine ⟨_,Yb,fun m H h E ds vs Q hr r q=>two_of r q fun d d' v v' ev rv rv' q=>?_⟩
 unfold Kb at q
 split at q
 ·split at q
  ·rename_i i j hc
   simp only [DV] at rv rv'
   subst rv rv'
   exact ⟨i,j,ev,hc,Hu hr (.cons (by simp [DV]) (.cons (by simp [DV]) .nil)) q⟩
  ·exact q.elim
 ·exact q.elim
theorem Yd:OpR X (binaryOp .FloorDiv) (rI CDv fun i j=>.int (i / j)):=ND fun i j _ _ _ _ _ hc q=>by
 have h1:=hc.1
 exact floordiv_int (by omega) (by rw [Int.fdiv_eq_ediv_of_nonneg i (by omega)];exact q) (.inl hc.no)
abbrev L4:=Hv (fun i j=>.int (i / j)) CDv
theorem Ye:BI X (binaryOp .FloorDiv) L4:=Ru Yd (fun _ _ h=>h) fun _ _ _ _=>by simp [DV]
def Kc:D→D→HD→Out D
 |.int i,.int j,h=>.ok (.int (if j>i then j else i)) h
 |_,_,_=>.stuck
def Ju:D→D→HD→Out D
 |.int i,.int j,h=>.ok (.int (if j<i then j else i)) h
 |_,_,_=>.stuck
theorem Yg (hc:X.calm=true):DX X (.builtin "max") (Cg Kc):=by
 refine ⟨_,WK hc,fun m H h E ds vs Q hr r q=>two_of r q fun d d' v v' ev rv rv' q=>?_⟩
 unfold Kc at q
 split at q
 ·simp only [DV] at rv rv'
  subst rv rv'
  exact ⟨_,_,ev,Bt hr q (by simp [DV])⟩
 ·exact q.elim
theorem RA (hc:X.calm=true):DX X (.builtin "min") (Cg Ju):=by
 refine ⟨_,WL hc,fun m H h E ds vs Q hr r q=>two_of r q fun d d' v v' ev rv rv' q=>?_⟩
 unfold Ju at q
 split at q
 ·simp only [DV] at rv rv'
  subst rv rv'
  exact ⟨_,_,ev,Bt hr q (by simp [DV])⟩
 ·exact q.elim
def Kd:D→HD→Out D
 |.int i,h=>.ok (.int i) h
 |.bl b,h=>.ok (.int (if b then 1 else 0)) h
 |_,_=>.stuck
theorem Yh:DX X (.type "int") (Au Kd):=by
 refine ⟨_,WM,fun m H h E ds vs Q hr r q=>Hz r q fun d v ev rv q=>?_⟩
 unfold Kd at q
 split at q
 ·simp only [DV] at rv;subst rv
  exact .inl ⟨_,ev,Bt hr q (by simp [DV])⟩
 ·simp only [DV] at rv;subst rv
  exact .inr ⟨_,ev,Bt hr q (by simp [DV])⟩
 ·exact q.elim
def BL:D→HD→Out D:=fun x h=>match x with
 |.tup ds=>.ok (.tup ds) h
 |.loc l=>match h[l]? with
  |some (.lst ds)=>.ok (.tup ds) h
  |_=>.stuck
 |_=>.stuck
theorem DH:DX X (.type "tuple") (Au BL):=by
 refine ⟨_,XA,fun m H h E ds vs Q hr r q=>Hz r q fun d v ev rv q=>?_⟩
 unfold BL at q
 split at q
 ·simp only [DV] at rv
  obtain ⟨a,ws,rfl,ha,dv⟩:=rv
  exact ⟨a,ws,ev,.inr ⟨SqT.of ha,Bt hr q (by simp only [DV];exact ⟨a,ws,rfl,ha,dv⟩)⟩⟩
 ·split at q
  ·rename_i ds' el
   simp only [DV] at rv
   obtain ⟨a,rfl,ha⟩:=rv
   obtain ⟨ws,hv,dv⟩:=hr.cells _ _ a el ha
   exact ⟨a,ws,ev,.inl ⟨SqL.of hv,Hu hr dv q⟩⟩
  ·exact q.elim
 ·exact q.elim
end
theorem PostS.bind {α β:Type} {K:PySem.W.Frag} {m:List Addr} {H:Hp} {R:List Addr→Hp→α→β→Prop} {E:XK} {Q':β→Hp→Prop} {Dn:Es} {o:Out α} {k:α→HD→Out (Fl×Ai)}
 (h:PostS K m H E Dn (o.bind k)) (f:∀a h1 v m1 H1,o=.ok a h1→m <+:m1→Kp H H1→HR K m1 h1 H1→R m1 H1 a v→PostS K m1 H1 E Dn (k a h1)→Q' v H1):Post K R m H E Q' o:=by
 cases o with
 |ok a h1=>exact fun v m1 H1 p kk hr r=>f a h1 v m1 H1 rfl p kk hr r (h.ahead p kk)
 |err C fs h1=>exact h
 |stuck=>exact h
theorem PostS.here {K:PySem.W.Frag} {m:List Addr} {H:Hp} {E:XK} {Dn:Es} {a:Fl×Ai} {h:HD} (hr:HR K m h H) (p:PostS K m H E Dn (.ok a h)):Rg K m H Dn a:=p m H (AC _) (.refl _) hr
section
variable {X:Cx} {E:XK} {st:Stmt} {sts b1 b2:List Stmt} {g g1 g2:MS} {e:Expr} {f:ME} {pos:Pos} {t:MT}
def Be:MS:=fun ρ h=>.ok (.nx,ρ) h
def Aj (g1 g2:MS):MS:=fun ρ h=>(g1 ρ h).bind fun x h1=>match x with
 |(.nx,ρ1)=>g2 ρ1 h1
 |y=>.ok y h1
theorem BC:AU X E [] Be:=Ri VY fun Dn σ H z1_=>by obtain ⟨m,ρ,h,hr,er,p⟩:=z1_;exact ((p.here hr) σ er)
theorem As (h:Ex X E st g):AU X E [st] g:=V0 h
theorem Am (h1:Ex X E st g1) (h2:AU X E sts g2):AU X E (st::sts) (Aj g1 g2):=
 Ri (VZ h1 h2) fun Dn σ H z2_=>by
  obtain ⟨m,ρ,h,hr,er,p⟩:=z2_
  refine ⟨m,ρ,h,hr,er,?_⟩
  unfold Aj at p
  cases o:g1 ρ h with
  |stuck=>rw [o] at p;exact p
  |err C fs h1=>rw [o] at p;exact p
  |ok x h1=>
   rw [o] at p
   obtain ⟨fl,ρ1⟩:=x
   intro m1 H1 p1 k1 hr1
   cases fl with
   |nx=>exact fun σ1 er1=>⟨m1,ρ1,h1,hr1,er1,PostS.ahead p1 k1 p⟩
   |bk=>exact p m1 H1 p1 k1 hr1
   |ct=>exact p m1 H1 p1 k1 hr1
   |rt d=>exact p m1 H1 p1 k1 hr1
def Cv (f:ME):MS:=fun ρ h=>(f ρ h).bind fun _ h1=>.ok (.nx,ρ) h1
theorem DI (he:Ev X E e f) (hs:swapsWith e none pos.line X.env=pure false:=by rfl):Ex X E (.Expr e pos) (Cv f):=
 EA (V2 he hs) fun Dn σ H z3_=>by obtain ⟨m,ρ,h,hr,er,p⟩:=z3_;exact (⟨m,ρ,h,hr,er,PostS.bind p fun x h1 v m1 H1 _ p1 k1 hr1 r1 q1=>(q1.here hr1) σ (er.keep p1 k1)⟩)
def Ax (f:ME):MS:=fun ρ h=>(f ρ h).bind fun d h1=>.ok (.rt d,ρ) h1
theorem AI (he:Ev X E e f):Ex X E (.Return (some e) pos) (Ax f):=
 EA (V4 he) fun Dn σ H z4_=>by obtain ⟨m,ρ,h,hr,er,p⟩:=z4_;exact (⟨m,ρ,h,hr,er,PostS.bind p fun x h1 v m1 H1 _ p1 k1 hr1 r1 q1=>(q1.here hr1) v r1⟩)
def A9 (t:MT) (g1 g2:MS):MS:=fun ρ h=>(t ρ h).bind fun b h1=>if b=true then g1 ρ h1 else g2 ρ h1
theorem BD {c:Expr} (hc:DT X E c t) (ha:AU X E b1 g1) (hb:AU X E b2 g2):Ex X E (.If c b1 b2 pos) (A9 t g1 g2):=
 EA (V6 hc ha hb) fun Dn σ H z5_=>by obtain ⟨m,ρ,h,hr,er,p⟩:=z5_;exact (⟨m,ρ,h,hr,er,PostS.bind p fun x h1 v m1 H1 _ p1 k1 hr1 r1 q1=>by
  cases r1
  cases x with
  |true=>exact ⟨m1,ρ,h1,hr1,er.keep p1 k1,q1⟩
  |false=>exact ⟨m1,ρ,h1,hr1,er.keep p1 k1,q1⟩⟩)
def Jv:MS:=fun _ _=>.stuck
theorem Ke:Ex X E st Jv:=EA V8 fun Dn σ H z6_=>by obtain ⟨m,ρ,h,hr,er,p⟩:=z6_;exact (p)
def AD (i:Nat) (f:ME):MS:=fun ρ h=>(f ρ h).bind fun d h1=>.ok (.nx,ρ.set i (some d)) h1
theorem A7 {i:Nat} {x:Str} {pos':Pos} (hN:X.N.Nodup) (hi:X.N[i]?=some x) (he:Ev X E e f) (hx:Hr X.env.scope x:=by first |exact .inl rfl |exact .inr rfl) (hs:swapsWith e (some (.Name x pos')) pos.line X.env=pure false:=by rfl) (hf:X.fn x=true∨X.env.scope.names.lookup x=some .local:=by first |exact .inl rfl |exact .inr rfl |assumption):
 Ex X E (.Assign [.Name x pos'] e pos) (AD i f):=
 EA (Wa hN hi hx he hs hf) fun Dn σ H z9_=>by obtain ⟨m,ρ,h,hr,er,p⟩:=z9_;exact (⟨m,ρ,h,hr,er,PostS.bind p fun x h1 v m1 H1 _ p1 k1 hr1 r1 q1=>(q1.here hr1) _ ((er.keep p1 k1).set r1)⟩)
def Kf (i j:Nat) (fa:MA):MS:=fun ρ h=>(fa ρ h).bind fun ds h1=>match ds with
 |[x,y]=>.ok (.nx,(ρ.set i (some x)).set j (some y)) h1
 |_=>.stuck
theorem RB {i j:Nat} {x y:Str} {a b:Expr} {fa:MA} {px py pt:Pos} {kt k2:Nat} {pt2:Pos} (hc:X.calm=true) (hN:X.N.Nodup) (hi:X.N[i]?=some x) (hj:X.N[j]?=some y) (hij:i≠j)
 (hx:X.env.scope.names.lookup x=some .local) (hy:X.env.scope.names.lookup y=some .local) (ha:DU X E [a,b] fa)
 (hw:swappedStores [.Tuple [.Name x px,.Name y py] kt pt] (.Tuple [a,b] k2 pt2) X.env=pure (some [x,y]))
 (hs:swapsWithSole [.Tuple [.Name x px,.Name y py] kt pt] (.Tuple [a,b] k2 pt2) pos.line X.env=pure false:=by rfl):
 Ex X E (.Assign [.Tuple [.Name x px,.Name y py] kt pt] (.Tuple [a,b] k2 pt2) pos) (Kf i j fa):=
 EA (Wc hc hN hi hj hij hx hy ha hw hs) fun Dn σ H z10_=>by obtain ⟨m,ρ,h,hr,er,p⟩:=z10_;exact (⟨m,ρ,h,hr,er,PostS.bind p fun x h1 v m1 H1 _ p1 k1 hr1 r1 q1=>by
  split at q1
  ·simp only [Ez,DVs] at r1
   obtain ⟨v,w,rfl,rv,v',w',rfl,rv',rfl⟩:=r1
   exact ⟨v,v',rfl,(q1.here hr1) _ (((er.keep p1 k1).set rv).set rv')⟩
  ·exact q1.elim⟩)
abbrev MG:=D→Ai→Option Ai
def Kg (X:Cx) (tg:Expr) (sg:MG):Prop:=
 ∃gg:TG,PG X tg gg∧∀m H d v ρ σ ρ' Q,DV X.K m H d v→ER X.K m H ρ σ→sg d ρ=some ρ'→(∀σ',ER X.K m H ρ' σ'→Q σ' H)→gg v σ H Q
def Bd (i:Nat):MG:=fun d ρ=>some (ρ.set i (some d))
def Ci (i j:Nat):MG:=fun d ρ=>match d with
 |.tup [x,y]=>some ((ρ.set i (some x)).set j (some y))
 |_=>none
theorem FI {i:Nat} {x:Str} (h:PG X (.Name x pos) (Cc i)):Kg X (.Name x pos) (Bd i):=⟨_,h,fun m H d v ρ σ ρ' Q r er e q=>by
 simp only [Bd,Option.some.injEq] at e
 subst e
 exact q _ (er.set r)⟩
theorem GT {i j:Nat} {x y:Str} {px py:Pos} {kt:Nat} (h:PG X (.Tuple [.Name x px,.Name y py] kt pos) (E4 X.K 2 (CJ (Cc i) (CJ (Cc j) FC)))):Kg X (.Tuple [.Name x px,.Name y py] kt pos) (Ci i j):=⟨_,h,fun m H d v ρ σ ρ' Q r er e q=>by
 unfold Ci at e
 split at e
 ·rename_i a b
  cases e
  simp only [DV,DVs] at r
  obtain ⟨p,vs,rfl,hp,v1,w1,rfl,r1,v2,w2,rfl,r2,rfl⟩:=r
  exact ⟨p,_,rfl,SqT.of hp,rfl,v1,_,rfl,v2,_,rfl,rfl,q _ ((er.set r1).set r2)⟩
 ·cases e⟩
def Fb (sg:MG) (f:ME):MS:=fun ρ h=>(f ρ h).bind fun d h1=>match sg d ρ with
 |some ρ1=>.ok (.nx,ρ1) h1
 |none=>.stuck
theorem GU {tg:Expr} {sg:MG} (he:Ev X E e f) (hg:Kg X tg sg) (hs:swapsWithSole [tg] e pos.line X.env=pure false:=by rfl) (hw:swappedStores [tg] e X.env=pure none:=by rfl)
 (h1:(assignEach [tg] X.env).map (·.2)=[assign tg X.env]:=by rfl):Ex X E (.Assign [tg] e pos) (Fb sg f):=by
 obtain ⟨gg,hg,i⟩:=hg
 exact EA (LO he hg hs hw h1) fun Dn σ H z11_=>by obtain ⟨m,ρ,h,hr,er,p⟩:=z11_;exact (⟨m,ρ,h,hr,er,PostS.bind p fun x h1 v m1 H1 _ p1 k1 hr1 r1 q1=>by
  split at q1
  ·rename_i ρ1 es
   exact i m1 H1 x v ρ σ ρ1 _ r1 (er.keep p1 k1) es fun σ' er'=>(q1.here hr1) σ' er'
  ·exact q1.elim⟩)
abbrev Bm:=List (Nat×List D)
def Bq (src:Bm) (items:List D) (h:HD):Prop:=∀p∈src,h[p.1]?=some (.lst p.2)
theorem B2 {items:List D} {h:HD}:Bq [] items h:=fun p z=>nomatch z
theorem Kh {items ds:List D} {h:HD} {l:Nat} (e:h[l]?=some (.lst ds)):Bq [(l,ds)] items h:=fun p z=>by
 rw [qa7] at z
 subst z
 exact e
def GV (K:PySem.W.Frag):List Addr→Hp→(List D×Bm)→It→Prop:=fun m1 H1 x J=>
 ∀i m2 h2 H2,m1 <+:m2→Kp H1 H2→HR K m2 h2 H2→Bq x.2 x.1 h2→
  (i<x.1.length→J.go i H2∧∀y H3,J.yld i H2 y H3→Kp H2 H3∧HR K m2 h2 H3∧∃d,x.1[i]?=some d∧DV K m2 H3 d y)∧(i=x.1.length→J.stop i H2)
abbrev MI:=Ai→HD→Out (List D×Bm)
abbrev EF (X:Cx) (E:XK) (tg iter:Expr) (it:MI):Prop:=PI X tg iter (tM X.K (GV X.K) E it)
theorem Jw {tg iter:Expr} {w w':TI} (h:PI X tg iter w) (i:∀σ H R,w' σ H R→w σ H R):PI X tg iter w':=fun pins s σ H R I q=>h pins s σ H R I (i σ H R q)
theorem Yi {tg l:Expr} {tl:TE} (hl:PE X l tl):PI X tg l (fun σ H R=>tl σ H fun x H1=>∃a,x=.ref a∧(((∃xs,SqL X.K H1 a xs)∧R (JW X.K a) H1)∨((∃xs,SqT X.K H1 a xs)∧R (JX X.K a) H1))):=by
 intro pins s σ H R I h
 refine AA (hl pins s σ H _ I h) fun v s1 z12_=>?_
 obtain ⟨x,H1,I1,r1,q1⟩:=z12_
 obtain ⟨a,e,q⟩:=q1
 subst e
 cases r1
 rcases q with ⟨⟨xs,hq⟩,q⟩ |⟨⟨xs,hq⟩,q⟩
 ·obtain ⟨its,rv,p,hz⟩:=I1.list hq
  refine wpAny_pyIter_list p.isList ?_
  refine ⟨s1.heap.objs.size,[s1.heap.objs.size],_,_,H1,rfl,I1.kept (t':=s1.toks) fun b o e=>AY _ e,Wg a _,⟨_,BR _ rfl,rfl,rfl⟩,fun b hb=>?_,q⟩
  have e:b=s1.heap.objs.size:=by simpa using hb
  subst e
  exact I1.fpOk (AK _) (I1.hok.fresh (AK _))
 ·obtain ⟨its,rv,p,hz⟩:=I1.tuple hq
  refine wpAny_pyIter_tuple (show s1.heap.IsTuple a its.toArray from p) ?_
  refine ⟨s1.heap.objs.size,[s1.heap.objs.size],_,_,H1,rfl,I1.kept (t':=s1.toks) fun b o e=>AY _ e,Wh a _,⟨_,BR _ rfl,rfl,rfl⟩,fun b hb=>?_,q⟩
  have e:b=s1.heap.objs.size:=by simpa using hb
  subst e
  exact I1.fpOk (AK _) (I1.hok.fresh (AK _))
def RC:D→List D→Bm
 |.loc l,ds=>[(l,ds)]
 |_,_=>[]
def Gr (d:D) (h:HD):Out (List D×Bm):=match BY d h with
 |some ds=>.ok (ds,RC d ds) h
 |none=>.stuck
def Bx (f:ME):MI:=fun ρ h=>(f ρ h).bind Gr
theorem Kp.lget {H H':Hp} {a:Addr} {K:PySem.W.Frag} {xs:List V} (k:Kp H H') (h:FzL K H a xs):SqL K H' a xs:=(k.fzL h).sq
theorem RD {K:PySem.W.Frag} {a:Addr} {m:List Addr} {H:Hp} {h:HD} {i:Nat} {items:List D} {vs:List V} (hr:HR K m h H) (hs:SqL K H a vs) (dv:DVs K m H items vs) (uniq:∀ys,SqL K H a ys→ys=vs∨True):
 (i<items.length→(JW K a).go i H∧∀y H3,(JW K a).yld i H y H3→Kp H H3∧HR K m h H3∧∃d,items[i]?=some d∧DV K m H3 d y)∧(i=items.length→(JW K a).stop i H):=by
 refine ⟨fun hi=>?_,fun hi=>⟨vs,hs,by rw [←dv.len];exact Nat.le_of_eq hi.symm⟩⟩
 have hd:items[i]?=some items[i]:=Bh hi
 obtain ⟨v,e1,r1⟩:=dv.get hd
 refine ⟨⟨vs,v,hs,e1⟩,fun y H3 z13_=>?_⟩
 obtain ⟨e3,hy⟩:=z13_
 subst e3
 have:=hy vs hs
 rw [e1] at this
 cases this
 exact ⟨.refl _,hr,_,hd,r1⟩
theorem Yj {K:PySem.W.Frag} {a:Addr} {m:List Addr} {H:Hp} {h:HD} {i:Nat} {items:List D} {vs:List V} (hr:HR K m h H) (hs:SqT K H a vs) (dv:DVs K m H items vs):
 (i<items.length→(JX K a).go i H∧∀y H3,(JX K a).yld i H y H3→Kp H H3∧HR K m h H3∧∃d,items[i]?=some d∧DV K m H3 d y)∧(i=items.length→(JX K a).stop i H):=by
 refine ⟨fun hi=>?_,fun hi=>⟨vs,hs,by rw [←dv.len];exact Nat.le_of_eq hi.symm⟩⟩
 have hd:items[i]?=some items[i]:=Bh hi
 obtain ⟨v,e1,r1⟩:=dv.get hd
 refine ⟨⟨vs,v,hs,e1⟩,fun y H3 z14_=>?_⟩
 obtain ⟨e3,hy⟩:=z14_
 subst e3
 have:=hy vs hs
 rw [e1] at this
 cases this
 exact ⟨.refl _,hr,_,hd,r1⟩
theorem B3 {tg a:Expr} (ha:Ev X E a f):EF X E tg a (Bx f):=
 Jw (Yi ha) fun σ H R ⟨m,ρ,h,hr,er,p⟩=>⟨m,ρ,h,hr,er,Post.bind p fun x h1 v m1 H1 _ p1 k1 hr1 r1 q1=>by
  unfold Gr at q1
  split at q1
  ·rename_i ds eds
   cases x with
   |tup xs=>
    simp only [BY,Option.some.injEq] at eds
    subst eds
    simp only [rD,DV] at r1
    obtain ⟨a,vs,rfl,ha,dv⟩:=r1
    refine ⟨a,rfl,.inr ⟨⟨vs,SqT.of ha⟩,q1 _ m1 H1 (AC _) (.refl _) hr1 fun i m2 h2 H2 p2 k2 hr2 _=>?_⟩⟩
    exact Yj hr2 (SqT.of (k2 _ _ ha rfl)) (dv.keep p2 k2)
   |loc l=>
    simp only [rD,DV] at r1
    obtain ⟨a,rfl,ha⟩:=r1
    simp only [BY] at eds
    split at eds
    ·rename_i xs el
     cases eds
     obtain ⟨vs,hv,dv⟩:=hr1.cells l _ a el ha
     refine ⟨a,rfl,.inl ⟨⟨vs,SqL.of hv⟩,q1 _ m1 H1 (AC _) (.refl _) hr1 fun i m2 h2 H2 p2 k2 hr2 hs=>?_⟩⟩
     obtain ⟨ws,hw,dw⟩:=hr2.cells l _ a (hs _ AZ) (Jp p2 ha)
     exact RD hr2 (SqL.of hw) dw fun _ _=>.inr trivial
    ·cases eds
   |scr ns=>
    simp only [BY,Option.some.injEq] at eds
    subst eds
    simp only [rD,DV] at r1
    obtain ⟨a,rfl,ha⟩:=r1
    refine ⟨a,rfl,.inl ⟨⟨_,ha.sq⟩,q1 _ m1 H1 (AC _) (.refl _) hr1 fun i m2 h2 H2 p2 k2 hr2 _=>?_⟩⟩
    exact RD hr2 (k2.lget ha) Rz fun _ _=>.inr trivial
   |_=>simp [BY] at eds
  ·exact q1.elim⟩
def GW (lo:Int) (n:Nat):List D:=(List.range n).map fun k=>.int (lo+(k:Nat))
theorem RE {K:PySem.W.Frag} {m1:List Addr} {H1:Hp} (lo:Int) (n:Nat):GV K m1 H1 (GW lo n,[]) (JY lo n):=fun i m2 h2 H2 p2 k2 hr2 _=>by
 refine ⟨fun hi=>?_,fun hi=>?_⟩
 ·have hi':i<n:=by simpa [GW] using hi
  refine ⟨hi',fun y H3 z16_=>?_⟩
  obtain ⟨e3,ey⟩:=z16_
  subst e3 ey
  refine ⟨.refl _,hr2,.int (lo+i),?_,by simp [DV]⟩
  simp [GW,List.getElem?_range,hi']
 ·show n≤i
  have hi':i=n:=by simpa [GW] using hi
  omega
@[irreducible] noncomputable def Jx:List D→HD→Out (List D×Bm):=fun ds h=>match ds with
  |[.int j]=>@ite _ (-(2^62)≤j∧j<2^62) (Classical.propDecidable _) (.ok (GW 0 j.toNat,[]) h) .stuck
  |_=>.stuck
@[irreducible] noncomputable def Ki:List D→HD→Out (List D×Bm):=fun ds h=>match ds with
  |[.int i,.int j]=>@ite _ ((-(2^62)≤i∧i<2^62)∧-(2^62)≤j∧j<2^62) (Classical.propDecidable _) (.ok (GW i (j - i).toNat,[]) h) .stuck
  |_=>.stuck
noncomputable def Dj (fa:MA):MI:=fun ρ h=>(fa ρ h).bind Jx
noncomputable def Kj (fa:MA):MI:=fun ρ h=>(fa ρ h).bind Ki
theorem Ec {tg a:Expr} {fa:MA} {p pos:Pos} (hg:Gl X "range") (hm:X.mg "range"=none) (ha:DU X E [a] fa) (hs:starEach [a] X.env=[(false,eval a X.env)]:=by rfl):EF X E tg (.Call (.Name "range" p) [a] [] pos) (Dj fa):=
 Jw (Wl hg hm ha hs) fun σ H R z17_=>by obtain ⟨m,ρ,h,hr,er,p⟩:=z17_;exact (⟨m,ρ,h,hr,er,Post.bind p fun x h1 v m1 H1 _ p1 k1 hr1 r1 q1=>by
  unfold Jx at q1
  split at q1
  ·split at q1
   ·rename_i hj
    simp only [Ez,DVs,DV] at r1
    obtain ⟨v,w,rfl,rfl,rfl⟩:=r1
    exact ⟨_,rfl,hj.1,hj.2,q1 _ m1 H1 (AC _) (.refl _) hr1 (RE 0 _)⟩
   ·exact q1.elim
  ·exact q1.elim⟩)
theorem RF {tg a b:Expr} {fa:MA} {p pos:Pos} (hg:Gl X "range") (hm:X.mg "range"=none) (ha:DU X E [a,b] fa) (hs:starEach [a,b] X.env=[(false,eval a X.env),(false,eval b X.env)]:=by rfl) (hs2:starEach [b] X.env=[(false,eval b X.env)]:=by rfl):EF X E tg (.Call (.Name "range" p) [a,b] [] pos) (Kj fa):=
 Jw (Wm hg hm ha hs hs2) fun σ H R z18_=>by obtain ⟨m,ρ,h,hr,er,p⟩:=z18_;exact (⟨m,ρ,h,hr,er,Post.bind p fun x h1 v m1 H1 _ p1 k1 hr1 r1 q1=>by
  unfold Ki at q1
  split at q1
  ·split at q1
   ·rename_i hj
    simp only [Ez,DVs,DV] at r1
    obtain ⟨v,w,rfl,rfl,v',w',rfl,rfl,rfl⟩:=r1
    exact ⟨_,_,rfl,⟨hj.1.1,hj.1.2,hj.2.1,hj.2.2⟩,q1 _ m1 H1 (AC _) (.refl _) hr1 (RE _ _)⟩
   ·exact q1.elim
  ·exact q1.elim⟩)
open Classical in
noncomputable def FJ (src:Bm) (items:List D) (sg:MG) (body:MS):List D→MS
 |[]=>fun ρ h=>if Bq src items h then .ok (.nx,ρ) h else .stuck
 |d::ds=>fun ρ h=>if Bq src items h then match sg d ρ with
   |none=>.stuck
   |some ρ1=>(body ρ1 h).bind fun x h2=>match x with
    |(.nx,ρ2)=>FJ src items sg body ds ρ2 h2
    |(.ct,ρ2)=>FJ src items sg body ds ρ2 h2
    |(.bk,ρ2)=>.ok (.nx,ρ2) h2
    |(.rt d,ρ2)=>.ok (.rt d,ρ2) h2
  else .stuck
noncomputable def Dx (it:MI) (sg:MG) (body:MS):MS:=fun ρ h=>(it ρ h).bind fun x h1=>FJ x.2 x.1 sg body x.1 ρ h1
inductive RG (K:PySem.W.Frag) (E:XK) (Dn:Es) (src:Bm) (items:List D) (sg:MG) (g:MS) (m1:List Addr) (H1:Hp) (i n:Nat) (σ2:L2.St) (H2:Hp):Prop where
 |mk (e:n=items.length - i) (l:i≤items.length) (m2:List Addr) (ρ2:Ai) (h2:HD) (p:m1 <+:m2) (k:Kp H1 H2) (hr:HR K m2 h2 H2) (er:ER K m2 H2 ρ2 σ2) (q:PostS K m2 H2 E Dn (FJ src items sg g (items.drop i) ρ2 h2)):RG K E Dn src items sg g m1 H1 i n σ2 H2
inductive RH (K:PySem.W.Frag) (E:XK) (Dn:Es) (src:Bm) (items:List D) (sg:MG) (g:MS) (m1:List Addr) (H1:Hp) (i:Nat) (σ2:L2.St) (H2:Hp):Prop where
 |mk (m2:List Addr) (ρ2:Ai) (h2:HD) (p:m1 <+:m2) (k:Kp H1 H2) (hr:HR K m2 h2 H2) (er:ER K m2 H2 ρ2 σ2) (q:PostS K m2 H2 E Dn (FJ src items sg g (items.drop i) ρ2 h2)):RH K E Dn src items sg g m1 H1 i σ2 H2
theorem EG {tg iter:Expr} {body:List Stmt} {it:MI} {sg:MG} {g:MS} (hp:PassesOwn (model X.prog X.w) X.A X.env X.xe) (hc:X.calm=true) (hi:EF X E tg iter it) (hg:Kg X tg sg) (hb:AU X E body g)
 (hs:∀x,foldedSetIterable iter X.env x=pure x:=by intro _;rfl):Ex X E (.For tg iter body [] pos) (Dx it sg g):=by
 obtain ⟨gg,hg,ig⟩:=hg
 refine EA (Wo hp hc hi hg hb hs) ?_
 rintro Dn σ H ⟨m,ρ,h,hr,er,p⟩
 refine ⟨m,ρ,h,hr,er,PostS.bind p fun x h1 J m1 H1 _ p1 k1 hr1 r1 q1=>?_⟩
 obtain ⟨items,src⟩:=x
 refine ⟨RG X.K E Dn src items sg g m1 H1,⟨items.length,rfl,Ep _,m1,ρ,h1,AC _,.refl _,hr1,er.keep p1 k1,by simpa using q1⟩,?_⟩
 rintro i n σ2 H2 ⟨rfl,hi,m2,ρ2,h2,p2,k2,hr2,er2,q2⟩
 by_cases hlt:i<items.length
 ·rw [Ll hlt] at q2
  unfold FJ at q2
  split at q2
  ·rename_i hs
   obtain ⟨hgo,hy⟩:=(r1 i m2 h2 H2 p2 k2 hr2 hs).1 hlt
   refine .inr ⟨hgo,RH X.K E Dn src items sg g m1 H1 (i+1),fun σ5 H5 z20_=>by obtain ⟨m5,ρ5,h5,a1,a2,a3,a4,a5⟩:=z20_;exact (⟨items.length - (i+1),by omega,rfl,hlt,m5,ρ5,h5,a1,a2,a3,a4,a5⟩),fun y H3 hyl=>?_⟩
   obtain ⟨k3,hr3,d,ed,rd⟩:=hy y H3 hyl
   have ed':d=items[i]:=by rw [Bh hlt] at ed;exact (Option.some.inj ed).symm
   subst ed'
   split at q2
   ·exact q2.elim
   ·rename_i ρ3 es
    refine ig m2 H3 _ y ρ2 σ2 ρ3 _ rd (er2.keep (AC _) k3) es fun σ4 er4=>?_
    refine ⟨m2,ρ3,h2,hr3,er4,?_⟩
    have q3:=PostS.ahead (AC _) k3 q2
    cases o:g ρ3 h2 with
    |stuck=>rw [o] at q3;exact q3
    |err C fs h5=>rw [o] at q3;exact q3
    |ok z h5=>
     rw [o] at q3
     obtain ⟨fl,ρ5⟩:=z
     intro m5 H5 p5 k5 hr5
     have pk:m1 <+:m5:=p2.trans p5
     have kk:Kp H1 H5:=(k2.trans k3).trans k5
     cases fl with
     |nx=>exact fun σ5 er5=>⟨m5,ρ5,h5,pk,kk,hr5,er5,PostS.ahead p5 k5 q3⟩
     |ct=>exact fun σ5 er5=>⟨m5,ρ5,h5,pk,kk,hr5,er5,PostS.ahead p5 k5 q3⟩
     |bk=>exact fun σ5 er5=>q3 m5 H5 p5 k5 hr5 σ5 er5
     |rt d=>exact fun v rv=>q3 m5 H5 p5 k5 hr5 v rv
  ·exact q2.elim
 ·have he:i=items.length:=Nat.le_antisymm hi (Je hlt)
  subst he
  rw [List.drop_length] at q2
  unfold FJ at q2
  split at q2
  ·rename_i hs
   exact .inl ⟨(r1 _ m2 h2 H2 p2 k2 hr2 hs).2 rfl,(q2.here hr2) σ2 er2⟩
  ·exact q2.elim
end
section
variable {M:Model} {A:Around} {E:Value→Shared→Prop} {s:Shared}
theorem N1 {env:Env}:∀(names:List (Str×NameKind)) (acc:List (Str×Addr)),(∀y∈names,y.2=.free→∃c,env.cells.lookup y.1=some c)→
 ∃cl:List (Str×Addr),(forIn names acc (fun (x:Str×NameKind) (cs:List (Str×Addr))=>match x with
  |(name,kind)=>if (kind==NameKind.free)=true then do let y ←cellOf env name;pure (ForInStep.yield ((name,y)::cs)) else pure (ForInStep.yield cs)):Sem (List (Str×Addr)))=pure cl∧
  (∀x c,(x,c)∈cl→(x,c)∈acc∨(env.cells.lookup x=some c∧(x,NameKind.free)∈names))∧(∀y∈names,y.2=.free→∃c,(y.1,c)∈cl)∧(∀p∈acc,p∈cl)
 |[],acc,_=>⟨acc,rfl,fun x c h=>.inl h,fun y hy=>absurd hy (by simp),fun p h=>h⟩
 |(name,kind)::r,acc,h=>by
  rw [Hm]
  by_cases hk:kind=.free
  ·subst hk
   obtain ⟨c,hc⟩:=h (name,.free) AZ rfl
   obtain ⟨cl,e,h1,h2,h3⟩:=N1 (env:=env) r ((name,c)::acc) (fun y hy=>h y (Bb _ hy))
   refine ⟨cl,?_,fun x c' hm=>?_,fun y hy hf=>?_,fun p hp=>h3 p (Bb _ hp)⟩
   ·rw [←e]
    have:cellOf env name=pure c:=by unfold cellOf;rw [hc]
    simp only [this,beq_self_eq_true,if_true,pure_bind]
   ·rcases h1 x c' hm with q |⟨q1,q2⟩
    ·rcases qa3.mp q with q |q
     ·cases q;exact .inr ⟨hc,AZ⟩
     ·exact .inl q
    ·exact .inr ⟨q1,Bb _ q2⟩
   ·rcases qa3.mp hy with q |q
    ·subst q;exact ⟨c,h3 _ AZ⟩
    ·exact h2 y q hf
  ·obtain ⟨cl,e,h1,h2,h3⟩:=N1 (env:=env) r acc (fun y hy=>h y (Bb _ hy))
   refine ⟨cl,?_,fun x c' hm=>?_,fun y hy hf=>?_,h3⟩
   ·rw [←e]
    have hk':(kind==NameKind.free)=false:=by simpa using hk
    simp only [hk',DF,if_false,pure_bind]
   ·rcases h1 x c' hm with q |⟨q1,q2⟩
    ·exact .inl q
    ·exact .inr ⟨q1,Bb _ q2⟩
   ·rcases qa3.mp hy with q |q
    ·subst q;exact absurd hf hk
    ·exact h2 y q hf
theorem RI {scope:Scope} {env:Env} (h:∀y∈scope.names,y.2=.free→∃c,env.cells.lookup y.1=some c):
 ∃cl:List (Str×Addr),closureFor scope env=pure cl∧(∀x c,(x,c)∈cl→env.cells.lookup x=some c∧(x,NameKind.free)∈scope.names)∧(∀y∈scope.names,y.2=.free→∃c,(y.1,c)∈cl):=by
 obtain ⟨cl,e,h1,h2,h3⟩:=N1 (env:=env) scope.names [] h
 refine ⟨cl,?_,fun x c hm=>?_,h2⟩
 ·unfold closureFor
  simp only [bind_pure]
  exact e
 ·rcases h1 x c hm with q |q
  ·exact nomatch q
  ·exact q
theorem RJ {scope:Scope} {globals:Addr} {cl:List (Str×Addr)} {qual:Str} {around:Env} {Q:Env→Shared→Prop}
 (h:Q (newEnv scope s.heap.objs.size globals (cellsFrom (s.heap.objs.size+1) scope.names cl) qual none .none (some around) builtinsNs) {s with heap:=pushCells (s.heap.push {cls:=.type "dict",data:=.dict #[]}) scope.names}):
 wpAny M A (newFunctionEnv scope globals cl [] qual none .none (some around)) Q E s:=by
 simp only [newFunctionEnv,Option.isSome_some,if_true]
 refine wpAny_bind (wpAny_alloc ?_)
 refine wpAny_bind (wpAny_layCells _ (fun name kind cells=>by cases hkc:kind==NameKind.cell<;>simp [hkc]) _ _ _ _ ?_)
 simp only [Hn,pure_bind]
 refine wpAny_pure ?_
 rw [show ({s with heap:=s.heap.push {cls:=.type "dict",data:=.dict #[]}}:Shared).heap.objs.size=s.heap.objs.size+1 from Dq ..]
 exact h
end
section
variable {prog:Program} {w:World} {A:Around} {R:Result→Shared→Prop} {s:Shared}
theorem Yk {elt target iter:Expr} {ifs:List Expr} {scope:Scope} {pos:Pos} {it acc:Value} {env:Env} (I:Nat→Shared→Prop)
 (turn:∀n s,I n s→wpAny (model prog w) A (pyNext it) (fun r s₁=>match r with
  |none=>R (.ok .next) s₁
  |some v=>wpAny (model prog w) A (letOwnedTupleGo target it v) (fun _ s₁'=>wpAny (model prog w) A (assign target env v) (fun _ s₂=>
   wpAny (model prog w) A (forIn ifs true fun c r=>if r=true then do let ok ←isTrue c env (eval c env);pure (ForInStep.yield ok) else pure (ForInStep.yield r)) (fun ok s₃=>
    if ok=true then wpAny (model prog w) A (eval elt env) (fun x s₄=>
     wpAny (model prog w) A (call (.builtin "list.append") [acc,x]) (fun _ s₅=>∃m,m<n∧I m s₅) (notedBy (model prog w) A env fun e s'=>R (.error e) s') s₄) (notedBy (model prog w) A env fun e s'=>R (.error e) s') s₃
    else ∃m,m<n∧I m s₃) (notedBy (model prog w) A env fun e s'=>R (.error e) s') s₂) (notedBy (model prog w) A env fun e s'=>R (.error e) s') s₁') (notedBy (model prog w) A env fun e s'=>R (.error e) s') s₁) (notedBy (model prog w) A env fun e s'=>R (.error e) s') s)
 (n:Nat) (h:I n s):
 codeAny (model prog w) A (.compLoop (.ListComp elt [⟨target,iter,ifs,0⟩] scope pos) 0 it acc env) R s:=by
 refine codeAny_loop rfl I (fun n s hI=>?_) n h
 show wpAny _ A ((compTurn (.ListComp elt [⟨target,iter,ifs,0⟩] scope pos) 0 it acc env).onRaise (fun x=>do noteFrame x env;theTreesLotGoes x)) _ _ s
 refine wpAny_noted ?_
 rw [compTurn_list]
 refine wpAny_bind (wpAny_standAt (wpAny_bind (wpAny_mono (turn n s hI) (fun r s₁ h₁=>?_) fun _ _ h'=>h')))
 cases r with
 |none=>exact wpAny_pure h₁
 |some v=>
  refine wpAny_bind (wpAny_mono h₁ (fun _ s₁' h₁'=>?_) fun _ _ h'=>h')
  refine wpAny_bind (wpAny_mono h₁' (fun _ s₂ h₂=>wpAny_bind (wpAny_mono h₂ (fun ok s₃ h₃=>?_) fun _ _ h'=>h')) fun _ _ h'=>h')
  cases ok with
  |false=>exact wpAny_pure ⟨rfl,h₃⟩
  |true=>
   exact wpAny_bind (wpAny_bind (wpAny_mono h₃ (fun x s₄ h₄=>wpAny_bind (wpAny_mono h₄ (fun _ s₅ h₅=>wpAny_pure (wpAny_pure ⟨rfl,h₅⟩)) fun _ _ h'=>h')) fun _ _ h'=>h'))
end
def Gs (X:Cx) (ifs:List Expr) (t:TT):Prop:=∀(pins:List (Addr×Obj)) (s:Shared) (σ:L2.St) (H:Hp) (Q:Bool→Hp→Prop),Inv X pins σ H s→t σ H Q→
 wpAny (model X.prog X.w) X.A (forIn ifs true fun c r=>if r=true then do let ok ←isTrue c X.env (eval c X.env);pure (ForInStep.yield ok) else pure (ForInStep.yield r)) (TP X pins σ Q) X.xe s
theorem Yl {X:Cx}:Gs X [] (fun _ H Q=>Q true H):=fun _ _ _ H _ I h=>wpAny_tests_nil ⟨H,I,h⟩
theorem Ym {X:Cx} {c:Expr} {t:TT} (h:PT X c t):Gs X [c] t:=fun pins s σ H Q I q=>wpAny_tests_one (h pins s σ H Q I q)
def RK (env:Env) (scope:Scope) (C:Addr) (cells:List (Str×Addr)):Env:=
 {scope:=relabel scope env,locals:=C,globals:=env.globals,cells:=cells,qual:=env.qual,func:=none,code:=env.code,frame:=env.frame,builtins:=env.builtins}
def Bj (X:Cx) (Nc:List Str) (scope:Scope) (C D:Addr) (cells:List (Str×Addr)) (fp:List Addr) (s₀:Shared) (H₀:Hp) (pins:List (Addr×Obj)):Cx:=
 {X with N:=Nc,s₀:=s₀,H₀:=H₀,env:=RK X.env scope C cells,outer:=X.stack,stack:=X.stack,ex:=D::fp,fn:=fun x=>scope.names.lookup x==some .cell,pn:=X.pn++pins,xe:=fun _ _=>False}
def BU (cs:List (Option Nat)) (σ:L2.St):L2.St:=cs.map fun o=>o.bind fun j=>(σ[j]?).join
def Sub (σ σ':L2.St):Prop:=σ.length=σ'.length∧∀(i:Nat) v,σ[i]?=some (some v)→σ'[i]?=some (some v)
def L5 (cs:List (Option Nat)) (wi:TI) (g:TG) (tc:TT) (te:TE):TE:=fun σ H Q=>wi σ H fun J H1=>∃W:Nat→Nat→List V→Hp→Prop,(∃n,W 0 n [] H1)∧∀i n acc H,W i n acc H→
 (J.stop i H∧acc.length≤sizeLine∧∀p,H p=none→Q (.ref p) (Az H p (.lst acc)))∨
 (J.go i H∧acc.length<sizeLine∧∀x H',J.yld i H x H'→g x (BU cs σ) H' fun σ2 H2=>Sub (BU cs σ) σ2∧tc σ2 H2 fun b H3=>if b=true then te σ2 H3 fun y H4=>∃n',n' < n∧W (i+1) n' (acc++[y]) H4 else ∃n',n' < n∧W (i+1) n' acc H3)
theorem N2:∀(names:List (Str×NameKind)) (h:Heap) (acc:List (Str×Addr)) (x:Str) (c:Addr),(x,c)∈cellsFrom h.objs.size names acc→(x,c)∈acc∨(h.objs.size≤c∧(x,NameKind.cell)∈names∧(pushCells h names).IsCell c none)
 |[],_,_,_,_,m=>.inl m
 |(name,kind)::r,h,acc,x,c,m=>by
  unfold cellsFrom at m
  unfold pushCells
  split at m
  ·rename_i hk
   rw [if_pos hk]
   have hk':kind=.cell:=by simpa using hk
   have e:h.objs.size+1=(h.push {cls:=.type "cell",data:=.cell none}).objs.size:=(Dq ..).symm
   rw [e] at m
   rcases N2 r _ _ x c m with q |⟨q1,q2,q3⟩
   ·rcases qa3.mp q with q |q
    ·cases q
     refine .inr ⟨AK _,by rw [hk'];exact AZ,?_⟩
     exact (show (h.push {cls:=.type "cell",data:=.cell none}).IsCell h.objs.size none from ⟨_,BR _ rfl,rfl⟩).keeps fun b o e=>pushCells_keeps _ _ b o e
    ·exact .inl q
   ·exact .inr ⟨by rw [←e] at q1;exact Nat.le_of_succ_le q1,Bb _ q2,q3⟩
  ·rename_i hk
   rw [if_neg hk]
   rcases N2 r h acc x c m with q |⟨q1,q2,q3⟩
   ·exact .inl q
   ·exact .inr ⟨q1,Bb _ q2,q3⟩
theorem N3:∀(names:List (Str×NameKind)) (h:Heap) (acc:List (Str×Addr)),(∀x c,(x,c)∈acc→c<h.objs.size)→(∀x y c,(x,c)∈acc→(y,c)∈acc→x=y)→
 ∀x y c,(x,c)∈cellsFrom h.objs.size names acc→(y,c)∈cellsFrom h.objs.size names acc→x=y
 |[],_,_,_,i=>i
 |(name,kind)::r,h,acc,lt,i=>by
  unfold cellsFrom
  split
  ·have e:h.objs.size+1=(h.push {cls:=.type "cell",data:=.cell none}).objs.size:=(Dq ..).symm
   rw [e]
   refine N3 r _ _ (fun x c m=>?_) (fun x y c m m'=>?_)
   ·rw [←e]
    rcases qa3.mp m with q |q
    ·cases q;exact JS _
    ·exact Hj (lt x c q)
   ·rcases qa3.mp m with q |q<;>rcases qa3.mp m' with q' |q'
    ·cases q;cases q';rfl
    ·cases q;exact absurd (lt y _ q') (Eo _)
    ·cases q';exact absurd (lt x _ q) (Eo _)
    ·exact i x y c q q'
  ·exact N3 r h acc lt i
theorem lookup_mem {α:Type} {l:List (Str×α)} {x:Str} {k:α} (nd:(l.map (·.1)).Nodup) (h:(x,k)∈l):l.lookup x=some k:=by
 induction l with
 |nil=>cases h
 |cons p r ih=>
  obtain ⟨y,j⟩:=p
  rw [Br,qbJ] at nd
  rw [Jf]
  rcases qa3.mp h with e |e
  ·cases e;simp
  ·have:x≠y:=by
    rintro rfl
    exact nd.1 (qaJ.mpr ⟨(x,k),e,rfl⟩)
   have hb:(x==y)=false:=by simpa using this
   rw [hb]
   exact ih nd.2 e
theorem Yn {env:Env} {x n:Str} {j:NameKind} {r:List (Str×NameKind)} {k:NameKind} (h:List.lookup x ((if (j==NameKind.free&&env.scope.kind==.function&&env.kindOf n==some .cell)=true then (n,NameKind.cell) else (n,j))::r)=some k):
 (x=n∧(k=j∨(j=.free∧k=.cell)))∨(x≠n∧List.lookup x r=some k):=by
 by_cases hx:x=n
 ·subst hx
  refine .inl ⟨rfl,?_⟩
  split at h
  ·rename_i hc
   rw [Jf] at h
   simp only [beq_self_eq_true] at h
   cases h
   simp only [CP] at hc
   exact .inr ⟨by simpa using hc.1.1,rfl⟩
  ·rw [Jf] at h
   simp only [beq_self_eq_true] at h
   cases h
   exact .inl rfl
 ·have hb:(x==n)=false:=by simpa using hx
  refine .inr ⟨hx,?_⟩
  split at h<;>(rw [Jf] at h;simp only [hb] at h;exact h)
theorem RL {scope:Scope} {env:Env} {x:Str} {k:NameKind}:(relabel scope env).names.lookup x=some k→∃k0,scope.names.lookup x=some k0∧(k=k0∨(k0=.free∧k=.cell)):=by
 show (scope.names.map _).lookup x=some k→_
 induction scope.names with
 |nil=>intro h;cases h
 |cons p r ih=>
  obtain ⟨n,j⟩:=p
  intro h
  rw [Br] at h
  rw [Jf]
  rcases Yn h with ⟨hx,hk⟩ |⟨hx,hr⟩
  ·subst hx
   simp only [beq_self_eq_true]
   exact ⟨j,rfl,hk⟩
  ·have hb:(x==n)=false:=by simpa using hx
   rw [hb]
   exact ih hr
structure FK (X:Cx) (scope:Scope) (Nc:List Str) (cs:List (Option Nat)):Prop where
 kind:scope.kind=.function
 loc:∀y∈scope.names,y.2=.local→scope.names.lookup y.1=some .local
 free:∀y∈scope.names,y.2=.free→X.env.kindOf y.1=some .cell∨X.env.kindOf y.1=some .free
 nd:(scope.names.map (·.1)).Nodup
 len:cs.length=Nc.length
 out:∀(i:Nat) (x:Str) (j:Nat),Nc[i]?=some x→cs[i]?=some (some j)→X.N[j]?=some x∧scope.names.lookup x=some .free
theorem Yo {a b:Addr} (h:a<b):@LT.lt Nat instLTNat a b:=h
theorem BM {a b:Addr} (h:@LT.lt Nat instLTNat a b):a≠b:=BG h
theorem Jy {a b:Addr} (h:@LT.lt Nat instLTNat a b):b≠a:=Ne.symm (BG h)
section
variable {X:Cx} {pins:List (Addr×Obj)} {σ:L2.St} {H:Hp} {s:Shared}
theorem RM {scope:Scope} {Nc:List Str} {cs:List (Option Nat)} {fp:List Addr} {cl:List (Str×Addr)} (S:FK X scope Nc cs) (I:Inv X pins σ H s) (f:∀b∈fp,Dr X pins H b) (ob:∀b∈fp,∃o,s.heap.get? b=some o)
 (hcl:∀x c,(x,c)∈cl→X.env.cells.lookup x=some c∧(x,NameKind.free)∈scope.names) (hcl2:∀y∈scope.names,y.2=.free→∃c,(y.1,c)∈cl) {s3:Shared} (e3:s3={s with heap:=s.heap.push {cls:=.type "list",data:=.seq ([]:List Value).toArray}}):
 Inv (Bj X Nc scope s3.heap.objs.size s.heap.objs.size (cellsFrom (s3.heap.objs.size+1) scope.names cl) fp s3 H pins) [] (BU cs σ) H
  {s3 with heap:=pushCells (s3.heap.push {cls:=.type "dict",data:=.dict #[]}) scope.names}:=by
 have k3:∀b o,s.heap.get? b=some o→s3.heap.get? b=some o:=fun b o e=>by subst e3;exact AY _ e
 have Kl:s3.heap.objs.size=s.heap.objs.size+1:=by subst e3;exact Dq ..
 have szd:(s3.heap.push {cls:=.type "dict",data:=.dict #[]}).objs.size=s3.heap.objs.size+1:=Dq ..
 have k34:∀b o,s3.heap.get? b=some o→(pushCells (s3.heap.push {cls:=.type "dict",data:=.dict #[]}) scope.names).get? b=some o:=fun b o e=>pushCells_keeps _ _ b o (AY _ e)
 have k4:∀b o,s.heap.get? b=some o→(pushCells (s3.heap.push {cls:=.type "dict",data:=.dict #[]}) scope.names).get? b=some o:=fun b o e=>k34 b o (k3 b o e)
 have cllt:∀x c,(x,c)∈cl→c<s.heap.objs.size:=fun x c m=>by
  obtain ⟨v,q⟩:=I.cell x c (hcl x c m).1
  exact q.lt
 have cm:∀x c,(cellsFrom (s3.heap.objs.size+1) scope.names cl).lookup x=some c→(x,c)∈cl∨(s3.heap.objs.size+1≤c∧(x,NameKind.cell)∈scope.names∧(pushCells (s3.heap.push {cls:=.type "dict",data:=.dict #[]}) scope.names).IsCell c none):=fun x c e=>by
  have m:=mem_of_lookup e
  rw [←szd] at m
  have:=N2 scope.names _ cl x c m
  rw [szd] at this
  exact this
 have frs_lt:∀b∈frs X.stack,b<s.heap.objs.size:=fun b hb=>by
  obtain ⟨_,o,ho,_⟩:=I.stack.mem hb
  exact AS ho
 have nfs:∀b,b≠X.env.locals→b∉X.fs→b∉frs X.stack:=fun b h1 h2 hb=>by
  rcases qa3.mp (I.stkSub b hb) with q |q
  ·exact h1 q
  ·exact h2 q
 have ok:(Bj X Nc scope s3.heap.objs.size s.heap.objs.size (cellsFrom (s3.heap.objs.size+1) scope.names cl) fp s3 H pins).Ok:=by
  refine ⟨I.ok.mod,S.kind,I.ok.glob,I.ok.blt,AK _,fun x y c e1 e2=>?_,fun x hx=>?_,fun x c hf e=>?_,I.ok.hd,I.ok.frames,.inl rfl,fun b hb=>?_,fun b o e=>?_,?_,fun b o e hb=>?_,fun b hb=>?_,?_,I.stkFree⟩
  ·have m1:=mem_of_lookup e1
   have m2:=mem_of_lookup e2
   have m1':(x,c)∈cellsFrom (s3.heap.push {cls:=.type "dict",data:=.dict #[]}).objs.size scope.names cl:=by rw [szd];exact m1
   have m2':(y,c)∈cellsFrom (s3.heap.push {cls:=.type "dict",data:=.dict #[]}).objs.size scope.names cl:=by rw [szd];exact m2
   exact N3 scope.names (s3.heap.push {cls:=.type "dict",data:=.dict #[]}) cl (fun x c m=>by rw [szd,Kl];exact Bp (cllt x c m) (by omega))
    (fun x y c a b=>I.ok.inj x y c (hcl x c a).1 (hcl y c b).1) x y c m1' m2'
  ·have:∃k,(relabel scope X.env).names.lookup x=some k∧(k=.cell∨k=.free):=by
    rcases hx with q |q
    ·exact ⟨_,q,.inl rfl⟩
    ·exact ⟨_,q,.inr rfl⟩
   obtain ⟨k,e1,hk⟩:=this
   obtain ⟨k0,e0,hk0⟩:=RL e1
   refine Option.isSome_iff_exists.mp (PySem.W.cellsFrom_some _ _ _ ?_)
   have:k0=.cell∨k0=.free:=by
    rcases hk0 with q |⟨q,_⟩
    ·rw [←q];exact hk
    ·exact .inr q
   rcases this with q |q
   ·subst q;exact .inl e0
   ·subst q
    obtain ⟨c,hc⟩:=hcl2 _ (mem_of_lookup e0) rfl
    refine .inr ?_
    cases hl:cl.lookup x with
    |some c'=>rfl
    |none=>
     exfalso
     have:∀p∈cl,p.1≠x:=fun p hp e=>by
      have h2:=List.lookup_eq_none_iff.mp hl p hp
      rw [e] at h2
      simp at h2
     exact this _ hc rfl
  ·have hk:scope.names.lookup x=some .cell:=by
    have:(scope.names.lookup x==some NameKind.cell)=true:=hf
    simpa using this
   rcases cm x c e with q |⟨q1,_,_⟩
   ·have:=lookup_mem S.nd (hcl x c q).2
    rw [hk] at this
    cases this
   ·exact Nat.le_of_succ_le q1
  ·rcases qa3.mp hb with q |q
   ·subst q
    refine ⟨BM (show _<s3.heap.objs.size by omega),fun x c e=>?_⟩
    rcases cm x c e with q |⟨q1,_,_⟩
    ·exact BG (cllt x c q)
    ·exact Jy (Bp (by omega) q1)
   ·obtain ⟨o,ho⟩:=ob b q
    have hlt:=Yo (AS ho)
    refine ⟨BM (show _<s3.heap.objs.size by omega),fun x c e=>?_⟩
    rcases cm x c e with q2 |⟨q1,_,_⟩
    ·exact (f b q).2.2.2.2.1 x c (hcl x c q2).1
    ·exact Jy (Bp (by omega) q1)
  ·obtain ⟨h1,h2⟩:=I.bs b o e
   exact ⟨k3 b o h1,h2⟩
  ·show X.base.objs.size≤s3.heap.objs.size
   have:=B8 I.ok.bsz I.sz
   omega
  ·obtain ⟨h1,h2⟩:=I.bs b o e
   rcases qa3.mp hb with q |q
   ·exact absurd q (BM (AS h1))
   ·rcases (f b q).2.2.2.1 with z |z
    ·exact I.ok.noex b o e z
    ·exact absurd (Bp (AS (I.ok.bs b o e).1) z) (Eo _)
  ·rcases qa3.mp hb with q |q
   ·subst q
    intro z
    exact absurd (frs_lt _ z) (Eo _)
   ·exact nfs b (f b q).2.1 (f b q).2.2.1
  ·exact I.stack.of_keeps fun b o e _=>⟨o,k3 b o e,rfl⟩
 refine ⟨ok,rfl,?_,?_,?_,fun x c e=>?_,?_,fun x c e=>?_,fun p hp=>?_,I.hok.kept k4,?_⟩
 ·show AllBare s3.gens
  subst e3;exact I.bare
 ·exact Un.kept k34
 ·refine ⟨fun _=>none,(Heap.Ns.new s3.heap (.type "dict")).keeps (pushCells_keeps _ _),fun i x v e1 e2 e3'=>?_⟩
  unfold BU at e2
  rw [DG] at e2
  cases ec:cs[i]? with
  |none=>rw [ec] at e2;cases e2
  |some o=>
   rw [ec] at e2
   cases o with
   |none=>cases e2
   |some j=>
    simp only [Gi,Option.bind_some,Option.some.injEq] at e2
    have e2':σ[j]?=some (some v):=by
     cases ej:σ[j]? with
     |none=>rw [ej] at e2;cases e2
     |some w=>rw [ej] at e2;simp at e2;rw [e2]
    obtain ⟨hN,hfr⟩:=S.out i x j e1 ec
    have hfm:=mem_of_lookup hfr
    have hkind:=S.free _ hfm rfl
    obtain ⟨m,hn,hl⟩:=I.loc
    obtain ⟨u,r,look⟩:=hl j x v hN e2' (by
     rcases hkind with q |q
     ·exact .inr (.inl q)
     ·exact .inr (.inr q))
    refine ⟨u,r,.inr ?_⟩
    rcases look with ⟨q,_⟩ |⟨_,c,ec',hc⟩
    ·rcases hkind with z |z<;>(rw [q] at z;cases z)
    ·obtain ⟨c',hc'⟩:=hcl2 _ hfm rfl
     have hv:(Bj X Nc scope s3.heap.objs.size s.heap.objs.size (cellsFrom (s3.heap.objs.size+1) scope.names cl) fp s3 H pins).env.kindOf x=some .cell∨(Bj X Nc scope s3.heap.objs.size s.heap.objs.size (cellsFrom (s3.heap.objs.size+1) scope.names cl) fp s3 H pins).env.kindOf x=some .free:=by
      rcases e3' with z |z |z
      ·obtain ⟨k0,a1,a2⟩:=RL z
       rw [hfr] at a1
       cases a1
       rcases a2 with a2 |⟨_,a2⟩<;>cases a2
      ·exact .inl z
      ·exact .inr z
     refine ⟨hv,c,?_,hc.keeps k4⟩
     obtain ⟨c2,h2⟩:=ok.has x hv
     rw [h2]
     rcases cm x c2 h2 with q |⟨_,q,_⟩
     ·rw [←ec',(hcl x c2 q).1]
     ·have:=lookup_mem S.nd q
      rw [hfr] at this
      cases this
 ·rcases cm x c e with q |⟨_,_,q⟩
  ·obtain ⟨v,z⟩:=I.cell x c (hcl x c q).1
   exact ⟨v,z.keeps k4⟩
  ·exact ⟨none,q⟩
 ·exact I.hok.fresh (show s.heap.objs.size≤s3.heap.objs.size by omega)
 ·rcases cm x c e with q |⟨q,_,_⟩
  ·exact I.freeC x c (hcl x c q).1
  ·exact I.hok.fresh (by omega)
 ·have hp':p∈X.pn++pins:=by
   rcases qaH.mp hp with q |q
   ·exact q
   ·exact absurd q (by simp)
  obtain ⟨a1,a2,a3,a4,a5⟩:=I.pin p hp'
  refine ⟨k4 _ _ a1,a2,?_,nfs p.1 a3 a4,a5⟩
  show p.1≠s3.heap.objs.size
  exact BM (Bp (AS a1) (by omega))
 ·show (BU cs σ).length=Nc.length
  simp [BU,S.len]
end
section
variable {X:Cx} {elt tg iter:Expr} {ifs:List Expr} {scope:Scope} {pos:Pos} {Nc:List Str} {cs:List (Option Nat)} {wi:TI} {g:TG} {tc:TT} {te:TE}
theorem RN {pins:List (Addr×Obj)} {σ:L2.St} {H H':Hp} {s s3 s':Shared} {fp:List Addr} {C:Addr} {cells:List (Str×Addr)} {po:List (Addr×Obj)} {σc:L2.St} {acc:List V} {its:List Value} {n:Nat}
 (I:Inv X pins σ H s) (f:∀b∈fp,Dr X pins H b) (e3:s3={s with heap:=s.heap.push {cls:=.type "list",data:=.seq ([]:List Value).toArray}}) (hC:C=s3.heap.objs.size)
 (I':Inv (Bj X Nc scope C s.heap.objs.size cells fp s3 H pins) po σc H' s') (hD:H' s.heap.objs.size=none) (hl:acc.length≤sizeLine) (rv:Vals acc its) (ho:s'.heap.get? s.heap.objs.size=some {cls:=.type "list",data:=.seq its.toArray n})
 {h':Heap} (sb:Heap.SameBut C s'.heap h'):Inv X pins σ (Az H' s.heap.objs.size (.lst acc)) {s' with heap:=h'}:=by
 have k3:∀b o,s.heap.get? b=some o→s3.heap.get? b=some o:=fun b o e=>by subst e3;exact AY _ e
 have Kl:s3.heap.objs.size=s.heap.objs.size+1:=by subst e3;exact Dq ..
 have EE:∀b o,s.heap.get? b=some o→b≠s.heap.objs.size:=fun b o e=>BM (AS e)
 have neC:∀b o,s.heap.get? b=some o→b≠C:=fun b o e=>by rw [hC];exact BM (Bp (AS e) (by omega))
 have DC:s.heap.objs.size≠C:=by rw [hC];exact BM (by omega)
 have U:Un (frs X.stack) (s.heap.objs.size::fp) H H' s3.heap s'.heap:=I'.base
 have exn:∀b o,s.heap.get? b=some o→b∉fp→b∉s.heap.objs.size::fp:=fun b o e hx hb=>by
  rcases qa3.mp hb with z |z
  ·exact EE b o e z
  ·exact hx z
 have neT:∀b u,H' b=some u→b≠s.heap.objs.size:=fun b u e=>BN e hD
 have hCn:H' C=none:=I'.free
 refine I.call' (s':={s' with heap:=h'}) (ch:=fp) ?_ ?_ ?_ I'.bare ?_
 ·show s'.os=s.os
  have:=I'.os
  rw [this]
  show s3.os=s.os
  subst e3;rfl
 ·refine ⟨fun b o e nn hb hx=>?_,fun b o e nn hb hx=>?_,fun b o e nn hx=>?_,fun b o e hx=>?_,fun b xs e=>?_,fun b o u e=>?_,fun b ps e=>?_⟩
  ·exact (sb.2 b (neC b o e)).trans (U.keep b o (k3 b o e) nn hb (exn b o e hx))
  ·obtain ⟨sl,z⟩:=U.slot b o (k3 b o e) nn hb (exn b o e hx)
   exact ⟨sl,(sb.2 b (neC b o e)).trans z⟩
  ·rw [AJ (EE b o e)]
   exact U.free b o (k3 b o e) nn (exn b o e hx)
  ·obtain ⟨o',z⟩:=U.there b o (k3 b o e) (exn b o e hx)
   exact ⟨o',(sb.2 b (neC b o e)).trans z⟩
  ·have z:=U.tups b xs e
   rw [AJ (neT b _ z)]
   exact z
  ·have z:=U.frzs b o u e
   rw [AJ (neT b _ z)]
   exact z
  ·obtain ⟨more,z⟩:=U.tbls b ps e
   exact ⟨more,by rw [AJ (neT b _ z)];exact z⟩
 ·intro b u e
  by_cases hb:b=s.heap.objs.size
  ·subst hb
   rw [Cz] at e
   cases e
   exact ⟨hl,its,n,rv,(sb.2 _ DC).trans ho⟩
  ·rw [AJ hb] at e
   refine (I'.hok b u e).stay (fun c v hc z=>(sb.2 c ?_).trans z) (fun c z=>by rw [AJ (neT c _ z)];exact z) fun c xs z=>by rw [AJ (neT c _ z)];exact z
   rcases hc with rfl |hc
   ·exact BN e hCn
   ·exact BN hc hCn
 ·intro b hb
  obtain ⟨_,f1,_,f3,f4,f5⟩:=f b hb
  exact ⟨f3,f1,f4,f5⟩
inductive RO (W:Nat→Nat→List V→Hp→Prop) (Xc:Cx) (σc:L2.St) (tn:Nat→Heap→Prop) (fp:List Addr) (Da:Addr) (n:Nat) (s':Shared):Prop where
 |mk (i:Nat) (acc:List V) (H':Hp) (its:List Value) (k:Nat) (w:W i n acc H') (ii:Inv Xc [] σc H' s') (st:tn i s'.heap) (fr:∀b∈fp,H' b=none) (hD:H' Da=none) (rv:Vals acc its) (ho:s'.heap.get? Da=some {cls:=.type "list",data:=.seq its.toArray k}):RO W Xc σc tn fp Da n s'
theorem RP {use:Option (Value→Sem Unit)} {QQ:Value→Shared→Prop} {ppos:Pos} {pins:List (Addr×Obj)} {s:Shared} {σ:L2.St} {H:Hp} {Q:VK} (hcalm:X.calm=true) (S:FK X scope Nc cs) (hi:PI X tg iter wi)
 (hb:∀(C D:Addr) (cells:List (Str×Addr)) (fp:List Addr) (s₀:Shared) (H₀:Hp) (pins:List (Addr×Obj)),PG (Bj X Nc scope C D cells fp s₀ H₀ pins) tg g∧Gs (Bj X Nc scope C D cells fp s₀ H₀ pins) ifs tc∧PE (Bj X Nc scope C D cells fp s₀ H₀ pins) elt te)
 (hsf:∀x,foldedSetIterable iter X.env x=pure x) (I:Inv X pins σ H s) (h:L5 cs wi g tc te σ H Q)
 (fin:∀(s6:Shared) (C D:Addr) (H7:Hp) (m6:Str→Option Value),s6.heap.Ns C m6→H7 C=none→X.s₀.heap.objs.size≤C→C≠X.env.locals→(∀x c,X.env.cells.lookup x=some c→c≠C)→(∀p∈X.pn++pins,p.1≠C)→
  (∀h',Heap.SameBut C s6.heap h'→Inv X pins σ H7 {s6 with heap:=h'})→Q (.ref D) H7→compPost (model X.prog X.w) X.A X.xe use QQ (.ref D) C (.ok .next) s6):
 wpAny (model X.prog X.w) X.A (comprehension (.ListComp elt [⟨tg,iter,ifs,0⟩] scope pos) scope X.env ppos (newList []) false (eval iter X.env) use) QQ X.xe s:=by
 obtain ⟨cl,hclos,hcl,hcl2⟩:=RI (scope:=scope) (env:=X.env) fun y hy hf=>I.ok.has y.1 (S.free y hy hf)
 refine wpAny_comprehension_free (use:=use) rfl hsf hclos S.kind S.loc (AA (hi pins s σ H _ I h) fun xv s1 h1=>AA h1 fun itv s2 h2=>?_)
 obtain ⟨it,fp,tn,J,H2,e,I2,T,Cy,f2,W,⟨n0,w0⟩,turn⟩:=h2
 subst e
 refine wpAny_newObj_type ?_
 generalize e3:({s2 with heap:=s2.heap.push {cls:=.type "list",data:=.seq ([]:List Value).toArray}}:Shared)=s3
 refine RJ ?_
 have ob2:∀b∈fp,∃o,s2.heap.get? b=some o:=fun b hb=>let ⟨o,e,_⟩:=T.obj _ _ Cy b hb;⟨o,e⟩
 have I4:=RM (fp:=fp) (cl:=cl) S I2 f2 ob2 hcl hcl2 e3.symm
 generalize e4:({s3 with heap:=pushCells (s3.heap.push {cls:=.type "dict",data:=.dict #[]}) scope.names}:Shared)=s4 at I4
 generalize ecl:cellsFrom (s3.heap.objs.size+1) scope.names cl=cells at I4
 obtain ⟨pg,pt,pe⟩:=hb s3.heap.objs.size s2.heap.objs.size cells fp s3 H2 pins
 generalize eX:Bj X Nc scope s3.heap.objs.size s2.heap.objs.size cells fp s3 H2 pins=Xc at I4 pg pt pe
 have xP:Xc.prog=X.prog:=by subst eX;rfl
 have xw:Xc.w=X.w:=by subst eX;rfl
 have xK:Xc.K=X.K:=by subst eX;rfl
 have xA:Xc.A=X.A:=by subst eX;rfl
 have xE:Xc.env=RK X.env scope s3.heap.objs.size cells:=by subst eX;rfl
 have xL:Xc.env.locals=s3.heap.objs.size:=by subst eX;rfl
 have xe:Xc.xe=fun _ _=>False:=by subst eX;rfl
 have xc:Xc.calm=true:=by subst eX;exact hcalm
 have xex:Xc.ex=s2.heap.objs.size::fp:=by subst eX;rfl
 have okc:=I4.ok
 have k3:∀b o,s2.heap.get? b=some o→s3.heap.get? b=some o:=fun b o e=>by subst e3;exact AY _ e
 have Kl:s3.heap.objs.size=s2.heap.objs.size+1:=by subst e3;exact Dq ..
 have k34:∀b o,s3.heap.get? b=some o→s4.heap.get? b=some o:=fun b o e=>by subst e4;exact pushCells_keeps _ _ b o (AY _ e)
 have hDC:s2.heap.objs.size≠Xc.env.locals:=by rw [xL];exact BM (by omega)
 have hDcell:∀x c,Xc.env.cells.lookup x=some c→c≠s2.heap.objs.size:=fun x c e=>(okc.exf _ (by rw [xex];exact AZ)).2 x c e
 have hDpin:∀p∈Xc.pn,p.1≠s2.heap.objs.size:=fun p hp=>by
  have hp':p∈X.pn++pins:=by subst eX;exact hp
  exact BM (AS (I2.pin p hp').1)
 have hDfp:s2.heap.objs.size∉fp:=fun hm=>by
  obtain ⟨o,e⟩:=ob2 _ hm
  exact absurd (AS e) (Eo _)
 have hDex:s2.heap.objs.size∈Xc.ex:=by rw [xex];exact AZ
 have hDfs:s2.heap.objs.size∉Xc.fs:=okc.exfs _ hDex
 have fpC:∀{po:List (Addr×Obj)} {H':Hp},(∀b∈fp,H' b=none)→(∀p∈po,p.1=s2.heap.objs.size)→∀b∈fp,Dr Xc po H' b:=fun {po H'} hn hp b hb=>by
  have hbx:b∈Xc.ex:=by rw [xex];exact Bb _ hb
  refine ⟨hn b hb,(okc.exf b hbx).1,okc.exfs b hbx,.inl hbx,(okc.exf b hbx).2,fun p hpp=>?_⟩
  rcases qaH.mp hpp with z |z
  ·have hp':p∈X.pn++pins:=by subst eX;exact z
   exact (f2 b hb).2.2.2.2.2 p hp'
  ·rw [hp p z]
   intro e
   exact hDfp (e ▸ hb)
 have loop:∀sx,sx=s4→codeAny (model X.prog X.w) X.A (.compLoop (.ListComp elt [⟨tg,iter,ifs,0⟩] scope pos) 0 (.ref it) (.ref s2.heap.objs.size) Xc.env)
  (compPost (model X.prog X.w) X.A X.xe use QQ (.ref s2.heap.objs.size) s3.heap.objs.size) sx:=by
  rintro sx rfl
  refine Yk (RO W Xc (BU cs σ) tn fp s2.heap.objs.size) ?_ n0
   ⟨0,[],H2,[],0,w0,I4,?_,fun b hb=>(f2 b hb).1,I2.hok.fresh (AK _),.nil,?_⟩
  ·rintro n s5 ⟨i,acc,H5,its,k,w5,I5,Fz,fr5,hD5,rv5,ho5⟩
   have pin1:Inv Xc [(s2.heap.objs.size,{cls:=.type "list",data:=.seq its.toArray k})] (BU cs σ) H5 s5:=I5.pins_of fun p hp=>by
    rw [qa7] at hp
    subst hp
    exact ⟨ho5,hD5,hDC,hDfs,fun v z=>by cases z⟩
   have pone:∀p∈[((s2.heap.objs.size:Addr),({cls:=.type "list",data:=.seq its.toArray k}:Obj))],p.1=s2.heap.objs.size:=fun p hp=>by
    rw [qa7] at hp;subst hp;rfl
   rcases turn i n acc H5 w5 with ⟨stop,hlen,qn⟩ |⟨go,hlen,step⟩
   ·have z1:=T.done Xc xP xw xK xc i _ s5 (BU cs σ) H5 (fun _ _=>False) pin1 (fpC fr5 pone) Fz stop
    rw [xA] at z1
    refine wpAny_mono z1 (fun r s6 z1_=>?_) fun _ _ z=>False.elim z
    obtain ⟨hr,I6⟩:=z1_
    subst hr
    obtain ⟨m6,hn6,_⟩:=I6.loc
    obtain ⟨ho6,hD6,_⟩:=I6.pin _ (Bi _ AZ)
    rw [xL] at hn6
    have lt2:∀b,b<s2.heap.objs.size→b≠s3.heap.objs.size:=fun b hb=>BM (Bp hb (by omega))
    refine fin s6 s3.heap.objs.size s2.heap.objs.size (Az H5 s2.heap.objs.size (.lst acc)) m6 hn6 ?_ (B8 I2.sz (by omega)) ?_ ?_ ?_ ?_ (qn _ hD6)
    ·rw [AJ (Jy (by omega))]
     have:=I6.free
     rw [xL] at this
     exact this
    ·obtain ⟨m2,hn2,_⟩:=I2.loc
     exact Ne.symm (lt2 _ hn2.lt)
    ·intro x c hx
     obtain ⟨v,hv⟩:=I2.cell x c hx
     obtain ⟨o,ho,_⟩:=hv
     exact lt2 _ (AS ho)
    ·intro p hp
     exact lt2 _ (AS (I2.pin p hp).1)
    ·intro h' sb
     subst eX
     exact RN I2 f2 e3.symm rfl I6 hD6 hlen rv5 ho6 sb
   ·have z1:=T.item Xc xP xw xK xc i _ s5 (BU cs σ) H5 (fun _ _=>False) pin1 (fpC fr5 pone) Fz go
    rw [xA] at z1
    refine wpAny_mono z1 (fun r s6 z2_=>?_) fun _ _ z=>False.elim z
    obtain ⟨u,hr,h6⟩:=z2_
    subst hr
    refine wpAny_mono h6 (fun _ s7 z3_=>?_) fun _ _ z=>False.elim z
    obtain ⟨x,H7,I7,r7,y7,GF,fr7⟩:=z3_
    have I7':=I7.pinned (fp:=fp) (fpC fr7 pone) (T.obj _ _ GF)
    have z2:=pg _ s7 (BU cs σ) H7 x u _ I7' r7 (step x H7 y7)
    rw [xP,xw,xA,xe] at z2
    refine wpAny_mono z2 (fun _ s8 z4_=>?_) fun _ _ z=>False.elim z
    obtain ⟨σ8,H8,I8,sub8,q8⟩:=z4_
    have z3:=pt _ s8 σ8 H8 _ I8 q8
    rw [xP,xw,xA,xe] at z3
    refine wpAny_mono z3 (fun ok s9 z5_=>?_) fun _ _ z=>False.elim z
    obtain ⟨H9,I9,q9⟩:=z5_
    have back:∀{sy:Shared} {Hy:Hp},Inv Xc ([(s2.heap.objs.size,{cls:=.type "list",data:=.seq its.toArray k})]++GO fp s7.heap) σ8 Hy sy→
     Inv Xc [] (BU cs σ) Hy sy∧tn (i+1) sy.heap∧(∀b∈fp,Hy b=none)∧Hy s2.heap.objs.size=none∧sy.heap.get? s2.heap.objs.size=some {cls:=.type "list",data:=.seq its.toArray k}:=fun {sy Hy} Iy=>by
     obtain ⟨ho,hD,_⟩:=Iy.pin _ (Bi _ (Cu _ AZ))
     refine ⟨(Iy.pins_of fun p hp=>absurd hp (by simp)).weak (sub8.1) (fun j v z=>sub8.2 j v z),T.keep _ _ _ GF fun b hb o e=>(Iy.pin (b,o) (Bi _ (Bi _ (JZ hb e)))).1,fun b hb=>?_,hD,ho⟩
     obtain ⟨o,e,_⟩:=T.obj _ _ GF b hb
     exact (Iy.pin (b,o) (Bi _ (Bi _ (JZ hb e)))).2.1
    cases ok with
    |false=>
     simp only [DF,if_false] at q9 ⊢
     obtain ⟨n',hn',w'⟩:=q9
     obtain ⟨a1,a2,a3,a4,a5⟩:=back I9
     exact ⟨n',hn',i+1,acc,H9,its,k,w',a1,a2,a3,a4,rv5,a5⟩
    |true=>
     simp only [if_true] at q9 ⊢
     have z4:=pe _ s9 σ8 H9 _ I9 q9
     rw [xP,xw,xA,xe] at z4
     refine wpAny_mono z4 (fun y s10 z6_=>?_) fun _ _ z=>False.elim z
     obtain ⟨yv,H10,I10,r10,n',hn',w'⟩:=z6_
     obtain ⟨a1,a2,a3,a4,a5⟩:=back I10
     have hlen':=rv5.length
     refine wpAny_list_append_plain ⟨k,a5⟩ (fun h' ⟨k',hl'⟩ sb=>?_) (by rw [Bc];omega)
     have tu:Inv Xc [] (BU cs σ) H10 {s10 with heap:=h'}:=a1.turned (t':=s10.toks) (it:=s2.heap.objs.size) (fun b o hb e=>(sb.2 b hb).trans e) a4 hDC (.inl hDex) hDcell (fun p hp=>by
      rcases qaH.mp hp with z |z
      ·exact hDpin p z
      ·exact absurd z (by simp))
     refine ⟨n',hn',i+1,acc++[yv],H10,its++[y],k',w',tu,T.keep _ _ _ a2 (fun b hb o e=>(sb.2 b (fun z=>hDfp (z ▸ hb))).trans e),a3,a4,rv5.append (.cons r10 .nil),?_⟩
     rw [hl']
     simp
  ·exact T.keep _ _ _ Cy fun b hb o e=>k34 b o (k3 b o e)
  ·refine k34 _ _ ?_
   subst e3
   exact BR _ rfl
 have fin:=loop s4 rfl
 have hst4:tn 0 s4.heap:=T.keep _ _ _ Cy fun b hb o e=>k34 b o (k3 b o e)
 rw [xE] at fin
 have:=codeAny_compStart_list fin (T.self X.A 0 s4 _ _ hst4 fin)
 exact this
theorem Yp (hcalm:X.calm=true) (S:FK X scope Nc cs) (hi:PI X tg iter wi)
 (hb:∀(C D:Addr) (cells:List (Str×Addr)) (fp:List Addr) (s₀:Shared) (H₀:Hp) (pins:List (Addr×Obj)),PG (Bj X Nc scope C D cells fp s₀ H₀ pins) tg g∧Gs (Bj X Nc scope C D cells fp s₀ H₀ pins) ifs tc∧PE (Bj X Nc scope C D cells fp s₀ H₀ pins) elt te)
 (hsf:∀x,foldedSetIterable iter X.env x=pure x:=by intro _;rfl):PE X (.ListComp elt [⟨tg,iter,ifs,0⟩] scope pos) (L5 cs wi g tc te):=by
 intro pins s σ H Q I h
 rw [eval_ListComp]
 exact RP (use:=none) hcalm S hi hb hsf I h fun s6 C D H7 m6 hn _ _ _ _ _ inv q=>⟨m6,hn,fun h' sb=>⟨.ref D,H7,inv h' sb,rfl,q⟩⟩
end
def noErr {α:Type}:Out α→Out α
 |.ok a h=>.ok a h
 |_=>.stuck
@[simp] theorem Zfw {α:Type} (a:α) (h:HD):noErr (.ok a h)=.ok a h:=rfl
theorem Jz {α β γ δ:Type} {K:PySem.W.Frag} {R:List Addr→Hp→α→β→Prop} {R':List Addr→Hp→γ→δ→Prop} {m:List Addr} {H:Hp} {E:XK} {Q:δ→Hp→Prop} {Q':β→Hp→Prop} {o:Out α} {k:α→HD→Out γ}
 (h:Post K R' m H E Q ((noErr o).bind k)) (f:∀a h1 v m1 H1,o=.ok a h1→m <+:m1→Kp H H1→HR K m1 h1 H1→R m1 H1 a v→Post K R' m1 H1 E Q (k a h1)→Q' v H1):Post K R m H E0 Q' o:=by
 cases o with
 |ok a h1=>exact fun v m1 H1 p kk hr r=>f a h1 v m1 H1 rfl p kk hr r (Post.ahead p kk h)
 |err C fs h1=>exact False.elim h
 |stuck=>exact False.elim h
def Cp (cs:List (Option Nat)) (ρ:Ai):Ai:=cs.map fun o=>o.bind fun j=>(ρ[j]?).join
theorem join_some {α:Type} {l:List (Option α)} {j:Nat} {a:α}:(l[j]?).join=some a↔l[j]?=some (some a):=by
 cases h:l[j]? with
 |none=>simp
 |some o=>simp
theorem ER.comp {K:PySem.W.Frag} {m:List Addr} {H:Hp} {ρ:Ai} {σ:L2.St} (cs:List (Option Nat)) (er:ER K m H ρ σ):ER K m H (Cp cs ρ) (BU cs σ):=by
 refine ⟨by simp [Cp,BU],fun i d e=>?_⟩
 unfold Cp at e
 rw [DG] at e
 cases ec:cs[i]? with
 |none=>rw [ec] at e;cases e
 |some o=>
  rw [ec] at e
  cases o with
  |none=>cases e
  |some j=>
   simp only [Gi,Option.bind_some,Option.some.injEq] at e
   obtain ⟨v,e1,r⟩:=er.2 j d (join_some.mp e)
   refine ⟨v,?_,r⟩
   unfold BU
   rw [DG,ec]
   simp only [Gi,Option.bind_some,Option.some.injEq]
   exact join_some.mpr e1
theorem Sub.set {cs:List (Option Nat)} {σ:L2.St} {σ':L2.St} {i:Nat} {v:V} (h:cs[i]?=some none) (s:Sub (BU cs σ) σ'):Sub (BU cs σ) (σ'.set i (some v)):=by
 refine ⟨by rw [s.1];simp,fun j w e=>?_⟩
 have hj:i≠j:=by
  rintro rfl
  unfold BU at e
  rw [DG,h] at e
  cases e
 rw [CI hj]
 exact s.2 j w e
theorem Sub.refl (σ:L2.St):Sub σ σ:=⟨rfl,fun _ _ h=>h⟩
def HA (K:PySem.W.Frag) (cs:List (Option Nat)) (gg:TG) (sg:MG):Prop:=
 ∀m H d v ρ σ0 ρ' Q,DV K m H d v→ER K m H ρ (BU cs σ0)→sg d ρ=some ρ'→(∀σ',Sub (BU cs σ0) σ'→ER K m H ρ' σ'→Q σ' H)→gg v (BU cs σ0) H Q
theorem Cj {K:PySem.W.Frag} {cs:List (Option Nat)} {i:Nat} (h:cs[i]?=some none):HA K cs (Cc i) (Bd i):=fun m H d v ρ σ0 ρ' Q r er e q=>by
 simp only [Bd,Option.some.injEq] at e
 subst e
 exact q _ ((Sub.refl _).set h) (er.set r)
theorem JA {K:PySem.W.Frag} {cs:List (Option Nat)} {i j:Nat} (h:cs[i]?=some none) (h':cs[j]?=some none):HA K cs (E4 K 2 (CJ (Cc i) (CJ (Cc j) FC))) (Ci i j):=fun m H d v ρ σ0 ρ' Q r er e q=>by
 unfold Ci at e
 split at e
 ·rename_i a b
  cases e
  simp only [DV,DVs] at r
  obtain ⟨p,vs,rfl,hp,v1,w1,rfl,r1,v2,w2,rfl,r2,rfl⟩:=r
  exact ⟨p,_,rfl,SqT.of hp,rfl,v1,_,rfl,v2,_,rfl,rfl,q _ (((Sub.refl _).set h).set h') ((er.set r1).set r2)⟩
 ·cases e
abbrev HB (X:Cx) (E:XK) (ifs:List Expr) (t:MT):Prop:=Gs X ifs (E8 X.K E t)
def A4:MT:=fun _ h=>.ok true h
theorem Bz {X:Cx} {E:XK}:HB X E [] A4:=fun pins s σ H Q I z1_=>by obtain ⟨m,ρ,h,hr,er,p⟩:=z1_;exact (Yl pins s σ H Q I (p true m H (AC _) (.refl _) hr rfl))
theorem L6 {X:Cx} {E:XK} {c:Expr} {t:MT} (h:DT X E c t):HB X E [c] t:=Ym h
open Classical in
noncomputable def Ed (src:Bm) (items:List D) (sg:MG) (t:MT) (f:ME) (ρc:Ai):List D→HD→Out (List D)
 |[],h=>if Bq src items h then .ok [] h else .stuck
 |d::ds,h=>if Bq src items h then match sg d ρc with
   |none=>.stuck
   |some ρ1=>(noErr (t ρ1 h)).bind fun b h1=>if b=true then (noErr (f ρ1 h1)).bind fun y h2=>(Ed src items sg t f ρc ds h2).bind fun ys h3=>.ok (y::ys) h3 else Ed src items sg t f ρc ds h1
  else .stuck
noncomputable def AR (cs:List (Option Nat)) (it:MI) (sg:MG) (t:MT) (f:ME):ME:=fun ρ h=>(it ρ h).bind fun x h1=>if x.1.length≤sizeLine then (Ed x.2 x.1 sg t f (Cp cs ρ) x.1 h1).bind Du else .stuck
theorem Out.bind_assoc {α β γ:Type} (o:Out α) (k:α→HD→Out β) (l:β→HD→Out γ):(o.bind k).bind l=o.bind fun a h=>(k a h).bind l:=by cases o<;>rfl
section
variable {X:Cx} {E:XK} {elt tg iter:Expr} {ifs:List Expr} {scope:Scope} {pos:Pos} {Nc:List Str} {cs:List (Option Nat)} {it:MI} {gg:TG} {sg:MG} {t:MT} {f:ME}
inductive RQ (K:PySem.W.Frag) (E:XK) (Q:VK) (src:Bm) (items:List D) (sg:MG) (t:MT) (f:ME) (ρc:Ai) (m1:List Addr) (H1:Hp) (i n:Nat) (acc:List V) (H2:Hp):Prop where
 |mk (e:n=items.length - i) (l:i≤items.length) (a:acc.length≤i) (m2:List Addr) (h2:HD) (dacc:List D) (p:m1 <+:m2) (k:Kp H1 H2) (hr:HR K m2 h2 H2) (da:DVs K m2 H2 dacc acc) (q:Post K (rD K) m2 H2 E Q ((Ed src items sg t f ρc (items.drop i) h2).bind fun ys h3=>Du (dacc++ys) h3)):RQ K E Q src items sg t f ρc m1 H1 i n acc H2
theorem RS (hg:HA X.K cs gg sg):∀σ H Q,tD X.K E (AR cs it sg t f) σ H Q→L5 cs (tM X.K (GV X.K) E it) gg (E8 X.K E0 t) (tD X.K E0 f) σ H Q:=by
 refine ?_
 rintro σ H Q ⟨m,ρ,h,hr,er,p⟩
 refine ⟨m,ρ,h,hr,er,Post.bind p fun x h1 J m1 H1 _ p1 k1 hr1 r1 q1=>?_⟩
 obtain ⟨items,src⟩:=x
 dsimp only at q1
 split at q1
 ·rename_i hz
  have er1:ER X.K m1 H1 (Cp cs ρ) (BU cs σ):=(er.keep p1 k1).comp cs
  refine ⟨RQ X.K E Q src items sg t f (Cp cs ρ) m1 H1,
   ⟨items.length,rfl,Ep _,AK _,m1,h1,[],AC _,.refl _,hr1,.nil,by simpa using q1⟩,?_⟩
  rintro i n acc H2 ⟨rfl,hi',ha,m2,h2,dacc,p2,k2,hr2,da,q2⟩
  by_cases hlt:i<items.length
  ·rw [Ll hlt] at q2
   unfold Ed at q2
   split at q2
   ·rename_i hs
    obtain ⟨hgo,hy⟩:=(r1 i m2 h2 H2 p2 k2 hr2 hs).1 hlt
    refine .inr ⟨hgo,by omega,fun y H3 hyl=>?_⟩
    obtain ⟨k3,hr3,d,ed,rd⟩:=hy y H3 hyl
    have ed':d=items[i]:=by rw [Bh hlt] at ed;exact (Option.some.inj ed).symm
    subst ed'
    split at q2
    ·exact q2.elim
    ·rename_i ρ3 es
     have er3:ER X.K m2 H3 (Cp cs ρ) (BU cs σ):=er1.keep p2 (k2.trans k3)
     refine hg m2 H3 _ y (Cp cs ρ) σ ρ3 _ rd er3 es fun σ4 sub4 er4=>⟨sub4,m2,ρ3,h2,hr3,er4,?_⟩
     rw [Out.bind_assoc] at q2
     refine Jz (Post.ahead (AC _) k3 q2) fun b h5 v m5 H5 _ p5 k5 hr5 r5 q5=>?_
     cases r5
     cases b with
     |false=>
      simp only [DF,if_false] at q5 ⊢
      exact ⟨items.length - (i+1),by omega,rfl,hlt,by omega,m5,h5,dacc,p2.trans p5,(k2.trans k3).trans k5,hr5,DVs.keep p5 (k3.trans k5) da,q5⟩
     |true=>
      simp only [if_true] at q5 ⊢
      rw [Out.bind_assoc] at q5
      refine ⟨m5,ρ3,h5,hr5,er4.keep p5 k5,Jz q5 fun z h6 w m6 H6 _ p6 k6 hr6 r6 q6=>?_⟩
      refine ⟨items.length - (i+1),by omega,rfl,hlt,by simp;omega,m6,h6,dacc++[z],(p2.trans p5).trans p6,((k2.trans k3).trans k5).trans k6,hr6,(DVs.keep (p5.trans p6) ((k3.trans k5).trans k6) da).app (.cons r6 .nil),?_⟩
      rw [Out.bind_assoc] at q6
      simp only [Out.bind_ok] at q6
      simpa using q6
   ·exact q2.elim
  ·have he:i=items.length:=Nat.le_antisymm hi' (Je hlt)
   subst he
   rw [List.drop_length] at q2
   unfold Ed at q2
   split at q2
   ·rename_i hs
    simp only [Out.bind_ok,E3] at q2
    obtain ⟨z1,z2⟩:=J6 hr2 da q2
    exact .inl ⟨(r1 _ m2 h2 H2 p2 k2 hr2 hs).2 rfl,z1,z2⟩
   ·exact q2.elim
 ·exact q1.elim
theorem BE (hcalm:X.calm=true) (S:FK X scope Nc cs) (hi:EF X E tg iter it) (hg:HA X.K cs gg sg)
 (hb:∀(C D:Addr) (cells:List (Str×Addr)) (fp:List Addr) (s₀:Shared) (H₀:Hp) (pins:List (Addr×Obj)),PG (Bj X Nc scope C D cells fp s₀ H₀ pins) tg gg∧HB (Bj X Nc scope C D cells fp s₀ H₀ pins) E0 ifs t∧Ev (Bj X Nc scope C D cells fp s₀ H₀ pins) E0 elt f)
 (hsf:∀x,foldedSetIterable iter X.env x=pure x:=by intro _;rfl):Ev X E (.ListComp elt [⟨tg,iter,ifs,0⟩] scope pos) (AR cs it sg t f):=by
 exact Cd (Yp (g:=gg) (tc:=E8 X.K E0 t) (te:=tD X.K E0 f) hcalm S hi hb hsf) (RS hg)
theorem Yq {i:Nat} {x:Str} {pos' pos2:Pos} (hcalm:X.calm=true) (hN:X.N.Nodup) (hix:X.N[i]?=some x) (hx:Hr X.env.scope x) (S:FK X scope Nc cs) (hi:EF X E tg iter it) (hg:HA X.K cs gg sg)
 (hb:∀(C D:Addr) (cells:List (Str×Addr)) (fp:List Addr) (s₀:Shared) (H₀:Hp) (pins:List (Addr×Obj)),PG (Bj X Nc scope C D cells fp s₀ H₀ pins) tg gg∧HB (Bj X Nc scope C D cells fp s₀ H₀ pins) E0 ifs t∧Ev (Bj X Nc scope C D cells fp s₀ H₀ pins) E0 elt f)
 (hsf:∀x,foldedSetIterable iter X.env x=pure x:=by intro _;rfl) (hsw:swapsWith (.ListComp elt [⟨tg,iter,ifs,0⟩] scope pos) (some (.Name x pos')) pos2.line X.env=pure true:=by rfl)
 (hf:X.fn x=true∨X.env.scope.names.lookup x=some .local:=by first |exact .inl rfl |exact .inr rfl |assumption):Ex X E (.Assign [.Name x pos'] (.ListComp elt [⟨tg,iter,ifs,0⟩] scope pos) pos2) (AD i (AR cs it sg t f)):=by
 rintro pins s σ H D I ⟨m,ρ,h,hr,er,p⟩
 have hq:L5 cs (tM X.K (GV X.K) E it) gg (E8 X.K E0 t) (tD X.K E0 f) σ H (fun v H1=>D.nx (σ.set i (some v)) H1):=RS hg σ H _ ⟨m,ρ,h,hr,er,PostS.bind p fun y h1 v m1 H1 _ p1 k1 hr1 r1 q1=>(q1.here hr1) _ ((er.keep p1 k1).set r1)⟩
 rw [exec_Assign_Name_used _ _ _ _ hsw]
 refine wpAny_bind (wpAny_standAt (wpAny_bind ?_))
 show wpAny _ X.A (do let _ ←comprehension (.ListComp elt [⟨tg,iter,ifs,0⟩] scope pos) scope X.env _ (newList []) false (eval iter X.env) (some (assign (.Name x pos') X.env))) _ _ s
 refine wpAny_bind (wpAny_mono (RP (QQ:=fun _ s'=>SP X pins D .next s') hcalm S hi hb hsf I hq fun s6 C Dd H7 m6 hn hC h0 hL hc hp inv q=>?_) (fun _ s' z=>wpAny_pure (wpAny_pure z)) fun _ _ z=>z)
 have I6:Inv X pins σ H7 s6:=inv s6.heap ⟨rfl,fun _ _=>rfl⟩
 refine wpAny_assign_Name (Nu I6 hN hix hx (v:=.ref Dd) rfl (fun s7 I7 z3_=>?_) hf)
 obtain ⟨a,sb7,ha⟩:=z3_
 have nCa:C≠a:=by
  rcases ha with z |z
  ·rw [z];exact hL
  ·exact Ne.symm (hc x a z)
 obtain ⟨o,es,ep,e1,e2⟩:=hn
 refine ⟨m6,⟨o,es,ep,(sb7.2 C nCa).trans e1,e2⟩,fun h' sb=>?_⟩
 exact ⟨_,H7,I7.turned (t':=s7.toks) (it:=C) (fun b o hb e=>(sb.2 b hb).trans e) hC hL (.inr h0) hc hp,q⟩
end
section
variable {X:Cx} {E:XK}
def Fc:D→HD→Option String
 |.non,_=>some "NoneType"
 |.bl _,_=>some "bool"
 |.int _,_=>some "int"
 |.str _,_=>some "str"
 |.tup _,_=>some "tuple"
 |.loc l,h=>match h[l]? with
  |some (.lst _)=>some "list"
  |_=>none
 |_,_=>none
theorem Yr {m:List Addr} {H:Hp} {h:HD} {d:D} {v:V} {t:String} (hr:HR X.K m h H) (r:DV X.K m H d v) (e:Fc d h=some t):E5 X.K H v (.type t):=by
 cases d with
 |non=>simp only [Fc,Option.some.injEq,DV] at e r;subst e r;exact .non
 |bl b=>simp only [Fc,Option.some.injEq,DV] at e r;subst e r;exact .bl _
 |int i=>simp only [Fc,Option.some.injEq,DV] at e r;subst e r;exact .int _
 |str x=>simp only [Fc,Option.some.injEq,DV] at e r;subst e r;exact .str _
 |tup ds=>simp only [Fc,Option.some.injEq,DV] at e r;subst e;obtain ⟨a,vs,rfl,ha,_⟩:=r;exact .tup ha
 |loc l=>
  simp only [DV] at r
  obtain ⟨a,rfl,ha⟩:=r
  simp only [Fc] at e
  split at e
  ·rename_i ds el
   cases e
   obtain ⟨vs,hv,_⟩:=hr.cells l _ a el ha
   exact .lst hv
  ·cases e
 |_=>simp [Fc] at e
def subL:List (String×String×Bool):=[("NoneType","int",false),("bool","int",true),("int","int",true),("str","int",false),("tuple","int",false),("list","int",false),("NoneType","bool",false),("bool","bool",true),("int","bool",false),("str","bool",false),("tuple","bool",false),("list","bool",false),("NoneType","tuple",false),("bool","tuple",false),("int","tuple",false),("str","tuple",false),("tuple","tuple",true),("list","tuple",false),("NoneType","str",false),("bool","str",false),("int","str",false),("str","str",true),("tuple","str",false),("list","str",false),("NoneType","list",false),("bool","list",false),("int","list",false),("str","list",false),("tuple","list",false),("list","list",true),("dict","int",false),("dict","bool",false),("dict","tuple",false),("dict","str",false),("dict","list",false)]
def Kk (t c:String):Option Bool:=(subL.find? fun p=>p.1==t&&p.2.1==c).map fun p=>p.2.2
theorem Ys {K:PySem.W.Frag}:∀p∈subL,PySem.W.kitOne K (.type p.1) (.type p.2.1)=some p.2.2:=by
 unfold subL
 simp only [List.forall_mem_cons]
 exact ⟨rfl,rfl,rfl,rfl,rfl,rfl,rfl,rfl,rfl,rfl,rfl,rfl,rfl,rfl,rfl,rfl,rfl,rfl,rfl,rfl,rfl,rfl,rfl,rfl,rfl,rfl,rfl,rfl,rfl,rfl,rfl,rfl,rfl,rfl,rfl,fun _ h=>nomatch h⟩
theorem Yt {K:PySem.W.Frag} {t c:String} {b:Bool} (h:Kk t c=some b):PySem.W.kitOne K (.type t) (.type c)=some b:=by
 unfold Kk at h
 rw [qb5] at h
 obtain ⟨p,hp,rfl⟩:=h
 have e:=Jg hp
 rw [CP,beq_iff_eq,beq_iff_eq] at e
 rw [←e.1,←e.2]
 exact Ys p (JP hp)
theorem Yu:DS X (.builtin "isinstance") (fun xs H Q=>∃x T t b,xs=[x,.ty T]∧E5 X.K H x (.type t)∧Kk t T=some b∧Q (.bl b) H):=by
 intro pins s σ H xs us Q I r h
 obtain ⟨x,T,t,b,rfl,ty,e,q⟩:=h
 obtain ⟨u,w',rfl,rx,rT⟩:=LR r
 cases (show w'=Value.type T from rT)
 exact WN I rx ty (Yt e) fun tk=>⟨.bl b,H,I.tok _,rfl,q⟩
def B4:D→D→HD→Out D:=fun x y h=>match y,Fc x h with
 |.ty T,some t=>match Kk t T with
  |some b=>.ok (.bl b) h
  |none=>.stuck
 |_,_=>.stuck
theorem Yv:DX X (.builtin "isinstance") (Cg B4):=by
 refine ⟨_,Yu,fun m H h E ds vs Q hr r q=>two_of r q fun d d' v v' ev rv rv' q=>?_⟩
 unfold B4 at q
 split at q
 ·rename_i T t et
  split at q
  ·rename_i b eb
   simp only [DV] at rv'
   subst rv'
   exact ⟨v,T,t,b,ev,Yr hr rv et,eb,Bt hr q (by simp [DV])⟩
  ·exact q.elim
 ·exact q.elim
theorem Gu {x:Str} {T:String} {pos:Pos} (hg:Gl X x) (hm:X.mg x=none) (hv:bootBuiltins x=some (.type T)) (hn:x≠"__name__":=by decide) (hd:(x==("__debug__":Str))=false:=by decide):Ev X E (.Name x pos) (mC (.ty T)):=
 J3 (VE (v:=.ty T) hg hm hv rfl hn hd) fun _ _=>by simp [DV]
theorem N4 (ns:List Int):∀j,j≤ns.length→preSum (fun i=>ns.getD i 0) j=(ns.take j).sum
 |0,_=>by simp [preSum]
 |j+1,h=>by
  rw [preSum,N4 ns j (by omega),List.take_succ_eq_append_getElem (by omega),Lz]
  simp [Em,Bh (show j<ns.length by omega)]
theorem L7 {h h2 h':Heap} {it:Addr} (k:∀b o,h.get? b=some o→h2.get? b=some o) (hit:h.objs.size≤it) (hk:∀b o,b∉[it]→h2.get? b=some o→h'.get? b=some o):∀b o,h.get? b=some o→h'.get? b=some o:=fun b o e=>
 hk b o (by rw [qa7];exact BM (Bp (AS e) hit)) (k b o e)
theorem RT {ns:List Int} {its:List Value} (r:Vals (ns.map V.int) its) {i:Nat} {v:Value} (e:its.toArray[i]?=some v):∃t,v=.int (ns.getD i 0) t:=by
 have e':its[i]?=some v:=by simpa using e
 have hi:i<its.length:=(qa8.mp e').1
 have hl:ns.length=its.length:=by have:=r.length;simpa using this
 have hn:(ns.map V.int)[i]?=some (V.int (ns.getD i 0)):=by
  rw [DG,Bh (by omega)]
  simp [Em,Bh (show i<ns.length by omega)]
 obtain ⟨u,h1,t,h2⟩:=r.get hn
 rw [e'] at h1
 cases h1
 exact ⟨t,h2⟩
theorem Yw (hc:X.calm=true):DS X (.builtin "sum") (fun xs H Q=>∃(p:Addr) (ns:List Int),xs=[.ref p]∧(SqL X.K H p (ns.map V.int)∨SqT X.K H p (ns.map V.int))∧Q (.int ns.sum) H):=by
 intro pins s σ H xs us Q I r h
 obtain ⟨p,ns,rfl,hs,q⟩:=h
 obtain ⟨u,rfl,rx⟩:=Gk r
 cases rx
 have hh:X.A.in1.handled=none:=I.ok.hd hc
 rcases hs with hs |hs
 ·obtain ⟨its,rv,pl,hz⟩:=I.list hs
  have hl:=rv.length
  rw [Cb] at hl
  have hlt:p<s.heap.objs.size:=by obtain ⟨_,e,_⟩:=pl.isList;exact AS e
  refine call_sum_walkG (wpAny_pyIter_list pl.isList ?_)
  refine ⟨s.heap.objs.size,[s.heap.objs.size,p],[s.heap.objs.size],its.toArray.size,_,_,fun i=>ns.getD i 0,rfl,Walks.list (A:=X.A.in1) hh _ p (BM hlt) its.toArray,⟨⟨_,BR _ rfl,rfl,rfl⟩,pl.isList.push _⟩,fun b hb=>?_,fun i v e=>RT rv e,fun h' tk t' hk=>?_⟩
  ·show b<(s.heap.push _).objs.size
   rw [Dq]
   rcases qa3.mp hb with z |z
   ·rw [z];exact JS _
   ·rw [qa7.mp z];exact Hj hlt
  ·have e:preSum (fun i=>ns.getD i 0) its.toArray.size=ns.sum:=by
    rw [Bc,←hl,N4 ns _ (AK _),List.take_length]
   rw [e]
   exact ⟨.int ns.sum,H,I.kept (L7 (fun b o e=>AY _ e) (AK _) hk),⟨t',rfl⟩,q⟩
 ·obtain ⟨its,rv,pl,hz⟩:=I.tuple hs
  have hl:=rv.length
  rw [Cb] at hl
  have hT:s.heap.IsTuple p its.toArray:=pl
  have hlt:p<s.heap.objs.size:=pl.lt
  refine call_sum_walkG (wpAny_pyIter_tuple hT ?_)
  refine ⟨s.heap.objs.size,[s.heap.objs.size,p],[s.heap.objs.size],its.toArray.size,_,_,fun i=>ns.getD i 0,rfl,Walks.tuple (A:=X.A.in1) hh _ p (BM hlt) its.toArray,⟨⟨_,BR _ rfl,rfl,rfl⟩,hT.push _⟩,fun b hb=>?_,fun i v e=>RT rv e,fun h' tk t' hk=>?_⟩
  ·show b<(s.heap.push _).objs.size
   rw [Dq]
   rcases qa3.mp hb with z |z
   ·rw [z];exact JS _
   ·rw [qa7.mp z];exact Hj hlt
  ·have e:preSum (fun i=>ns.getD i 0) its.toArray.size=ns.sum:=by
    rw [Bc,←hl,N4 ns _ (AK _),List.take_length]
   rw [e]
   exact ⟨.int ns.sum,H,I.kept (L7 (fun b o e=>AY _ e) (AK _) hk),⟨t',rfl⟩,q⟩
def Gv:D→Option Int
 |.int i=>some i
 |_=>none
def CU:D→HD→Out D:=fun x h=>match BY x h with
 |some ds=>match Bk (ds.map Gv) with
  |some ns=>.ok (.int ns.sum) h
  |none=>.stuck
 |none=>.stuck
theorem L8 {m:List Addr} {H:Hp}:∀{ds:List D} {vs:List V} {ns:List Int},DVs X.K m H ds vs→Bk (ds.map Gv)=some ns→vs=ns.map V.int
 |[],vs,ns,r,e=>by
  simp only [DVs] at r
  simp [Bk] at e
  subst r e
  rfl
 |d::ds,vs,ns,r,e=>by
  simp only [DVs] at r
  obtain ⟨v,w,rfl,rv,rw'⟩:=r
  rw [Br] at e
  cases d with
  |int i=>
   simp only [Gv,Bk,qb5] at e
   obtain ⟨ns',e1,rfl⟩:=e
   simp only [DV] at rv
   subst rv
   rw [L8 rw' e1]
   rfl
  |_=>simp [Gv,Bk] at e
theorem HC (hc:X.calm=true):DX X (.builtin "sum") (Au CU):=by
 refine ⟨_,Yw hc,fun m H h E ds vs Q hr r q=>Hz r q fun d v ev rv q=>?_⟩
 unfold CU at q
 split at q
 ·rename_i xs e
  split at q
  ·rename_i ns en
   obtain ⟨p,ws,rfl,hs,dv⟩:=L3 hr rv e
   have:=L8 dv en
   subst this
   exact ⟨p,ns,ev,hs,Bt hr q (by simp [DV])⟩
  ·exact q.elim
 ·exact q.elim
theorem Yx (hc:X.calm=true):DS X (.builtin "all") (fun xs H Q=>∃(p:Addr) (bs:List Bool),xs=[.ref p]∧SqL X.K H p (bs.map V.bl)∧Q (.bl (bs.all id)) H):=by
 intro pins s σ H xs us Q I r h
 obtain ⟨p,bs,rfl,hs,q⟩:=h
 obtain ⟨u,rfl,rx⟩:=Gk r
 cases rx
 have hh:X.A.in1.handled=none:=I.ok.hd hc
 obtain ⟨its,rv,pl,hz⟩:=I.list hs
 have hl:=rv.length
 rw [Cb] at hl
 have hlt:p<s.heap.objs.size:=by obtain ⟨_,e,_⟩:=pl.isList;exact AS e
 have item:∀(i:Nat) (v:Value),its.toArray[i]?=some v→v=.bool (bs.getD i true):=fun i v e=>by
  have e':its[i]?=some v:=by simpa using e
  have hi:i<its.length:=(qa8.mp e').1
  have hn:(bs.map V.bl)[i]?=some (V.bl (bs.getD i true)):=by
   rw [DG,Bh (by omega)]
   simp [Em,Bh (show i<bs.length by omega)]
  obtain ⟨u,h1,h2⟩:=rv.get hn
  rw [e'] at h1
  cases h1
  exact h2
 refine call_all_walk (wpAny_pyIter_list pl.isList ?_)
 refine ⟨s.heap.objs.size,[s.heap.objs.size,p],[s.heap.objs.size],its.toArray.size,_,_,fun i=>bs.getD i true,rfl,Walks.list (A:=X.A.in1) hh _ p (BM hlt) its.toArray,⟨⟨_,BR _ rfl,rfl,rfl⟩,pl.isList.push _⟩,fun i v s' Q' E' e hQ=>?_,fun h' tk hk=>?_⟩
 ·rw [item i v e]
  exact wpAny_truthy_bool hQ
 ·have e:(List.range its.toArray.size).all (fun i=>bs.getD i true)=bs.all id:=by
   rw [Bc,←hl]
   apply qaS.mpr
   simp only [qaZ,qb2,id]
   constructor
   ·intro h b hb
    obtain ⟨i,hi,rfl⟩:=JQ hb
    have:=h i hi
    simpa [Em,Bh hi] using this
   ·intro h i hi
    have:=h bs[i] (JT hi)
    simpa [Em,Bh hi] using this
  rw [e]
  exact ⟨.bl _,H,I.kept (L7 (fun b o e=>AY _ e) (AK _) hk),rfl,q⟩
def HE:D→Option Bool
 |.bl b=>some b
 |_=>none
def DJ:D→HD→Out D:=fun x h=>match x with
 |.loc l=>match h[l]? with
  |some (.lst ds)=>match Bk (ds.map HE) with
   |some bs=>.ok (.bl (bs.all id)) h
   |none=>.stuck
  |_=>.stuck
 |_=>.stuck
theorem N5 {m:List Addr} {H:Hp}:∀{ds:List D} {vs:List V} {bs:List Bool},DVs X.K m H ds vs→Bk (ds.map HE)=some bs→vs=bs.map V.bl
 |[],vs,ns,r,e=>by
  simp only [DVs] at r
  simp [Bk] at e
  subst r e
  rfl
 |d::ds,vs,ns,r,e=>by
  simp only [DVs] at r
  obtain ⟨v,w,rfl,rv,rw'⟩:=r
  rw [Br] at e
  cases d with
  |bl i=>
   simp only [HE,Bk,qb5] at e
   obtain ⟨ns',e1,rfl⟩:=e
   simp only [DV] at rv
   subst rv
   rw [N5 rw' e1]
   rfl
  |_=>simp [HE,Bk] at e
theorem HF (hc:X.calm=true):DX X (.builtin "all") (Au DJ):=by
 refine ⟨_,Yx hc,fun m H h E ds vs Q hr r q=>Hz r q fun d v ev rv q=>?_⟩
 unfold DJ at q
 split at q
 ·rename_i l
  split at q
  ·rename_i xs el
   split at q
   ·rename_i bs eb
    simp only [DV] at rv
    obtain ⟨a,rfl,ha⟩:=rv
    obtain ⟨ws,hv,dv⟩:=hr.cells _ _ a el ha
    have:=N5 dv eb
    subst this
    exact ⟨a,bs,ev,SqL.of hv,Bt hr q (by simp [DV])⟩
   ·exact q.elim
  ·exact q.elim
 ·exact q.elim
def JB:D→D→HD→Out D:=fun x y h=>match x with
 |.loc l=>match h[l]? with
  |some (.lst ds)=>if ds.length<sizeLine then .ok .non (h.set l (.lst (ds++[y]))) else .stuck
  |_=>.stuck
 |_=>.stuck
def EH:D→HD→Out D:=fun x h=>match x with
 |.loc l=>match h[l]? with
  |some (.lst _)=>.ok x h
  |_=>.stuck
 |_=>.stuck
def HG (f g:ME):ME:=fun ρ h=>((f ρ h).bind EH).bind fun x h1=>(g ρ h1).bind fun y h2=>JB x y h2
theorem RU {o e:Expr} {f g:ME} {apos cpos:Pos} (ho:Ev X E o f) (he:Ev X E e g)
 (hbase:attributeBase o "append" X.env (eval o X.env)=eval o X.env:=by rfl)
 (hfew:((backTo cpos (starEach [e] X.env)).all (fun x=>!x.1)&&(backToKw cpos (keywordEach [] X.env)).all (fun x=>x.1.isSome)
  &&decide ([e].length+([]:List Keyword).length+(if ([]:List Keyword).isEmpty then 0 else 1)<30))=true:=by rfl)
 (hline:(apos.endLine==cpos.line)=true:=by rfl) (hs:starEach [e] X.env=(false,eval e X.env)::starEach [] X.env:=by rfl) (hplain:(backTo cpos (starEach [] X.env)).any (·.1)=false:=by rfl):
 Ev X E (.Call (.Attribute o "append" apos) [e] [] cpos) (HG f g):=
 Cd (Rb PySem.F.plainAttrs_list PySem.F.slot_list_append PySem.F.type_list_append XH ho (Ad he Ag hs) hbase hfew hline hs hplain) fun σ H Q z1_=>by
  obtain ⟨m,ρ,h,hr,er,p⟩:=z1_
  refine ⟨m,ρ,h,hr,er,?_⟩
  unfold HG at p
  rw [Out.bind_assoc] at p
  refine Post.bind p fun x h1 v m1 H1 eo p1 k1 hr1 r1 q1=>?_
  clear eo
  unfold EH at q1
  split at q1
  ·rename_i l
   split at q1
   ·rename_i ds el
    simp only [Out.bind_ok] at q1
    have r1':=r1
    simp only [rD,DV] at r1'
    obtain ⟨a,rfl,ha⟩:=r1'
    obtain ⟨ws,hv,dv⟩:=hr1.cells l _ a el ha
    refine ⟨.inl ⟨rfl,ws,SqL.of hv⟩,m1,ρ,h1,hr1,er.keep p1 k1,?_⟩
    have q2:Post X.K (rD X.K) m1 H1 E Q ((Ab g Ae ρ h1).bind fun ys h2=>match ys with
     |[y]=>JB (.loc l) y h2
     |_=>.stuck):=by
     unfold Ab Ae
     rw [Out.bind_assoc]
     exact q1
    refine Post.bind q2 fun ys h2 vs m2 H2 eo p2 k2 hr2 r2 q3=>?_
    clear eo
    split at q3
    ·rename_i y
     simp only [Ez,DVs] at r2
     obtain ⟨yv,w,rfl,ry,rfl⟩:=r2
     unfold JB at q3
     simp only at q3
     split at q3
     ·rename_i ds2 el2
      split at q3
      ·rename_i hz
       have ha2:=Jp p2 ha
       obtain ⟨ws2,hv2,dv2⟩:=hr2.cells l _ a el2 ha2
       refine ⟨a,ws2,yv,rfl,rfl,hv2,by rw [←dv2.len];exact hz,?_⟩
       refine q3 .non m2 _ (AC _) (.set hv2 rfl) (hr2.setCell ha2 hv2 rfl ⟨_,Cz,?_⟩) (by simp [rD,DV])
       exact (dv2.app (.cons ry .nil)).keep (AC _) (.set hv2 rfl)
      ·exact q3.elim
     ·exact q3.elim
    ·exact q3.elim
   ·exact q1.elim
  ·exact q1.elim
def JC:D→D→D→HD→Out (Fl×Ai)→Out (Fl×Ai):=fun o i v h k=>match o,i with
 |.loc l,.int n=>match h[l]? with
  |some (.lst ds)=>match D7 ds.length n with
   |some j=>match k with
    |.ok a _=>.ok a (h.set l (.lst (ds.set j v)))
    |_=>.stuck
   |none=>.stuck
  |_=>.stuck
 |_,_=>.stuck
def L9 (fo fi fv:ME):MS:=fun ρ h=>(fv ρ h).bind fun v h1=>(fo ρ h1).bind fun o h2=>(fi ρ h2).bind fun i h3=>JC o i v h3 (.ok (.nx,ρ) h3)
theorem Yy {o i e:Expr} {fo fi fv:ME} {pos pos':Pos} (ho:Ev X E o fo) (hi:Ev X E i fi) (he:Ev X E e fv)
 (ha:∀v,assign (.Subscript o i pos') X.env v=(do
  let ov ←holding [v] (eval o X.env)
  let iv ←holding [v,ov] (eval i X.env)
  standAt pos'
  holding [v,ov,iv] (setItem ov iv v)
  release [v,ov,iv] []):=by intro _;rfl)
 (hs:swapsWithSole [.Subscript o i pos'] e pos.line X.env=pure false:=by rfl) (hw:swappedStores [.Subscript o i pos'] e X.env=pure none:=by rfl)
 (h1:(assignEach [.Subscript o i pos'] X.env).map (·.2)=[assign (.Subscript o i pos') X.env]:=by rfl):Ex X E (.Assign [.Subscript o i pos'] e pos) (L9 fo fi fv):=
 EA (LO he (Nx ho hi Xw ha) hs hw h1) fun Dn σ H ⟨m,ρ,h,hr,er,p⟩=>⟨m,ρ,h,hr,er,PostS.bind p fun v h1 vv m1 H1 eo1 p1 k1 hr1 r1 q1=>by
  refine ⟨m1,ρ,h1,hr1,er.keep p1 k1,PostS.bind q1 fun ov h2 vo m2 H2 eo2 p2 k2 hr2 r2 q2=>?_⟩
  refine ⟨m2,ρ,h2,hr2,(er.keep p1 k1).keep p2 k2,PostS.bind q2 fun iv h3 vi m3 H3 eo3 p3 k3 hr3 r3 q3=>?_⟩
  clear eo1 eo2 eo3
  unfold JC at q3
  split at q3
  ·rename_i l n
   split at q3
   ·rename_i ds el
    split at q3
    ·rename_i j ej
     have ro:=DV.keep p3 k3 r2
     simp only [DV] at ro
     obtain ⟨a,rfl,ha⟩:=ro
     have ri:=r3
     simp only [rD,DV] at ri
     subst ri
     obtain ⟨ws,hv,dv⟩:=hr3.cells l _ a el ha
     refine ⟨a,ws,n,j,rfl,rfl,hv,by rw [←dv.len];exact ej,?_⟩
     have rvv:=DV.keep p3 k3 (DV.keep p2 k2 r1)
     have hr4:HR X.K m3 (h3.set l (.lst (ds.set j v))) (Az H3 a (.lst (ws.set j vv))):=hr3.setCell ha hv rfl ⟨_,Cz,(dv.set j rvv).keep (AC _) (.set hv rfl)⟩
     exact q3 m3 _ (AC _) (.set hv rfl) hr4 σ ((((er.keep p1 k1).keep p2 k2).keep p3 k3).keep (AC _) (.set hv rfl))
    ·exact q3.elim
   ·exact q3.elim
  ·exact q3.elim⟩
end
def Ao (n:Nat) (g:MS):List D→HD→Out D:=fun ds h=>(g (ds.map some++List.replicate (n - ds.length) none) h).bind fun x h1=>match x with
 |(.nx,_)=>.ok .non h1
 |(.rt d,_)=>.ok d h1
 |_=>.stuck
open AutoSeq1 (wpAny_loadPart')
section
variable {prog:Program} {w:World} {A:Around} {E:Value→Shared→Prop} {s:Shared}
theorem Yz {it l:Addr} {i:Nat} {items:Array Value} {x:Value} {Q:Value→Shared→Prop} (hit:s.heap.IsTupleIter it l i)
 (hl:s.heap.IsTuple l items) (hx:items[i]?=some x)
 (hQ:∀h',h'.IsTupleIter it l (i+1)→Heap.SameBut it s.heap h'→Q x {s with heap:=h'}):
 wpAny (model prog w) A (Builtin.SmallTypes.nextOf (.ref it)) Q E s:=by
 obtain ⟨o,ho,hc,hd⟩:=id hit
 obtain ⟨ol,hol,_,nl,hdl⟩:=hl
 unfold Builtin.SmallTypes.nextOf
 refine wpAny_bind (wpAny_callSpecial?_slot (name:=Str.ofString "__next__") hit.typeIs F.slot_tuple_iterator_next
  (wpAny_call_entry F.slot_tuple_iterator_next hit.typeIs F.entry_tuple_iterator_next ?_ (F.args_tuple_iterator_next_1 _)))
 show wpAny _ _ (field (.ref it) 0 >>=_) _ _ s
 refine wpAny_bind (wpAny_field ho hd (x:=.ref l) rfl ?_)
 show wpAny _ _ (if (Value.ref l==Value.none)=true then _ else _) _ _ s
 rw [if_neg (show ¬((Value.ref l==Value.none)=true) from BF)]
 show wpAny _ _ (field (.ref it) 1 >>=_) _ _ s
 refine wpAny_bind (wpAny_field ho hd (x:=.int i 0) rfl ?_)
 show wpAny _ _ (seqItems? (.ref l) >>=_) _ _ s
 refine wpAny_bind (wpAny_seqItems hol hdl ?_)
 simp only [JR,hx]
 refine wpAny_bind (wpAny_setField ho hd (by simp) (wpAny_pure ⟨x,rfl,wpAny_pure (hQ _ ?_ (Heap.SameBut.update ..))⟩))
 exact ⟨_,Nq _ ho (Obj.isFreed_of_fields (Obj.data_mapFields hd _)),(Obj.cls_mapFields ..).trans hc,by
  rw [Obj.data_mapFields hd];simp [rawInt]⟩
theorem YA {it l:Addr} {i:Nat} {items:Array Value} {Q:Value→Shared→Prop} (hh:A.handled=none)
 (hit:s.heap.IsTupleIter it l i) (hl:s.heap.IsTuple l items) (hx:items[i]?=none)
 (hE:∀h' e,Heap.ExtBut it s.heap h'→(∃o,h'.get? e=some o∧o.cls=.type "StopIteration")→E (.ref e) {s with heap:=h'}):
 wpAny (model prog w) A (Builtin.SmallTypes.nextOf (.ref it)) Q E s:=by
 obtain ⟨o,ho,hc,hd⟩:=id hit
 obtain ⟨ol,hol,_,nl,hdl⟩:=hl
 unfold Builtin.SmallTypes.nextOf
 refine wpAny_bind (wpAny_callSpecial?_slot (name:=Str.ofString "__next__") hit.typeIs F.slot_tuple_iterator_next
  (wpAny_call_entry F.slot_tuple_iterator_next hit.typeIs F.entry_tuple_iterator_next ?_ (F.args_tuple_iterator_next_1 _)))
 show wpAny _ _ (field (.ref it) 0 >>=_) _ _ s
 refine wpAny_bind (wpAny_field ho hd (x:=.ref l) rfl ?_)
 show wpAny _ _ (if (Value.ref l==Value.none)=true then _ else _) _ _ s
 rw [if_neg (show ¬((Value.ref l==Value.none)=true) from BF)]
 show wpAny _ _ (field (.ref it) 1 >>=_) _ _ s
 refine wpAny_bind (wpAny_field ho hd (x:=.int i 0) rfl ?_)
 show wpAny _ _ (seqItems? (.ref l) >>=_) _ _ s
 refine wpAny_bind (wpAny_seqItems hol hdl ?_)
 simp only [JR,hx]
 refine wpAny_bind (wpAny_rule (wpAny_bind (wpAny_setField ho hd (by simp) ?_)))
 show wpAny _ _ (newExc (.type "StopIteration") [] >>=_) _ _ _
 refine wpAny_bind ?_
 simp only [newExc,newTuple]
 refine wpAny_bind (wpAny_newObj_type ?_ (by size_fits))
 refine wpAny_bind (m:=firstArgMember _ _) (wpAny_of_eq (a:=Value.none) (by first |rfl |(simp only [firstArgMember];rfl)) ?_)
 refine wpAny_newObj_type ?_ (by size_fits)
 simp only [raiseNew]
 refine wpAny_bind (wpAny_handled ?_)
 first |rw [show A.in1.handled=none from hh] |rw [hh]
 refine wpAny_bind (wpAny_pure (wpAny_throw ?_))
 exact hE _ _ (((Heap.SameBut.update ..).extBut.push _).push _) ⟨_,BR _ rfl,rfl⟩
end
theorem N6 {prog:Program} {w:World} {A:Around} (hh:A.handled=none) (it l:Addr) (hne:l≠it) (items:Array Value):
 Draws prog w A it [it,l] items.size (fun i v=>items[i]?=some v) (fun i h=>h.IsTupleIter it l i∧h.IsTuple l items) where
 live:=fun _ _ st=>let ⟨o,ho,_⟩:=st.1;⟨o,ho⟩
 frame:=fun _ _ _ st hk=>⟨st.1.at fun o e=>hk it (by simp) o e,st.2.at fun o e=>hk l (by simp) o e⟩
 item:=fun i s Q E hi st hQ=>by
  refine Yz st.1 st.2 (x:=items[i]) (by simp [hi]) fun h' hit' hs'=>?_
  exact hQ _ h' s.toks (by simp [hi]) ⟨hit',st.2.extBut hs'.extBut hne⟩ hs'
 done:=fun s Q E st hE=>YA hh st.1 st.2 (by simp) hE
theorem YB (l:Addr) (items:Array Value) (n:Nat) (dct:Option Addr) (sl:Array (Option Value)):
 Meets (Builtin.«enumerate.__new__» ⟨[.type "enumerate",.ref l],[]⟩) (fun _ R s=>s.heap.get? l=some {cls:=.type "tuple",dict:=dct,data:=.seq items n,slots:=sl}∧
  R (.ok (.ret (.ref (s.heap.push {cls:=.type "tuple_iterator",data:=.fields #[.ref l,.int 0 0]}).objs.size)))
    {s with heap:=(s.heap.push {cls:=.type "tuple_iterator",data:=.fields #[.ref l,.int 0 0]}).push {cls:=.type "enumerate",data:=.fields #[.none,.bool false,.ref s.heap.objs.size,rawInt 0,.none,.none]}}):=
 .of_wp fun prog w A R s h=>by
  obtain ⟨hp,g,d,tk,os⟩:=s;obtain ⟨hl,h⟩:=h
  have hsub:=sub_enumerate
  have hL:Heap.IsTuple (Shared.heap ⟨hp,g,d,tk,os⟩) l items:=⟨_,hl,rfl,n,rfl⟩
  wp_walk using wpAny_loadPart' hl
  refine wpAny_stack_any fun st=>wpAny_pure ?_
  split
  ·rename_i c _ _ _ _ _
   cases (c==Value.type "enumerate")
   ·wp_walk using wpAny_loadPart' hl,wpAny_pyIter_tuple hL
    exact ⟨_,rfl,h⟩
   ·wp_walk using wpAny_loadPart' hl,wpAny_pyIter_tuple hL
    exact ⟨_,rfl,h⟩
  ·wp_walk using wpAny_loadPart' hl,wpAny_pyIter_tuple hL
   exact ⟨_,rfl,h⟩
section
variable {prog:Program} {w:World} {A:Around} {E:Value→Shared→Prop} {s:Shared}
theorem YC {l:Addr} {items:Array Value} {Q:Value→Shared→Prop} (hL:s.heap.IsTuple l items)
 (h:∀h',IsEnum h' (s.heap.objs.size+1) s.heap.objs.size 0 .none→h'.IsTupleIter s.heap.objs.size l 0→h'.objs.size=s.heap.objs.size+2→
  (∀b o,s.heap.get? b=some o→h'.get? b=some o)→Q (.ref (s.heap.objs.size+1)) {s with heap:=h'}):
 wpAny (model prog w) A (call (.type "enumerate") [.ref l]) Q E s:=by
 obtain ⟨⟨c,dct,dt,sl⟩,hl,hc,n,hd⟩:=hL
 replace hc:c=.type "tuple":=hc
 replace hd:dt=.seq items n:=hd
 subst hc hd
 refine callType_new F.called_enumerate (by decide) (F.typeCall_enumerate_1 _) (F.newCall_enumerate_1 _) (fun obj=>F.args_object_init_2 obj _) F.entry_enumerate_new
  (YB l items n dct sl) ⟨hl,?_⟩
 have hz:(s.heap.push {cls:=.type "tuple_iterator",data:=.fields #[.ref l,.int 0 0]}).objs.size=s.heap.objs.size+1:=Dq ..
 show _∧_
 rw [hz]
 have he:IsEnum ((s.heap.push {cls:=.type "tuple_iterator",data:=.fields #[.ref l,.int 0 0]}).push
  {cls:=.type "enumerate",data:=.fields #[.none,.bool false,.ref s.heap.objs.size,rawInt 0,.none,.none]}) (s.heap.objs.size+1) s.heap.objs.size 0 .none:=by
  have:=BR (s.heap.push {cls:=.type "tuple_iterator",data:=.fields #[.ref l,.int 0 0]})
   (o:={cls:=.type "enumerate",data:=.fields #[.none,.bool false,.ref s.heap.objs.size,rawInt 0,.none,.none]}) rfl
  rw [hz] at this;exact this
 refine ⟨⟨_,he,rfl⟩,h _ he ⟨_,AY _ (BR _ rfl),rfl,rfl⟩ (by rw [Dq,hz]) fun b o x=>AY _ (AY _ x)⟩
end
def RV (K:PySem.W.Frag) (t:Addr) (xs:List V):It:=⟨fun i H=>i<xs.length∧SqT K H t xs,fun i H x H'=>∃p v,H p=none∧x=.ref p∧xs[i]?=some v∧H'=Az H p (.tup [.int i,v]),fun i H=>i=xs.length∧SqT K H t xs⟩
theorem YD {P:Program} {w:World} {K:PySem.W.Frag} {elts:List Expr} {kt:Nat} {tpos:Pos} (e it t:Addr) (hei:e≠it) (hte:t≠e) (hti:t≠it) (xs:List V):
 Gj P w K (.Tuple elts kt tpos) (RV K t xs) [e,it] e (fun i h=>(∃old,IsEnum h e it i old)∧h.IsTupleIter it t i) where
 mem:=by simp
 obj:=fun i h st b hb=>by
  obtain ⟨⟨old,h1⟩,o,h2,hc,hd⟩:=st
  rcases qa3.mp hb with z |z
  ·subst z;exact ⟨_,h1,fun v z=>by cases z⟩
  ·rw [qa7] at z
   subst z
   exact ⟨o,h2,fun v z=>by rw [hd] at z;cases z⟩
 keep:=fun i h h' st k=>by
  obtain ⟨⟨old,h1⟩,h2⟩:=st
  exact ⟨⟨old,k e (by simp) _ h1⟩,h2.at fun o z=>k it (by simp) o z⟩
 item:=by
  intro X hP hw hK hc i pins s σ H E I hf st hg
  subst hP hw hK
  obtain ⟨⟨old,he⟩,hit⟩:=st
  obtain ⟨hi,hq⟩:=hg
  obtain ⟨its,rv,p,hz⟩:=I.tuple hq
  have hT:s.heap.IsTuple t its.toArray:=p
  have hl:=rv.length
  obtain ⟨e0,e1,e2,e3,e4,e5⟩:=hf e (by simp)
  obtain ⟨i0,i1,i2,i3,i4,i5⟩:=hf it (by simp)
  have hx:xs[i]?=some xs[i]:=Bh hi
  refine wpAny_pyNext_enum_itemD (N6 (A:=X.A.in1) (I.ok.hd hc) it t hti its.toArray) he ⟨hit,hT⟩ (by rw [Bc];omega) hei (by simp [hei,Ne.symm hte]) fun x h1 tk hPx ho hs1 hTup hsz hk=>?_
  obtain ⟨u,hu,ru⟩:=rv.get hx
  have hux:u=x:=by
   have:its[i]?=some x:=by simpa using hPx
   rw [hu] at this
   exact Option.some.inj this
  subst hux
  refine ⟨.ref s.heap.objs.size,rfl,wpAny_letOwnedTupleGo_enum ho fun h2 he2 sb=>?_⟩
  have hfr:H s.heap.objs.size=none:=I.hok.fresh (AK _)
  have kk:∀b o,b∉[e,it]→s.heap.get? b=some o→h2.get? b=some o:=fun b o hb z=>by
   have n1:b≠e:=fun q=>hb (by simp [q])
   have n2:b≠it:=fun q=>hb (by simp [q])
   exact (sb.2 b n1).trans (hk b o n1 n2 z)
  have na:s.heap.objs.size≠e:=Jy (AS he)
  have hnew:h2.get? s.heap.objs.size=some {cls:=.type "tuple",data:=.seq #[.int i tk,u]}:=(sb.2 _ na).trans hTup
  have ntr:∀b w,H b=some w→b∉[e,it]:=fun b w z hb=>by
   rcases qa3.mp hb with q |q
   ·rw [q,e0] at z;cases z
   ·rw [qa7.mp q,i0] at z;cases z
  have nal:∀b o,s.heap.get? b=some o→b≠s.heap.objs.size:=fun b o z=>BM (AS z)
  have it2:h2.IsTupleIter it t (i+1):=by
   obtain ⟨o,q,r⟩:=hs1.1
   exact ⟨o,(sb.2 it (Ne.symm hei)).trans q,r⟩
  refine ⟨.ref s.heap.objs.size,Az H s.heap.objs.size (.tup [.int i,xs[i]]),?_,rfl,⟨s.heap.objs.size,xs[i],hfr,rfl,hx,rfl⟩,⟨⟨u,he2⟩,it2⟩,fun b hb=>?_⟩
  ·show Inv X pins σ _ {s with heap:=h2,gens:=s.gens,drawn:=s.drawn,toks:=tk+1}
   refine I.step (g':=s.gens) (d':=s.drawn) (t':=tk+1) (h':=h2) (ch:=[e,it]) (fun b hb=>?_) (fun b o _ _ hc z _=>kk b o hc z) (fun b o _ _ hc z _=>⟨o.slots,kk b o hc z⟩) (fun b o _ z n=>by rw [AJ (nal b o z)];exact n)
    (fun b o hc z=>⟨o,kk b o hc z⟩) (fun b ys z=>by rw [AJ (BN z hfr)];exact z) (fun b o u z=>by rw [AJ (BN z hfr)];exact z) (fun b ps z=>⟨#[],by rw [AJ (BN z hfr),z];simp⟩) (fun m hm=>?_) (fun b w z=>?_) I.bare
   ·rcases qa3.mp hb with q |q
    ·subst q;exact ⟨e3,e1,e4,e5⟩
    ·rw [qa7] at q;subst q;exact ⟨i3,i1,i4,i5⟩
   ·obtain ⟨o,es,ep,q,r⟩:=hm
    exact ⟨o,es,ep,kk _ o (by simp [Ne.symm e1,Ne.symm i1]) q,r⟩
   ·by_cases hb:b=s.heap.objs.size
    ·subst hb
     rw [Cz] at z
     cases z
     exact ⟨by simp only [FA,Gh];rw [sizeLine_eq];decide,[.int i tk,u],.cons ⟨tk,rfl⟩ (.cons ru .nil),⟨_,hnew,rfl,0,rfl⟩,fun o e=>by rw [hnew] at e;cases e;rfl⟩
    ·rw [AJ hb] at z
     refine (I.hok b w z).stay (fun c v hc q=>kk c v ?_ q) (fun c q=>by rw [AJ (BN q hfr)];exact q) fun c ys q=>by rw [AJ (BN q hfr)];exact q
     rcases hc with rfl |hc
     ·exact ntr c _ z
     ·exact ntr c _ hc
  ·have nb:b≠s.heap.objs.size:=by
    rcases qa3.mp hb with q |q
    ·rw [q];exact na.symm
    ·rw [qa7.mp q]
     obtain ⟨o,z,_⟩:=hit
     exact nal _ _ z
   rw [AJ nb]
   exact (hf b hb).1
 done:=by
  intro X hP hw hK hc i pins s σ H E I hf st hg
  subst hP hw hK
  obtain ⟨⟨old,he⟩,hit⟩:=st
  obtain ⟨hi,hq⟩:=hg
  obtain ⟨its,rv,p,hz⟩:=I.tuple hq
  have hT:s.heap.IsTuple t its.toArray:=p
  have hl:=rv.length
  obtain ⟨i0,i1,i2,i3,i4,i5⟩:=hf it (by simp)
  have hin:i=its.toArray.size:=by rw [Bc];omega
  refine wpAny_pyNext_enum_endD (N6 (A:=X.A.in1) (I.ok.hd hc) it t hti its.toArray) he (hin ▸ ⟨hit,hT⟩) fun h' eb=>⟨rfl,I.turned (t':=s.toks) (fun b o hb z=>eb b o hb z) i0 i1 i3 i4 i5⟩
 self:=fun A i s Q E st h=>by
  obtain ⟨⟨old,he⟩,_⟩:=st
  exact wpAny_pyIter_enum he h
section
variable {X:Cx} {E:XK}
def Fd (ds:List D):List D:=ds.mapIdx fun i d=>.tup [.int (i:Nat),d]
def RW:List D→HD→Out (List D×Bm):=fun ds h=>match ds with
 |[.tup xs]=>.ok (Fd xs,[]) h
 |_=>.stuck
def RX (fa:MA):MI:=fun ρ h=>(fa ρ h).bind RW
end
end LS
namespace LS
open PySem PySem.Spec PyProof.Rows L2
section
variable {prog:Program} {w:World} {A:Around} {E:Value→Shared→Prop} {s:Shared}
end
section
variable {X:Cx} {E:XK} {e:Expr} {f:ME}
def N7:D→HD→Out D:=fun x h=>match x with
 |.tup [a,b]=>.ok (.tup [b,a]) h
 |_=>.stuck
def RY (f:ME):ME:=fun ρ h=>(f ρ h).bind N7
end
structure CSc (X:Cx) (scope:Scope) (Nc:List Str) (cs:List (Option Nat)):Prop where
 kind:scope.kind=.function
 loc:(scope.names.all fun y=>y.2 != .local||scope.names.lookup y.1==some .local)=true
 free:(scope.names.all fun y=>y.2 != .free||(X.env.kindOf y.1==some .cell||X.env.kindOf y.1==some .free))=true
 nd:(scope.names.map (·.1)).Nodup
 len:cs.length=Nc.length
 out:((Nc.zip cs).all fun p=>match p.2 with
  |none=>true
  |some j=>X.N[j]?==some p.1&&scope.names.lookup p.1==some .free)=true
theorem CSc.ok {X:Cx} {scope:Scope} {Nc:List Str} {cs:List (Option Nat)} (S:CSc X scope Nc cs):FK X scope Nc cs:=by
 refine ⟨S.kind,fun y hy e=>?_,fun y hy e=>?_,S.nd,S.len,fun i x j h1 h2=>?_⟩
 ·have:=qaZ.mp S.loc y hy
  rw [e] at this
  simpa using this
 ·have:=qaZ.mp S.free y hy
  rw [e] at this
  simpa using this
 ·have hz:(Nc.zip cs)[i]?=some (x,some j):=by
   rw [List.getElem?_zip_eq_some]
   exact ⟨h1,h2⟩
  have:=qaZ.mp S.out (x,some j) (Jd hz)
  simpa using this
structure Dn (K:PySem.W.Frag) (mg:Str→Option Value) (x:Str) (ps:List Str) (st:Stmt) (f:Addr) (fd:FuncData):Prop where
 fn:Fun K x x st f fd
 bd:Binds K fd ps []
 mg:mg x=some (.ref f)
section
variable {X:Cx} {E:XK}
theorem RZ {a:Expr} {f:ME} {pos:Pos} (ha:Ev X E a f):Ev X E (.UnaryOp .USub a pos) (fun ρ h=>(f ρ h).bind fun x h1=>match x with
 |.int i=>.ok (.int (-i)) h1
 |_=>.stuck):=
 Cd (QK QN ha) fun σ H Q z1_=>by obtain ⟨m,ρ,h,hr,er,p⟩:=z1_;exact (⟨m,ρ,h,hr,er,Post.bind p fun x h1 v m1 H1 eo p1 k1 hr1 r1 q1=>by
  clear eo
  split at q1
  ·simp only [rD,DV] at r1
   subst r1
   exact ⟨_,rfl,Bt hr1 q1 (by simp [DV])⟩
  ·exact q1.elim⟩)
def Ma (f:ME):ME:=fun ρ h=>(f ρ h).bind fun x h1=>match x with
    |.int i=>.ok (.int (-i)) h1
    |_=>.stuck
theorem Dy {i j:Nat} {x y:Str} {px py tp:Pos} {kt:Nat} (hc:X.calm=true) (h1:PG X (.Name x px) (Cc i)) (h2:PG X (.Name y py) (Cc j)):PG X (.Tuple [.Name x px,.Name y py] kt tp) (E4 X.K 2 (CJ (Cc i) (CJ (Cc j) FC))):=
 GN hc (Cm h1 (Cm h2 GM))
end
def CMl (i j:Int):Prop:=CMul i j∨(Builtin.Int.intBits i≤16777216∧Builtin.Int.intBits j≤16777216)
instance (i j:Int):Decidable (CMl i j):=by unfold CMl;infer_instance
theorem CMl.ok {i j:Int} (h:CMl i j):IntMulOk i j:=by
 rcases h with h |⟨h1,h2⟩
 ·exact h.ok
 ·unfold IntMulOk
  intro z
  simp only [CP,decide_eq_true_eq] at z
  have:=z.2
  unfold Builtin.Int.intTooBig at this
  simp only [decide_eq_true_eq] at this
  have hb:(bitsLine:Int)=134217728:=by first |rfl |decide
  omega
variable {X:Cx}
theorem op_mul':OpR X (binaryOp .Mult) (rI CMl fun i j=>.int (i*j)):=ND fun _ _ _ _ _ _ _ hc q=>mul_int q hc.ok
def Ee:D→D→HD→Out D
 |.int i,.int j,h=>if CMl i j then .ok (.int (i*j)) h else .stuck
 |.loc l,.int k,h=>match h[l]? with
  |some (.lst xs)=>if -(2^63)≤k∧k<2^63 then Du (List.replicate k.toNat xs).flatten h else .stuck
  |_=>.stuck
 |_,_,_=>.stuck
theorem YE:BI X (binaryOp .Mult) Ee:=by
 refine ⟨_,op_mul'.or XR,fun m H h E x y v u Q hr rx ry q=>?_⟩
 unfold Ee at q
 split at q
 ·simp only [DV] at rx ry
  subst rx ry
  split at q
  ·rename_i hc
   exact .inl ⟨_,_,rfl,rfl,hc,Bt hr q (by simp [DV])⟩
  ·exact q.elim
 ·simp only [DV] at rx ry
  obtain ⟨a,rfl,ha⟩:=rx
  subst ry
  split at q
  ·rename_i k _ xs e
   split at q
   ·rename_i hk
    obtain ⟨vs,h1,d1⟩:=hr.cells _ _ a e ha
    obtain ⟨z,q'⟩:=J6 hr (d1.rep k.toNat) q
    refine .inr ⟨a,k,vs,rfl,rfl,h1,hk.1,hk.2,?_,q'⟩
    rw [LX] at z
    rw [Nat.mul_comm];exact z
   ·exact q.elim
  ·exact q.elim
 ·exact q.elim
end LS
namespace Att
open PySem PySem.W PySem.Calls PyProof.Rows
theorem YF {ns:List Int} (h:WData.layable (.list (ns.map WData.int))=true):∀n∈ns,Builtin.Int.intBits n≤2^20:=by
 have hw:WData.weight (.list (ns.map WData.int))≤2^20:=(layableW_iff.mp h).2.2
 have key:∀(ns:List Int) (b:Nat),WData.weightAll (ns.map WData.int)≤b→∀n∈ns,Builtin.Int.intBits n≤b:=by
  intro ns
  induction ns with
  |nil=>intro b _ n hn;cases hn
  |cons m r ih=>
   intro b hb n hn
   have e:WData.weightAll ((m::r).map WData.int)=Builtin.Int.intBits m+1+WData.weightAll (r.map WData.int):=by
    simp only [Br,WData.weightAll,WData.weight]
    rfl
   rw [e] at hb
   rcases qa3.mp hn with z |z
   ·subst z;omega
   ·exact ih b (by omega) n z
 exact key ns _ (by simpa only [WData.weight] using hw)
theorem attach_bits {l:OpenLaw} {n:Nat} {q:Program} {loose:List Str} {XP:(Str→Option Value)→Heap→Prop} {YP:World→Heap→Prop} {d:DefRec}
 (hn:l.most=some n) (hdf:d.params.defaults=[])
 (call:∀(w:World) (s₀ s₁:Shared) (mg mb:Str→Option Value) (fa:Addr) (o:Obj) (pm cd doc:Value) (a:Addr) (vs:List Value) (ns:List Int),(∀n∈ns,Builtin.Int.intBits n≤2^20)→
  Ground q loose [] XP w s₀ mg mb s₁.heap→YP w s₁.heap→
  s₁.heap.get? fa=some o→o.data=.func (docDef d.name d.params d.body d.scope pm cd doc)→s₁.heap.CodeRec cd d.name→mg d.name=some (.ref fa)→
  s₁.heap.get? a=some {cls:=.type "list",data:=.seq vs.toArray}→IntsAre vs ns→ns.length≤n→s₁.gens=#[]→
  codeAny (model l.prog w) callerA (.call (.ref fa) ⟨[.ref a],[]⟩) (fun r s'=>r=.ok (.ret (.bool true))∧OldK s₁.heap s'.heap∧s'.os=s₁.os∧AllBare s'.gens) s₁):
 WalkO q loose XP YP l.row.toRowW d [] (fun f vs=>PySem.call f vs):=by
 intro w s₀ s₁ mg mb G Y fa o pm cd doc dV kV ho hd hcd hD hmg hg args vals as hpre hlay hrd hwl hlo
 obtain rfl:dV=.none:=Dflts.none hD hdf
 obtain rfl:kV=.none:=Dflts.noKw hD
 obtain ⟨a,vs,ns,rfl,rfl,hobj,hints,hlen⟩:=XT hn hpre hwl
 have hb:=YF (layableW_arg hlay _ AZ)
 refine enter_call (codeAny_mono (call w s₀ s₁ mg mb fa o pm cd doc a vs ns hb G Y ho (fd_plain hd) hcd hmg hobj hints hlen hg) fun r s' hq=>?_)
 obtain ⟨rfl,h2,h3,h4⟩:=hq
 exact ⟨.inl ⟨.bool true,.bool true,[],rfl,fun _=>rfl,.bool true,XU l _,fun _=>⟨List.Pairwise.nil,fun _ hm=>(nomatch hm)⟩⟩,h2,h3,h4⟩
end Att
namespace LS
open PySem PySem.Spec PyProof.Rows L2
def Wp {α:Type} (o:Out α) (Q:α→HD→Prop):Prop:=match o with
 |.ok a h=>Q a h
 |_=>False
section
variable {α β:Type} {o:Out α} {Q Q':α→HD→Prop}
@[simp] theorem AW (a:α) (h:HD):Wp (.ok a h) Q=Q a h:=rfl
@[simp] theorem Zfx:Wp .stuck Q=False:=rfl
theorem Ay {o':Out α} (e:o=o') (h:Wp o' Q):Wp o Q:=e ▸ h
theorem AB {k:α→HD→Out β} {Q:β→HD→Prop}:Wp (o.bind k) Q=Wp o fun a h=>Wp (k a h) Q:=by cases o<;>rfl
theorem Wp.mono (h:Wp o Q) (f:∀a h,Q a h→Q' a h):Wp o Q':=by
 cases o with
 |ok a h'=>exact f _ _ h
 |_=>exact h.elim
theorem Wp.ex (h:Wp o Q):∃a h',o=.ok a h'∧Q a h':=by
 cases o with
 |ok a h'=>exact ⟨a,h',rfl,h⟩
 |_=>exact h.elim
end
def Sm (h h':HD):Prop:=∀(l:Nat) (c:Cell),h[l]?=some c→h'[l]?=some c
theorem Sm.refl (h:HD):Sm h h:=fun _ _ e=>e
theorem Sm.trans {h h1 h2:HD} (a:Sm h h1) (b:Sm h1 h2):Sm h h2:=fun l c e=>b l c (a l c e)
theorem Sm.app (h t:HD):Sm h (h++t):=fun l c e=>by
 rw [Hg (qa8.mp e).1];exact e
def Pu {α:Type} (o:Out α) (h:HD) (a:α):Prop:=Wp o fun x h'=>x=a∧Sm h h'
section
variable {α β:Type} {o:Out α} {h:HD} {a:α}
theorem Pu.wp {Q:α→HD→Prop} (p:Pu o h a) (k:∀h',Sm h h'→Q a h'):Wp o Q:=Wp.mono p fun x h' z1_=>by obtain ⟨e,s⟩:=z1_;subst e;exact k h' s
theorem Pu.ok:Pu (.ok a h) h a:=⟨rfl,.refl _⟩
theorem Pu.bind {k:α→HD→Out β} {b:β} (p:Pu o h a) (q:∀h',Sm h h'→Pu (k a h') h' b):Pu (o.bind k) h b:=by
 unfold Pu
 rw [AB]
 exact p.wp fun h' s=>Wp.mono (q h' s) fun x h2 z2_=>by obtain ⟨e,s2⟩:=z2_;exact (⟨e,s.trans s2⟩)
theorem Pu.noErr (p:Pu o h a):Pu (noErr o) h a:=by
 obtain ⟨x,h',e,q⟩:=Wp.ex p
 rw [e];exact q
end
def R0 (i j:Nat) (ρ:Ai) (ds:List D) (h:HD):Out (Fl×Ai):=match ds with
 |[x,y]=>.ok (.nx,(ρ.set i (some x)).set j (some y)) h
 |_=>.stuck
def R1 (o:Option Ai) (h:HD):Out (Fl×Ai):=match o with
 |some ρ1=>.ok (.nx,ρ1) h
 |none=>.stuck
def Mb (g:HD→Out D) (x:D) (h:HD):Out D:=match x with
 |.bl true=>g h
 |.bl false=>.ok (.bl false) h
 |_=>.stuck
def N8 (g:HD→Out D) (x:D) (h:HD):Out D:=match x with
 |.bl true=>.ok (.bl true) h
 |.bl false=>g h
 |_=>.stuck
def R3 (x:D) (h:HD):Out D:=match x with
 |.bl b=>.ok (.bl (!b)) h
 |_=>.stuck
def R4 (x:D) (h:HD):Out D:=match x with
 |.int i=>.ok (.int (-i)) h
 |_=>.stuck
@[simp] theorem Zfy {i j:Nat} {ρ:Ai} {x y:D} {h:HD} {Q:Fl×Ai→HD→Prop}:Wp (R0 i j ρ [x,y] h) Q=Q (.nx,(ρ.set i (some x)).set j (some y)) h:=rfl
@[simp] theorem YG {ρ:Ai} {h:HD} {Q:Fl×Ai→HD→Prop}:Wp (R1 (some ρ) h) Q=Q (.nx,ρ) h:=rfl
@[simp] theorem Zfz {g:HD→Out D} {h:HD}:Mb g (.bl true) h=g h:=rfl
@[simp] theorem ZfA {g:HD→Out D} {h:HD}:Mb g (.bl false) h=.ok (.bl false) h:=rfl
@[simp] theorem ZfB {g:HD→Out D} {h:HD}:N8 g (.bl true) h=.ok (.bl true) h:=rfl
@[simp] theorem ZfC {g:HD→Out D} {h:HD}:N8 g (.bl false) h=g h:=rfl
@[simp] theorem ZfD {b:Bool} {h:HD}:R3 (.bl b) h=.ok (.bl (!b)) h:=rfl
@[simp] theorem ZfE {i:Int} {h:HD}:R4 (.int i) h=.ok (.int (-i)) h:=rfl
def N9 (g:MS) (Q:Fl×Ai→HD→Prop):Fl×Ai→HD→Prop
 |(.nx,ρ),h=>Wp (g ρ h) Q
 |y,h=>Q y h
def Oa (Q:D→HD→Prop):Fl×Ai→HD→Prop
 |(.nx,_),h=>Q .non h
 |(.rt d,_),h=>Q d h
 |_,_=>False
section
variable {ρ:Ai} {h:HD} {Q:Fl×Ai→HD→Prop} {QB:D→HD→Prop} {g g1 g2:MS} {f:ME} {t:MT}
@[simp] theorem An:N9 g Q (.nx,ρ) h=Wp (g ρ h) Q:=rfl
@[simp] theorem ZfF {d:D}:N9 g Q (.rt d,ρ) h=Q (.rt d,ρ) h:=rfl
@[simp] theorem ZfG:Oa QB (.nx,ρ) h=QB .non h:=rfl
@[simp] theorem ZfH {d:D}:Oa QB (.rt d,ρ) h=QB d h:=rfl
@[simp] theorem BZ:Wp (Aj g1 g2 ρ h) Q=Wp (g1 ρ h) (N9 g2 Q):=by
  unfold Aj
  rw [AB]
  congr 1
  funext x h'
  obtain ⟨fl,ρ1⟩:=x
  cases fl<;>rfl
theorem Ba {n:Nat} {ds:List D}:Wp (Ao n g ds h) QB=Wp (g (ds.map some++List.replicate (n - ds.length) none) h) (Oa QB):=by
 unfold Ao
 rw [AB]
 congr 1
 funext x h'
 obtain ⟨fl,ρ1⟩:=x
 cases fl<;>rfl
@[simp] theorem ZfI:Wp (Be ρ h) Q=Q (.nx,ρ) h:=rfl
@[simp] theorem ZfJ:Wp (Cv f ρ h) Q=Wp (f ρ h) fun _ h1=>Q (.nx,ρ) h1:=by unfold Cv;rw [AB];rfl
@[simp] theorem ZfK:Wp (Ax f ρ h) Q=Wp (f ρ h) fun d h1=>Q (.rt d,ρ) h1:=by unfold Ax;rw [AB];rfl
@[simp] theorem Ob {i:Nat}:Wp (AD i f ρ h) Q=Wp (f ρ h) fun d h1=>Q (.nx,ρ.set i (some d)) h1:=by unfold AD;rw [AB];rfl
@[simp] theorem ZfL:Wp (A9 t g1 g2 ρ h) Q=Wp (t ρ h) fun b h1=>Wp (if b=true then g1 ρ h1 else g2 ρ h1) Q:=by unfold A9;rw [AB]
@[simp] theorem ZfM {i j:Nat} {fa:MA}:Wp (Kf i j fa ρ h) Q=Wp (fa ρ h) fun ds h1=>Wp (R0 i j ρ ds h1) Q:=by unfold Kf;rw [AB];rfl
@[simp] theorem ZfN {sg:MG}:Wp (Fb sg f ρ h) Q=Wp (f ρ h) fun d h1=>Wp (R1 (sg d ρ) h1) Q:=by unfold Fb;rw [AB];rfl
@[simp] theorem ZfO {fo fi fv:ME}:Wp (L9 fo fi fv ρ h) Q=Wp (fv ρ h) fun v h1=>Wp (fo ρ h1) fun o h2=>Wp (fi ρ h2) fun i h3=>Wp (JC o i v h3 (.ok (.nx,ρ) h3)) Q:=by
  unfold L9;simp only [AB]
end
section
variable {ρ:Ai} {h:HD} {Q:D→HD→Prop} {QB:Bool→HD→Prop} {QA:List D→HD→Prop} {f g k:ME} {t u:MT} {fa:MA} {op op':D→D→HD→Out D} {F:List D→HD→Out D}
@[simp] theorem R5 {d:D} {r:Ai}:Wp (Aa 0 (some d::r) h) Q=Q d h:=rfl
@[simp] theorem R6 {i:Nat} {x:Option D} {r:Ai}:Wp (Aa (i+1) (x::r) h) Q=Wp (Aa i r h) Q:=rfl
@[simp] theorem YH {d:D}:Wp (mC d ρ h) Q=Q d h:=rfl
@[simp] theorem R7:Wp (Ah op f g ρ h) Q=Wp (f ρ h) fun x h1=>Wp (g ρ h1) fun y h2=>Wp (op x y h2) Q:=by unfold Ah;simp only [AB]
@[simp] theorem GX:Wp (Af F fa ρ h) Q=Wp (fa ρ h) fun ds h1=>Wp (F ds h1) Q:=by unfold Af;rw [AB]
@[simp] theorem Gw:Wp (Ae ρ h) QA=QA [] h:=rfl
@[simp] theorem GY:Wp (Ab f fa ρ h) QA=Wp (f ρ h) fun x h1=>Wp (fa ρ h1) fun xs h2=>QA (x::xs) h2:=by unfold Ab;simp only [AB];rfl
@[simp] theorem ZfP:Wp (BO fa ρ h) Q=Wp (fa ρ h) fun xs h1=>Wp (if xs.length≤sizeLine then .ok (.tup xs) h1 else .stuck) Q:=by unfold BO;simp only [AB]
@[simp] theorem ZfQ:Wp (Ea fa ρ h) Q=Wp (fa ρ h) fun xs h1=>Wp (Du xs h1) Q:=by unfold Ea;simp only [AB]
@[simp] theorem YI:Wp (AO f ρ h) QB=Wp (f ρ h) fun x h1=>Wp (J5 x h1) QB:=by unfold AO;rw [AB]
@[simp] theorem ZfR:Wp (B9 f ρ h) QB=Wp (f ρ h) fun x h1=>Wp (EB x h1) QB:=by unfold B9;rw [AB]
@[simp] theorem ZfS:Wp (Cf t ρ h) QB=Wp (t ρ h) fun b h1=>QB (!b) h1:=by unfold Cf;rw [AB];rfl
@[simp] theorem ZfT:Wp (Gm t u ρ h) QB=Wp (t ρ h) fun b h1=>Wp (if b=true then u ρ h1 else .ok false h1) QB:=by unfold Gm;rw [AB]
@[simp] theorem ZfU:Wp (Ce t u ρ h) QB=Wp (t ρ h) fun b h1=>Wp (if b=true then .ok true h1 else u ρ h1) QB:=by unfold Ce;rw [AB]
@[simp] theorem ZfV:Wp (Gn f g ρ h) Q=Wp (f ρ h) fun x h1=>Wp (Mb (g ρ) x h1) Q:=by unfold Gn;rw [AB];rfl
@[simp] theorem ZfW:Wp (Ro f g ρ h) Q=Wp (f ρ h) fun x h1=>Wp (N8 (g ρ) x h1) Q:=by unfold Ro;rw [AB];rfl
@[simp] theorem ZfX:Wp (L0 f ρ h) Q=Wp (f ρ h) fun x h1=>Wp (R3 x h1) Q:=by unfold L0;rw [AB];rfl
@[simp] theorem ZfY:Wp (Ma f ρ h) Q=Wp (f ρ h) fun x h1=>Wp (R4 x h1) Q:=by unfold Ma;rw [AB];rfl
@[simp] theorem ZfZ:Wp (Js t f g ρ h) Q=Wp (t ρ h) fun b h1=>Wp (if b=true then f ρ h1 else g ρ h1) Q:=by unfold Js;rw [AB]
@[simp] theorem Zf0:Wp (FD op op' f g k ρ h) Q=Wp (f ρ h) fun x h1=>Wp (g ρ h1) fun y h2=>Wp (op x y h2) fun z h3=>Wp (Mb (fun h=>(k ρ h).bind fun w h4=>op' y w h4) z h3) Q:=by unfold FD;simp only [AB];rfl
@[simp] theorem Zf1:Wp (RY f ρ h) Q=Wp (f ρ h) fun x h1=>Wp (N7 x h1) Q:=by unfold RY;rw [AB]
@[simp] theorem Zf2:Wp (HG f g ρ h) Q=Wp (f ρ h) fun x h1=>Wp (EH x h1) fun x h1=>Wp (g ρ h1) fun y h2=>Wp (JB x y h2) Q:=by unfold HG;simp only [AB]
@[simp] theorem Zf3:Wp (A4 ρ h) QB=QB true h:=rfl
theorem Dz {xs:List D} (hn:xs.length≤sizeLine) (q:∀l h',Sm h h'→h'[l]?=some (.lst xs)→l=h.length→h'=h++[.lst xs]→Q (.loc l) h'):Wp (Du xs h) Q:=by
 unfold Du
 rw [if_pos hn]
 exact q h.length _ (.app _ _) (by simp) rfl rfl
end
section
variable {ρ:Ai} {h:HD} {QI:(List D×Bm)→HD→Prop} {f:ME} {fa:MA}
@[simp] theorem Zf4:Wp (Bx f ρ h) QI=Wp (f ρ h) fun d h1=>Wp (Gr d h1) QI:=by unfold Bx;rw [AB]
@[simp] theorem Zf5:Wp (Dj fa ρ h) QI=Wp (fa ρ h) fun d h1=>Wp (Jx d h1) QI:=by unfold Dj;rw [AB]
@[simp] theorem Zf6:Wp (Kj fa ρ h) QI=Wp (fa ρ h) fun d h1=>Wp (Ki d h1) QI:=by unfold Kj;rw [AB]
@[simp] theorem Zf7:Wp (RX fa ρ h) QI=Wp (fa ρ h) fun d h1=>Wp (RW d h1) QI:=by unfold RX;rw [AB]
theorem EI {n:Nat} (hn:n≤1000):Jx [.int (n:Int)] h=.ok ((List.range n).map fun k=>D.int ((k:Nat):Int),[]) h:=by
 have:(-(2^62):Int)≤(n:Int)∧(n:Int)<2^62:=by omega
 unfold Jx
 simp only
 rw [if_pos this]
 simp [GW]
end
theorem R8 {α:Type} {src:Bm} {items:List D} {sg:MG} {t:MT} {f:ME} {ρc:Ai} (φ:α→D) (g:α→Bool) (e:α→D) (ρ1:α→Ai):
 ∀(xs:List α) (h:HD),(∀h',Sm h h'→Bq src items h')→(∀x∈xs,sg (φ x) ρc=some (ρ1 x))→(∀x∈xs,∀h',Sm h h'→Pu (t (ρ1 x) h') h' (g x))→(∀x∈xs,g x=true→∀h',Sm h h'→Pu (f (ρ1 x) h') h' (e x))→
  Pu (Ed src items sg t f ρc (xs.map φ) h) h ((xs.filter g).map e)
 |[],h,hs,_,_,_=>by
  simp only [Hq,List.filter_nil,Ed]
  rw [if_pos (hs h (.refl _))]
  exact .ok
 |x::xs,h,hs,hg,ht,hf=>by
  simp only [Br,Ed]
  rw [if_pos (hs h (.refl _)),hg x AZ]
  simp only
  refine Pu.bind (ht x AZ h (.refl _)).noErr fun h1 s1=>?_
  have ih:∀h2,Sm h h2→Pu (Ed src items sg t f ρc (xs.map φ) h2) h2 ((xs.filter g).map e):=fun h2 s2=>R8 φ g e ρ1 xs h2 (fun h' s'=>hs h' (s2.trans s'))
   (fun y hy=>hg y (Bb _ hy)) (fun y hy h' s'=>ht y (Bb _ hy) h' (s2.trans s')) (fun y hy gy h' s'=>hf y (Bb _ hy) gy h' (s2.trans s'))
  cases hgx:g x with
  |false=>
   rw [if_neg BF,Nk (by simp [hgx])]
   exact ih h1 s1
  |true=>
   rw [if_pos rfl,Nl hgx]
   refine Pu.bind (hf x AZ hgx h1 s1).noErr fun h2 s2=>?_
   exact Pu.bind (ih h2 (s1.trans s2)) fun h3 _=>.ok
theorem DY {α:Type} {xs:List α}:xs.filter (fun _=>true)=xs:=qcH.mpr fun _ _=>rfl
section
variable {α:Type} {cs:List (Option Nat)} {it:MI} {sg:MG} {t:MT} {f:ME} {ρ:Ai} {h:HD} {src:Bm} {xs:List α} {φ:α→D}
theorem FL {Q:D→HD→Prop} (g:α→Bool) (e:α→D) (ρ1:α→Ai) (hi:Wp (it ρ h) fun x h'=>x=(xs.map φ,src)∧Sm h h'∧∀h2,Sm h' h2→Bq src (xs.map φ) h2) (hn:xs.length≤sizeLine)
 (hg:∀x∈xs,sg (φ x) (Cp cs ρ)=some (ρ1 x)) (ht:∀x∈xs,∀h',Sm h h'→Pu (t (ρ1 x) h') h' (g x)) (hf:∀x∈xs,g x=true→∀h',Sm h h'→Pu (f (ρ1 x) h') h' (e x))
 (q:∀l h',Sm h h'→h'[l]?=some (.lst ((xs.filter g).map e))→Q (.loc l) h'):Wp (AR cs it sg t f ρ h) Q:=by
 unfold AR
 rw [AB]
 refine Wp.mono hi fun x h1 z4_=>?_
 obtain ⟨ex,s1,hs⟩:=z4_
 subst ex
 rw [if_pos (by simpa using hn),AB]
 refine (R8 φ g e ρ1 xs h1 hs hg (fun x hx h' s'=>ht x hx h' (s1.trans s')) (fun x hx gx h' s'=>hf x hx gx h' (s1.trans s'))).wp fun h2 s2=>?_
 refine Dz ?_ fun l h3 s3 e3 _ _=>q l h3 ((s1.trans s2).trans s3) e3
 rw [Cb]
 exact B8 (Hh _ _) hn
theorem R9 (g:α→Bool) (e:α→D) (ρ1:α→Ai) (hi:Wp (it ρ h) fun x h'=>x=(xs.map φ,src)∧Sm h h'∧∀h2,Sm h' h2→Bq src (xs.map φ) h2) (hn:xs.length≤sizeLine)
 (hg:∀x∈xs,sg (φ x) (Cp cs ρ)=some (ρ1 x)) (ht:∀x∈xs,∀h',Sm h h'→Pu (t (ρ1 x) h') h' (g x)) (hf:∀x∈xs,g x=true→∀h',Sm h h'→Pu (f (ρ1 x) h') h' (e x)):
 Pu (Af (Au BL) (Ab (AR cs it sg t f) Ae) ρ h) h (.tup ((xs.filter g).map e)):=by
 unfold Pu
 rw [GX,GY]
 refine FL g e ρ1 hi hn hg ht hf fun l h' s' e'=>?_
 rw [Gw]
 simp only [Au,BL,e']
 exact ⟨rfl,s'⟩
theorem Sa (e:α→D) (ρ1:α→Ai) (hi:Wp (it ρ h) fun x h'=>x=(xs.map φ,src)∧Sm h h'∧∀h2,Sm h' h2→Bq src (xs.map φ) h2) (hn:xs.length≤sizeLine)
 (hg:∀x∈xs,sg (φ x) (Cp cs ρ)=some (ρ1 x)) (hf:∀x∈xs,∀h',Sm h h'→Pu (f (ρ1 x) h') h' (e x)):
 Pu (Af (Au BL) (Ab (AR cs it sg A4 f) Ae) ρ h) h (.tup (xs.map e)):=by
 have:=R9 (t:=A4) (f:=f) (fun _=>true) e ρ1 hi hn hg (fun x hx h' s'=>(.ok:Pu (.ok true h') h' true)) (fun x hx _ h' s'=>hf x hx h' s')
 rw [DY] at this
 exact this
theorem FM {β γ:Type} {f:β→Option γ} {g:β→γ}:∀{xs:List β},(∀x∈xs,f x=some (g x))→Bk (xs.map f)=some (xs.map g)
 |[],_=>rfl
 |x::xs,hf=>by
  simp only [Br,hf x AZ,Bk,FM (fun y hy=>hf y (Bb _ hy)),Gi]
theorem YJ (b:α→Bool) (ρ1:α→Ai) (hi:Wp (it ρ h) fun x h'=>x=(xs.map φ,src)∧Sm h h'∧∀h2,Sm h' h2→Bq src (xs.map φ) h2) (hn:xs.length≤sizeLine)
 (hg:∀x∈xs,sg (φ x) (Cp cs ρ)=some (ρ1 x)) (hf:∀x∈xs,∀h',Sm h h'→Pu (f (ρ1 x) h') h' (.bl (b x))):
 Pu (Af (Au DJ) (Ab (AR cs it sg A4 f) Ae) ρ h) h (.bl (xs.all b)):=by
 unfold Pu
 rw [GX,GY]
 refine FL (fun _=>true) (fun x=>.bl (b x)) ρ1 hi hn hg (fun x hx h' s'=>(.ok:Pu (.ok true h') h' true)) (fun x hx _ h' s'=>hf x hx h' s') fun l h' s' e'=>?_
 rw [Gw]
 rw [DY] at e'
 simp only [Au,DJ,e',BS]
 rw [FM (f:=HE∘fun x=>D.bl (b x)) (g:=b) (fun x _=>rfl)]
 refine ⟨?_,s'⟩
 simp [List.all_map]
end
def CA (I:Ai→HD→Prop) (Q:Fl×Ai→HD→Prop):Fl×Ai→HD→Prop
 |(.nx,ρ),h=>I ρ h
 |(.ct,ρ),h=>I ρ h
 |(.bk,ρ),h=>Q (.nx,ρ) h
 |(.rt d,ρ),h=>Q (.rt d,ρ) h
theorem Oc {α:Type} {src:Bm} {items:List D} {sg:MG} {body:MS} {Q:Fl×Ai→HD→Prop} (φ:α→D) (I:List α→Ai→HD→Prop) (ho:∀xs ρ h,I xs ρ h→Bq src items h)
 (step:∀x xs ρ h,I (x::xs) ρ h→∃ρ1,sg (φ x) ρ=some ρ1∧Wp (body ρ1 h) (CA (I xs) Q)) (done:∀ρ h,I [] ρ h→Q (.nx,ρ) h):∀(xs:List α) (ρ:Ai) (h:HD),I xs ρ h→Wp (FJ src items sg body (xs.map φ) ρ h) Q
 |[],ρ,h,i=>by
  simp only [Hq,FJ]
  rw [if_pos (ho _ _ _ i)]
  exact done ρ h i
 |x::xs,ρ,h,i=>by
  simp only [Br,FJ]
  rw [if_pos (ho _ _ _ i)]
  obtain ⟨ρ1,e,w⟩:=step x xs ρ h i
  rw [e]
  simp only
  rw [AB]
  refine Wp.mono w fun y h' k=>?_
  obtain ⟨fl,ρ2⟩:=y
  cases fl with
  |nx=>exact Oc φ I ho step done xs ρ2 h' k
  |ct=>exact Oc φ I ho step done xs ρ2 h' k
  |bk=>exact k
  |rt d=>exact k
theorem EJ {α:Type} {src:Bm} {it:MI} {sg:MG} {body:MS} {Q:Fl×Ai→HD→Prop} {ρ:Ai} {h:HD} {xs:List α} (φ:α→D) (I:List α→Ai→HD→Prop) (hi:Wp (it ρ h) fun x h'=>x=(xs.map φ,src)∧I xs ρ h') (ho:∀ys ρ h,I ys ρ h→Bq src (xs.map φ) h)
 (step:∀x xs ρ h,I (x::xs) ρ h→∃ρ1,sg (φ x) ρ=some ρ1∧Wp (body ρ1 h) (CA (I xs) Q)) (done:∀ρ h,I [] ρ h→Q (.nx,ρ) h):Wp (Dx it sg body ρ h) Q:=by
 unfold Dx
 rw [AB]
 refine Wp.mono hi fun x h1 z5_=>?_
 obtain ⟨e,i⟩:=z5_
 subst e
 exact Oc φ I ho step done xs ρ h1 i
theorem YK {α β:Type} {f:α→Option β} {ys:List β}:∀{xs:List α},Bk (xs.map f)=some ys→∀{g:α→Option β},(∀x∈xs,∀y,f x=some y→g x=some y)→Bk (xs.map g)=some ys:=by
 intro xs
 induction xs generalizing ys with
 |nil=>intro e g _;exact e
 |cons x xs ih=>
  intro e g hg
  simp only [Br] at e ⊢
  cases hx:f x with
  |none=>rw [hx] at e;simp [Bk] at e
  |some y=>
   rw [hx] at e
   rw [hg x AZ y hx]
   simp only [Bk] at e ⊢
   cases hr:Bk (xs.map f) with
   |none=>rw [hr] at e;cases e
   |some zs=>rw [hr] at e;rw [ih hr (fun z hz=>hg z (Bb _ hz))];exact e
theorem JD {h:HD}:∀{n:Nat} {d:D} {p:PyData},A6 [] n d=some p→A6 h n d=some p
 |n,.non,p,e=>by simpa [A6] using e
 |n,.bl _,p,e=>by simpa [A6] using e
 |n,.int _,p,e=>by simpa [A6] using e
 |n,.str _,p,e=>by simpa [A6] using e
 |n+1,.tup ds,p,e=>by
  simp only [A6] at e ⊢
  cases hr:Bk (ds.map (A6 [] n)) with
  |none=>rw [hr] at e;cases e
  |some zs=>rw [hr] at e;rw [YK hr (fun x _ y hy=>JD hy)];exact e
 |0,.tup ds,p,e=>by simp [A6] at e
 |n+1,.loc l,p,e=>by simp [A6] at e
 |0,.loc l,p,e=>by simp [A6] at e
 |n,.scr _,p,e=>by cases n<;>simp [A6] at e
 |n,.adr _,p,e=>by cases n<;>simp [A6] at e
 |n,.ty _,p,e=>by cases n<;>simp [A6] at e
 |n,.exc _ _,p,e=>by cases n<;>simp [A6] at e
 |n,.edic,p,e=>by cases n<;>simp [A6] at e
 |n,.glo _,p,e=>by cases n<;>simp [A6] at e
 |n,.clo _ _ _,p,e=>by cases n<;>simp [A6] at e
def Py (d:D) (p:PyData):Prop:=A6 [] 8 d=some p∧SeqAt.shaped p=true
theorem YL {x y:D} {p q:PyData} {h:HD} (hx:Py x p) (hy:Py y q):Hx x y h=.ok (.bl (PyData.eqv p q)) h:=by
 simp only [Hx,Gq,JD hx.1,JD hy.1]
 rw [if_pos ⟨hx.2,hy.2⟩]
theorem YM {x y:D} {p q:PyData} {h:HD} (hx:Py x p) (hy:Py y q):EE x y h=.ok (.bl (!PyData.eqv p q)) h:=by
 simp only [EE,Gq,JD hx.1,JD hy.1]
 rw [if_pos ⟨hx.2,hy.2⟩]
@[simp] theorem sz0:(0≤sizeLine)=True:=eq_true (Ep _)
@[simp] theorem sz1:(1≤sizeLine)=True:=eq_true (by unfold sizeLine;omega)
@[simp] theorem sz2:(2≤sizeLine)=True:=eq_true (by unfold sizeLine;omega)
@[simp] theorem Kl:(3≤sizeLine)=True:=eq_true (by unfold sizeLine;omega)
@[simp] theorem sz4:(4≤sizeLine)=True:=eq_true (by unfold sizeLine;omega)
@[simp] theorem sz5:(5≤sizeLine)=True:=eq_true (by unfold sizeLine;omega)
section
variable {h:HD} {a b c:D} {ds es:List D} {i j:Int} {F1:D→HD→Out D} {F2:D→D→HD→Out D} {F3:D→D→D→HD→Out D}
@[simp] theorem Sb:Au F1 [a] h=F1 a h:=rfl
@[simp] theorem Zf8:Cg F2 [a,b] h=F2 a b h:=rfl
@[simp] theorem Zf9:X5 F3 [a,b,c] h=F3 a b c h:=rfl
@[simp] theorem Zga {b:Bool}:J5 (.bl b) h=.ok b h:=rfl
@[simp] theorem Zgb {b:Bool}:EB (.bl b) h=.ok b h:=rfl
@[simp] theorem Zgc:EB .non h=.ok false h:=rfl
@[simp] theorem Zgd:EB (.int i) h=.ok (i != 0) h:=rfl
@[simp] theorem Zge:EB (.tup ds) h=.ok (!ds.isEmpty) h:=rfl
@[simp] theorem Zgf:B4 (.int i) (.ty "int") h=.ok (.bl true) h:=rfl
@[simp] theorem Zgg:B4 (.int i) (.ty "bool") h=.ok (.bl false) h:=rfl
@[simp] theorem Zgh:B4 (.int i) (.ty "tuple") h=.ok (.bl false) h:=rfl
@[simp] theorem Zgi:B4 (.tup ds) (.ty "tuple") h=.ok (.bl true) h:=rfl
@[simp] theorem Zgj:B4 (.tup ds) (.ty "int") h=.ok (.bl false) h:=rfl
@[simp] theorem Zgk:AV (.int i) (.int j) h=.ok (.int (i+j)) h:=rfl
@[simp] theorem YN {f:Int→Int→D}:GQ f (.int i) (.int j) h=.ok (f i j) h:=rfl
@[simp] theorem Zgl {b c:Bool}:Gp (.bl b) (.bl c) h=.ok (.bl (b==c)) h:=rfl
@[simp] theorem Zgm {b c:Bool}:Eb (.bl b) (.bl c) h=.ok (.bl (!(b==c))) h:=rfl
@[simp] theorem Zgn:BK (.tup ds) h=.ok (.int ds.length) h:=rfl
@[simp] theorem Zgo {ns:List Int}:BK (.scr ns) h=.ok (.int ns.length) h:=by simp [BK,BY]
@[simp] theorem Zgp:Gr (.tup ds) h=.ok (ds,[]) h:=rfl
@[simp] theorem Zgq:BL (.tup ds) h=.ok (.tup ds) h:=rfl
@[simp] theorem Zgr:N7 (.tup [a,b]) h=.ok (.tup [b,a]) h:=rfl
@[simp] theorem Zgs:Kc (.int i) (.int j) h=.ok (.int (if j>i then j else i)) h:=rfl
@[simp] theorem Zgt:Ju (.int i) (.int j) h=.ok (.int (if j<i then j else i)) h:=rfl
@[simp] theorem YO {b:Bool}:Kd (.bl b) h=.ok (.int (if b then 1 else 0)) h:=rfl
@[simp] theorem Zgu:Kd (.int i) h=.ok (.int i) h:=rfl
@[simp] theorem Zgv {ρ:Ai} {k:Nat}:Bd k a ρ=some (ρ.set k (some a)):=rfl
@[simp] theorem Zgw {ρ:Ai} {k l:Nat}:Ci k l (.tup [a,b]) ρ=some ((ρ.set k (some a)).set l (some b)):=rfl
@[simp] theorem Zgx {b c:Bool}:Hx (.bl b) (.bl c) h=.ok (.bl (b==c)) h:=rfl
@[simp] theorem Zgy {b c:Bool}:EE (.bl b) (.bl c) h=.ok (.bl (!(b==c))) h:=rfl
@[simp] theorem Zgz:Hx (.int i) (.int j) h=.ok (.bl (i==j)) h:=rfl
@[simp] theorem ZgA:EE (.int i) (.int j) h=.ok (.bl (!(i==j))) h:=rfl
theorem Od {l:Nat} (e:h[l]?=some (.lst ds)):BL (.loc l) h=.ok (.tup ds) h:=by simp only [BL,e]
theorem Km {l:Nat} (e:h[l]?=some (.lst ds)):EH (.loc l) h=.ok (.loc l) h:=by simp only [EH,e]
theorem Oe {l:Nat} (e:h[l]?=some (.lst ds)) (hn:ds.length<sizeLine):JB (.loc l) a h=.ok .non (h.set l (.lst (ds++[a]))):=by simp only [JB,e];rw [if_pos hn]
theorem ix_tup {k:Nat} (e:ds[k]?=some a):AE (.tup ds) (.int (k:Nat)) h=.ok a h:=by
 have hk:k<ds.length:=(qa8.mp e).1
 have e1:Ds ds ((k:Nat):Int)=some a:=by
  unfold Ds D7
  rw [if_pos (by omega),if_pos (by omega)]
  simpa using e
 simp only [AE,BY,e1]
theorem Kn {n k:Nat} {e:Nat→D} (hk:k<n):AE (.tup ((List.range n).map e)) (.int (k:Nat)) h=.ok (e k) h:=ix_tup (by simp [List.getElem?_range,hk])
theorem Of {n:Nat} {e:Nat→D} (hk:0<n):AE (.tup ((List.range n).map e)) (.int 0) h=.ok (e 0) h:=Kn (k:=0) hk
@[simp] theorem ZgB:AE (.tup [a,b]) (.int 0) h=.ok a h:=rfl
@[simp] theorem ZgC:AE (.tup [a,b]) (.int 1) h=.ok b h:=rfl
theorem YQ {ns:List Int} {k:Nat} (e:ns[k]?=some i):AE (.scr ns) (.int (k:Nat)) h=.ok (.int i) h:=by
 have hk:k<ns.length:=(qa8.mp e).1
 have e1:Ds (ns.map D.int) ((k:Nat):Int)=some (.int i):=by
  unfold Ds D7
  rw [if_pos (by omega),if_pos (by simpa using hk)]
  simp [e]
 simp only [AE,BY,e1]
theorem Ko {l k:Nat} (el:h[l]?=some (.lst ds)) (e:ds[k]?=some a):AE (.loc l) (.int (k:Nat)) h=.ok a h:=by
 have hk:k<ds.length:=(qa8.mp e).1
 have e1:Ds ds ((k:Nat):Int)=some a:=by
  unfold Ds D7
  rw [if_pos (by omega),if_pos (by omega)]
  simpa using e
 simp only [AE,BY,el,e1]
theorem YR {l k:Nat} {ρ:Ai} (el:h[l]?=some (.lst ds)) (hk:k<ds.length):JC (.loc l) (.int (k:Nat)) a h (.ok (.nx,ρ) h)=.ok (.nx,ρ) (h.set l (.lst (ds.set k a))):=by
 have:D7 ds.length ((k:Nat):Int)=some k:=by
  unfold D7
  rw [if_pos (by omega),if_pos (by omega)]
  simp
 simp only [JC,el,this]
theorem Sd {neg:Bool} {k:Nat} {ks:List Nat}:E9 neg (.int (k:Nat)) (.tup (ks.map fun i=>.int ((i:Nat):Int))) h=.ok (.bl (if neg then !ks.contains k else ks.contains k)) h:=by
 have e:Bk ((ks.map fun i=>D.int ((i:Nat):Int)).map CT)=some (ks.map fun i=>V.int ((i:Nat):Int)):=by
  rw [BS]
  exact FM (f:=CT∘fun i=>D.int ((i:Nat):Int)) (fun x _=>rfl)
 have e2:Jn (V.int ((k:Nat):Int)) (ks.map fun i=>V.int ((i:Nat):Int))=ks.contains k:=by
  unfold Jn
  rw [JV,List.contains_eq_any_beq]
  congr 1
  funext i
  change (((i:Nat):Int)==((k:Nat):Int))=_
  rw [qaS]
  simp
  omega
 simp only [E9,BY,e,CT,e2]
end
noncomputable def Mc (cs:List (Option Nat)) (it:MI) (sg:MG) (t:MT) (f:ME):ME:=Af (Au BL) (Ab (AR cs it sg t f) Ae)
noncomputable def Se (cs:List (Option Nat)) (it:MI) (sg:MG) (t:MT) (f:ME):ME:=Af (Au DJ) (Ab (AR cs it sg t f) Ae)
section
variable {α:Type} {cs:List (Option Nat)} {it:MI} {sg:MG} {t:MT} {f:ME} {ρ:Ai} {h:HD} {src:Bm} {xs:List α} {φ:α→D}
@[simp] theorem ZgD:Af (Au BL) (Ab (AR cs it sg t f) Ae) ρ h=Mc cs it sg t f ρ h:=rfl
@[simp] theorem ZgE:Af (Au DJ) (Ab (AR cs it sg t f) Ae) ρ h=Se cs it sg t f ρ h:=rfl
def By (o:Out (List D×Bm)) (h:HD) (ds:List D) (src:Bm):Prop:=Wp o fun x h'=>x=(ds,src)∧Sm h h'∧∀h2,Sm h' h2→Bq src ds h2
theorem GZ (e:α→D) (ρ1:α→Ai) (hi:By (it ρ h) h (xs.map φ) src) (hg:∀x∈xs,sg (φ x) (Cp cs ρ)=some (ρ1 x)) (hf:∀x∈xs,∀h',Sm h h'→Pu (f (ρ1 x) h') h' (e x)) (hn:xs.length≤sizeLine):
 Pu (Mc cs it sg A4 f ρ h) h (.tup (xs.map e)):=Sa e ρ1 hi hn hg hf
theorem HH (b:α→Bool) (ρ1:α→Ai) (hi:By (it ρ h) h (xs.map φ) src) (hg:∀x∈xs,sg (φ x) (Cp cs ρ)=some (ρ1 x)) (hf:∀x∈xs,∀h',Sm h h'→Pu (f (ρ1 x) h') h' (.bl (b x))) (hn:xs.length≤sizeLine):
 Pu (Se cs it sg A4 f ρ h) h (.bl (xs.all b)):=YJ b ρ1 hi hn hg hf
theorem Kq {ds:List D}:By (Bx (Aa 0) (some (.tup ds)::ρ) h) h ds []:=by
 simp [By,Sm.refl,Bq]
theorem Og {ds:List D} {o:Out (List D×Bm)} (e:o=.ok (ds,[]) h):By o h ds []:=by
 rw [e];simp [By,Sm.refl,Bq]
end
theorem YS {α:Type} {xs:List α} {n:α→Int} {h:HD}:CU (.tup (xs.map fun x=>.int (n x))) h=.ok (.int (xs.map n).sum) h:=by
 simp only [CU,BY,BS]
 rw [FM (f:=Gv∘fun x=>D.int (n x)) (g:=n) (fun x _=>rfl)]
section
variable {h:HD} {i j:Int}
theorem Md (h1:-18446744073709551616<j) (h2:j<18446744073709551616):Ee (.int i) (.int j) h=.ok (.int (i*j)) h:=by
 have:CMl i j:=.inl (.inr ⟨by omega,by omega⟩)
 simp only [Ee];rw [if_pos this]
theorem Me (h1:-18446744073709551616<i) (h2:i<18446744073709551616):Ee (.int i) (.int j) h=.ok (.int (i*j)) h:=by
 have:CMl i j:=.inl (.inl ⟨by omega,by omega⟩)
 simp only [Ee];rw [if_pos this]
theorem YT (h1:Builtin.Int.intBits i≤16777216) (h2:Builtin.Int.intBits j≤16777216):Ee (.int i) (.int j) h=.ok (.int (i*j)) h:=by
 have:CMl i j:=.inr ⟨h1,h2⟩
 simp only [Ee];rw [if_pos this]
theorem FN (h1:0<j):Dw (.int i) (.int j) h=.ok (.int (i % j)) h:=by
 simp only [Dw,Hv];rw [if_pos h1]
theorem YU (h1:0<j) (h2:j<18446744073709551616):L4 (.int i) (.int j) h=.ok (.int (i / j)) h:=by
 have:CDv i j:=⟨h1,h2⟩
 simp only [L4,Hv];rw [if_pos this]
theorem YV (h1:0<j) (h2:j<18446744073709551616):Kb (.int i) (.int j) h=.ok (.tup [.int (i / j),.int (i % j)]) h:=by
 have:CDv i j:=⟨h1,h2⟩
 simp only [Kb];rw [if_pos this]
end
theorem Sf {α:Type} {o:Out α} {Q:α→HD→Prop}:Wp (noErr o) Q=Wp o Q:=by cases o<;>rfl
theorem Oh {src:Bm} {items:List D} {sg:MG} {t:MT} {f:ME} {ρc:Ai} (φ:Nat→D) (I:HD→Prop) (T:Nat→Bool→Prop) (R:Nat→D→Prop) (ρ1:Nat→Ai) (hs:∀h,I h→Bq src items h):
 ∀(xs:List Nat) (h:HD),xs.Nodup→I h→(∀x∈xs,sg (φ x) ρc=some (ρ1 x))→(∀x∈xs,∀h,I h→Wp (t (ρ1 x) h) fun b h1=>T x b∧if b=true then Wp (f (ρ1 x) h1) (fun y h2=>I h2∧R x y) else I h1)→
  Wp (Ed src items sg t f ρc (xs.map φ) h) fun ys h'=>I h'∧∃(g:Nat→Bool) (e:Nat→D),ys=(xs.filter g).map e∧(∀x∈xs,g x=true→R x (e x))∧∀x∈xs,T x (g x)
 |[],h,_,i,_,_=>by
  simp only [Hq,Ed]
  rw [if_pos (hs h i)]
  exact ⟨i,fun _=>true,fun _=>.non,rfl,by simp,by simp⟩
 |x::xs,h,hd,i,hg,ht=>by
  simp only [Br,Ed]
  rw [if_pos (hs h i),hg x AZ]
  simp only
  rw [AB,Sf]
  rw [qbJ] at hd
  refine Wp.mono (ht x AZ h i) fun b h1 z1_=>?_
  obtain ⟨tb,w⟩:=z1_
  have ih:∀h2,I h2→_:=fun h2 i2=>Oh φ I T R ρ1 hs xs h2 hd.2 i2 (fun y hy=>hg y (Bb _ hy)) (fun y hy=>ht y (Bb _ hy))
  cases b with
  |false=>
   rw [if_neg BF] at w ⊢
   refine Wp.mono (ih h1 w) ?_
   rintro ys h' ⟨i',g,e,ey,hr,tr⟩
   refine ⟨i',fun y=>if y=x then false else g y,e,?_,?_,?_⟩
   ·rw [Nk (by simp),ey]
    congr 1
    refine Ls fun y hy=>?_
    rw [if_neg]
    intro z;subst z;exact hd.1 hy
   ·intro y hy gy
    rcases qa3.mp hy with z |z
    ·subst z;simp at gy
    ·refine hr y z ?_
     by_cases hz:y=x
     ·subst hz;exact absurd z hd.1
     ·simpa [hz] using gy
   ·intro y hy
    by_cases hz:y=x
    ·subst hz;simpa using tb
    ·simp only [if_neg hz]
     exact tr y (by rcases qa3.mp hy with z |z;exact absurd z hz;exact z)
  |true=>
   rw [if_pos rfl] at w ⊢
   rw [AB,Sf]
   refine Wp.mono w fun y h2 z3_=>?_
   obtain ⟨i2,ry⟩:=z3_
   rw [AB]
   refine Wp.mono (ih h2 i2) ?_
   rintro ys h' ⟨i',g,e,ey,hr,tr⟩
   refine ⟨i',fun z=>if z=x then true else g z,fun z=>if z=x then y else e z,?_,?_,?_⟩
   ·rw [Nl (by simp),Br,if_pos rfl,ey]
    congr 1
    rw [show xs.filter (fun z=>if z=x then true else g z)=xs.filter g from Ls fun z hz=>by
     rw [if_neg]
     intro q;subst q;exact hd.1 hz]
    refine CN fun z hz=>?_
    rw [if_neg]
    intro q;subst q;exact hd.1 (qbO.mp hz).1
   ·intro z hz gz
    by_cases q:z=x
    ·subst q;simpa using ry
    ·rcases qa3.mp hz with w |w
     ·exact absurd w q
     ·simp only [if_neg q] at gz ⊢
      exact hr z w gz
   ·intro z hz
    by_cases q:z=x
    ·subst q;simpa using tb
    ·simp only [if_neg q]
     exact tr z (by rcases qa3.mp hz with w |w;exact absurd w q;exact w)
theorem Sg {cs:List (Option Nat)} {it:MI} {sg:MG} {t:MT} {f:ME} {ρ:Ai} {h:HD} {src:Bm} {xs:List Nat} {Q:D→HD→Prop} (φ:Nat→D) (I:HD→Prop) (T:Nat→Bool→Prop) (R:Nat→D→Prop) (ρ1:Nat→Ai) (hi:Wp (it ρ h) fun x h'=>x=(xs.map φ,src)∧I h') (hs:∀h,I h→Bq src (xs.map φ) h)
 (hnew:∀h c,I h→I (h++[c])) (hd:xs.Nodup) (hn:xs.length≤sizeLine) (hg:∀x∈xs,sg (φ x) (Cp cs ρ)=some (ρ1 x)) (ht:∀x∈xs,∀h,I h→Wp (t (ρ1 x) h) fun b h1=>T x b∧if b=true then Wp (f (ρ1 x) h1) (fun y h2=>I h2∧R x y) else I h1)
 (q:∀h' (g:Nat→Bool) (e:Nat→D),I h'→(∀x∈xs,g x=true→R x (e x))→(∀x∈xs,T x (g x))→Q (.tup ((xs.filter g).map e)) h'):Wp (Mc cs it sg t f ρ h) Q:=by
 unfold Mc
 rw [GX,GY]
 unfold AR
 rw [AB]
 refine Wp.mono hi fun x h1 z5_=>?_
 obtain ⟨ex,i1⟩:=z5_
 subst ex
 rw [if_pos (by simpa using hn),AB]
 refine Wp.mono (Oh φ I T R ρ1 hs xs h1 hd i1 hg ht) fun ys h2 z6_=>?_
 obtain ⟨i2,g,e,ey,hr,tr⟩:=z6_
 subst ey
 refine Dz ?_ fun l h3 s3 e3 _ eh=>?_
 ·rw [Cb]
  exact B8 (Hh _ _) hn
 ·rw [Gw]
  simp only [Au,BL,e3]
  refine q h3 g e ?_ hr tr
  rw [eh]
  exact hnew _ _ i2
theorem Oi {α:Type} {g:α→PyData}:∀{xs:List α},(∀x∈xs,(g x).canLay0=true)→PyData.canLayAll0 (xs.map g)=true
 |[],_=>rfl
 |x::xs,hx=>by
  rw [Br,PyData.canLayAll0,hx x AZ,Oi fun y hy=>hx y (Bb _ hy)];rfl
theorem Oj {α:Type} {g:α→PyData} {n:Nat}:∀{xs:List α},(∀x∈xs,(g x).depth≤n)→PyData.depthAll (xs.map g)≤n
 |[],_=>Ep _
 |x::xs,hx=>by
  rw [Br,PyData.depthAll]
  exact Nat.max_le.mpr ⟨hx x AZ,Oj fun y hy=>hx y (Bb _ hy)⟩
structure PyN (n:Nat) (d:D) (p:PyData):Prop where
 rd:∀k,n≤k→A6 [] k d=some p
 ly:p.canLay0=true
 dp:p.depth≤n
theorem PyN.py {n:Nat} {d:D} {p:PyData} (h:PyN n d p) (hn:n≤8):Py d p:=⟨h.rd 8 hn,by
 unfold SeqAt.shaped
 rw [h.ly]
 have:=h.dp
 simp
 omega⟩
theorem pyn_int {i:Int}:PyN 0 (.int i) (.int i):=⟨fun k _=>by cases k<;>rfl,rfl,AK _⟩
theorem PyN.mono {n m:Nat} {d:D} {p:PyData} (h:PyN n d p) (hm:n≤m):PyN m d p:=⟨fun k hk=>h.rd k (B8 hm hk),h.ly,B8 h.dp hm⟩
theorem Mf {α:Type} {n:Nat} {xs:List α} {e:α→D} {g:α→PyData} (hx:∀x∈xs,PyN n (e x) (g x)):PyN (n+1) (.tup (xs.map e)) (.tuple (xs.map g)):=by
 refine ⟨fun k hk=>?_,?_,?_⟩
 ·obtain ⟨k,rfl⟩:∃m,k=m+1:=⟨k - 1,by omega⟩
  simp only [A6,BS]
  rw [FM (f:=A6 [] k∘e) (g:=g) (fun x h=>(hx x h).rd k (by omega))]
  rfl
 ·rw [PyData.canLay0];exact Oi fun x h=>(hx x h).ly
 ·rw [PyData.depth]
  exact Nat.succ_le_succ (Oj fun x h=>(hx x h).dp)
theorem YW {n:Nat} {a b:D} {p q:PyData} (ha:PyN n a p) (hb:PyN n b q):PyN (n+1) (.tup [a,b]) (.tuple [p,q]):=
 Mf (xs:=[(a,p),(b,q)]) (e:=Prod.fst) (g:=Prod.snd) (fun x hx=>by
  simp at hx
  rcases hx with rfl |rfl
  ·exact ha
  ·exact hb)
def KD {α:Type}:Sem α→Prop
 |.pure _=>True
 |.raise _=>True
 |.unsupported _=>True
 |.finish _=>True
 |.rule _ k=>KD (k ())
 |.at _ k=>KD (k ())
 |.load _ _ k=>∀o,KD (k o)
 |.update _ _ f k=>(∀o,(f o).dict=o.dict∧(o.isFreed=false→(f o).isFreed=false))∧KD (k ())
 |.loadIfAlive _ k=>∀o,KD (k o)
 |.point _ k=>KD (k ())
 |.register _ _=>True
 |.alloc _ k=>∀a,KD (k a)
 |.fresh k=>∀a,KD (k a)
 |.ask k=>∀a,KD (k a)
 |.choose _ _ k=>∀a,KD (k a)
 |.os _ _ k=>∀a,KD (k a)
 |.call ..=>False
 |.handled _ k=>∀a,KD (k a)
 |.genState _ k=>∀a,KD (k a)
 |.newGen _ k=>∀a,KD (k a)
 |.resume ..=>False
 |.yield ..=>True
 |.stack k=>∀a,KD (k a)
 |.fork ..=>True
 |.thread k=>∀a,KD (k a)
 |.await ..=>True
def Dicts (h h':Heap):Prop:=∀b o,h.get? b=some o→∃o',h'.get? b=some o'∧o'.dict=o.dict
theorem Dicts.refl (h:Heap):Dicts h h:=fun _ o e=>⟨o,e,rfl⟩
theorem Dicts.trans {h h1 h2:Heap} (a:Dicts h h1) (b:Dicts h1 h2):Dicts h h2:=fun c o e=>by
 obtain ⟨o1,e1,d1⟩:=a c o e
 obtain ⟨o2,e2,d2⟩:=b c o1 e1
 exact ⟨o2,e2,d2.trans d1⟩
theorem YX {α:Type} {M:Model} {Γ:PySem.Ctx} {Q:α→Pos→Shared→Prop} {E:Value→Pos→Shared→Prop}:∀(t:Sem α) (p:Pos) (s:Shared),KD t→Sem.wp M Γ t Q E p s→Sem.wp M Γ t (fun a p s'=>Q a p s'∧Dicts s.heap s'.heap) (fun a p s'=>E a p s'∧Dicts s.heap s'.heap) p s:=by
 have lift:∀(t:Sem α) (p:Pos) (h0:Heap) (s:Shared),Dicts h0 s.heap→Sem.wp M Γ t (fun a p s'=>Q a p s'∧Dicts s.heap s'.heap) (fun a p s'=>E a p s'∧Dicts s.heap s'.heap) p s→Sem.wp M Γ t (fun a p s'=>Q a p s'∧Dicts h0 s'.heap) (fun a p s'=>E a p s'∧Dicts h0 s'.heap) p s:=
  fun t p h0 s d w=>Sem.wp_mono M Γ t (fun a p s' z=>⟨z.1,d.trans z.2⟩) (fun a p s' z=>⟨z.1,d.trans z.2⟩) p s w
 intro t
 induction t with
 |pure a=>exact fun p s _ w=>⟨w,.refl _⟩
 |raise e=>exact fun p s _ w=>⟨w,.refl _⟩
 |unsupported w=>exact fun p s _ w=>w.elim
 |finish w=>exact fun p s _ w=>w.elim
 |rule t k ih=>exact fun p s kd w=>ih () p s kd w
 |«at» t k ih=>exact fun p s kd w=>ih () t s kd w
 |load a x k ih=>exact fun p s kd ⟨o,e,w⟩=>⟨o,e,ih o p s (kd o) w⟩
 |update a x f k ih=>
  refine fun p s kd ⟨e,w⟩=>⟨e,lift _ p s.heap {s with heap:=s.heap.update a f} (fun b o eb=>?_) (ih () p _ kd.2 w)⟩
  by_cases hb:b=a
  ·subst hb
   obtain ⟨d1,d2⟩:=kd.1 o
   exact ⟨f o,Nq f eb (d2 (Heap.get?_some_iff.mp eb).2),d1⟩
  ·exact ⟨o,(Nn s.heap f (Ne.symm hb)).trans eb,rfl⟩
 |alloc o k ih=>exact fun p s kd w=>lift _ p s.heap {s with heap:=s.heap.push o} (fun b ob eb=>⟨ob,AY _ eb,rfl⟩) (ih _ p {s with heap:=s.heap.push o} (kd _) w)
 |loadIfAlive a k ih=>exact fun p s kd w=>ih _ p s (kd _) w
 |point l k ih=>exact fun p s kd w=>ih () p s kd w
 |register a k ih=>exact fun p s kd w=>w.elim
 |fresh k ih=>exact fun p s kd w=>ih _ p {s with toks:=s.toks+1} (kd _) w
 |ask k ih=>exact fun p s kd w=>ih _ p s (kd _) w
 |choose src n k ih=>exact fun p s kd ⟨z,w⟩=>⟨z,ih _ p {s with drawn:=s.drawn.bump src} (kd _) w⟩
 |os q l k ih=>exact fun p s kd w=>ih _ p {s with os:=(Os.step s.os q).1} (kd _) w
 |call c h g l k ih=>exact fun p s kd w=>kd.elim
 |handled o k ih=>exact fun p s kd w=>ih _ p s (kd _) w
 |newGen c k ih=>exact fun p s kd w=>ih _ p {s with gens:=s.gens.push (.fresh c)} (kd _) w
 |genState g k ih=>exact fun p s kd ⟨st,e,w⟩=>⟨st,e,ih _ p s (kd _) w⟩
 |resume g r l k ih=>exact fun p s kd w=>kd.elim
 |yield v g l k ih=>exact fun p s kd w=>w.elim
 |stack k ih=>exact fun p s kd w=>ih _ p s (kd _) w
 |fork c k ih=>exact fun p s kd w=>w.elim
 |thread k ih=>exact fun p s kd w=>ih _ p s (kd _) w
 |await a t b l k ih=>exact fun p s kd w=>w.elim
theorem YY {α:Type} {M:Model} {A:Around} {t:Sem α} {Q:α→Shared→Prop} {E:Value→Shared→Prop} {s:Shared} (kd:KD t) (h:wpAny M A t Q E s):wpAny M A t (fun a s'=>Q a s'∧Dicts s.heap s'.heap) (fun a s'=>E a s'∧Dicts s.heap s'.heap) s:=
 fun Γ p hΓ=>YX t p s kd (h Γ p hΓ)
theorem KD.bind {α β:Type} {f:α→Sem β}:∀{t:Sem α},KD t→(∀a,KD (f a))→KD (t >>=f):=by
 intro t
 induction t with
 |pure a=>exact fun _ h=>h a
 |raise e=>exact fun _ _=>True.intro
 |unsupported w=>exact fun _ _=>True.intro
 |finish w=>exact fun _ _=>True.intro
 |rule t k ih=>exact fun kd h=>ih () kd h
 |«at» t k ih=>exact fun kd h=>ih () kd h
 |load a x k ih=>exact fun kd h o=>ih o (kd o) h
 |update a x g k ih=>exact fun kd h=>⟨kd.1,ih () kd.2 h⟩
 |alloc o k ih=>exact fun kd h a=>ih a (kd a) h
 |loadIfAlive a k ih=>exact fun kd h a=>ih a (kd a) h
 |point l k ih=>exact fun kd h=>ih () kd h
 |register a k ih=>exact fun kd h=>True.intro
 |fresh k ih=>exact fun kd h a=>ih a (kd a) h
 |ask k ih=>exact fun kd h a=>ih a (kd a) h
 |choose src n k ih=>exact fun kd h a=>ih a (kd a) h
 |os q l k ih=>exact fun kd h a=>ih a (kd a) h
 |call c h g l k ih=>exact fun kd h=>kd.elim
 |handled o k ih=>exact fun kd h a=>ih a (kd a) h
 |newGen c k ih=>exact fun kd h a=>ih a (kd a) h
 |genState g k ih=>exact fun kd h a=>ih a (kd a) h
 |resume g r l k ih=>exact fun kd h=>kd.elim
 |yield v g l k ih=>exact fun kd h=>True.intro
 |stack k ih=>exact fun kd h a=>ih a (kd a) h
 |fork c k ih=>exact fun kd h=>True.intro
 |thread k ih=>exact fun kd h a=>ih a (kd a) h
 |await a t b l k ih=>exact fun kd h=>True.intro
theorem G0 {α:Type} {c:Prop} [Decidable c] {a b:Sem α} (ha:KD a) (hb:KD b):KD (if c then a else b):=by split<;>assumption
theorem Ol {a:Addr}:KD (load a):=fun _=>True.intro
theorem YZ {f:Array Value→Array Value} (o:Obj):(Obj.mapFields f o).dict=o.dict∧(o.isFreed=false→(Obj.mapFields f o).isFreed=false):=by
 obtain ⟨c,d,dt,sl⟩:=o
 cases dt<;>exact ⟨rfl,fun h=>h⟩
theorem Y0 {v:Value}:KD (fieldsOf v):=by
 unfold fieldsOf
 split
 ·exact KD.bind Ol fun o=>by split<;>exact True.intro
 ·exact True.intro
theorem Mg {v:Value} {i:Nat}:KD (field v i):=by
 unfold field
 exact KD.bind Y0 fun o=>by split<;>exact True.intro
theorem Om {v x:Value} {i:Nat}:KD (setField v i x):=by
 unfold setField
 split
 ·unfold updateField
  refine KD.bind Ol fun o=>?_
  split
  ·exact G0 ⟨YZ,True.intro⟩ True.intro
  ·exact True.intro
 ·exact True.intro
theorem Y1 {v:Value} {o:Option Addr}:KD (setFlight v o):=by
 unfold setFlight
 exact KD.bind Mg fun o=>G0 Om True.intro
theorem Y2 {n:String} {vs:List Value}:KD (newFields n vs):=by
 unfold newFields newObj
 unfold newObjAsIs
 dsimp only
 split
 ·exact True.intro
 ·exact fun a=>True.intro
theorem Sh:∀{l:List Env},KD (readyFrames l)
 |[]=>True.intro
 |env::outer=>by
  unfold readyFrames
  split
  ·refine KD.bind Ol fun o=>G0 True.intro (KD.bind ?_ fun b=>KD.bind ?_ fun v=>KD.bind ⟨fun o=>⟨rfl,fun h=>?_⟩,True.intro⟩ fun _=>Sh)
   ·unfold behindIsImport
    exact G0 True.intro (G0 True.intro (KD.bind Mg fun _=>True.intro))
   ·unfold keptBack
    split
    ·exact G0 True.intro fun _=>True.intro
    ·exact True.intro
   ·obtain ⟨c,d,dt,sl⟩:=o
    cases dt<;>exact h
  ·exact True.intro
theorem Y3 {env:Env}:KD (PySem.frameOf env):=by
 unfold PySem.frameOf
 refine KD.bind (fun _=>True.intro) fun l=>KD.bind ?_ fun o=>?_
 ·unfold frameObject
  split
  ·exact True.intro
  ·exact KD.bind Sh fun _=>True.intro
 ·split<;>exact True.intro
theorem Y4 {f:Addr} {b:Bool}:KD (entryPlaceOf f b):=by
 unfold entryPlaceOf
 intro l
 show KD (match l.find? _ with |some (_,pos)=>_ |none=>_)
 split<;>exact True.intro
theorem Y5 {e:Value} {env:Env}:KD (noteFrame e env):=by
 unfold noteFrame
 split
 ·refine KD.bind Mg fun hd=>?_
  have fin:∀f:Addr,KD (do setField e 1 (←EntryCells.newEntry hd (←PySem.frameOf env) .none (rawInt f) .none (←entryPlaceOf f (hd != .none)))):=fun f=>
   KD.bind Y3 fun _=>KD.bind Y4 fun _=>KD.bind Y2 fun _=>Om
  refine G0 (KD.bind Mg fun x=>G0 True.intro (KD.bind Om fun _=>?_)) ?_
  ·exact fin _
  ·exact fin _
 ·exact True.intro
theorem Y6 {e:Value} {env:Env}:KD (leaving env e):=by
 unfold leaving
 exact KD.bind Y5 fun _=>Y1
open Classical in
noncomputable def blank (p:Addr→Prop) (h:Heap):Heap:=⟨h.objs.mapIdx fun i o=>if p i then {o with data:=.freed} else o,h.life⟩
theorem Mh {p:Addr→Prop} {h:Heap} {b:Addr} (hp:p b):(blank p h).get? b=none:=by
 unfold blank Heap.get?
 simp only [Array.getElem?_mapIdx]
 cases e:h.objs[b]? with
 |none=>rfl
 |some o=>simp [hp]
theorem Mi {p:Addr→Prop} {h:Heap} {b:Addr} (hp:¬p b):(blank p h).get? b=h.get? b:=by
 unfold blank Heap.get?
 simp only [Array.getElem?_mapIdx]
 cases e:h.objs[b]? with
 |none=>rfl
 |some o=>simp [hp]
theorem Y7 {p:Addr→Prop} {h:Heap}:(blank p h).StaysIn h:=fun b o e=>by
 by_cases hp:p b
 ·rw [Mh hp] at e;cases e
 ·rw [Mi hp] at e;exact e
inductive On (h0 h:Heap) (H:Hp) (a:Addr) (C:Value) (da:Option Addr):Prop where
 |mk (new:h0.get? a=none) (no:H a=none) (oe:Obj) (vs:Array Value) (a0:Value) (T:Addr) (oT:Obj) (ts:Array Value) (e1:h.get? a=some oe) (e2:oe.cls=C∧vs[0]?=some a0) (e3:oe.data=.fields vs) (e4:vs[1]?=some (.ref T)) (e5:h0.get? T=none) (e6:H T=none) (e7:T≠a) (e8:h.get? T=some oT) (e9:oT.data=.fields ts) (e10:ts[3]?=some .none) (e11:oe.dict=da):On h0 h H a C da
abbrev Kr (n:Str):Value:=.str n 0
inductive AG (P:Program) (w:World) (K:PySem.W.Frag) (outer:List Env) (H:Hp) (s:Shared) (E:XK) (e:Value) (s':Shared):Prop where
 |mk (a C:Addr) (n:Str) (da:Option Addr) (H':Hp) (ee:e=.ref a) (os:s'.os=s.os) (bare:AllBare s'.gens) (un:Un (frs outer) [] H H' s.heap s'.heap) (hok:HOk P w H' s'.heap) (fly:On s.heap s'.heap H' a (.ref C) da) (nm:PySem.W.nsIn K mainGlobals n=some (some (.ref C))) (q:E (Kr n) da H'):AG P w K outer H s E e s'
theorem Si {h base:Heap} {p:Addr→Prop}:∀{l:List Env},h.FunFrames base l→(∀b∈frs l,p b)→h.FunFrames (blank p h) l
 |[],_,_=>trivial
 |env::rest,⟨k,⟨L,o,hf,_,ho,hd⟩,r⟩,hp=>⟨k,⟨L,o,hf,Mh (hp L (by unfold frs;rw [GG,hf];exact AZ)),ho,hd⟩,
  Si r fun b hb=>hp b (by
   unfold frs at hb ⊢
   rw [GG,hf]
   exact Bb _ hb)⟩
theorem Y8 {P:Program} {w:World} {H:Hp} {h:Heap} {a:Addr} {o:HO} (x:ObjOk P w H h a o):∃ob,h.get? a=some ob:=by
 cases o with
 |lst xs=>obtain ⟨_,_,_,_,e⟩:=x;exact ⟨_,e⟩
 |tup xs=>obtain ⟨_,_,_,⟨_,e,_⟩,_⟩:=x;exact ⟨_,e⟩
 |own y=>exact x
 |xd fs=>obtain ⟨_,⟨_,_,_,e,_⟩,_⟩:=x;exact ⟨_,e⟩
 |frz ob u=>obtain ⟨e,_⟩:=x;exact ⟨_,e⟩
 |tbl ps=>exact ⟨_,x⟩
 |ext φ=>exact x.2.1
 |mex φ=>exact x.2.1
 |dct φ=>exact x.2.1
structure Lv (X:Cx) (E:XK):Prop where
 xe:∀e s',wpAny (model X.prog X.w) X.A (leaving X.env e) (fun _ s''=>AG X.prog X.w X.K X.outer X.H₀ X.s₀ E e s'') (fun e' s''=>AG X.prog X.w X.K X.outer X.H₀ X.s₀ E e' s'') s'→X.xe e s'
 stk:X.stack=X.env::X.outer
 fr:X.env.frame=some X.env.locals
 ex:X.ex=[]
theorem Y9 {P:Program} {w:World} {K:PySem.W.Frag} {mg:Str→Option Value} {base:Heap} {N:List Str} {qual:Str} {scope:Scope} {f:Addr} {cd:Value} {A:Around} {outer:List Env} {s:Shared} {H:Hp} {E:XK}:Lv (AQ (AG P w K) P w K mg base N qual scope f cd A outer s H E) E:=
 ⟨fun _ _ h=>h,rfl,rfl,rfl⟩
section
variable {X:Cx} {E:XK}
theorem Lv.frs (lv:Lv X E):L2.frs X.stack=X.env.locals::X.fs:=by
 rw [lv.stk];unfold L2.frs;rw [GG,lv.fr];rfl
theorem Za {pins:List (Addr×Obj)} {σ:L2.St} {H':Hp} {s':Shared} {h':Heap} {a T:Addr} {C:Value} (lv:Lv X E)
 (I:Inv X pins σ H' s')
 (na:X.s₀.heap.get? a=none) (nT:X.s₀.heap.get? T=none) (ha:H' a=none) (hT:H' T=none) {a0:Value}
 (L:Heap.LeftW (blank (fun b=>b=a∨b=T∨b∈frs X.stack) s'.heap) X.stack a C a0 s'.heap h') {da:Option Addr} {oa:Obj} (ea:s'.heap.get? a=some oa) (ed:oa.dict=da) (dd:Dicts s'.heap h'):
 Un X.fs [] X.H₀ H' X.s₀.heap h'∧HOk X.prog X.w H' h'∧On X.s₀.heap h' H' a C da:=by
 obtain ⟨stay,ff,⟨oe,vs,T2,oT,ts,e1,e2,e3,e4,e5,e6,e7,e8,e9⟩,ups⟩:=L
 have e11:oe.dict=da:=by
  obtain ⟨o',q1,q2⟩:=dd a oa ea
  rw [e1] at q1
  cases q1
  exact q2.trans ed
 have B:Un X.fs [] X.H₀ H' X.s₀.heap s'.heap:=by have:=I.base;rw [lv.ex] at this;exact this
 have stk:=I.stack
 have frNone:∀b∈frs X.stack,H' b=none:=fun b hb=>I.stkFree b hb
 have keepOf:∀b o,¬(b=a∨b=T∨b∈frs X.stack)→s'.heap.get? b=some o→h'.get? b=some o:=fun b o hb e=>stay b o (by rw [Mi hb];exact e)
 have notL:∀b o,X.s₀.heap.get? b=some o→b∉X.fs→b∉frs X.stack:=fun b o e hb z=>by
  rw [lv.frs] at z
  rcases qa3.mp z with z |z
  ·have:=AS e
   rw [z] at this
   exact absurd (Bp this I.ok.above) (Eo _)
  ·exact hb z
 have old:∀b o,X.s₀.heap.get? b=some o→b≠a∧b≠T:=fun b o e=>⟨fun z=>(by rw [z,na] at e;cases e),fun z=>(by rw [z,nT] at e;cases e)⟩
 have noFields:∀b,b∈frs X.stack→∃o,s'.heap.get? b=some o∧∀vs,o.data≠.fields vs:=fun b hb=>(stk.mem hb).2
 have any:∀b o,X.s₀.heap.get? b=some o→s'.heap.get? b≠none→∃o',h'.get? b=some o':=fun b o e hn=>by
  cases e':s'.heap.get? b with
  |none=>exact absurd e' hn
  |some o'=>
   by_cases hb:b∈frs X.stack
   ·obtain ⟨o2,h2,d2⟩:=noFields b hb
    obtain ⟨sl,h3⟩:=ups b o2 h2 d2
    exact ⟨_,h3⟩
   ·exact ⟨o',keepOf b o' (fun z=>by rcases z with z |z |z;exact (old b o e).1 z;exact (old b o e).2 z;exact hb z) e'⟩
 refine ⟨⟨fun b o e n hb hx=>?_,fun b o e n hb hx=>?_,B.free,fun b o e hx=>?_,B.tups,B.frzs,B.tbls⟩,fun b o e=>?_,na,ha,oe,vs,a0,T2,oT,ts,e1,e2,e3,e4,?_,?_,e6,e7,e8,e9,e11⟩
 ·exact keepOf b o (fun z=>by rcases z with z |z |z;exact (old b o e).1 z;exact (old b o e).2 z;exact notL b o e hb z) (B.keep b o e n hb hx)
 ·obtain ⟨sl,h1⟩:=B.slot b o e n hb hx
  have hb':b∈frs X.stack:=by rw [lv.frs];exact Bb _ hb
  obtain ⟨o2,h2,d2⟩:=noFields b hb'
  rw [h1] at h2
  cases h2
  obtain ⟨sl2,h3⟩:=ups b _ h1 d2
  exact ⟨sl2,h3⟩
 ·obtain ⟨o',h1⟩:=B.there b o e hx
  exact any b o e (by rw [h1];simp)
 ·refine (I.hok b o e).stay (fun c u hc q=>keepOf c u (fun z=>?_) q) (fun _ q=>q) fun _ _ q=>q
  have hc':H' c≠none:=by
   rcases hc with rfl |hc
   ·rw [e];simp
   ·rw [hc];simp
  rcases z with z |z |z
  ·exact hc' (z ▸ ha)
  ·exact hc' (z ▸ hT)
  ·exact hc' (frNone c z)
 ·cases q:X.s₀.heap.get? T2 with
  |none=>rfl
  |some o=>
   exfalso
   obtain ⟨o',h1⟩:=B.there T2 o q (by simp)
   by_cases hb:T2∈frs X.stack
   ·obtain ⟨o2,h2,d2⟩:=noFields T2 hb
    obtain ⟨sl,h3⟩:=ups T2 o2 h2 d2
    rw [h3] at e7
    cases e7
    exact d2 _ e8
   ·rw [Mi (fun z=>by rcases z with z |z |z;exact (old T2 o q).1 z;exact (old T2 o q).2 z;exact hb z),h1] at e5
    cases e5
 ·cases q:H' T2 with
  |none=>rfl
  |some o=>
   exfalso
   by_cases hb:T2=a∨T2=T∨T2∈frs X.stack
   ·rcases hb with z |z |z
    ·rw [z,ha] at q;cases q
    ·rw [z,hT] at q;cases q
    ·rw [frNone T2 z] at q;cases q
   ·rw [Mi hb] at e5
    obtain ⟨ob,eb⟩:=Y8 (I.hok T2 o q)
    rw [eb] at e5
    cases e5
theorem Lv.older (lv:Lv X E) {pins:List (Addr×Obj)} {σ:L2.St} {H1:Hp} {s1:Shared} (I:Inv X pins σ H1 s1):∀b,s1.heap.get? b=none→X.s₀.heap.get? b=none:=fun b hb=>by
 cases q:X.s₀.heap.get? b with
 |none=>rfl
 |some o=>
  obtain ⟨o',h1⟩:=I.base.there b o q (by rw [lv.ex];simp)
  rw [hb] at h1;cases h1
theorem Zb (lv:Lv X E):Jl (AG X.prog X.w X.K) X E:=by
 rintro pins σ H1 s1 e s' I ⟨a,C,n,da,H',ee,os,bare,un,hok,fly,nm,q⟩
 subst ee
 have I':Inv X pins σ H' s':=I.call' os un hok bare (fun b hb=>absurd hb (by simp))
 obtain ⟨fnew,fno,oe,vs,a0,T,oT,ts,e1,e2,e3,e4,e5,e6,e7,e8,e9,e10,e11⟩:=fly
 have fro:X.A.frames=some (X.env::X.outer):=by rw [←lv.stk];exact I'.ok.frames
 have stk:s'.heap.FunFrames X.base (X.env::X.outer):=by have:=I'.stack;rw [lv.stk] at this;exact this
 have run:=YY Y6 (wpAny_leaving_nextW (M:=model X.prog X.w) (E:=fun _ _=>False) (Q:=fun _ s''=>∃h',s''={s' with heap:=h'}∧Heap.LeftW (blank (fun b=>b=a∨b=T∨b∈frs X.stack) s'.heap) (X.env::X.outer) a (.ref C) a0 s'.heap h') (base:=blank (fun b=>b=a∨b=T∨b∈frs X.stack) s'.heap) (cls:=.ref C) (a0:=a0) fro (Si stk fun b hb=>.inr (.inr (by rw [lv.stk];exact hb))) lv.fr
  ⟨oe,vs,T,oT,ts,e1,e2,e3,e4,Mh (.inr (.inl rfl)),e7,e8,e9,e10⟩ Y7 (Mh (.inl rfl)) fun h' L=>⟨h',rfl,L⟩)
 refine lv.xe _ _ (wpAny_mono run (fun _ s'' z=>?_) fun _ _ z=>z.1.elim)
 obtain ⟨⟨h',rfl,L⟩,D⟩:=z
 obtain ⟨u1,u2,u3⟩:=Za lv I' (lv.older I a fnew) (lv.older I T e5) fno e6 (by rw [lv.stk] at *;exact L) e1 e11 D
 exact ⟨a,C,n,da,H',rfl,I'.os,bare,u1,u2,u3,nm,q⟩
end
section
variable {P:Program} {w:World} {K:PySem.W.Frag} {mg:Str→Option Value} {base:Heap} {N:List Str} {qual:Str} {scope:Scope} {f:Addr} {cd:Value} {A:Around} {outer:List Env} {s:Shared} {H:Hp} {E:XK}
theorem Aw:Jl (AG P w K) (AQ (AG P w K) P w K mg base N qual scope f cd A outer s H E) E:=Zb Y9
end
inductive Sj (h:Heap) (C:Addr) (bmB:List Value) (newId:String):Prop where
 |mk (bm:List Value) (N:Addr) (nm q:Str) (bs:List Value) (hdct:Bool) (sn:List Str) (sub:List Value) (ab:Bool) (col:Option Bool) (dd:Option Addr) (k0 k1 k2 k3 k5:Option Value) (mN:Str→Option Value)
  (hC:h.get? C=some (excClassObj nm q C N bs bm hdct sn sub ab col dd k0 k1 k2 k3 k5 newId)) (hN:h.Ns N mN) (hni:mN "__init__"=none) (T:OwnTail h bmB bm):Sj h C bmB newId
def Zc (K:PySem.W.Frag) (C:Addr) (bmB:List Value) (newId:String):Prop:=∀h:Heap,K.In h→Sj h C bmB newId
def clsOf:Data→Option ClassData
 |.cls c=>some c
 |_=>none
inductive Zd {α:Type} (l:List α):Prop where
 |mk (a b c d e f:α) (q:l=[a,b,c,d,e,f]):Zd l
def Ze (K:PySem.W.Frag) (C:Addr) (bmB:List Value) (newId:String) (o:Obj) (cd:ClassData):Bool:=
 decide (o.cls=.type "type")&&(decide (cd.mro=.ref C::cd.mro.tail)&&(!cd.hasDel&&(PySem.W.tailIn K bmB cd.mro.tail&&(PySem.W.nsOkIn K cd.ns&&(PySem.W.nsIn K cd.ns "__init__"==some none&&(decide (o.slots.toList.length=6)&&decide (o.slots.toList[4]?=some (some (.builtin newId)))))))))
def Zf (K:PySem.W.Frag) (C:Addr) (bmB:List Value) (newId:String):Bool:=match K.lookup C with
 |some o=>(match clsOf o.data with
  |some cd=>Ze K C bmB newId o cd
  |none=>false)
 |none=>false
abbrev Mj:List Value:=[.type "ValueError",.type "Exception",.type "BaseException",.type "object"]
def ZgF (X:Cx) (E:XK):Prop:=∀(pins:List (Addr×Obj)) (σ:L2.St) (H1:Hp) (s1:Shared) (h':Heap) (a C:Addr) (n:Str) (vs:List Value),Inv X pins σ H1 s1→Heap.MadeExcOf s1.heap h' a (.ref C) vs→PySem.W.nsIn X.K mainGlobals n=some (some (.ref C))→E (Kr n) none H1→X.xe (.ref a) {s1 with heap:=h'}
section
variable {X:Cx} {E:XK}
def Sk (n:Str) (fa:MA):MS:=fun ρ h=>(fa ρ h).bind fun xs h1=>if xs.length≤sizeLine then .err (Kr n) [] h1 else .stuck
inductive G1 (K:PySem.W.Frag) (F:List D→HD→Out D) (vs:List V) (H:Hp) (Q:VK) (E:XK):Prop where
 |mk (m:List Addr) (ds:List D) (h:HD) (hr:HR K m h H) (r:DVs K m H ds vs) (p:Post K (rD K) m H E Q (F ds h)):G1 K F vs H Q E
theorem EK {P:Program} {w:World} {K:PySem.W.Frag} {X:Cx}:Jl (AG P w K) X E0:=fun _ _ _ _ _ _ _ z2_=>by obtain ⟨_,_,_,_,_,_,_,_,_,_,_,_,q⟩:=z2_;exact (q.elim)
theorem Sl {K:PySem.W.Frag} {n:Nat} {F:List D→HD→Out D} (ar:Ar n F) {vs:List V} {H:Hp} {Q:VK} {E':XK} (h:G1 K F vs H Q E'):vs.length=n:=by
 obtain ⟨m,ds,hd,hr,r,p⟩:=h
 rw [←r.len]
 by_cases e:ds.length=n
 ·exact e
 ·rw [ar ds hd e] at p;exact p.elim
structure CaE (P:Program) (w:World) (K:PySem.W.Frag) (mg:Str→Option Value) (base:Heap) (x:Str) (k:Nat) (F:List D→HD→Out D):Prop where
 ex:∃(f:Addr) (fd:FuncData) (ps:List Str),FnOk P w K mg base (AG P w K) k f fd ps (G1 K F)∧Binds K fd ps []∧mg x=some (.ref f)∧PySem.W.keepIn K (.ref f)=true
theorem Aq {k k':Nat} {F:List D→HD→Out D} {fa:MA} {x:Str} {p pos:Pos} {e:Expr} {es:List Expr} (C:CaE X.prog X.w X.K X.mg X.base x k F) (hr:Room k' X.A) (hx:Jl (AG X.prog X.w X.K) X E) (ha:DU X E (e::es) fa) (hk:k≤k':=by decide) (hg:Gl X x:=by rfl)
 (hdb:(x==("__debug__":Str))=false:=by decide) (he:starEach (e::es) X.env=(false,eval e X.env)::starEach es X.env:=by rfl) (hpl:(backTo pos (starEach es X.env)).any (·.1)=false:=by rfl):
 Ev X E (.Call (.Name x p) (e::es) [] pos) (Af F fa):=by
 obtain ⟨f,fd,ps,G,hb,hm,hkp⟩:=C.ex
 exact Cd (WZ (E:=E) G (hr.mono hk) hg hm hkp hb .nil hx ha hdb he hpl) fun σ H Q z3_=>by obtain ⟨m,ρ,hd,hr,er,p⟩:=z3_;exact (⟨m,ρ,hd,hr,er,Post.bind p fun xs h1 vs m1 H1 e1 p1 k1 hr1 r1 q1=>by
  rw [E3]
  exact ⟨m1,xs,h1,hr1,r1,q1⟩⟩)
theorem Bf {P:Program} {w:World} {K:PySem.W.Frag} {mg:Str→Option Value} {base:Heap} {x qual:Str} {st:Stmt} {f:Addr} {fd:FuncData} {N ps:List Str} {k:Nat} {F:List D→HD→Out D} {g:MS} (Fn:Fun K x qual st f fd) (S:A5 N ps (defScope st)) (ar:Ar ps.length F)
 (hg:∀ds h,ds.length=ps.length→F ds h=Ao N.length g ds h)
 (hbody:∀(cdv:Value) (A:Around) (outer:List Env) (s:Shared) (H:Hp) (E:XK),Room k (A.deeper (envOfC qual (defScope st) s.heap.objs.size f cdv))→AU (AQ (AG P w K) P w K mg base N qual (defScope st) f cdv A outer s H E) E (defBody st) g):FnOk P w K mg base (AG P w K) (k+1) f fd ps (G1 K F):=by
 obtain ⟨oc,od,kV,doc,pm,an,cdv,ct,osl,rfl,lk,hcd⟩:=Fn.ex
 refine W1 lk hcd S (fun vs H Q E h=>Sl ar h) fun A outer s H vs Q E hr h=>?_
 refine ⟨_,hbody cdv A outer s H E hr,?_⟩
 have hl:=Sl ar h
 obtain ⟨m,ds,hd,hr1,r,p⟩:=h
 have hld:ds.length=ps.length:=by rw [r.len];exact hl
 refine ⟨m,ds.map some++List.replicate (N.length - ds.length) none,hd,hr1,ER.start r,?_⟩
 rw [hg ds hd hld] at p
 unfold Ao at p
 cases o:g (ds.map some++List.replicate (N.length - ds.length) none) hd with
 |stuck=>rw [o] at p;exact p
 |err C fs h1=>rw [o] at p;exact p
 |ok a h1=>
  rw [o] at p
  obtain ⟨fl,ρ1⟩:=a
  intro m1 H1 p1 k1 hr1
  cases fl with
  |nx=>exact fun σ er=>p .non m1 H1 p1 k1 hr1 (by simp [rD,DV])
  |bk=>exact False.elim p
  |ct=>exact False.elim p
  |rt d=>exact fun v rv=>p v m1 H1 p1 k1 hr1 rv
end
theorem Ef {P:Program} {w:World} {K:PySem.W.Frag} {mg:Str→Option Value} {base:Heap} {N:List Str} {qual:Str} {scope:Scope} {f:Addr} {cd:Value} {A:Around} {outer:List Env} {s:Shared} {H:Hp} {E:XK}:
 PassesOwn (model P w) (AQ (AG P w K) P w K mg base N qual scope f cd A outer s H E).A (AQ (AG P w K) P w K mg base N qual scope f cd A outer s H E).env (AQ (AG P w K) P w K mg base N qual scope f cd A outer s H E).xe:=by
 passes_own
section
variable {X:Cx} {E:XK}
abbrev MO:=Ai→HD→Out (Option Int)
abbrev Mk (X:Cx) (E:XK) (e:Option Expr) (f:MO):Prop:=PO X e (tM X.K (fun _ _ a b=>a=b) E f)
def EL:MO:=fun _ h=>.ok none h
def Eg (f:ME):MO:=fun ρ h=>(f ρ h).bind fun x h1=>match x with
 |.int i=>.ok (some i) h1
 |_=>.stuck
theorem Sn {e:Option Expr} {t t':TO} (h:PO X e t) (i:∀σ H Q,t' σ H Q→t σ H Q):PO X e t':=fun pins s σ H Q I q=>h pins s σ H Q I (i σ H Q q)
theorem FO:Mk X E none EL:=Sn Xh fun σ H Q z1_=>by obtain ⟨m,ρ,h,hr,er,p⟩:=z1_;exact (p none m H (AC _) (.refl _) hr rfl)
theorem FP {e:Expr} {f:ME} (he:Ev X E e f):Mk X E (some e) (Eg f):=Sn (Xi he) fun σ H Q z2_=>by obtain ⟨m,ρ,h,hr,er,p⟩:=z2_;exact (⟨m,ρ,h,hr,er,Post.bind p fun x h1 v m1 H1 eo p1 k1 hr1 r1 q1=>by
 clear eo
 split at q1
 ·rename_i i
  simp only [rD,DV] at r1
  exact ⟨i,r1,q1 (some i) m1 H1 (AC _) (.refl _) hr1 rfl⟩
 ·exact q1.elim⟩)
def cutD (xs:List D) (lo hi:Option Int):List D:=(xs.drop (HT.sIx xs.length 0 lo)).take (HT.sIx xs.length xs.length hi - HT.sIx xs.length 0 lo)
def So (x:D) (lo hi:Option Int) (h:HD):Out D:=match x with
 |.tup xs=>if HT.sIx xs.length 0 lo=0∧HT.sIx xs.length xs.length hi=xs.length then .stuck else .ok (.tup (cutD xs lo hi)) h
 |_=>.stuck
def Sq (f:ME) (lo hi:MO):ME:=fun ρ h=>(f ρ h).bind fun x h1=>(lo ρ h1).bind fun l h2=>(hi ρ h2).bind fun u h3=>So x l u h3
theorem DVs.cut {K:PySem.W.Frag} {m:List Addr} {H:Hp} {ds:List D} {vs:List V} (r:DVs K m H ds vs) (lo hi:Option Int):DVs K m H (cutD ds lo hi) (Jm vs lo hi):=by
 unfold cutD Jm
 rw [r.len]
 exact (r.drop _).take _
def Sr (o i x y:D) (ρ:Ai) (h:HD):Out (Fl×Ai):=match x,y with
 |.int a,.int b=>JC o i (.int (a+b)) h (.ok (.nx,ρ) h)
 |_,_=>.stuck
def Ss (o i:D) (h:HD):Out D:=match o,i with
 |.loc l,.int n=>if 0≤n then (match h[l]? with
  |some (.lst ds)=>(match ds[n.toNat]? with
   |some d=>.ok d h
   |none=>.stuck)
  |_=>.stuck) else .stuck
 |_,_=>.stuck
def Su (fo fi fv:ME):MS:=fun ρ h=>(fo ρ h).bind fun o h1=>(fi ρ h1).bind fun i h2=>(Ss o i h2).bind fun x h3=>(fv ρ h3).bind fun y h4=>Sr o i x y ρ h4
end
theorem vals_ints:∀{ns:List Int} {its:List Value},Vals (ns.map V.int) its→∃ys:List (Int×Tok),its=ys.map (fun p=>Value.int p.1 p.2)∧ys.map (·.1)=ns
 |[],its,r=>by cases r;exact ⟨[],rfl,rfl⟩
 |n::ns,its,r=>by
  cases r with
  |cons r1 r2=>
   obtain ⟨t,rfl⟩:=r1
   obtain ⟨ys,rfl,e⟩:=vals_ints r2
   exact ⟨(n,t)::ys,rfl,by simp [e]⟩
section
variable {X:Cx}
theorem Zg (hc:X.calm=true):DS X (.builtin "min") (fun xs H Q=>∃(p:Addr) (ns:List Int),xs=[.ref p]∧SqL X.K H p (ns.map V.int)∧ns≠[]∧∀M,M∈ns→(∀a∈ns,M≤a)→Q (.int M) H):=by
 intro pins s σ H xs us Q I r h
 obtain ⟨p,ns,rfl,hs,hne,q⟩:=h
 obtain ⟨u,rfl,rx⟩:=Gk r
 cases rx
 obtain ⟨its,rv,pl,hz⟩:=I.list hs
 obtain ⟨ys,rfl,en⟩:=vals_ints rv
 have hlen:ys.length=ns.length:=by rw [←en];simp
 have hpos:0<ys.length:=by rw [hlen];exact List.length_pos_iff.mpr hne
 have hl:s.heap.IsList p (intItems ys.toArray):=by
  have:=pl.isList
  simpa [intItems] using this
 refine min_intList (I.ok.hd hc) hl (by simpa using hpos) fun v h' tk hv hk=>?_
 obtain ⟨t,rfl⟩:=intItems_at hv
 obtain ⟨h1,h2⟩:=argBest_lt (numAt ys.toArray) (ys.toArray.size - 1)
 have hsz:ys.toArray.size=ys.length:=by simp
 have at':∀j,j<ys.length→numAt ys.toArray j∈ns:=fun j hj=>by
  rw [numAt_eq]
  simp only [Em]
  rw [←en,Bh (by simpa using hj)]
  simp only [Option.getD_some]
  exact JT _
 refine ⟨.int (numAt ys.toArray (argBest _ (ys.toArray.size - 1))),H,I.kept hk,⟨t,rfl⟩,q _ (at' _ (by omega)) fun a ha=>?_⟩
 rw [←en] at ha
 obtain ⟨j,hj,rfl⟩:=JQ ha
 have hj':j<ys.length:=by simpa using hj
 have:=h2 j (by omega)
 rw [numAt_eq ys.toArray j] at this
 simpa [Em,Bh hj'] using this
def EN:List Int→Int
 |[]=>0
 |n::ns=>ns.foldl min n
theorem Oo:∀(ns:List Int) (n:Int),(ns.foldl min n∈n::ns)∧∀a∈n::ns,ns.foldl min n≤a
 |[],n=>by simp
 |m::ns,n=>by
  obtain ⟨h1,h2⟩:=Oo ns (min n m)
  rw [List.foldl_cons]
  refine ⟨?_,fun a ha=>?_⟩
  ·rcases qa3.mp h1 with z |z
   ·rw [z]
    rcases Int.le_total n m with q |q
    ·rw [Int.min_eq_left q];simp
    ·rw [Int.min_eq_right q];simp
   ·exact Bb _ (Bb _ z)
  ·have h0:=h2 (min n m) AZ
   rcases qa3.mp ha with z |z
   ·subst z;omega
   ·rcases qa3.mp z with z |z
    ·subst z;omega
    ·exact h2 a (Bb _ z)
theorem Ks {ns:List Int} (h:ns≠[]):EN ns∈ns:=by
 cases ns with
 |nil=>exact absurd rfl h
 |cons n ns=>exact (Oo ns n).1
theorem Kt {ns:List Int} {a:Int} (h:a∈ns):EN ns≤a:=by
 cases ns with
 |nil=>cases h
 |cons n ns=>exact (Oo ns n).2 a h
def G2 (f:List Int→Int):D→HD→Out D:=fun x h=>match x with
 |.loc l=>match h[l]? with
  |some (.lst ds)=>match Bk (ds.map Gv) with
   |some ns=>if ns=[] then .stuck else .ok (.int (f ns)) h
   |none=>.stuck
  |_=>.stuck
 |_=>.stuck
theorem Sv (hc:X.calm=true):DX X (.builtin "min") (Au (G2 EN)):=by
 refine ⟨_,Zg hc,fun m H h E ds vs Q hr r q=>Hz r q fun d v ev rv q=>?_⟩
 unfold G2 at q
 split at q
 ·rename_i l
  split at q
  ·rename_i ds el
   split at q
   ·rename_i ns en
    split at q
    ·exact q.elim
    ·rename_i hne
     simp only [DV] at rv
     obtain ⟨a,rfl,ha⟩:=rv
     obtain ⟨ws,hv,dv⟩:=hr.cells l _ a el ha
     have ew:=L8 dv en
     subst ew
     refine ⟨a,ns,ev,SqL.of hv,hne,fun M h1 h2=>?_⟩
     have:M=EN ns:=LA (h2 _ (Ks hne)) (Kt h1)
     subst this
     exact Bt hr q (by simp [DV])
   ·exact q.elim
  ·exact q.elim
 ·exact q.elim
end
def Sw (K:PySem.W.Frag) (t:Addr):It:=⟨fun i H=>∃xs,SqL K H t xs∧i<xs.length,fun i H x H'=>∃p v,H p=none∧x=.ref p∧(∀xs:List V,SqL K H t xs→xs[i]?=some v)∧H'=Az H p (.tup [.int i,v]),fun i H=>∃xs,SqL K H t xs∧i=xs.length⟩
theorem Zh {P:Program} {w:World} {K:PySem.W.Frag} {elts:List Expr} {kt:Nat} {tpos:Pos} (e it t:Addr) (hei:e≠it) (hte:t≠e) (hti:t≠it):
 Gj P w K (.Tuple elts kt tpos) (Sw K t) [e,it] e (fun i h=>(∃old,IsEnum h e it i old)∧h.IsListIter it t i) where
 mem:=by simp
 obj:=fun i h st b hb=>by
  obtain ⟨⟨old,h1⟩,o,h2,hc,hd⟩:=st
  rcases qa3.mp hb with z |z
  ·subst z;exact ⟨_,h1,fun v z=>by cases z⟩
  ·rw [qa7] at z
   subst z
   exact ⟨o,h2,fun v z=>by rw [hd] at z;cases z⟩
 keep:=fun i h h' st k=>by
  obtain ⟨⟨old,h1⟩,h2⟩:=st
  exact ⟨⟨old,k e (by simp) _ h1⟩,h2.at fun o z=>k it (by simp) o z⟩
 item:=by
  intro X hP hw hK hc i pins s σ H E I hf st hg
  subst hP hw hK
  obtain ⟨⟨old,he⟩,hit⟩:=st
  obtain ⟨xs,hq,hi⟩:=hg
  obtain ⟨its,rv,p,hz⟩:=I.list hq
  have hT:s.heap.IsList t its.toArray:=p.isList
  have hl:=rv.length
  obtain ⟨e0,e1,e2,e3,e4,e5⟩:=hf e (by simp)
  obtain ⟨i0,i1,i2,i3,i4,i5⟩:=hf it (by simp)
  have hx:xs[i]?=some xs[i]:=Bh hi
  refine wpAny_pyNext_enum_itemD (Draws.list (A:=X.A.in1) (I.ok.hd hc) it t hti its.toArray) he ⟨hit,hT⟩ (by rw [Bc];omega) hei (by simp [hei,Ne.symm hte]) fun x h1 tk hPx ho hs1 hTup hsz hk=>?_
  obtain ⟨u,hu,ru⟩:=rv.get hx
  have hux:u=x:=by
   have:its[i]?=some x:=by simpa using hPx
   rw [hu] at this
   exact Option.some.inj this
  subst hux
  refine ⟨.ref s.heap.objs.size,rfl,wpAny_letOwnedTupleGo_enum ho fun h2 he2 sb=>?_⟩
  have hfr:H s.heap.objs.size=none:=I.hok.fresh (AK _)
  have kk:∀b o,b∉[e,it]→s.heap.get? b=some o→h2.get? b=some o:=fun b o hb z=>by
   have n1:b≠e:=fun q=>hb (by simp [q])
   have n2:b≠it:=fun q=>hb (by simp [q])
   exact (sb.2 b n1).trans (hk b o n1 n2 z)
  have na:s.heap.objs.size≠e:=Jy (AS he)
  have hnew:h2.get? s.heap.objs.size=some {cls:=.type "tuple",data:=.seq #[.int i tk,u]}:=(sb.2 _ na).trans hTup
  have ntr:∀b w,H b=some w→b∉[e,it]:=fun b w z hb=>by
   rcases qa3.mp hb with q |q
   ·rw [q,e0] at z;cases z
   ·rw [qa7.mp q,i0] at z;cases z
  have nal:∀b o,s.heap.get? b=some o→b≠s.heap.objs.size:=fun b o z=>BM (AS z)
  have it2:h2.IsListIter it t (i+1):=by
   obtain ⟨o,q,r⟩:=hs1.1
   exact ⟨o,(sb.2 it (Ne.symm hei)).trans q,r⟩
  refine ⟨.ref s.heap.objs.size,Az H s.heap.objs.size (.tup [.int i,xs[i]]),?_,rfl,⟨s.heap.objs.size,xs[i],hfr,rfl,fun ys hy=>by rw [I.list_inj hy hq];exact hx,rfl⟩,⟨⟨u,he2⟩,it2⟩,fun b hb=>?_⟩
  ·show Inv X pins σ _ {s with heap:=h2,gens:=s.gens,drawn:=s.drawn,toks:=tk+1}
   refine I.step (g':=s.gens) (d':=s.drawn) (t':=tk+1) (h':=h2) (ch:=[e,it]) (fun b hb=>?_) (fun b o _ _ hc z _=>kk b o hc z) (fun b o _ _ hc z _=>⟨o.slots,kk b o hc z⟩) (fun b o _ z n=>by rw [AJ (nal b o z)];exact n)
    (fun b o hc z=>⟨o,kk b o hc z⟩) (fun b ys z=>by rw [AJ (BN z hfr)];exact z) (fun b o u z=>by rw [AJ (BN z hfr)];exact z) (fun b ps z=>⟨#[],by rw [AJ (BN z hfr),z];simp⟩) (fun m hm=>?_) (fun b w z=>?_) I.bare
   ·rcases qa3.mp hb with q |q
    ·subst q;exact ⟨e3,e1,e4,e5⟩
    ·rw [qa7] at q;subst q;exact ⟨i3,i1,i4,i5⟩
   ·obtain ⟨o,es,ep,q,r⟩:=hm
    exact ⟨o,es,ep,kk _ o (by simp [Ne.symm e1,Ne.symm i1]) q,r⟩
   ·by_cases hb:b=s.heap.objs.size
    ·subst hb
     rw [Cz] at z
     cases z
     exact ⟨by simp only [FA,Gh];rw [sizeLine_eq];decide,[.int i tk,u],.cons ⟨tk,rfl⟩ (.cons ru .nil),⟨_,hnew,rfl,0,rfl⟩,fun o e=>by rw [hnew] at e;cases e;rfl⟩
    ·rw [AJ hb] at z
     refine (I.hok b w z).stay (fun c v hc q=>kk c v ?_ q) (fun c q=>by rw [AJ (BN q hfr)];exact q) fun c ys q=>by rw [AJ (BN q hfr)];exact q
     rcases hc with rfl |hc
     ·exact ntr c _ z
     ·exact ntr c _ hc
  ·have nb:b≠s.heap.objs.size:=by
    rcases qa3.mp hb with q |q
    ·rw [q];exact na.symm
    ·rw [qa7.mp q]
     obtain ⟨o,z,_⟩:=hit
     exact nal _ _ z
   rw [AJ nb]
   exact (hf b hb).1
 done:=by
  intro X hP hw hK hc i pins s σ H E I hf st hg
  subst hP hw hK
  obtain ⟨⟨old,he⟩,hit⟩:=st
  obtain ⟨xs,hq,hi⟩:=hg
  obtain ⟨its,rv,p,hz⟩:=I.list hq
  have hT:s.heap.IsList t its.toArray:=p.isList
  have hl:=rv.length
  obtain ⟨i0,i1,i2,i3,i4,i5⟩:=hf it (by simp)
  have hin:i=its.toArray.size:=by rw [Bc];omega
  refine wpAny_pyNext_enum_endD (Draws.list (A:=X.A.in1) (I.ok.hd hc) it t hti its.toArray) he (hin ▸ ⟨hit,hT⟩) fun h' eb=>⟨rfl,I.turned (t':=s.toks) (fun b o hb z=>eb b o hb z) i0 i1 i3 i4 i5⟩
 self:=fun A i s Q E st h=>by
  obtain ⟨⟨old,he⟩,_⟩:=st
  exact wpAny_pyIter_enum he h
section
variable {X:Cx} {E:XK}
theorem Zi {elts:List Expr} {kt:Nat} {tpos p pos:Pos} {a:Expr} {ta:TA} (hg:Gl X "enumerate") (hm:X.mg "enumerate"=none) (ha:PA X [a] ta) (hs:starEach [a] X.env=[(false,eval a X.env)]:=by rfl):
 PI X (.Tuple elts kt tpos) (.Call (.Name "enumerate" p) [a] [] pos) (fun σ H R=>ta σ H fun vs H1=>(∃t xs,vs=[.ref t]∧SqT X.K H1 t xs∧R (RV X.K t xs) H1)∨∃t xs,vs=[.ref t]∧SqL X.K H1 t xs∧R (Sw X.K t) H1):=by
 intro pins s σ H R I h
 refine Call_ (GK I hg hm boot_enumerate (PyProof.Rows.callWith_type1 (AA (ha pos pins s σ H _ I h) fun us s1 z1_=>?_) hs rfl))
 obtain ⟨vs,H1,I1,r1,q1⟩:=z1_
 rcases q1 with ⟨t,xs,e,hq,q⟩ |⟨t,xs,e,hq,q⟩
 ·subst e
  cases r1 with
  |cons r rr=>
   cases rr
   cases r
   obtain ⟨its,rv,p,hz⟩:=I1.tuple hq
   have hT:s1.heap.IsTuple t its.toArray:=p
   have hlt:t<s1.heap.objs.size:=p.lt
   refine YC hT fun h' he hit hsz hk=>wpAny_pyIter_enum (s:={s1 with heap:=h'}) he ?_
   have I2:Inv X pins σ H1 {s1 with heap:=h'}:=I1.kept (t':=s1.toks) hk
   refine ⟨s1.heap.objs.size+1,[s1.heap.objs.size+1,s1.heap.objs.size],_,_,H1,rfl,I2,YD (s1.heap.objs.size+1) s1.heap.objs.size t (Nat.succ_ne_self _) (BM (Hj hlt)) (BM hlt) xs,⟨⟨.none,he⟩,hit⟩,fun b hb=>?_,q⟩
   rcases qa3.mp hb with z |z
   ·subst z;exact I1.fpOk (Nat.le_succ _) (I1.hok.fresh (Nat.le_succ _))
   ·rw [qa7] at z;subst z;exact I1.fpOk (AK _) (I1.hok.fresh (AK _))
 ·subst e
  cases r1 with
  |cons r rr=>
   cases rr
   cases r
   obtain ⟨its,rv,p,hz⟩:=I1.list hq
   have hT:s1.heap.IsList t its.toArray:=p.isList
   have hlt:t<s1.heap.objs.size:=by obtain ⟨_,z,_⟩:=hT;exact AS z
   refine call_enumerate_list hT fun h' he hit hsz hk=>wpAny_pyIter_enum (s:={s1 with heap:=h'}) he ?_
   have I2:Inv X pins σ H1 {s1 with heap:=h'}:=I1.kept (t':=s1.toks) hk
   refine ⟨s1.heap.objs.size+1,[s1.heap.objs.size+1,s1.heap.objs.size],_,_,H1,rfl,I2,Zh (s1.heap.objs.size+1) s1.heap.objs.size t (Nat.succ_ne_self _) (BM (Hj hlt)) (BM hlt),⟨⟨.none,he⟩,hit⟩,fun b hb=>?_,q⟩
   rcases qa3.mp hb with z |z
   ·subst z;exact I1.fpOk (Nat.le_succ _) (I1.hok.fresh (Nat.le_succ _))
   ·rw [qa7] at z;subst z;exact I1.fpOk (AK _) (I1.hok.fresh (AK _))
def Ku:List D→HD→Out (List D×Bm):=fun ds h=>match ds with
 |[.tup xs]=>.ok (Fd xs,[]) h
 |[.loc l]=>match h[l]? with
  |some (.lst xs)=>.ok (Fd xs,[(l,xs)]) h
  |_=>.stuck
 |_=>.stuck
def HI (fa:MA):MI:=fun ρ h=>(fa ρ h).bind Ku
theorem Ml {elts:List Expr} {kt:Nat} {tpos p pos:Pos} {a:Expr} {fa:MA} (hg:Gl X "enumerate") (hm:X.mg "enumerate"=none) (ha:DU X E [a] fa) (hs:starEach [a] X.env=[(false,eval a X.env)]:=by rfl):
 EF X E (.Tuple elts kt tpos) (.Call (.Name "enumerate" p) [a] [] pos) (HI fa):=
 Jw (Zi hg hm ha hs) fun σ H R ⟨m,ρ,h,hr,er,p⟩=>⟨m,ρ,h,hr,er,Post.bind p fun x h1 v m1 H1 eo p1 k1 hr1 r1 q1=>by
  clear eo
  unfold Ku at q1
  split at q1
  ·rename_i xs
   simp only [Ez,DVs,DV] at r1
   obtain ⟨v,w,rfl,⟨a,vs,rfl,ha,dv⟩,rfl⟩:=r1
   refine .inl ⟨a,vs,rfl,SqT.of ha,q1 _ m1 H1 (AC _) (.refl _) hr1 fun i m2 h2 H2 p2 k2 hr2 _=>⟨fun hi=>?_,fun hi=>?_⟩⟩
   ·have hi':i<xs.length:=by simpa [Fd] using hi
    refine ⟨⟨by rw [←dv.len];exact hi',SqT.of (k2 _ _ ha rfl)⟩,fun y H3 ⟨pp,vv,hp,ey,ev,eH⟩=>?_⟩
    subst ey eH
    have hd:xs[i]?=some xs[i]:=Bh hi'
    obtain ⟨v2,e2,r2⟩:=dv.get hd
    rw [ev] at e2
    cases e2
    refine ⟨.new hp,hr2.new hp,.tup [.int i,xs[i]],?_,?_⟩
    ·simp [Fd,hd]
    ·simp only [DV]
     exact ⟨pp,_,rfl,Cz,.cons (by simp [DV]) (.cons (DV.keep p2 (k2.trans (.new hp)) r2) .nil)⟩
   ·exact ⟨by rw [←dv.len];simpa [Fd] using hi,SqT.of (k2 _ _ ha rfl)⟩
  ·rename_i l
   split at q1
   ·rename_i xs el
    simp only [Ez,DVs,DV] at r1
    obtain ⟨v,w,rfl,⟨a,rfl,ha⟩,rfl⟩:=r1
    obtain ⟨vs,hv,dv⟩:=hr1.cells l _ a el ha
    refine .inr ⟨a,vs,rfl,SqL.of hv,q1 _ m1 H1 (AC _) (.refl _) hr1 fun i m2 h2 H2 p2 k2 hr2 hsr=>?_⟩
    obtain ⟨ws,hw,dw⟩:=hr2.cells l _ a (hsr _ AZ) (Jp p2 ha)
    refine ⟨fun hi=>?_,fun hi=>⟨ws,SqL.of hw,by rw [←dw.len];simpa [Fd] using hi⟩⟩
    have hi':i<xs.length:=by simpa [Fd] using hi
    refine ⟨⟨ws,SqL.of hw,by rw [←dw.len];exact hi'⟩,fun y H3 ⟨pp,vv,hp,ey,ev,eH⟩=>?_⟩
    subst ey eH
    have hd:xs[i]?=some xs[i]:=Bh hi'
    obtain ⟨v2,e2,r2⟩:=dw.get hd
    rw [ev ws (SqL.of hw)] at e2
    cases e2
    refine ⟨.new hp,hr2.new hp,.tup [.int i,xs[i]],?_,?_⟩
    ·simp [Fd,hd]
    ·simp only [DV]
     exact ⟨pp,_,rfl,Cz,.cons (by simp [DV]) (.cons (DV.keep (AC _) (.new hp) r2) .nil)⟩
   ·exact q1.elim
  ·exact q1.elim⟩
end
structure EO (z TI TO p q:Addr) (f g:List Addr):Prop where
 a1:TI≠z
 a2:TO≠z
 a3:p≠z
 a4:q≠z
 a5:TI≠TO
 a6:TI≠p
 a7:TI≠q
 a8:TO≠p
 a9:TO≠q
 b1:p≠q
 b2:z∉f
 b3:z∉g
 b4:TO∉f
 b5:TO∉g
 b6:p∉g
 b7:q∉f
section
variable {prog:Program} {w:World} {A:Around} {E:Value→Shared→Prop} {s:Shared} {z TI TO p q:Addr} {f g:List Addr} {n1 n2 k:Nat} {P1 P2:Nat→Value→Prop} {S1 S2:Nat→Heap→Prop} {a b:Value}
theorem Zj {Q:Value→Shared→Prop} (D1:Draws prog w A p f n1 P1 S1) (D2:Draws prog w A q g n2 P2 S2) (ap:EO z TI TO p q f g)
 (zz:IsZip s.heap z TI TO .none) (zi:IsPair s.heap TI (.ref p) (.ref q)) (zo:IsPair s.heap TO a b) (s1:S1 k s.heap) (s2:S2 k s.heap) (l1:k<n1) (l2:k<n2)
 (hQ:∀h' tk x y,P1 k x→P2 k y→IsZip h' z TI TO (rawInt s.heap.objs.size)→IsPair h' TO x y→S1 (k+1) h'→S2 (k+1) h'→IsPair h' s.heap.objs.size x y→
  (∀c o,c≠z→c≠TO→c≠p→c≠q→s.heap.get? c=some o→h'.get? c=some o)→Q (.ref s.heap.objs.size) {s with heap:=h',toks:=tk}):
 wpAny (model prog w) A (Builtin.«zip.__next__» ⟨[.ref z],[]⟩) (fun fin s'=>∃v,fin=.done (.ret v)∧Q v s') E s:=by
 show wpAny _ _ (field (.ref z) 2 >>=_) _ _ _
 refine wpAny_bind (wpAny_field zz rfl (x:=.bool false) rfl ?_)
 show wpAny _ _ (field (.ref z) 3 >>=_) _ _ _
 refine wpAny_bind (wpAny_field zz rfl (x:=.ref TI) rfl ?_)
 refine wpAny_bind (wpAny_seqItems zi rfl ?_)
 show wpAny _ _ (Builtin.SmallTypes.ownedTupleIsFree (.ref z) >>=_) _ _ _
 refine wpAny_bind ?_
 unfold Builtin.SmallTypes.ownedTupleIsFree
 refine wpAny_bind (wpAny_field zz rfl (x:=.none) rfl (wpAny_pure ?_))
 simp only [if_true]
 refine wpAny_bind (wpAny_rule ?_)
 refine wpAny_bind (wpAny_field zz rfl (x:=.ref TO) rfl ?_)
 refine wpAny_bind (wpAny_setField_rec zz (by simp) fun m1 zz1 t1=>?_)
 replace zz1:IsZip m1 z TI TO .ellipsis:=zz1
 refine wpAny_bind ?_
 simp only [Lu,LB,Hm,Hn]
 refine wpAny_bind (wpAny_bind (wpAny_onRaise ?_))
 show wpAny _ _ (Builtin.SmallTypes.nextOf (.ref p) >>=_) _ _ _
 refine wpAny_bind (D1.item k _ _ _ l1 (D1.frame k _ _ s1 fun c hc o e=>t1.extBut _ _ (fun y=>ap.b2 (y ▸ hc)) e) fun x m2 tk2 px s12 t2=>wpAny_pure ?_)
 have zo2:IsPair m2 TO a b:=t2.extBut _ _ ap.a8 (t1.extBut _ _ ap.a2 zo)
 refine wpAny_bind (wpAny_seqItems zo2 rfl ?_)
 refine wpAny_bind (wpAny_updateSeq_pair zo2 fun m3 zo3 t3=>?_)
 replace zo3:IsPair m3 TO x b:=zo3
 refine wpAny_bind (wpAny_letGo (wpAny_pure ?_))
 refine wpAny_bind (wpAny_bind (wpAny_onRaise ?_))
 show wpAny _ _ (Builtin.SmallTypes.nextOf (.ref q) >>=_) _ _ _
 have s23:S2 k m3:=D2.frame k _ _ s2 fun c hc o e=>t3.extBut _ _ (fun y=>ap.b5 (y ▸ hc)) (t2.extBut _ _ (fun y=>ap.b6 (y ▸ hc)) (t1.extBut _ _ (fun y=>ap.b3 (y ▸ hc)) e))
 refine wpAny_bind (D2.item k _ _ _ l2 s23 fun y m4 tk4 py s24 t4=>wpAny_pure ?_)
 have zo4:IsPair m4 TO x b:=t4.extBut _ _ ap.a9 zo3
 refine wpAny_bind (wpAny_seqItems zo4 rfl ?_)
 refine wpAny_bind (wpAny_updateSeq_pair zo4 fun m5 zo5 t5=>?_)
 replace zo5:IsPair m5 TO x y:=zo5
 refine wpAny_bind (wpAny_letGo (wpAny_pure (wpAny_pure ?_)))
 refine wpAny_bind (wpAny_seqItems zo5 rfl ?_)
 refine wpAny_bind (wpAny_newTuple ?_)
 have sz:m5.objs.size=s.heap.objs.size:=by rw [t5.1,t4.1,t3.1,t2.1,t1.1]
 have zz5:IsZip m5 z TI TO .ellipsis:=t5.extBut _ _ ap.a2.symm (t4.extBut _ _ ap.a4.symm (t3.extBut _ _ ap.a2.symm (t2.extBut _ _ ap.a3.symm zz1)))
 have kp:∀c o,c≠z→c≠TO→c≠p→c≠q→s.heap.get? c=some o→m5.get? c=some o:=fun c o c1 c2 c3 c4 e=>t5.extBut _ _ c2 (t4.extBut _ _ c4 (t3.extBut _ _ c2 (t2.extBut _ _ c3 (t1.extBut _ _ c1 e))))
 have zlt:z<m5.objs.size:=AS zz5
 show wpAny _ _ (Builtin.SmallTypes.ownedTupleHandOut (.ref z) (.ref m5.objs.size) >>=_) _ _ _
 refine wpAny_bind ?_
 unfold Builtin.SmallTypes.ownedTupleHandOut
 have zz6:IsZip (m5.push {cls:=.type "tuple",data:=.seq #[x,y]}) z TI TO .ellipsis:=AY _ zz5
 refine wpAny_bind (wpAny_setField_rec zz6 (by simp) fun m7 zz7 t7=>?_)
 replace zz7:IsZip m7 z TI TO (rawInt m5.objs.size):=zz7
 refine wpAny_setField_rec zz7 (by simp) fun m8 zz8 t8=>?_
 replace zz8:IsZip m8 z TI TO (rawInt m5.objs.size):=zz8
 have up:∀c o,c≠z→m5.get? c=some o→m8.get? c=some o:=fun c o c1 e=>t8.extBut _ _ c1 (t7.extBut _ _ c1 (AY _ e))
 have nw:IsPair m8 m5.objs.size x y:=t8.extBut _ _ (Bs zlt) (t7.extBut _ _ (Bs zlt) (BR _ rfl))
 rw [sz] at zz8 nw
 refine wpAny_pure ⟨_,rfl,?_⟩
 show Q (.ref m5.objs.size) _
 rw [sz]
 refine hQ m8 tk4 x y px py zz8 (up _ _ ap.a2 zo5) (D1.frame _ m2 m8 s12 fun c hc o e=>?_) (D2.frame _ m4 m8 s24 fun c hc o e=>?_) nw fun c o c1 c2 c3 c4 e=>up c o c1 (kp c o c1 c2 c3 c4 e)
 ·have n1:c≠TO:=fun y=>ap.b4 (y ▸ hc)
  exact up c o (fun y=>ap.b2 (y ▸ hc)) (t5.extBut _ _ n1 (t4.extBut _ _ (fun y=>ap.b7 (y ▸ hc)) (t3.extBut _ _ n1 e)))
 ·exact up c o (fun y=>ap.b3 (y ▸ hc)) (t5.extBut _ _ (fun y=>ap.b5 (y ▸ hc)) e)
theorem Zk {Q:Fin→Shared→Prop} (D1:Draws prog w A p f n1 P1 S1) (D2:Draws prog w A q g n2 P2 S2) (ap:EO z TI TO p q f g)
 (zz:IsZip s.heap z TI TO .none) (zi:IsPair s.heap TI (.ref p) (.ref q)) (zo:IsPair s.heap TO a b) (s1:S1 k s.heap) (s2:S2 k s.heap) (hk:k=n1∨(k<n1∧k=n2))
 (hE:∀h' tk e,(∀c o,c≠z→c≠TO→c≠p→c≠q→s.heap.get? c=some o→h'.get? c=some o)→(∃o,h'.get? e=some o∧o.cls=.type "StopIteration")→E (.ref e) {s with heap:=h',toks:=tk}):
 wpAny (model prog w) A (Builtin.«zip.__next__» ⟨[.ref z],[]⟩) Q E s:=by
 show wpAny _ _ (field (.ref z) 2 >>=_) _ _ _
 refine wpAny_bind (wpAny_field zz rfl (x:=.bool false) rfl ?_)
 show wpAny _ _ (field (.ref z) 3 >>=_) _ _ _
 refine wpAny_bind (wpAny_field zz rfl (x:=.ref TI) rfl ?_)
 refine wpAny_bind (wpAny_seqItems zi rfl ?_)
 show wpAny _ _ (Builtin.SmallTypes.ownedTupleIsFree (.ref z) >>=_) _ _ _
 refine wpAny_bind ?_
 unfold Builtin.SmallTypes.ownedTupleIsFree
 refine wpAny_bind (wpAny_field zz rfl (x:=.none) rfl (wpAny_pure ?_))
 simp only [if_true]
 refine wpAny_bind (wpAny_rule ?_)
 refine wpAny_bind (wpAny_field zz rfl (x:=.ref TO) rfl ?_)
 refine wpAny_bind (wpAny_setField_rec zz (by simp) fun m1 zz1 t1=>?_)
 replace zz1:IsZip m1 z TI TO .ellipsis:=zz1
 refine wpAny_bind ?_
 simp only [Lu,LB,Hm,Hn]
 refine wpAny_bind (wpAny_bind (wpAny_onRaise ?_))
 show wpAny _ _ (Builtin.SmallTypes.nextOf (.ref p) >>=_) _ _ _
 have s11:=D1.frame k _ m1 s1 fun c hc o e=>t1.extBut _ _ (fun y=>ap.b2 (y ▸ hc)) e
 rcases hk with hk |⟨hk,hk2⟩
 ·subst hk
  refine wpAny_bind (D1.done _ _ _ s11 fun m2 e t2 he=>?_)
  obtain ⟨oe,e1,e2⟩:=he
  have zz2:IsZip m2 z TI TO .ellipsis:=t2 _ _ ap.a3.symm zz1
  have ne:e≠z:=fun y=>by subst y;rw [zz2] at e1;cases e1;simp at e2
  exact wpAny_setField_rec zz2 (by simp) fun m3 _ t3=>hE m3 _ e (fun c o c1 _ c3 _ y=>t3.extBut _ _ c1 (t2 _ _ c3 (t1.extBut _ _ c1 y))) ⟨oe,t3.extBut _ _ ne e1,e2⟩
 ·subst hk2
  refine wpAny_bind (D1.item k _ _ _ hk s11 fun x m2 tk2 px s12 t2=>wpAny_pure ?_)
  have zo2:IsPair m2 TO a b:=t2.extBut _ _ ap.a8 (t1.extBut _ _ ap.a2 zo)
  refine wpAny_bind (wpAny_seqItems zo2 rfl ?_)
  refine wpAny_bind (wpAny_updateSeq_pair zo2 fun m3 zo3 t3=>?_)
  refine wpAny_bind (wpAny_letGo (wpAny_pure ?_))
  refine wpAny_bind (wpAny_bind (wpAny_onRaise ?_))
  show wpAny _ _ (Builtin.SmallTypes.nextOf (.ref q) >>=_) _ _ _
  have s23:S2 k m3:=D2.frame k _ _ s2 fun c hc o e=>t3.extBut _ _ (fun y=>ap.b5 (y ▸ hc)) (t2.extBut _ _ (fun y=>ap.b6 (y ▸ hc)) (t1.extBut _ _ (fun y=>ap.b3 (y ▸ hc)) e))
  refine wpAny_bind (D2.done _ _ _ s23 fun m4 e t4 he=>?_)
  obtain ⟨oe,e1,e2⟩:=he
  have zz4:IsZip m4 z TI TO .ellipsis:=t4 _ _ ap.a4.symm (t3.extBut _ _ ap.a2.symm (t2.extBut _ _ ap.a3.symm zz1))
  have ne:e≠z:=fun y=>by subst y;rw [zz4] at e1;cases e1;simp at e2
  exact wpAny_setField_rec zz4 (by simp) fun m5 _ t5=>hE m5 _ e (fun c o c1 c2 c3 c4 y=>t5.extBut _ _ c1 (t4 _ _ c4 (t3.extBut _ _ c2 (t2.extBut _ _ c3 (t1.extBut _ _ c1 y))))) ⟨oe,t5.extBut _ _ ne e1,e2⟩
theorem Zl {Q:Option Value→Shared→Prop} (D1:Draws prog w A.in1 p f n1 P1 S1) (D2:Draws prog w A.in1 q g n2 P2 S2) (ap:EO z TI TO p q f g)
 (zz:IsZip s.heap z TI TO .none) (zi:IsPair s.heap TI (.ref p) (.ref q)) (zo:IsPair s.heap TO a b) (s1:S1 k s.heap) (s2:S2 k s.heap) (l1:k<n1) (l2:k<n2)
 (hQ:∀h' tk x y,P1 k x→P2 k y→IsZip h' z TI TO (rawInt s.heap.objs.size)→IsPair h' TO x y→S1 (k+1) h'→S2 (k+1) h'→IsPair h' s.heap.objs.size x y→
  (∀c o,c≠z→c≠TO→c≠p→c≠q→s.heap.get? c=some o→h'.get? c=some o)→Q (some (.ref s.heap.objs.size)) {s with heap:=h',toks:=tk}):
 wpAny (model prog w) A (pyNext (.ref z)) Q E s:=by
 have hT:s.TypeIs (.ref z) "zip":=⟨_,zz,rfl⟩
 unfold pyNext
 exact wpAny_bind (wpAny_attempt (wpAny_callSpecial?_slot (name:=Str.ofString "__next__") hT F.slot_zip_next (wpAny_call_entry F.slot_zip_next hT F.entry_zip_next
  (Zj D1 D2 ap zz zi zo s1 s2 l1 l2 fun h' tk x y c1 c2 c3 c4 c5 c6 c7 c8=>wpAny_pure (hQ h' tk x y c1 c2 c3 c4 c5 c6 c7 c8)) (F.args_zip_next_1 _))))
theorem Zm {Q:Option Value→Shared→Prop} (D1:Draws prog w A.in1 p f n1 P1 S1) (D2:Draws prog w A.in1 q g n2 P2 S2) (ap:EO z TI TO p q f g)
 (zz:IsZip s.heap z TI TO .none) (zi:IsPair s.heap TI (.ref p) (.ref q)) (zo:IsPair s.heap TO a b) (s1:S1 k s.heap) (s2:S2 k s.heap) (hk:k=n1∨(k<n1∧k=n2))
 (hQ:∀h' tk,(∀c o,c≠z→c≠TO→c≠p→c≠q→s.heap.get? c=some o→h'.get? c=some o)→Q none {s with heap:=h',toks:=tk}):wpAny (model prog w) A (pyNext (.ref z)) Q E s:=by
 have hT:s.TypeIs (.ref z) "zip":=⟨_,zz,rfl⟩
 unfold pyNext
 refine wpAny_bind (wpAny_attempt (wpAny_callSpecial?_slot (name:=Str.ofString "__next__") hT F.slot_zip_next (wpAny_call_entry F.slot_zip_next hT F.entry_zip_next
  (Zk D1 D2 ap zz zi zo s1 s2 hk fun h' tk e kp he=>?_) (F.args_zip_next_1 _))))
 obtain ⟨o,ho,hc⟩:=he
 refine wpAny_bind (wpAny_isInstance (T:="StopIteration") (b:=true) ⟨o,ho,hc⟩ isSubtype_stop ?_)
 exact wpAny_pure (hQ _ _ kp)
end
open AutoSeq1 (wpAny_loadPart')
def ItAt:Bool→Heap→Addr→Addr→Nat→Prop
 |true,h,it,l,i=>h.IsTupleIter it l i
 |false,h,it,l,i=>h.IsListIter it l i
def SqA:Bool→Heap→Addr→Array Value→Prop
 |true,h,l,xs=>h.IsTuple l xs
 |false,h,l,xs=>h.IsList l xs
def DZ:Bool→PySem.W.Frag→Hp→Addr→List V→Prop
 |true,K,H,a,xs=>SqT K H a xs
 |false,K,H,a,xs=>SqL K H a xs
def HJ (k:Bool) (l:Addr):Obj:={cls:=.type (if k then "tuple_iterator" else "list_iterator"),data:=.fields #[.ref l,.int 0 0]}
theorem G3 {prog:Program} {w:World} {A:Around} (k:Bool) (hh:A.handled=none) (it l:Addr) (hne:l≠it) (items:Array Value):
 Draws prog w A it [it,l] items.size (fun i v=>items[i]?=some v) (fun i h=>ItAt k h it l i∧SqA k h l items):=by
 cases k
 ·exact Draws.list hh it l hne items
 ·exact N6 hh it l hne items
theorem ItAt.obj {k:Bool} {h:Heap} {it l:Addr} {i:Nat} (x:ItAt k h it l i):∃o,h.get? it=some o∧∀v,o.data≠.cell v:=by
 cases k
 ·obtain ⟨o,e,c,d⟩:=x
  exact ⟨o,e,fun v z=>by rw [d] at z;cases z⟩
 ·obtain ⟨o,e,c,d⟩:=x
  exact ⟨o,e,fun v z=>by rw [d] at z;cases z⟩
theorem ItAt.at {k:Bool} {h h':Heap} {it l:Addr} {i:Nat} (x:ItAt k h it l i) (f:∀o,h.get? it=some o→h'.get? it=some o):ItAt k h' it l i:=by
 cases k
 ·exact Heap.IsListIter.at x f
 ·exact Heap.IsTupleIter.at x f
section
variable {X:Cx} {pins:List (Addr×Obj)} {σ:L2.St} {H:Hp} {s:Shared}
theorem ES {k:Bool} {a:Addr} {xs:List V} (I:Inv X pins σ H s) (h:DZ k X.K H a xs):∃its:List Value,Vals xs its∧SqA k s.heap a its.toArray∧a<s.heap.objs.size:=by
 cases k
 ·obtain ⟨its,r,p,_⟩:=I.list h
  have q:=p.isList
  exact ⟨its,r,q,by obtain ⟨_,e,_⟩:=q;exact AS e⟩
 ·obtain ⟨its,r,p,_⟩:=I.tuple h
  exact ⟨its,r,p,p.lt⟩
theorem Mm {k:Bool} {a:Addr} {xs ys:List V} (I:Inv X pins σ H s) (h:DZ k X.K H a xs) (h':DZ k X.K H a ys):xs=ys:=by
 cases k
 ·exact I.list_inj h h'
 ·exact I.tuple_inj h h'
end
def Mn (K:PySem.W.Frag) (k1 k2:Bool) (t u:Addr):It:=⟨fun i H=>∃xs ys,DZ k1 K H t xs∧DZ k2 K H u ys∧i<xs.length∧i<ys.length,
 fun i H x H'=>∃p v v',H p=none∧x=.ref p∧(∀xs:List V,DZ k1 K H t xs→xs[i]?=some v)∧(∀ys:List V,DZ k2 K H u ys→ys[i]?=some v')∧H'=Az H p (.tup [v,v']),
 fun i H=>∃xs ys,DZ k1 K H t xs∧DZ k2 K H u ys∧(i=xs.length∨(i<xs.length∧i=ys.length))⟩
inductive Sx (k1 k2:Bool) (z TI TO p q t u:Addr) (i:Nat) (h:Heap):Prop where
 |mk (zz:IsZip h z TI TO .none) (zi:IsPair h TI (.ref p) (.ref q)) (zo:∃a b,IsPair h TO a b) (x1:ItAt k1 h p t i) (x2:ItAt k2 h q u i):Sx k1 k2 z TI TO p q t u i h
theorem Zn {P:Program} {w:World} {K:PySem.W.Frag} {elts:List Expr} {kt:Nat} {tpos:Pos} (k1 k2:Bool) (z TI TO p q t u:Addr) (ap:EO z TI TO p q [p,t] [q,u]) (n1:t≠p) (n2:u≠q):
 Gj P w K (.Tuple elts kt tpos) (Mn K k1 k2 t u) [z,TI,TO,p,q] z (Sx k1 k2 z TI TO p q t u) where
 mem:=by simp
 obj:=fun i h st c hc=>by
  obtain ⟨zz,zi,⟨a,b,zo⟩,x1,x2⟩:=st
  simp only [qa3,Ca,or_false] at hc
  rcases hc with rfl |rfl |rfl |rfl |rfl
  ·exact ⟨_,zz,fun v y=>by cases y⟩
  ·exact ⟨_,zi,fun v y=>by cases y⟩
  ·exact ⟨_,zo,fun v y=>by cases y⟩
  ·exact x1.obj
  ·exact x2.obj
 keep:=fun i h h' st kp=>by
  obtain ⟨zz,zi,⟨a,b,zo⟩,x1,x2⟩:=st
  exact ⟨kp z (by simp) _ zz,kp TI (by simp) _ zi,⟨a,b,kp TO (by simp) _ zo⟩,x1.at fun o e=>kp p (by simp) o e,x2.at fun o e=>kp q (by simp) o e⟩
 item:=by
  intro X hP hw hK hc i pins s σ H E I hf st hg
  subst hP hw hK
  obtain ⟨zz,zi,⟨a,b,zo⟩,x1,x2⟩:=st
  obtain ⟨xs,ys,hq1,hq2,l1,l2⟩:=hg
  obtain ⟨it1,rv1,sq1,lt1⟩:=ES I hq1
  obtain ⟨it2,rv2,sq2,lt2⟩:=ES I hq2
  have e1:=rv1.length
  have e2:=rv2.length
  have hh:X.A.in1.handled=none:=I.ok.hd hc
  refine Zl (G3 k1 hh p t n1 it1.toArray) (G3 k2 hh q u n2 it2.toArray) ap zz zi zo ⟨x1,sq1⟩ ⟨x2,sq2⟩ (by rw [Bc];omega) (by rw [Bc];omega) fun h1 tk x y px py zz1 zo1 Lj Cy nw kp=>?_
  refine ⟨.ref s.heap.objs.size,rfl,wpAny_letOwnedTupleGo_zip zz1 fun h2 zz2 sb=>?_⟩
  have hx:xs[i]?=some xs[i]:=Bh l1
  have hy:ys[i]?=some ys[i]:=Bh l2
  obtain ⟨u1,hu1,ru1⟩:=rv1.get hx
  obtain ⟨u2,hu2,ru2⟩:=rv2.get hy
  have hux:u1=x:=by
   have:it1[i]?=some x:=by simpa using px
   rw [hu1] at this
   exact Option.some.inj this
  have huy:u2=y:=by
   have:it2[i]?=some y:=by simpa using py
   rw [hu2] at this
   exact Option.some.inj this
  subst hux huy
  have hfr:H s.heap.objs.size=none:=I.hok.fresh (AK _)
  have kk:∀c o,c∉[z,TI,TO,p,q]→s.heap.get? c=some o→h2.get? c=some o:=fun c o hc e=>by
   simp only [qa3,Ca,or_false,not_or] at hc
   exact (sb.2 c hc.1).trans (kp c o hc.1 hc.2.2.1 hc.2.2.2.1 hc.2.2.2.2 e)
  have nal:∀c o,s.heap.get? c=some o→c≠s.heap.objs.size:=fun c o e=>BM (AS e)
  have na:s.heap.objs.size≠z:=Ne.symm (nal z _ zz)
  have hnew:h2.get? s.heap.objs.size=some {cls:=.type "tuple",data:=.seq #[u1,u2]}:=(sb.2 _ na).trans nw
  have ntr:∀c o,H c=some o→c∉[z,TI,TO,p,q]:=fun c o e hc=>by
   rw [(hf c hc).1] at e;cases e
  refine ⟨.ref s.heap.objs.size,Az H s.heap.objs.size (.tup [xs[i],ys[i]]),?_,rfl,⟨s.heap.objs.size,xs[i],ys[i],hfr,rfl,fun zs hz=>by rw [Mm I hz hq1];exact hx,fun zs hz=>by rw [Mm I hz hq2];exact hy,rfl⟩,
   ⟨zz2,(sb.2 TI ap.a1).trans (kp TI _ ap.a1 ap.a5 ap.a6 ap.a7 zi),⟨u1,u2,(sb.2 TO ap.a2).trans zo1⟩,Lj.1.at fun o e=>(sb.2 p ap.a3).trans e,Cy.1.at fun o e=>(sb.2 q ap.a4).trans e⟩,fun c hc=>?_⟩
  ·show Inv X pins σ _ {s with heap:=h2,gens:=s.gens,drawn:=s.drawn,toks:=tk}
   refine I.step (g':=s.gens) (d':=s.drawn) (t':=tk) (h':=h2) (ch:=[z,TI,TO,p,q]) (fun c hc=>?_) (fun c o _ _ hc e _=>kk c o hc e) (fun c o _ _ hc e _=>⟨o.slots,kk c o hc e⟩) (fun c o _ e n=>by rw [AJ (nal c o e)];exact n)
    (fun c o hc e=>⟨o,kk c o hc e⟩) (fun c zs e=>by rw [AJ (BN e hfr)];exact e) (fun c o v e=>by rw [AJ (BN e hfr)];exact e) (fun c ps e=>⟨#[],by rw [AJ (BN e hfr),e];simp⟩) (fun m hm=>?_) (fun c o e=>?_) I.bare
   ·obtain ⟨_,c1,_,c3,c4,c5⟩:=hf c hc
    exact ⟨c3,c1,c4,c5⟩
   ·obtain ⟨o,es,ep,e,r⟩:=hm
    exact ⟨o,es,ep,kk _ o (fun hc=>(hf _ hc).2.1 rfl) e,r⟩
   ·by_cases hb:c=s.heap.objs.size
    ·subst hb
     rw [Cz] at e
     cases e
     exact ⟨by simp only [FA,Gh];rw [sizeLine_eq];decide,[u1,u2],.cons ru1 (.cons ru2 .nil),⟨_,hnew,rfl,0,rfl⟩,fun o e=>by rw [hnew] at e;cases e;rfl⟩
    ·rw [AJ hb] at e
     refine (I.hok c o e).stay (fun d v hd e'=>kk d v ?_ e') (fun d e'=>by rw [AJ (BN e' hfr)];exact e') fun d zs e'=>by rw [AJ (BN e' hfr)];exact e'
     rcases hd with rfl |hd
     ·exact ntr d _ e
     ·exact ntr d _ hd
  ·have nc:c≠s.heap.objs.size:=by
    simp only [qa3,Ca,or_false] at hc
    rcases hc with rfl |rfl |rfl |rfl |rfl
    ·exact nal _ _ zz
    ·exact nal _ _ zi
    ·exact nal _ _ zo
    ·obtain ⟨o,e,_⟩:=x1.obj;exact nal _ _ e
    ·obtain ⟨o,e,_⟩:=x2.obj;exact nal _ _ e
   rw [AJ nc]
   exact (hf c hc).1
 done:=by
  intro X hP hw hK hc i pins s σ H E I hf st hg
  subst hP hw hK
  obtain ⟨zz,zi,⟨a,b,zo⟩,x1,x2⟩:=st
  obtain ⟨xs,ys,hq1,hq2,hl⟩:=hg
  obtain ⟨it1,rv1,sq1,lt1⟩:=ES I hq1
  obtain ⟨it2,rv2,sq2,lt2⟩:=ES I hq2
  have e1:=rv1.length
  have e2:=rv2.length
  have hh:X.A.in1.handled=none:=I.ok.hd hc
  refine Zm (G3 k1 hh p t n1 it1.toArray) (G3 k2 hh q u n2 it2.toArray) ap zz zi zo ⟨x1,sq1⟩ ⟨x2,sq2⟩ (by simp only [Bc];omega) fun h' tk kp=>⟨rfl,?_⟩
  have kk:∀c o,c∉[z,TI,TO,p,q]→s.heap.get? c=some o→h'.get? c=some o:=fun c o hc e=>by
   simp only [qa3,Ca,or_false,not_or] at hc
   exact kp c o hc.1 hc.2.2.1 hc.2.2.2.1 hc.2.2.2.2 e
  have ntr:∀c o,H c=some o→c∉[z,TI,TO,p,q]:=fun c o e hc=>by
   rw [(hf c hc).1] at e;cases e
  show Inv X pins σ _ {s with heap:=h',gens:=s.gens,drawn:=s.drawn,toks:=tk}
  refine I.step (g':=s.gens) (d':=s.drawn) (t':=tk) (h':=h') (ch:=[z,TI,TO,p,q]) (fun c hc=>?_) (fun c o _ _ hc e _=>kk c o hc e) (fun c o _ _ hc e _=>⟨o.slots,kk c o hc e⟩) (fun c o _ e n=>n)
   (fun c o hc e=>⟨o,kk c o hc e⟩) (fun c zs e=>e) (fun c o v e=>e) (fun c ps e=>⟨#[],by rw [e];simp⟩) (fun m hm=>?_) (fun c o e=>?_) I.bare
  ·obtain ⟨_,c1,_,c3,c4,c5⟩:=hf c hc
   exact ⟨c3,c1,c4,c5⟩
  ·obtain ⟨o,es,ep,e,r⟩:=hm
   exact ⟨o,es,ep,kk _ o (fun hc=>(hf _ hc).2.1 rfl) e,r⟩
  ·refine (I.hok c o e).stay (fun d v hd e'=>kk d v ?_ e') (fun d e'=>e') fun d zs e'=>e'
   rcases hd with rfl |hd
   ·exact ntr d _ e
   ·exact ntr d _ hd
 self:=fun A i s Q E st h=>by cases st with |mk zz zi zo x1 x2=>exact wpAny_pyIter_zip zz h
abbrev zA (h:Heap) (k1:Bool) (t:Addr):Heap:=h.push (HJ k1 t)
abbrev zB (h:Heap) (k1 k2:Bool) (t u:Addr):Heap:=(zA h k1 t).push (HJ k2 u)
abbrev zC (h:Heap) (k1 k2:Bool) (t u:Addr):Heap:=(zB h k1 k2 t u).push {cls:=.type "tuple",data:=.seq #[.ref h.objs.size,.ref (zA h k1 t).objs.size]}
abbrev zD (h:Heap) (k1 k2:Bool) (t u:Addr):Heap:=(zC h k1 k2 t u).push {cls:=.type "tuple",data:=.seq #[.none,.none]}
abbrev zE (h:Heap) (k1 k2:Bool) (t u:Addr):Heap:=(zD h k1 k2 t u).push {cls:=.type "zip",data:=.fields #[.none,.bool false,.bool false,.ref (zB h k1 k2 t u).objs.size,.ref (zC h k1 k2 t u).objs.size]}
theorem SqA.push {k:Bool} {h:Heap} {l:Addr} {xs:Array Value} (x:SqA k h l xs) (o:Obj):SqA k (h.push o) l xs:=by
 cases k
 ·exact Heap.IsList.push x o
 ·exact Heap.IsTuple.push x o
theorem Sy {prog:Program} {w:World} {A:Around} {E:Value→Shared→Prop} {s:Shared} {k:Bool} {l:Addr} {xs:Array Value} {Q:Value→Shared→Prop} (x:SqA k s.heap l xs) (hQ:Q (.ref s.heap.objs.size) {s with heap:=s.heap.push (HJ k l)}):
 wpAny (model prog w) A (pyIter (.ref l)) Q E s:=by
 cases k
 ·exact wpAny_pyIter_list x hQ
 ·exact wpAny_pyIter_tuple x hQ
theorem Zo (k1 k2:Bool) (t u:Addr) (xs ys:Array Value):
 Meets (Builtin.«zip.__new__» ⟨[.type "zip",.ref t,.ref u],[]⟩) (fun _ R s=>SqA k1 s.heap t xs∧SqA k2 s.heap u ys∧
  R (.ok (.ret (.ref (zD s.heap k1 k2 t u).objs.size))) {s with heap:=zE s.heap k1 k2 t u}):=
 .of_wp fun prog w A R s h=>by
  obtain ⟨hp,g,d,tk,os⟩:=s;obtain ⟨hl1,hl2,h⟩:=h
  have hsub:=sub_zip
  have hL1:SqA k1 (Shared.heap ⟨hp,g,d,tk,os⟩) t xs:=hl1
  have hL2:SqA k2 (Shared.heap ⟨hp.push (HJ k1 t),g,d,tk,os⟩) u ys:=SqA.push hl2 _
  wp_walk using Sy hL1,Sy hL2
  exact ⟨_,rfl,h⟩
theorem ItAt.new {k:Bool} {h:Heap} {it l:Addr} (e:h.get? it=some (HJ k l)):ItAt k h it l 0:=by
 cases k
 ·exact ⟨_,e,rfl,rfl⟩
 ·exact ⟨_,e,rfl,rfl⟩
theorem Sz {prog:Program} {w:World} {A:Around} {E:Value→Shared→Prop} {s:Shared} {k1 k2:Bool} {t u:Addr} {xs ys:Array Value} {Q:Value→Shared→Prop} (h1:SqA k1 s.heap t xs) (h2:SqA k2 s.heap u ys)
 (h:∀h',IsZip h' (s.heap.objs.size+4) (s.heap.objs.size+2) (s.heap.objs.size+3) .none→IsPair h' (s.heap.objs.size+2) (.ref s.heap.objs.size) (.ref (s.heap.objs.size+1))→
  IsPair h' (s.heap.objs.size+3) .none .none→ItAt k1 h' s.heap.objs.size t 0→ItAt k2 h' (s.heap.objs.size+1) u 0→(∀c o,s.heap.get? c=some o→h'.get? c=some o)→Q (.ref (s.heap.objs.size+4)) {s with heap:=h'}):
 wpAny (model prog w) A (call (.type "zip") [.ref t,.ref u]) Q E s:=by
 refine callType_new F.called_zip (by decide) (F.typeCall_zip_2 _ _) (F.newCall_zip_2 _ _) (fun obj=>F.args_object_init_3 obj _ _) F.entry_zip_new
  (Zo k1 k2 t u xs ys) ⟨h1,h2,?_⟩
 have y1:(zA s.heap k1 t).objs.size=s.heap.objs.size+1:=Dq ..
 have y2:(zB s.heap k1 k2 t u).objs.size=s.heap.objs.size+2:=by rw [Dq,y1]
 have y3:(zC s.heap k1 k2 t u).objs.size=s.heap.objs.size+3:=by rw [Dq,y2]
 have y4:(zD s.heap k1 k2 t u).objs.size=s.heap.objs.size+4:=by rw [Dq,y3]
 have g5:(zE s.heap k1 k2 t u).get? (zD s.heap k1 k2 t u).objs.size=some _:=BR _ rfl
 have g4:(zE s.heap k1 k2 t u).get? (zC s.heap k1 k2 t u).objs.size=some _:=AY _ (BR _ rfl)
 have g3:(zE s.heap k1 k2 t u).get? (zB s.heap k1 k2 t u).objs.size=some _:=AY _ (AY _ (BR _ rfl))
 have g2:(zE s.heap k1 k2 t u).get? (zA s.heap k1 t).objs.size=some (HJ k2 u):=AY _ (AY _ (AY _ (BR _ rfl)))
 have g1:(zE s.heap k1 k2 t u).get? s.heap.objs.size=some (HJ k1 t):=AY _ (AY _ (AY _ (AY _ (BR _ rfl))))
 show _∧_
 rw [y2,y3,y4] at g5
 rw [y1,y2] at g3
 rw [y3] at g4
 rw [y1] at g2
 rw [y4]
 exact ⟨⟨_,g5,rfl⟩,h _ g5 g3 g4 (.new g1) (.new g2) fun c o x=>AY _ (AY _ (AY _ (AY _ (AY _ x))))⟩
section
variable {X:Cx} {E:XK}
theorem Zp {elts:List Expr} {kt:Nat} {tpos p pos:Pos} {a b:Expr} {ta:TA} (hg:Gl X "zip") (hm:X.mg "zip"=none) (ha:PA X [a,b] ta) (hs:starEach [a,b] X.env=[(false,eval a X.env),(false,eval b X.env)]:=by rfl) (hs2:starEach [b] X.env=[(false,eval b X.env)]:=by rfl):
 PI X (.Tuple elts kt tpos) (.Call (.Name "zip" p) [a,b] [] pos) (fun σ H R=>ta σ H fun vs H1=>∃k1 k2 t u xs ys,vs=[.ref t,.ref u]∧DZ k1 X.K H1 t xs∧DZ k2 X.K H1 u ys∧R (Mn X.K k1 k2 t u) H1):=by
 intro pins s σ H R I h
 refine Call_ (GK I hg hm PyProof.Rows.boot_zip (PyProof.Rows.callWith_type1 (AA (ha pos pins s σ H _ I h) fun us s1 ⟨vs,H1,I1,r1,q1⟩=>?_) (by rw [hs,hs2]) (by rw [hs2];rfl)))
 obtain ⟨k1,k2,t,u,xs,ys,e,hq1,hq2,q⟩:=q1
 subst e
 cases r1 with
 |cons r rr=>
  cases rr with
  |cons r' rr=>
   cases rr
   cases r
   cases r'
   obtain ⟨it1,rv1,sq1,lt1⟩:=ES I1 hq1
   obtain ⟨it2,rv2,sq2,lt2⟩:=ES I1 hq2
   refine Sz sq1 sq2 fun h' zz zi zo x1 x2 kp=>wpAny_pyIter_zip (s:={s1 with heap:=h'}) zz ?_
   have I2:Inv X pins σ H1 {s1 with heap:=h'}:=I1.kept (t':=s1.toks) kp
   have fr:∀c,s1.heap.objs.size≤c→Dr X pins H1 c:=fun c hc=>I1.fpOk hc (I1.hok.fresh hc)
   have m0:s1.heap.objs.size≠s1.heap.objs.size+4:=BG (by omega)
   have ap:EO (s1.heap.objs.size+4) (s1.heap.objs.size+2) (s1.heap.objs.size+3) s1.heap.objs.size (s1.heap.objs.size+1) [s1.heap.objs.size,t] [s1.heap.objs.size+1,u]:=by
    generalize s1.heap.objs.size=n at lt1 lt2
    exact ⟨BG (by omega),BG (by omega),BG (by omega),BG (by omega),BG (by omega),Bs (by omega),Bs (by omega),Bs (by omega),Bs (by omega),BG (by omega),
     fun z=>by simp only [qa3,Ca,or_false] at z;rcases z with z |z;exact absurd z (Bs (by omega));exact absurd z (Bs (Bp lt1 (CQ _ _))),
     fun z=>by simp only [qa3,Ca,or_false] at z;rcases z with z |z;exact absurd z (Bs (by omega));exact absurd z (Bs (Bp lt2 (CQ _ _))),
     fun z=>by simp only [qa3,Ca,or_false] at z;rcases z with z |z;exact absurd z (Bs (by omega));exact absurd z (Bs (Bp lt1 (CQ _ _))),
     fun z=>by simp only [qa3,Ca,or_false] at z;rcases z with z |z;exact absurd z (Bs (by omega));exact absurd z (Bs (Bp lt2 (CQ _ _))),
     fun z=>by simp only [qa3,Ca,or_false] at z;rcases z with z |z;exact absurd z (BG (by omega));exact absurd z (Bs lt2),
     fun z=>by simp only [qa3,Ca,or_false] at z;rcases z with z |z;exact absurd z (Bs (by omega));exact absurd z (Bs (Bp lt1 (CQ _ _)))⟩
   refine ⟨s1.heap.objs.size+4,[s1.heap.objs.size+4,s1.heap.objs.size+2,s1.heap.objs.size+3,s1.heap.objs.size,s1.heap.objs.size+1],_,_,H1,rfl,I2,Zn k1 k2 _ _ _ _ _ t u ap (BM lt1) (BM (Hj lt2)),⟨zz,zi,⟨_,_,zo⟩,x1,x2⟩,fun c hc=>?_,q⟩
   simp only [qa3,Ca,or_false] at hc
   rcases hc with rfl |rfl |rfl |rfl |rfl
   ·exact fr _ (CQ _ _)
   ·exact fr _ (CQ _ _)
   ·exact fr _ (CQ _ _)
   ·exact fr _ (AK _)
   ·exact fr _ (CQ _ _)
def CB (xs ys:List D):List D:=List.zipWith (fun a b=>.tup [a,b]) xs ys
def Eh:D→HD→Option (List D×Bm)
 |.tup xs,_=>some (xs,[])
 |.loc l,h=>match h[l]? with
  |some (.lst xs)=>some (xs,[(l,xs)])
  |_=>none
 |_,_=>none
def FQ:List D→HD→Out (List D×Bm):=fun ds h=>match ds with
 |[x,y]=>match Eh x h,Eh y h with
  |some (xs,s1),some (ys,s2)=>.ok (CB xs ys,s1++s2) h
  |_,_=>.stuck
 |_=>.stuck
def Gx (fa:MA):MI:=fun ρ h=>(fa ρ h).bind FQ
theorem Mo {m:List Addr} {h:HD} {d:D} {v:V} {H:Hp} {xs:List D} {sr:Bm} (hr:HR X.K m h H) (r:DV X.K m H d v) (e:Eh d h=some (xs,sr)):
 ∃k t,v=.ref t∧∀m2 h2 H2,m <+:m2→Kp H H2→HR X.K m2 h2 H2→(∀p∈sr,h2[p.1]?=some (.lst p.2))→∃vs,DZ k X.K H2 t vs∧DVs X.K m2 H2 xs vs:=by
 cases d with
 |tup zs=>
  simp only [Eh,Option.some.injEq,Prod.mk.injEq] at e
  obtain ⟨rfl,rfl⟩:=e
  simp only [DV] at r
  obtain ⟨a,vs,rfl,ha,dv⟩:=r
  exact ⟨true,a,rfl,fun m2 h2 H2 p2 k2 hr2 _=>⟨vs,SqT.of (k2 _ _ ha rfl),dv.keep p2 k2⟩⟩
 |loc l=>
  simp only [Eh] at e
  split at e
  ·rename_i zs el
   simp only [Option.some.injEq,Prod.mk.injEq] at e
   obtain ⟨rfl,rfl⟩:=e
   simp only [DV] at r
   obtain ⟨a,rfl,ha⟩:=r
   refine ⟨false,a,rfl,fun m2 h2 H2 p2 k2 hr2 hs=>?_⟩
   obtain ⟨ws,hw,dw⟩:=hr2.cells l _ a (hs _ AZ) (Jp p2 ha)
   exact ⟨ws,SqL.of hw,dw⟩
  ·cases e
 |_=>simp [Eh] at e
theorem Mp {h:HD} {d:D} {xs:List D} {sr:Bm} (e:Eh d h=some (xs,sr)):∀p∈sr,h[p.1]?=some (.lst p.2):=by
 cases d with
 |tup zs=>
  simp only [Eh,Option.some.injEq,Prod.mk.injEq] at e
  obtain ⟨rfl,rfl⟩:=e
  exact fun p hp=>nomatch hp
 |loc l=>
  simp only [Eh] at e
  split at e
  ·rename_i zs el
   simp only [Option.some.injEq,Prod.mk.injEq] at e
   obtain ⟨rfl,rfl⟩:=e
   intro p hp
   rw [qa7] at hp
   subst hp
   exact el
  ·cases e
 |_=>simp [Eh] at e
theorem Oq {elts:List Expr} {kt:Nat} {tpos p pos:Pos} {a b:Expr} {fa:MA} (hg:Gl X "zip") (hm:X.mg "zip"=none) (ha:DU X E [a,b] fa) (hs:starEach [a,b] X.env=[(false,eval a X.env),(false,eval b X.env)]:=by rfl) (hs2:starEach [b] X.env=[(false,eval b X.env)]:=by rfl):
 EF X E (.Tuple elts kt tpos) (.Call (.Name "zip" p) [a,b] [] pos) (Gx fa):=
 Jw (Zp hg hm ha hs hs2) fun σ H R ⟨m,ρ,h,hr,er,p⟩=>⟨m,ρ,h,hr,er,Post.bind p fun x h1 v m1 H1 eo p1 k1 hr1 r1 q1=>by
  clear eo
  unfold FQ at q1
  split at q1
  ·rename_i d1 d2
   split at q1
   ·rename_i xs s1 ys s2 e1 e2
    simp only [Ez,DVs] at r1
    obtain ⟨v1,w1,rfl,rv1,v2,w2,rfl,rv2,rfl⟩:=r1
    obtain ⟨kd1,t,rfl,f1⟩:=Mo hr1 rv1 e1
    obtain ⟨kd2,u,rfl,f2⟩:=Mo hr1 rv2 e2
    obtain ⟨vs1,sq1,_⟩:=f1 m1 h1 H1 (AC _) (.refl _) hr1 (Mp e1)
    obtain ⟨vs2,sq2,_⟩:=f2 m1 h1 H1 (AC _) (.refl _) hr1 (Mp e2)
    refine ⟨kd1,kd2,t,u,vs1,vs2,rfl,sq1,sq2,q1 _ m1 H1 (AC _) (.refl _) hr1 fun i m2 h2 H2 p2 k2 hr2 hsr=>?_⟩
    obtain ⟨ws1,sw1,dw1⟩:=f1 m2 h2 H2 p2 k2 hr2 fun p hp=>hsr p (Cu _ hp)
    obtain ⟨ws2,sw2,dw2⟩:=f2 m2 h2 H2 p2 k2 hr2 fun p hp=>hsr p (Bi _ hp)
    have n1:=dw1.len
    have n2:=dw2.len
    have nl:(CB xs ys).length=min xs.length ys.length:=by simp [CB]
    refine ⟨fun hi=>?_,fun hi=>⟨ws1,ws2,sw1,sw2,by dsimp only at hi;omega⟩⟩
    dsimp only at hi
    have i1:i<xs.length:=by omega
    have i2:i<ys.length:=by omega
    refine ⟨⟨ws1,ws2,sw1,sw2,by omega,by omega⟩,fun y H3 z3_=>?_⟩
    obtain ⟨pp,vv,vv',hp,ey,ev,ev',eH⟩:=z3_
    subst ey eH
    have g1:xs[i]?=some xs[i]:=Bh i1
    have g2:ys[i]?=some ys[i]:=Bh i2
    obtain ⟨c1,z1,r1'⟩:=dw1.get g1
    obtain ⟨c2,z2,r2'⟩:=dw2.get g2
    rw [ev ws1 sw1] at z1
    rw [ev' ws2 sw2] at z2
    cases z1
    cases z2
    refine ⟨.new hp,hr2.new hp,.tup [xs[i],ys[i]],?_,?_⟩
    ·simp [CB,List.getElem?_zipWith,g1,g2]
    ·simp only [DV]
     exact ⟨pp,_,rfl,Cz,.cons (DV.keep (AC _) (.new hp) r1') (.cons (DV.keep (AC _) (.new hp) r2') .nil)⟩
   ·exact q1.elim
  ·exact q1.elim⟩
end
end LS
namespace LS
open PySem PySem.Spec PyProof.Rows L2
section
variable {ρ:Ai} {h:HD} {QI:(List D×Bm)→HD→Prop} {Q:D→HD→Prop} {QO:Option Int→HD→Prop} {QS:Fl×Ai→HD→Prop} {f fo fi fv:ME} {lo hi:MO} {fa:MA}
@[simp] theorem ZgG:Wp (HI fa ρ h) QI=Wp (fa ρ h) fun d h1=>Wp (Ku d h1) QI:=by unfold HI;rw [AB]
@[simp] theorem ZgH:Wp (Gx fa ρ h) QI=Wp (fa ρ h) fun d h1=>Wp (FQ d h1) QI:=by unfold Gx;rw [AB]
@[simp] theorem ZgI:Wp (Sq f lo hi ρ h) Q=Wp (f ρ h) fun x h1=>Wp (lo ρ h1) fun l h2=>Wp (hi ρ h2) fun u h3=>Wp (So x l u h3) Q:=by unfold Sq;simp only [AB]
@[simp] theorem ZgJ:Wp (EL ρ h) QO=QO none h:=id rfl
@[simp] theorem ZgK:Wp (Eg f ρ h) QO=Wp (f ρ h) fun x h1=>Wp (match x with
  |.int i=>(.ok (some i) h1:Out (Option Int))
  |_=>.stuck) QO:=by unfold Eg;rw [AB]<;>rfl
@[simp] theorem ZgL:Wp (Su fo fi fv ρ h) QS=Wp (fo ρ h) fun o h1=>Wp (fi ρ h1) fun i h2=>Wp (Ss o i h2) fun x h3=>Wp (fv ρ h3) fun y h4=>Wp (Sr o i x y ρ h4) QS:=by unfold Su;simp only [AB]
theorem Zq {n:Nat} {e:Nat→D}:Fd ((List.range n).map e)=(List.range n).map fun k=>D.tup [.int ((k:Nat):Int),e k]:=by
 unfold Fd
 apply Lw
 ·simp
 ·intro i h1 h2;simp
theorem Mq {n:Nat} {e:Nat→D}:Ku [.tup ((List.range n).map e)] h=.ok ((List.range n).map fun k=>D.tup [.int ((k:Nat):Int),e k],[]) h:=by
 simp only [Ku,Zq]
theorem Zr {n:Nat} {e e':Nat→D}:CB ((List.range n).map e) ((List.range n).map e')=(List.range n).map fun k=>D.tup [e k,e' k]:=by
 unfold CB
 apply Lw
 ·simp
 ·intro i h1 h2;simp
theorem Zs {n:Nat} {e e':Nat→D} {x y:D} {s1 s2:Bm} (hx:Eh x h=some ((List.range n).map e,s1)) (hy:Eh y h=some ((List.range n).map e',s2)):
 FQ [x,y] h=.ok ((List.range n).map fun k=>D.tup [e k,e' k],s1++s2) h:=by
 simp only [FQ,hx,hy,Zr]
theorem SA {ds:List D}:Eh (.tup ds) h=some (ds,[]):=rfl
theorem Zt {l:Nat} {F:List Int→Int} {ns:List Int} (e:h[l]?=some (.lst (ns.map D.int))) (hn:ns≠[]):G2 F (.loc l) h=.ok (.int (F ns)) h:=by
 simp only [G2,e,BS]
 rw [FM (f:=Gv∘D.int) (g:=id) (fun x _=>rfl)]
 simp only [List.map_id,if_neg hn]
theorem Kv {l:Nat} {ds:List D} (e:h[l]?=some (.lst ds)):Gr (.loc l) h=.ok (ds,[(l,ds)]) h:=by
 simp only [Gr,BY,e,RC]
theorem Zu {l k:Nat} {xs ys:List D} (e:h[l]?=some (.lst xs)) (e':h[k]?=some (.lst ys)):AV (.loc l) (.loc k) h=Du (xs++ys) h:=by
 simp only [AV,e,e']
theorem Zv {xs ys:List D} (hn:xs.length+ys.length≤sizeLine):AV (.tup xs) (.tup ys) h=.ok (.tup (xs++ys)) h:=by
 simp only [AV];rw [if_pos hn]
theorem Zw {l:Nat} {ds:List D} (e:h[l]?=some (.lst ds)):BK (.loc l) h=.ok (.int ds.length) h:=by
 simp only [BK,BY,e]
theorem SB {a:D}:∀n:Nat,(List.replicate n [a]).flatten=List.replicate n a
 |0=>rfl
 |n+1=>by rw [GH,Hi,SB n];rfl
theorem Zx {l n:Nat} {a:D} (e:h[l]?=some (.lst [a])) (hn:n≤1000):Ee (.loc l) (.int (n:Nat)) h=Du (List.replicate n a) h:=by
 have:(-(2^63):Int)≤(n:Int)∧(n:Int)<2^63:=by omega
 simp only [Ee,e]
 rw [if_pos this]
 simp [SB]
end
noncomputable def Ot (cs:List (Option Nat)) (it:MI) (sg:MG) (t:MT) (f:ME):ME:=Af (Au CU) (Ab (AR cs it sg t f) Ae)
noncomputable def Ou (F:List Int→Int) (cs:List (Option Nat)) (it:MI) (sg:MG) (t:MT) (f:ME):ME:=Af (Au (G2 F)) (Ab (AR cs it sg t f) Ae)
section
variable {α:Type} {cs:List (Option Nat)} {it:MI} {sg:MG} {t:MT} {f:ME} {ρ:Ai} {h:HD} {src:Bm} {xs:List α} {φ:α→D} {F:List Int→Int}
@[simp] theorem ZgM:Af (Au CU) (Ab (AR cs it sg t f) Ae) ρ h=Ot cs it sg t f ρ h:=rfl
@[simp] theorem ZgN:Af (Au (G2 F)) (Ab (AR cs it sg t f) Ae) ρ h=Ou F cs it sg t f ρ h:=rfl
theorem Kw (n:α→Int) (ρ1:α→Ai) (hi:By (it ρ h) h (xs.map φ) src) (hg:∀x∈xs,sg (φ x) (Cp cs ρ)=some (ρ1 x)) (hf:∀x∈xs,∀h',Sm h h'→Pu (f (ρ1 x) h') h' (.int (n x))) (hn:xs.length≤sizeLine):
 Pu (Ot cs it sg A4 f ρ h) h (.int (xs.map n).sum):=by
 unfold Pu Ot
 rw [GX,GY]
 refine FL (fun _=>true) (fun x=>.int (n x)) ρ1 hi hn hg (fun x hx h' s'=>(.ok:Pu (.ok true h') h' true)) (fun x hx _ h' s'=>hf x hx h' s') fun l h' s' e'=>?_
 rw [DY] at e'
 rw [Gw]
 simp only [Au,CU,BY,e',BS]
 rw [FM (f:=Gv∘fun x=>D.int (n x)) (g:=n) (fun x _=>rfl)]
 exact ⟨rfl,s'⟩
theorem SC (n:α→Int) (ρ1:α→Ai) (hi:By (it ρ h) h (xs.map φ) src) (hg:∀x∈xs,sg (φ x) (Cp cs ρ)=some (ρ1 x)) (hf:∀x∈xs,∀h',Sm h h'→Pu (f (ρ1 x) h') h' (.int (n x))) (hn:xs.length≤sizeLine) (hne:xs≠[]):
 Pu (Ou F cs it sg A4 f ρ h) h (.int (F (xs.map n))):=by
 unfold Pu Ou
 rw [GX,GY]
 refine FL (fun _=>true) (fun x=>.int (n x)) ρ1 hi hn hg (fun x hx h' s'=>(.ok:Pu (.ok true h') h' true)) (fun x hx _ h' s'=>hf x hx h' s') fun l h' s' e'=>?_
 rw [DY] at e'
 rw [Gw,Sb,Zt (ns:=xs.map n) (by rw [e',BS];rfl) (by simpa using hne)]
 exact ⟨rfl,s'⟩
theorem Zy {l:Nat} {ds:List D} {o:Out D} {h1:HD} (e:o=.ok (.loc l) h1) (s:Sm h h1) (el:h1[l]?=some (.lst ds)):By (o.bind Gr) h ds [(l,ds)]:=by
 subst e
 simp only [Out.bind_ok,Kv el,By,AW]
 exact ⟨trivial,s,fun h2 s2=>Kh (s2 _ _ el)⟩
end
def G4 (t:MT) (g:MS):Nat→MS
 |0=>fun _ _=>.stuck
 |n+1=>fun ρ h=>(t ρ h).bind fun b h1=>if b=true then (g ρ h1).bind (fun x h2=>match x with
   |(.nx,ρ2)=>G4 t g n ρ2 h2
   |(.ct,ρ2)=>G4 t g n ρ2 h2
   |(.bk,ρ2)=>.ok (.nx,ρ2) h2
   |(.rt d,ρ2)=>.ok (.rt d,ρ2) h2) else .ok (.nx,ρ) h1
def Mr (t:MT) (g:MS):MS:=G4 t g 100000
section
variable {X:Cx} {E:XK}
theorem Zz {c:Expr} {body:List Stmt} {t:MT} {g:MS} {pos:Pos} (hp:PassesOwn (model X.prog X.w) X.A X.env X.xe) (hc:DT X E c t) (hb:AU X E body g):Ex X E (.While c body [] pos) (Mr t g):=by
 refine EA (Wf hp hc hb) fun Dn σ H z1_=>?_
 obtain ⟨m,ρ,h,hr,er,p⟩:=z1_
 unfold Mr at p
 generalize (100000:Nat)=N at p
 refine ⟨fun n σ H=>∃m ρ h,HR X.K m h H∧ER X.K m H ρ σ∧PostS X.K m H E Dn (G4 t g n ρ h),⟨N,m,ρ,h,hr,er,p⟩,?_⟩
 rintro n σ H ⟨m,ρ,h,hr,er,p⟩
 cases n with
 |zero=>exact p.elim
 |succ n=>
  unfold G4 at p
  refine ⟨m,ρ,h,hr,er,PostS.bind p fun b h1 v m1 H1 eo p1 k1 hr1 r1 q1=>?_⟩
  clear eo
  cases r1
  cases b with
  |false=>
   rw [if_neg BF] at q1 ⊢
   exact (q1.here hr1) σ (er.keep p1 k1)
  |true=>
   rw [if_pos rfl] at q1 ⊢
   refine ⟨fun σ' H'=>∃m ρ h,HR X.K m h H'∧ER X.K m H' ρ σ'∧PostS X.K m H' E Dn (G4 t g n ρ h),fun σ' H' z=>⟨n,JS _,z⟩,m1,ρ,h1,hr1,er.keep p1 k1,?_⟩
   cases o:g ρ h1 with
   |stuck=>rw [o] at q1;exact q1
   |err C fs h5=>rw [o] at q1;exact q1
   |ok z h5=>
    rw [o] at q1
    obtain ⟨fl,ρ5⟩:=z
    intro m5 H5 p5 k5 hr5
    cases fl with
    |nx=>exact fun σ5 er5=>⟨m5,ρ5,h5,hr5,er5,PostS.ahead p5 k5 q1⟩
    |ct=>exact fun σ5 er5=>⟨m5,ρ5,h5,hr5,er5,PostS.ahead p5 k5 q1⟩
    |bk=>exact fun σ5 er5=>q1 m5 H5 p5 k5 hr5 σ5 er5
    |rt d=>exact fun v rv=>q1 m5 H5 p5 k5 hr5 v rv
end
theorem Ov {t:MT} {g:MS} {Q:Fl×Ai→HD→Prop} (I:Nat→Ai→HD→Prop)
 (step:∀m ρ h,I m ρ h→Wp (t ρ h) fun b h1=>if b=true then Wp (g ρ h1) (CA (fun ρ2 h2=>∃m',m' < m∧I m' ρ2 h2) Q) else Q (.nx,ρ) h1):∀(n m:Nat) (ρ:Ai) (h:HD),m<n→I m ρ h→Wp (G4 t g n ρ h) Q
 |0,m,ρ,h,hm,_=>by omega
 |n+1,m,ρ,h,hm,i=>by
  unfold G4
  rw [AB]
  refine Wp.mono (step m ρ h i) fun b h1 w=>?_
  cases b with
  |false=>rw [if_neg BF] at w ⊢;exact w
  |true=>
   rw [if_pos rfl] at w ⊢
   rw [AB]
   refine Wp.mono w fun x h2 k=>?_
   obtain ⟨fl,ρ2⟩:=x
   cases fl with
   |nx=>obtain ⟨m',h1,h2⟩:=k;exact Ov I step n m' _ _ (by omega) h2
   |ct=>obtain ⟨m',h1,h2⟩:=k;exact Ov I step n m' _ _ (by omega) h2
   |bk=>exact k
   |rt d=>exact k
theorem ZA {t:MT} {g:MS} {ρ:Ai} {h:HD} {Q:Fl×Ai→HD→Prop} (I:Nat→Ai→HD→Prop) (m:Nat) (hm:m<100000) (i:I m ρ h)
 (step:∀m ρ h,I m ρ h→Wp (t ρ h) fun b h1=>if b=true then Wp (g ρ h1) (CA (fun ρ2 h2=>∃m',m' < m∧I m' ρ2 h2) Q) else Q (.nx,ρ) h1):Wp (Mr t g ρ h) Q:=
 Ov I step _ m ρ h hm i
section
variable {X:Cx}
theorem ZC (hc:X.calm=true):DS X (.builtin "any") (fun xs H Q=>∃(p:Addr) (bs:List Bool),xs=[.ref p]∧SqL X.K H p (bs.map V.bl)∧Q (.bl (bs.any id)) H):=by
 intro pins s σ H xs us Q I r h
 obtain ⟨p,bs,rfl,hs,q⟩:=h
 obtain ⟨u,rfl,rx⟩:=Gk r
 cases rx
 have hh:X.A.in1.handled=none:=I.ok.hd hc
 obtain ⟨its,rv,pl,hz⟩:=I.list hs
 have hl:=rv.length
 rw [Cb] at hl
 have hlt:p<s.heap.objs.size:=by obtain ⟨_,e,_⟩:=pl.isList;exact AS e
 have item:∀(i:Nat) (v:Value),its.toArray[i]?=some v→v=.bool (bs.getD i false):=fun i v e=>by
  have e':its[i]?=some v:=by simpa using e
  have hi:i<its.length:=(qa8.mp e').1
  have hn:(bs.map V.bl)[i]?=some (V.bl (bs.getD i false)):=by
   rw [DG,Bh (by omega)]
   simp [Em,Bh (show i<bs.length by omega)]
  obtain ⟨u,h1,h2⟩:=rv.get hn
  rw [e'] at h1
  cases h1
  exact h2
 refine call_any_walk (wpAny_pyIter_list pl.isList ?_)
 refine ⟨s.heap.objs.size,[s.heap.objs.size,p],[s.heap.objs.size],its.toArray.size,_,_,fun i=>bs.getD i false,rfl,Walks.list (A:=X.A.in1) hh _ p (BM hlt) its.toArray,⟨⟨_,BR _ rfl,rfl,rfl⟩,pl.isList.push _⟩,fun i v s' Q' E' e hQ=>?_,fun h' tk hk=>?_⟩
 ·rw [item i v e]
  exact wpAny_truthy_bool hQ
 ·have e:(List.range its.toArray.size).any (fun i=>bs.getD i false)=bs.any id:=by
   rw [Bc,←hl]
   apply qaS.mpr
   simp only [qbC,qb2,id]
   constructor
   ·rintro ⟨i,hi,h⟩
    refine ⟨bs[i],JT hi,?_⟩
    simpa [Em,Bh hi] using h
   ·rintro ⟨b,hb,h⟩
    obtain ⟨i,hi,rfl⟩:=JQ hb
    refine ⟨i,hi,?_⟩
    simpa [Em,Bh hi] using h
  rw [e]
  exact ⟨.bl _,H,I.kept (L7 (fun b o e=>AY _ e) (AK _) hk),rfl,q⟩
def JE:D→HD→Out D:=fun x h=>match x with
 |.loc l=>match h[l]? with
  |some (.lst ds)=>match Bk (ds.map HE) with
   |some bs=>.ok (.bl (bs.any id)) h
   |none=>.stuck
  |_=>.stuck
 |_=>.stuck
theorem ZD (hc:X.calm=true):DX X (.builtin "any") (Au JE):=by
 refine ⟨_,ZC hc,fun m H h E ds vs Q hr r q=>Hz r q fun d v ev rv q=>?_⟩
 unfold JE at q
 split at q
 ·rename_i l
  split at q
  ·rename_i xs el
   split at q
   ·rename_i bs eb
    simp only [DV] at rv
    obtain ⟨a,rfl,ha⟩:=rv
    obtain ⟨ws,hv,dv⟩:=hr.cells _ _ a el ha
    have:=N5 dv eb
    subst this
    exact ⟨a,bs,ev,SqL.of hv,Bt hr q (by simp [DV])⟩
   ·exact q.elim
  ·exact q.elim
 ·exact q.elim
end
noncomputable def Ow (cs:List (Option Nat)) (it:MI) (sg:MG) (t:MT) (f:ME):ME:=Af (Au JE) (Ab (AR cs it sg t f) Ae)
section
variable {α:Type} {cs:List (Option Nat)} {it:MI} {sg:MG} {t:MT} {f:ME} {ρ:Ai} {h:HD} {src:Bm} {xs:List α} {φ:α→D}
@[simp] theorem ZgO:Af (Au JE) (Ab (AR cs it sg t f) Ae) ρ h=Ow cs it sg t f ρ h:=rfl
theorem ZE (b:α→Bool) (ρ1:α→Ai) (hi:By (it ρ h) h (xs.map φ) src) (hg:∀x∈xs,sg (φ x) (Cp cs ρ)=some (ρ1 x)) (hf:∀x∈xs,∀h',Sm h h'→Pu (f (ρ1 x) h') h' (.bl (b x))) (hn:xs.length≤sizeLine):
 Pu (Ow cs it sg A4 f ρ h) h (.bl (xs.any b)):=by
 unfold Pu Ow
 rw [GX,GY]
 refine FL (fun _=>true) (fun x=>.bl (b x)) ρ1 hi hn hg (fun x hx h' s'=>(.ok:Pu (.ok true h') h' true)) (fun x hx _ h' s'=>hf x hx h' s') fun l h' s' e'=>?_
 rw [Gw]
 rw [DY] at e'
 simp only [Au,JE,e',BS]
 rw [FM (f:=HE∘fun x=>D.bl (b x)) (g:=b) (fun x _=>rfl)]
 refine ⟨?_,s'⟩
 simp [JV]
end
end LS
namespace LK
open LS
def B5 (n:Nat) (r:Nat→Bool):Int:=((List.range n).map fun j=>if r j then (1:Int) else 0).sum
theorem Ox {α:Type} {f g:α→Int}:∀{xs:List α},(xs.map fun x=>f x+g x).sum=(xs.map f).sum+(xs.map g).sum
 |[]=>rfl
 |x::xs=>by simp only [Br,Ho,Ox (xs:=xs)];omega
theorem SD {α:Type}:∀{xs:List α},(xs.map fun _=>(0:Int)).sum=0
 |[]=>rfl
 |x::xs=>by simp only [Br,Ho,SD (xs:=xs)];rfl
theorem SE {α β:Type} {f:α→β→Int} {ys:List β}:∀{xs:List α},(xs.map fun x=>(ys.map fun y=>f x y).sum).sum=(ys.map fun y=>(xs.map fun x=>f x y).sum).sum
 |[]=>by simp [SD]
 |x::xs=>by
  simp only [Br,Ho,SE (xs:=xs)]
  rw [←Ox]
theorem SF {α:Type} {f g:α→Int}:∀{xs:List α},(∀x∈xs,f x≤g x)→(xs.map f).sum≤(xs.map g).sum
 |[],_=>Int.le_refl _
 |x::xs,h=>by
  simp only [Br,Ho]
  have:=h x AZ
  have:=SF (xs:=xs) fun y hy=>h y (Bb _ hy)
  omega
theorem G5 {α:Type} {f g:α→Int} {xs:List α} (h:∀x∈xs,f x=g x):(xs.map f).sum=(xs.map g).sum:=by
 rw [CN h]
theorem Ms {n:Nat} {r r':Nat→Bool} (h:∀i,i<n→r i=r' i):B5 n r=B5 n r':=
 G5 fun i hi=>by rw [h i (by simpa using hi)]
theorem ZF {n:Nat} {r:Nat→Bool}:B5 n (fun i=>!r i)=n - B5 n r:=by
 have:B5 n (fun i=>!r i)+B5 n r=n:=by
  unfold B5
  rw [←Ox]
  have:∀m:Nat,((List.range m).map fun i=>(if (!r i)=true then (1:Int) else 0)+if r i=true then 1 else 0).sum=m:=fun m=>by
   induction m with
   |zero=>rfl
   |succ m ih=>
    rw [Jh,DR,Lz,ih]
    cases e:r m<;>simp [e]
  exact this n
 omega
def cc (H:Nat) (f:Nat→Nat→Bool) (R:Nat→Bool) (j:Nat):Int:=B5 H fun i=>Bool.xor (f i j) (R i)
def Oy (W:Nat) (H:Int) (c:Nat→Int) (C:Nat→Bool):Int:=((List.range W).map fun j=>if C j then H - c j else c j).sum
def G6 (W:Nat) (H:Int) (c:Nat→Int):Int:=((List.range W).map fun j=>if H - c j<c j then H - c j else c j).sum
def TT (H W:Nat) (f:Nat→Nat→Bool) (R C:Nat→Bool):Int:=Oy W H (cc H f R) C
theorem ZG {H:Nat} {f:Nat→Nat→Bool} {R R':Nat→Bool} {j:Nat} (h:∀i,i<H→R i=R' i):cc H f R j=cc H f R' j:=Ms fun i hi=>by rw [h i hi]
theorem SG {H W:Nat} {f:Nat→Nat→Bool} {R R' C C':Nat→Bool} (h:∀i,i<H→R i=R' i) (h':∀j,j<W→C j=C' j):TT H W f R C=TT H W f R' C':=
 G5 fun j hj=>by rw [ZG h,h' j (by simpa using hj)]
theorem Oz {H W:Nat} {f:Nat→Nat→Bool} {R C:Nat→Bool}:TT H W f R C=((List.range W).map fun j=>B5 H fun i=>Bool.xor (f i j) (Bool.xor (R i) (C j))).sum:=by
 refine G5 fun j _=>?_
 cases C j
 ·simp only [DF,if_false,Bool.xor_false];rfl
 ·simp only [if_true,cc]
  rw [←ZF]
  exact Ms fun i _=>by cases f i j<;>cases R i<;>rfl
theorem ZH {H W:Nat} {f:Nat→Nat→Bool} {R C:Nat→Bool}:((List.range H).map fun i=>B5 W fun j=>Bool.xor (f i j) (Bool.xor (R i) (C j))).sum=TT H W f R C:=by
 rw [Oz];exact SE
theorem ZI {H W:Nat} {f:Nat→Nat→Bool} {R C:Nat→Bool}:TT H W f (fun i=>!R i) (fun j=>!C j)=TT H W f R C:=by
 rw [Oz,Oz]
 exact G5 fun j _=>Ms fun i _=>by cases f i j<;>cases R i<;>cases C j<;>rfl
theorem ZJ {W:Nat} {H:Int} {c:Nat→Int} {C:Nat→Bool}:G6 W H c≤Oy W H c C:=
 SF fun j _=>by split<;>split<;>omega
def OA (H:Int) (c:Nat→Int) (j:Nat):Bool:=decide (H<2*c j)
theorem ZK {W:Nat} {H:Int} {c:Nat→Int}:Oy W H c (OA H c)=G6 W H c:=
 G5 fun j _=>by
  unfold OA
  by_cases h:H<2*c j
  ·rw [if_pos (by simpa using h),if_pos (by omega)]
  ·rw [if_neg (by simpa using h),if_neg (by omega)]
def ext (n:Nat) (R:Nat→Bool):Nat→Bool:=fun i=>if i=n then true else R i
def LL (s:Nat):Nat→List (Nat→Bool)
 |0=>[fun _=>false]
 |k+1=>LL s k++(LL s k).map (ext (s+k))
theorem JF {s:Nat}:∀{k:Nat} {R:Nat→Bool},R∈LL s k→∀i,i<s∨s+k≤i→R i=false
 |0,R,h,i,_=>by
  simp only [LL,qa7] at h
  subst h;rfl
 |k+1,R,h,i,hi=>by
  rcases qaH.mp h with z |z
  ·exact JF z i (by omega)
  ·obtain ⟨R',z1,rfl⟩:=qaJ.mp z
   unfold ext
   rw [if_neg (by omega)]
   exact JF z1 i (by omega)
theorem Mt {s:Nat} (R:Nat→Bool):∀k:Nat,∃R'∈LL s k,∀i,s≤i→i<s+k→R' i=R i
 |0=>⟨_,AZ,fun i h1 h2=>by omega⟩
 |k+1=>by
  obtain ⟨R',h1,h2⟩:=Mt R k
  cases e:R (s+k) with
  |false=>
   refine ⟨R',Cu _ h1,fun i hi hi2=>?_⟩
   by_cases hz:i=s+k
   ·rw [hz,e];exact JF h1 _ (by omega)
   ·exact h2 i hi (by omega)
  |true=>
   refine ⟨ext (s+k) R',Bi _ (qaJ.mpr ⟨R',h1,rfl⟩),fun i hi hi2=>?_⟩
   unfold ext
   by_cases hz:i=s+k
   ·rw [if_pos hz,hz,e]
   ·rw [if_neg hz];exact h2 i hi (by omega)
theorem OB {s:Nat}:∀k,(LL s k).length=2^k
 |0=>rfl
 |k+1=>by simp only [LL,D5,Cb,OB k];omega
def HK (H W:Nat) (f:Nat→Nat→Bool):Int:=EN ((LL 1 (H - 1)).map fun R=>G6 W H (cc H f R))
theorem OC {s k:Nat}:LL s k≠[]:=fun h=>by
 have:=OB (s:=s) k
 rw [h] at this
 have:0<2^k:=Nat.two_pow_pos k
 simp_all
theorem ZL {H W:Nat} {f:Nat→Nat→Bool}:∃R∈LL 1 (H - 1),G6 W H (cc H f R)=HK H W f:=by
 have:=Ks (ns:=(LL 1 (H - 1)).map fun R=>G6 W H (cc H f R)) (by simp [OC])
 obtain ⟨R,h,e⟩:=qaJ.mp this
 exact ⟨R,h,e⟩
theorem ZM {H W:Nat} {f:Nat→Nat→Bool} {R:Nat→Bool} (h:R∈LL 1 (H - 1)):HK H W f≤G6 W H (cc H f R):=Kt (qaJ.mpr ⟨R,h,rfl⟩)
theorem ZN {H W:Nat} {f:Nat→Nat→Bool} (hH:1≤H) (R C:Nat→Bool):HK H W f≤TT H W f R C:=by
 have key:∀R C:Nat→Bool,R 0=false→HK H W f≤TT H W f R C:=fun R C h0=>by
  obtain ⟨R',h1,h2⟩:=Mt (s:=1) R (H - 1)
  have:∀i,i<H→R i=R' i:=fun i hi=>by
   by_cases hz:i=0
   ·rw [hz,h0];exact (JF h1 0 (by omega)).symm
   ·exact (h2 i (by omega) (by omega)).symm
  rw [SG this (fun _ _=>rfl)]
  exact Int.le_trans (ZM h1) ZJ
 cases h:R 0 with
 |false=>exact key R C h
 |true=>
  rw [←ZI]
  exact key _ _ (by simp [h])
theorem ZO {H W:Nat} (f:Nat→Nat→Bool):∃R C,TT H W f R C=HK H W f:=by
 obtain ⟨R,_,e⟩:=ZL (H:=H) (W:=W) (f:=f)
 exact ⟨R,OA H (cc H f R),by rw [←e];exact ZK⟩
def ZP (L:List Int) (k:Int):Int:=(L.map fun x=>if x=k then (1:Int) else 0).sum
def hk (H W:Nat) (f:Nat→Nat→Bool) (k:Int) (R:Nat→Bool):Int:=ZP ((LL 0 W).map (TT H W f R)) k
def NN (H W:Nat) (f:Nat→Nat→Bool) (k:Int):Int:=((LL 1 (H - 1)).map (hk H W f k)).sum
end LK
namespace LS
open PySem PySem.Spec PyProof.Rows L2 PySem.W
structure EC (K:Frag) (C:Addr):Prop where
 ga:findIn K (.ref C) "__getattribute__"=some (some (.builtin "BaseException.__getattribute__"))
 gt:findIn K (.ref C) "__getattr__"=some none
 cl:(clsIn K C).isSome=true
 ac:findIn K (.ref C) "__class__"=some (some (.builtin "object.__class__"))
 sg:specialIn K (.builtin "object.__class__") "__get__"=some (some (.builtin "getset_descriptor.__get__"))
 tk:takesIn K (.builtin "object.__class__")=some true
 mo:mroIn K C (.type "object")=some true
 mb:mroIn K C (.type "BaseException")=some true
section
variable {prog:Program} {w:World} {A:Around} {E:Value→Shared→Prop} {s:Shared} {K:Frag} {x C:Addr} {ox:Obj} {od:Option Obj}
def TyAt (x C:Addr) (h:Heap):Prop:=∃o,h.get? x=some o∧o.cls=.ref C
theorem TyAt.type {M:Model} {h:Heap} (t:TyAt x C h):Looks M h (typeOf (.ref x)) (.ref C):=by
 obtain ⟨o,h1,h2⟩:=t
 exact h2 ▸ (Looks.ld h1).andThen .now
end
def excNames:List Str:=["NoBoard","NoLine","NoSwitching","NoNumber","Unlike","NoNet","NoPlace","NoText","NoRow","TooMany","SwitchError"]
def OD (n n':Str):Bool:=n==n'||n'=="SwitchError"
def ZQ (K:Frag) (C:Addr):Bool:=
 findIn K (.ref C) "__getattribute__"==some (some (.builtin "BaseException.__getattribute__"))&&findIn K (.ref C) "__getattr__"==some none&&(clsIn K C).isSome&&
 findIn K (.ref C) "__class__"==some (some (.builtin "object.__class__"))&&specialIn K (.builtin "object.__class__") "__get__"==some (some (.builtin "getset_descriptor.__get__"))&&
 takesIn K (.builtin "object.__class__")==some true&&mroIn K C (.type "object")==some true&&mroIn K C (.type "BaseException")==some true
def OE (K:Frag) (n:Str):Option Addr:=match nsIn K mainGlobals n with
 |some (some (.ref C))=>some C
 |_=>none
def ZR (K:Frag) (n:Str) (C S:Addr):Bool:=
 ZQ K C&&kitOne K (.ref C) (.type "ValueError")==some true&&(n=="TooMany"||Zf K C Mj "ValueError.__new__")&&exmOne K (.ref C) (.ref S)==some true&&
  excNames.all fun n'=>match OE K n' with
   |some C'=>kitOne K (.ref C) (.ref C')==some (OD n n')
   |none=>false
def etOk (K:Frag):Bool:=match OE K "SwitchError" with
 |some S=>excNames.all fun n=>match OE K n with
  |some C=>ZR K n C S
  |none=>false
 |none=>false
structure ET (K:Frag) (n:Str) (C:Addr):Prop where
 ec:EC K C
 ve:kitOne K (.ref C) (.type "ValueError")=some true
 at_:n≠"TooMany"→Zc K C Mj "ValueError.__new__"
 sw:∀S,nsIn K mainGlobals "SwitchError"=some (some (.ref S))→exmOne K (.ref C) (.ref S)=some true
 sub:∀n' C',n'∈excNames→nsIn K mainGlobals n'=some (some (.ref C'))→kitOne K (.ref C) (.ref C')=some (OD n n')
section
variable {X:Cx} {E:XK}
def HL {α:Type}:Out α→Prop
 |.err _ _ _=>False
 |_=>True
theorem Post.noE {α β:Type} {K:Frag} {R:List Addr→Hp→α→β→Prop} {m:List Addr} {H:Hp} {E E':XK} {Q:β→Hp→Prop} {o:Out α} (n:HL o) (h:Post K R m H E Q o):Post K R m H E' Q o:=by
 cases o with
 |ok a h1=>exact h
 |err C fs h1=>exact False.elim n
 |stuck=>exact h
def DA:D→D→HD→Out D:=fun x y h=>match x with
 |.exc n _=>(match y with
  |.glo n'=>if n∈excNames∧n'∈excNames then .ok (.bl (OD n n')) h else .stuck
  |.ty T=>if n∈excNames∧T="ValueError" then .ok (.bl true) h else .stuck
  |_=>.stuck)
 |.edic=>(match y with
  |.ty T=>(match Kk "dict" T with
   |some b=>.ok (.bl b) h
   |none=>.stuck)
  |_=>.stuck)
 |_=>B4 x y h
end
section
variable {X:Cx} {E:XK}
def Kx (chk:D→HD→Out D) (op:D→D→HD→Out D) (f g:ME):ME:=fun ρ h=>((f ρ h).bind chk).bind fun x h1=>(g ρ h1).bind fun y h2=>op x y h2
def SH (X:Cx) (T:String) (x:V) (H:Hp):Prop:=∀(pins:List (Addr×Obj)) (σ:L2.St) (s:Shared) (u:Value),Inv X pins σ H s→RelV x u→s.TypeIs u T∧∀a,u=.ref a→∃ob,s.heap.get? a=some ob∧ob.dict=none
def ZS (X:Cx) (T:String) (r:V→List V→Hp→VK→Prop) (to:TE) (t:TA):TE:=fun σ H Q=>to σ H fun x H1=>SH X T x H1∧t σ H1 fun xs H2=>r x xs H2 Q
theorem ZT {o e:Expr} {es:List Expr} {to:TE} {t:TA} {name:Str} {apos cpos:Pos} {T id:String} {r:V→List V→Hp→VK→Prop} (pa:PlainAttrs T) (slot:Slot T name id) (hty:typeOf (.builtin id)=pure (.type "method_descriptor")) (hm:LU X id r) (ho:PE X o to) (ha:PA X (e::es) t)
 (hbase:attributeBase o name X.env (eval o X.env)=eval o X.env:=by rfl)
 (hfew:((backTo cpos (starEach (e::es) X.env)).all (fun x=>!x.1)&&(backToKw cpos (keywordEach [] X.env)).all (fun x=>x.1.isSome)
  &&decide ((e::es).length+([]:List Keyword).length+(if ([]:List Keyword).isEmpty then 0 else 1)<30))=true:=by rfl)
 (hline:(apos.endLine==cpos.line)=true:=by rfl) (hs:starEach (e::es) X.env=(false,eval e X.env)::starEach es X.env:=by rfl) (hplain:(backTo cpos (starEach es X.env)).any (·.1)=false:=by rfl):
 PE X (.Call (.Attribute o name apos) (e::es) [] cpos) (ZS X T r to t):=by
 intro pins s σ H Q I h
 refine wpAny_Call_method_late hbase hfew hline rfl (AA (ho pins s σ H _ I h) fun v s1 z1_=>?_)
 obtain ⟨x,H1,I1,r1,ty,q1⟩:=z1_
 obtain ⟨h1,h2⟩:=ty pins σ s1 v I1 r1
 refine ⟨T,id,pa,slot,hty,h1,h2,?_⟩
 have hA:=ha cpos pins s1 σ H1 _ I1 q1
 rw [hs] at hA ⊢
 refine Calls.callWith_builtin (by show (false||(backTo cpos (starEach es X.env)).any (·.1))=false;rw [hplain]<;>rfl) (Calls.evalArgs_plain ?_)
 exact AA hA fun us s2 z2_=>by obtain ⟨vs,H2,I2,r2,q2⟩:=z2_;exact (hm pins s2 σ H2 x vs v us Q I2 r1 r2 q2)
structure SI (X:Cx) (T:String) (chk:D→HD→Out D):Prop where
 two:∀x h,chk x h=.ok x h∨chk x h=.stuck
 ty:∀m H h x v,HR X.K m h H→DV X.K m H x v→chk x h=.ok x h→SH X T v H
def SJ (X:Cx) (id:String) (op:D→D→HD→Out D):Prop:=
 ∀(pins:List (Addr×Obj)) (s:Shared) (σ:L2.St) (H:Hp) (m:List Addr) (h:HD) (x y:D) (v yv:V) (u uy:Value) (Q:VK),Inv X pins σ H s→HR X.K m h H→DV X.K m H x v→DV X.K m H y yv→RelV v u→RelV yv uy→Post X.K (rD X.K) m H E0 Q (op x y h)→
  wpAny (model X.prog X.w) X.A (call (.builtin id) [u,uy]) (EP X pins σ Q) X.xe s
theorem ZU {o e:Expr} {f g:ME} {name:Str} {T id:String} {chk:D→HD→Out D} {op:D→D→HD→Out D} {apos cpos:Pos} (pa:PlainAttrs T) (slot:Slot T name id) (hty:typeOf (.builtin id)=pure (.type "method_descriptor"))
 (hc:SI X T chk) (hn:∀x y h,HL (op x y h)) (hm:SJ X id op) (ho:Ev X E o f) (he:Ev X E e g)
 (hbase:attributeBase o name X.env (eval o X.env)=eval o X.env:=by rfl)
 (hfew:((backTo cpos (starEach [e] X.env)).all (fun x=>!x.1)&&(backToKw cpos (keywordEach [] X.env)).all (fun x=>x.1.isSome)
  &&decide ([e].length+([]:List Keyword).length+(if ([]:List Keyword).isEmpty then 0 else 1)<30))=true:=by rfl)
 (hline:(apos.endLine==cpos.line)=true:=by rfl) (hs:starEach [e] X.env=(false,eval e X.env)::starEach [] X.env:=by rfl) (hplain:(backTo cpos (starEach [] X.env)).any (·.1)=false:=by rfl):
 Ev X E (.Call (.Attribute o name apos) [e] [] cpos) (Kx chk op f g):=by
 have hr:LU X id (fun v vs H Q=>∃m h x y yv,vs=[yv]∧HR X.K m h H∧DV X.K m H x v∧DV X.K m H y yv∧Post X.K (rD X.K) m H E0 Q (op x y h)):=by
  rintro pins s σ H v vs u us Q I r rs ⟨m,h,x,y,yv,ev,hr,rx,ry,q⟩
  subst ev
  obtain ⟨uy,rfl,r2⟩:=Gk rs
  exact hm pins s σ H m h x y v yv u uy Q I hr rx ry r r2 q
 refine Cd (ZT pa slot hty hr ho (Ad he Ag hs) hbase hfew hline hs hplain) fun σ H Q z3_=>?_
 obtain ⟨m,ρ,h,hr,er,p⟩:=z3_
 refine ⟨m,ρ,h,hr,er,?_⟩
 unfold Kx at p
 rw [Out.bind_assoc] at p
 refine Post.bind p fun x h1 v m1 H1 eo p1 k1 hr1 r1 q1=>?_
 clear eo
 rcases hc.two x h1 with ec |ec
 ·rw [ec] at q1
  simp only [Out.bind_ok] at q1
  refine ⟨hc.ty m1 H1 h1 x v hr1 r1 ec,m1,ρ,h1,hr1,er.keep p1 k1,?_⟩
  have q2:Post X.K (rD X.K) m1 H1 E Q ((Ab g Ae ρ h1).bind fun ys h2=>match ys with
   |[y]=>op x y h2
   |_=>.stuck):=by
   unfold Ab Ae
   rw [Out.bind_assoc]
   exact q1
  refine Post.bind q2 fun ys h2 vs m2 H2 eo p2 k2 hr2 r2 q3=>?_
  clear eo
  split at q3
  ·rename_i y
   simp only [Ez,DVs] at r2
   obtain ⟨yv,w,rfl,ry,rfl⟩:=r2
   exact ⟨m2,h2,x,y,yv,rfl,hr2,DV.keep p2 k2 r1,ry,Post.noE (hn x y h2) q3⟩
  ·exact q3.elim
 ·rw [ec] at q1
  exact q1.elim
def JG (x:V) (xs:List V):Nat:=xs.countP fun y=>Ew y x
theorem SK {x:V}:∀{xs:List V} {us:List Value},Vals xs us→xs.all E7=true→us.countP (Ey x)=JG x xs
 |_,_,.nil,_=>rfl
 |y::xs,u::us,.cons r t,f=>by
  rw [Ji,CP] at f
  unfold JG
  rw [List.countP_cons,List.countP_cons,NK r f.1,SK t f.2]
  rfl
def Gy:D→D→HD→Out D:=fun x y h=>match BY x h with
 |none=>.stuck
 |some ds=>match CT y,Bk (ds.map CT) with
  |some v,some vs=>.ok (.int (JG v vs)) h
  |_,_=>.stuck
theorem ZV (x y:D) (h:HD):HL (Gy x y h):=by
 unfold Gy
 repeat' split
 all_goals trivial
def ZgP:D→D→HD→Out D:=fun x y h=>(EH x h).bind fun _ _=>Gy x y h
def ZW (x:V) (xs:List V):Option Nat:=xs.findIdx? fun y=>Ew y x
def ZgQ:D→D→HD→Out D:=fun x y h=>match x with
 |.loc l=>(match h[l]? with
  |some (.lst ds)=>(match CT y,Bk (ds.map CT) with
   |some v,some vs=>(match ZW v vs with
    |some j=>.ok (.int j) h
    |none=>.stuck)
   |_,_=>.stuck)
  |_=>.stuck)
 |_=>.stuck
end
theorem HR.tab {K:Frag} {m:List Addr} {h:HD} {H H':Hp} {P:Addr} (r:HR K m h H) (k:Kp H H') (s:∀b,b≠P→H b≠none→H' b=H b) (t:TabIs K H' P) (tt:TabIs K H P):HR K m h H':=by
 refine ⟨r.len,r.nd,fun l c a e q=>?_⟩
 have hm:a∈m:=Jd q
 have hn:H a≠none:=r.mem hm
 have:=r.cells l c a e q
 cases c with
 |lst ds=>
  obtain ⟨vs,e1,e2⟩:=this
  have ha:a≠P:=by
   rintro rfl
   obtain ⟨_,ps,z,_⟩:=tt
   rw [z] at e1;cases e1
  exact ⟨vs,by rw [s a ha hn];exact e1,e2.keep (AC _) k⟩
 |tab=>
  by_cases ha:a=P
  ·subst ha;exact t
  ·exact TabIs.keep this k (s a ha hn)
 |dic fz kvs=>
  obtain ⟨es,e1,e2⟩:=this
  have ha:a≠P:=by
   rintro rfl
   obtain ⟨_,ps,z,_⟩:=tt
   cases fz with
   |true=>obtain ⟨o,q⟩:=e1;rw [z] at q;cases q
   |false=>exact absurd (z.symm.trans e1) (by intro w;cases w)
  exact ⟨es,e1.same (s a ha hn),e2.keep (AC _) k⟩
structure LamX (X:Cx) (c P:Addr):Prop where
 code:X.env.code=.ref c
 tp:tabP X.K=some (c,P)
 hd:codeHdIn X.K c P=true
 qual:X.env.qual="law.<locals>."
 bm:∃bm o,X.mg "__builtins__"=some (.ref bm)∧bm≠builtinsNs∧X.base.get? bm=some o∧o.cls=.type "module"∧o.dict=some builtinsNs∧o.data=.plain
section
variable {X:Cx} {E:Value→Shared→Prop} {c P:Addr} {pins:List (Addr×Obj)} {σ:L2.St} {H:Hp} {s:Shared}
theorem LamX.builtins (L:LamX X c P) (I:Inv X pins σ H s) (t:TabIs X.K H P):s.heap.BuiltinsAt X.mg P:=by
 obtain ⟨bm,o,h1,h2,h3,h4,h5,h6⟩:=L.bm
 obtain ⟨e,n⟩:=I.bs bm o h3
 refine ⟨bm,o,h1,h2,fun z=>?_,fun z=>?_,e,h4,h5,h6⟩
 ·obtain ⟨og,es,ep,e1,e2,_⟩:=I.mod.glob
  rw [z,e1] at h3
  cases h3
  rw [e2] at h6;cases h6
 ·obtain ⟨_,ps,q,_⟩:=t
  rw [z,q] at n;cases n
abbrev JH:Str:="law.<locals>.<lambda>"
end
def lCx (P:Program) (w:World) (K:Frag) (mg:Str→Option Value) (base:Heap) (N:List Str) (scope:Scope) (a:Addr) (cd:Value) (cl:List (Str×Addr)) (A:Around) (outer:List Env) (s:Shared) (H:Hp) (E:XK):Cx where
 prog:=P
 w:=w
 K:=K
 mg:=mg
 base:=base
 A:=A.deeper (envX JH scope s.heap.objs.size a cd cl)
 N:=N
 s₀:=s
 H₀:=H
 env:=envX JH scope s.heap.objs.size a cd cl
 outer:=outer
 stack:=envX JH scope s.heap.objs.size a cd cl::outer
 ex:=[]
 calm:=true
 fn:=fun _=>false
 pn:=[]
 xe:=fun e s'=>wpAny (model P w) (A.deeper (envX JH scope s.heap.objs.size a cd cl)) (leaving (envX JH scope s.heap.objs.size a cd cl) e) (fun _ s''=>AG P w K outer H s E e s'') (fun e' s''=>AG P w K outer H s E e' s'') s'
structure ZX (h:Heap) (H:Hp) (outer:List Env) (N:List Str) (scope:Scope) (cl:List (Str×Addr)) (vs:List V):Prop where
 len:vs.length=N.length
 inj:∀x y c,cl.lookup x=some c→cl.lookup y=some c→x=y
 has:∀x,scope.names.lookup x=some .free→∃c,cl.lookup x=some c
 cell:∀x c,cl.lookup x=some c→(∃v,h.IsCell c v)∧H c=none∧c∉frs outer
 val:∀(i:Nat) (x:Str) (v:V),N[i]?=some x→vs[i]?=some v→scope.names.lookup x=some .free∧∃c u,cl.lookup x=some c∧h.IsCell c (some u)∧RelV v u
structure ZY (scope:Scope):Prop where
 kind:scope.kind=.function
 co:scope.isCoroutine=false
 gen:scope.isGenerator=false
 only:(scope.names.all fun y=>y.2 != .cell)=true
section
variable {P:Program} {w:World} {K:Frag} {mg:Str→Option Value} {base:Heap} {N:List Str} {scope:Scope} {a c':Addr} {pm ctv:Value} {params:Arguments} {body:Expr} {cl:List (Str×Addr)} {A:Around} {outer:List Env} {s:Shared} {H:Hp} {E:XK} {vs:List V}
end
structure RoomM (k:Nat) (A:Around):Prop where
 dp:A.depth+3*k+5<recursionLimit
 un:A.units+16*k+200<cLine
 gd:A.guards=some []
theorem RoomM.deeper {k:Nat} {A:Around} (r:RoomM (k+1) A) (env:Env):RoomM k (A.deeper env):=
 ⟨by have:=r.dp;show A.depth+1+3*k+5<_;omega,by have:=r.un;show A.units+3+16*k+200<_;omega,r.gd⟩
theorem RoomM.units {k:Nat} {A:Around} (r:RoomM k A):A.units+64<cLine:=by have:=r.un;omega
theorem RoomM.mono {j k:Nat} {A:Around} (r:RoomM k A) (h:j≤k):RoomM j A:=⟨by have:=r.dp;omega,by have:=r.un;omega,r.gd⟩
theorem RoomM.of {k:Nat} {A:Around} (r:Room k A) (e:Option Value):RoomM k (A.mark e):=⟨r.dp,r.un,r.gd⟩
def cxM (P:Program) (w:World) (K:Frag) (mg:Str→Option Value) (base:Heap) (N:List Str) (qual:Str) (scope:Scope) (f:Addr) (cd:Value) (A:Around) (outer:List Env) (s:Shared) (H:Hp):Cx:=
 {AQ Re P w K mg base N qual scope f cd A outer s H E0 with calm:=false,xe:=fun _ _=>False}
structure ZZ (P:Program) (w:World) (K:Frag) (mg:Str→Option Value) (base:Heap) (k:Nat) (f:Addr) (fd:FuncData) (ps:List Str) (F:List D→HD→Out D):Prop where
 run:∀(A:Around) (outer:List Env) (s:Shared) (H:Hp) (args:Args) (us:List Value) (vs:List V) (Q:VK),RoomM k A→J1 P w K mg base A outer s H→BindsTo s fd args (ps.zip us)→Vals vs us→NV K F vs H Q E0→
  codeAny (model P w) A (.call (.ref f) args) (CR Re outer P w H s Q E0) s
structure CaM (P:Program) (w:World) (K:Frag) (mg:Str→Option Value) (base:Heap) (x:Str) (k:Nat) (F:List D→HD→Out D):Prop where
 ex:∃(f:Addr) (fd:FuncData) (ps:List Str),ZZ P w K mg base k f fd ps F∧Binds K fd ps []∧mg x=some (.ref f)∧PySem.W.keepIn K (.ref f)=true∧Ar ps.length F
section
variable {X:Cx} {E:XK}
end
section
variable {X:Cx} {pins:List (Addr×Obj)} {σ:L2.St} {H:Hp} {s:Shared}
theorem Inv.locals {σ':L2.St} {h':Heap} {m':Str→Option Value} {t':Nat} (I:Inv X pins σ H s) (hn':h'.Ns X.env.locals m') (hs:Heap.SameBut X.env.locals s.heap h')
 (hl:∀(i:Nat) (x:Str) (v:V),X.N[i]?=some x→σ'[i]?=some (some v)→LI X.env.scope x→∃u,RelV v u∧Qy X.env h' m' x u) (len:σ'.length=σ.length):Inv X pins σ' H {s with heap:=h',toks:=t'}:=by
 obtain ⟨m,hn,_⟩:=id I.loc
 obtain ⟨oL,_,_,hoL,_⟩:=id hn
 have neL:∀b o,X.s₀.heap.get? b=some o→b≠X.env.locals:=fun b o e=>BG (Bp (AS e) I.ok.above)
 refine ⟨I.ok,I.os,I.bare,⟨fun b o e n hb hx=>?_,fun b o e n hb hx=>?_,I.base.free,fun b o e hx=>?_,I.base.tups,I.base.frzs,I.base.tbls⟩,⟨_,hn',hl⟩,fun y c e=>?_,I.free,I.freeC,fun p hp=>?_,fun b ob e=>?_,len.trans I.len⟩
 ·exact (hs.2 b (neL b o e)).trans (I.base.keep b o e n hb hx)
 ·obtain ⟨sl,e1⟩:=I.base.slot b o e n hb hx
  exact ⟨sl,(hs.2 b (neL b o e)).trans e1⟩
 ·obtain ⟨o',e1⟩:=I.base.there b o e hx
  exact ⟨o',(hs.2 b (neL b o e)).trans e1⟩
 ·obtain ⟨v,z⟩:=I.cell y c e
  exact ⟨v,z.sameBut hs (I.cne y c e)⟩
 ·obtain ⟨a1,a2,a3,a4⟩:=I.pin p hp
  exact ⟨(hs.2 _ a3).trans a1,a2,a3,a4⟩
 ·refine (I.hok b ob e).stay (fun c w' hc q=>(hs.2 c ?_).trans q) (fun _ q=>q) fun _ _ q=>q
  rintro rfl
  have hfree:=I.free
  rcases hc with rfl |hc
  ·rw [hfree] at e;cases e
  ·rw [hfree] at hc;cases hc
end
def OF:List (Str×D)→Option (List (Str×Int))
 |[]=>some []
 |(f,.int i)::r=>(OF r).map fun l=>(f,i)::l
 |_=>none
open Classical in
noncomputable def ZgR (a:Addr) (vs:List V) (Fk:List D→HD→Out D) (f:ME):MS:=fun ρ h=>match (ρ[0]?:Option (Option D)),(h[0]?:Option Cell) with
 |some (some (.clo a' vs' ds)),some .tab=>if a'=a∧vs'=vs then (match f (ds.map some) h with
  |.ok _ h1=>.ok (.nx,ρ) h1
  |.err (.str n _) fs h1=>if n∈excNames then (match OF fs with
   |some is=>(match Fk [.exc n is] h1 with
    |.ok d h2=>.ok (.nx,(ρ.set 1 (some d)).set 2 none) h2
    |_=>.stuck)
   |none=>.stuck) else .stuck
  |_=>.stuck) else .stuck
 |_,_=>.stuck
structure ZgS (X:Cx) (P a c':Addr) (lpos:Pos) (Nc:List Str) (params:Arguments) (body:Expr) (scope:Scope) (cl:List (Str×Addr)) (pm ctv:Value) (vs:List V):Prop where
 N:X.N=(["_law_call","_law_word","_law_e"]:List Str)
 k0:X.env.kindOf "_law_call"=some .local
 k1:X.env.kindOf "_law_word"=some .local
 k2:X.env.kindOf "_law_e"=some .local
 tp:∃c,tabP X.K=some (c,P)
 tb:∃ps,X.H₀ P=some (.tbl ps)∧TriplesOk ps.toList∧codeAmong lpos ps.toList=some (.ref c')
 ob:X.s₀.heap.get? a=some (kla_obj "<lambda>" JH params body scope cl pm c' ctv)
 no:X.H₀ a=none
 nf:a∉X.fs
 clo:ZX X.s₀.heap X.H₀ X.outer Nc scope cl vs
section
variable {X:Cx} {E:XK} {P a c':Addr} {lpos:Pos} {Nc:List Str} {params:Arguments} {body:Expr} {scope:Scope} {cl:List (Str×Addr)} {pm ctv:Value} {vs:List V}
def mCx (X:Cx) (e:Addr):Cx:={X with A:=X.A.mark (some (.ref e)),calm:=false,xe:=fun _ _=>False}
end
noncomputable def Z0 (Fk:List D→HD→Out D):Out D→Out D
 |.ok _ h1=>.ok (.str "told") h1
 |.err (.str n _) fs h1=>if n∈excNames then (match OF fs with
  |some is=>(match Fk [.exc n is] h1 with
   |.ok d h2=>.ok d h2
   |_=>.stuck)
  |none=>.stuck) else .stuck
 |_=>.stuck
noncomputable def ZgT (cs:List Nat) (Fk:List D→HD→Out D) (f:ME):ME:=fun ρ h=>match (h[0]?:Option Cell),Bk (cs.map fun j=>(ρ[j]?).join) with
 |some .tab,some ds=>Z0 Fk (f (ds.map some) h)
 |_,_=>.stuck
structure LSc (X:Cx) (scope:Scope) (Nc:List Str) (cs:List Nat):Prop where
 lam:ZY scope
 nd:(scope.names.map (·.1)).Nodup
 free:(scope.names.all fun y=>y.2 != .free||(X.env.kindOf y.1==some .cell||X.env.kindOf y.1==some .free))=true
 len:cs.length=Nc.length
 out:((Nc.zip cs).all fun p=>X.N[p.2]?==some p.1&&scope.names.lookup p.1==some .free)=true
theorem LSc.at_ {X:Cx} {scope:Scope} {Nc:List Str} {cs:List Nat} (S:LSc X scope Nc cs) {i j:Nat} {x:Str} (h1:Nc[i]?=some x) (h2:cs[i]?=some j):X.N[j]?=some x∧scope.names.lookup x=some .free:=by
 have hz:(Nc.zip cs)[i]?=some (x,j):=by
  rw [List.getElem?_zip_eq_some]
  exact ⟨h1,h2⟩
 have:=qaZ.mp S.out (x,j) (Jd hz)
 simpa using this
theorem LSc.fr {X:Cx} {scope:Scope} {Nc:List Str} {cs:List Nat} (S:LSc X scope Nc cs):∀y∈scope.names,y.2=.free→X.env.kindOf y.1=some .cell∨X.env.kindOf y.1=some .free:=fun y hy e=>by
 have:=qaZ.mp S.free y hy
 rw [e] at this
 simpa using this
section
variable {X:Cx} {E:XK} {c P:Addr} {Nc:List Str} {cs:List Nat} {params:Arguments} {body:Expr} {scope:Scope}
end
def Ky (mg:Str→Option Value) (base:Heap):Prop:=∃bm o,mg "__builtins__"=some (.ref bm)∧bm≠builtinsNs∧base.get? bm=some o∧o.cls=.type "module"∧o.dict=some builtinsNs∧o.data=.plain
open AutoSeq1 (wpAny_loadPart')
theorem Z1:fillsNumberSlot (.type "tuple") "mul"=pure false:=by
 first |exact noFill_tuple_mul' |(unfold fillsNumberSlot;kernel_rfl)
theorem Z2:seqRepeat? (.type "tuple")=pure (some (.builtin "tuple.__mul__")):=by
 unfold seqRepeat?
 rw [PySem.seqSlot_of (T:="tuple") (name:="__mul__") (id:="tuple.__mul__") F.slot_tuple_mul.lookup (by decide +kernel),PySem.seqSlot_of (T:="tuple") (name:="__rmul__") (id:="tuple.__rmul__") (by rw [typeLookup_type,builtinLookup_eq_fast];kernel_rfl) (by decide +kernel)]
 rfl
theorem Z3 (a:Int) (t:Tok) (l:Addr) (items:Array Value) (n:Nat) (dd:Option Addr) (sl:Array (Option Value)):
 Meets (Builtin.«int.__rmul__» ⟨[.int a t,.ref l],[]⟩) (fun _ R s=>s.heap.get? l=some {cls:=.type "tuple",dict:=dd,data:=.seq items n,slots:=sl}∧R (.ok (.ret Value.notImplemented)) s):=
 .of_wp fun prog w A R s h=>by
  obtain ⟨hp,g,d,tk,os⟩:=s;obtain ⟨hl,h⟩:=h
  wp_walk;exact ⟨_,rfl,h⟩
theorem Z4 (l:Addr) (items:Array Value) (n:Nat) (dd:Option Addr) (sl:Array (Option Value)) (x:Int) (u:Tok) (h1:1<x) (h2:x<2^63) (hne:items.isEmpty=false) (hz:items.size*x.toNat≤sizeLine):
 Meets (Builtin.«tuple.__mul__» ⟨[.ref l,.int x u],[]⟩) (fun _ R s=>s.heap.get? l=some {cls:=.type "tuple",dict:=dd,data:=.seq items n,slots:=sl}∧R (.ok (.ret (Value.ref s.heap.objs.size))) {s with heap:=s.heap.push {cls:=Value.type "tuple",data:=Data.seq (List.foldl (fun x1 x2=>x1++x2) #[] (List.replicate x.toNat items))}}):=
 .of_wp fun prog w A R s h=>by
  obtain ⟨hp,g,d,tk,os⟩:=s;obtain ⟨hl,h⟩:=h
  have c1:(decide (x < -2^63)||decide (x≥2^63))=false:=by simp;omega
  have c2:(items.isEmpty||x==1)=false:=by
   rw [hne,Bool.false_or]
   exact beq_eq_false_iff_ne.mpr (by omega)
  have c3:(decide (x≤0)||items.isEmpty)=false:=by
   rw [hne,Bool.or_false]
   exact decide_eq_false (by omega)
  have hx:(x.toNat:Int)=x:=Int.toNat_of_nonneg (by omega)
  have hz':(items.size:Int)*x≤sizeLine:=by rw [←hx];exact_mod_cast hz
  have c4:¬((items.size:Int)*x>(2^63 - 1) / 8):=by
   have:(sizeLine:Int)≤(2^63 - 1) / 8:=by decide
   omega
  have c5:Builtin.Tuple.tupleTooMany ((items.size:Int)*x)=false:=by
   unfold Builtin.Tuple.tupleTooMany
   exact decide_eq_false (by omega)
  have c6:(List.foldl (fun x1 x2=>x1++x2) #[] (List.replicate x.toNat items)).size≤sizeLine:=by
   have f0:=LW items.toList x.toNat []
   rw [GJ] at f0
   have:List.foldl (fun x1 x2=>x1++x2) #[] (List.replicate x.toNat items)=(List.replicate x.toNat items.toList).flatten.toArray:=by simpa using f0
   rw [this,Bc,LX,Nat.mul_comm]
   simpa using hz
  wp_walk using wpAny_loadPart' hl
  rw [c1]
  simp only [DF,if_false]
  refine wpAny_bind ?_
  unfold Builtin.Tuple.tupleItemsOf
  wp_walk using wpAny_loadPart' hl
  rw [c2]
  simp only [DF,if_false]
  rw [c3]
  simp only [DF,if_false]
  rw [if_neg c4,c5]
  simp only [DF,if_false]
  refine wpAny_bind (wpAny_newObj_type (wpAny_pure ⟨_,rfl,h⟩) c6)
theorem Z5 (l:Addr) (items:Array Value) (n:Nat) (dd:Option Addr) (sl:Array (Option Value)) (u:Tok):
 Meets (Builtin.«tuple.__mul__» ⟨[.ref l,.int 1 u],[]⟩) (fun _ R s=>s.heap.get? l=some {cls:=.type "tuple",dict:=dd,data:=.seq items n,slots:=sl}∧R (.ok (.ret (Value.ref l))) s):=
 .of_wp fun prog w A R s h=>by
  obtain ⟨hp,g,d,tk,os⟩:=s;obtain ⟨hl,h⟩:=h
  have c1:(decide ((1:Int) < -2^63)||decide ((1:Int)≥2^63))=false:=by decide
  have c2:(items.isEmpty||(1:Int)==1)=true:=by simp
  wp_walk using wpAny_loadPart' hl
  exact ⟨_,rfl,h⟩
theorem Z6 (l:Addr) (items:Array Value) (n:Nat) (dd:Option Addr) (sl:Array (Option Value)) (x:Int) (u:Tok) (h1:-(2^63)≤x) (h2:x≤0) (hne:items.isEmpty=false):
 Meets (Builtin.«tuple.__mul__» ⟨[.ref l,.int x u],[]⟩) (fun _ R s=>s.heap.get? l=some {cls:=.type "tuple",dict:=dd,data:=.seq items n,slots:=sl}∧R (.ok (.ret (Value.ref s.heap.objs.size))) {s with heap:=s.heap.push {cls:=Value.type "tuple",data:=Data.seq #[]}}):=
 .of_wp fun prog w A R s h=>by
  obtain ⟨hp,g,d,tk,os⟩:=s;obtain ⟨hl,h⟩:=h
  have c1:(decide (x < -2^63)||decide (x≥2^63))=false:=by simp;omega
  have c2:(items.isEmpty||x==1)=false:=by
   rw [hne,Bool.false_or]
   exact beq_eq_false_iff_ne.mpr (by omega)
  have c3:(decide (x≤0)||items.isEmpty)=true:=by
   rw [hne,Bool.or_false]
   exact decide_eq_true h2
  wp_walk using wpAny_loadPart' hl
  rw [c1]
  simp only [DF,if_false]
  refine wpAny_bind ?_
  unfold Builtin.Tuple.tupleItemsOf
  wp_walk using wpAny_loadPart' hl
  rw [c2]
  simp only [DF,if_false]
  rw [c3]
  simp only [if_true]
  refine wpAny_bind (wpAny_newObj_type (wpAny_pure ⟨_,rfl,h⟩) (by show (#[]:Array Value).size≤sizeLine;simp))
section
variable {X:Cx} {E:XK}
def Z7 (K:Frag):R2:=fun x y H Q=>∃l k xs,x=.ref l∧y=.int k∧H l=some (.tup xs)∧xs≠[]∧-(2^63)≤k∧k<2^63∧xs.length*k.toNat≤sizeLine∧(k=1→Q (.ref l) H)∧
 ∀p,H p=none→Q (.ref p) (Az H p (.tup (List.replicate k.toNat xs).flatten))
theorem Inv.tnew {pins:List (Addr×Obj)} {σ:L2.St} {H:Hp} {s:Shared} {ys:List V} {its:List Value} {t':Nat} (I:Inv X pins σ H s) (hv:Vals ys its) (hz:ys.length≤sizeLine):
 Inv X pins σ (Az H s.heap.objs.size (.tup ys)) {s with heap:=s.heap.push {cls:=.type "tuple",data:=.seq its.toArray},toks:=t'}:=
 I.laid (fun _ _ q=>AY _ q) (AK _) ⟨hz,its,hv,⟨_,BR _ rfl,rfl,0,rfl⟩,NoDict.new⟩
theorem op_repT:OpR X (binaryOp .Mult) (Z7 X.K):=by
 intro pins s σ H x y v u Q I rx ry h
 obtain ⟨l,k,xs,rfl,rfl,hH,hne,h1,h2,hz,q1,q⟩:=h
 cases rx
 obtain ⟨t,rfl⟩:=ry
 obtain ⟨z,its,r,⟨o,ho,hc,n,hd⟩,_⟩:=(show ObjOk X.prog X.w H s.heap l (.tup xs) from I.hok l _ hH)
 obtain ⟨oc,dd,dat,sl⟩:=o
 simp only at hc hd
 subst hc hd
 have hl:=r.length
 have hine:its.toArray.isEmpty=false:=by
  cases its with
  |nil=>exfalso;cases xs with
   |nil=>exact hne rfl
   |cons _ _=>simp at hl
  |cons a b=>simp
 have mul:∀{Q':Value→Shared→Prop},wpAny (model X.prog X.w) X.A (call (.builtin "tuple.__mul__") [.ref l,.int k t]) Q' X.xe s→wpAny (model X.prog X.w) X.A (binaryOp .Mult (.ref l) (.int k t)) Q' X.xe s:=fun {Q'} hq=>
  wpAny_binaryOp_repeat_ref (T:="tuple") (U:="int") (by decide) ⟨_,ho,rfl⟩ (fun s'=>typeIs_int s' k t) Z1 F.fills_int_mul F.slot_int_rmul Z2 F.slot_int_index.lookup
   (call_meets F.slot_int_rmul (typeIs_int s k t) F.entry_int_rmul (F.args_int_rmul_2 _ _) (Z3 k t l its.toArray n dd sl) ⟨ho,rfl,⟨_,ho,rfl⟩,hq⟩)
 refine mul ?_
 rcases Int.lt_trichotomy k 1 with hk |hk |hk
 ·refine call_meets F.slot_tuple_mul ⟨_,ho,rfl⟩ F.entry_tuple_mul (F.args_tuple_mul_2 _ _) (Z6 l its.toArray n dd sl k t h1 (by omega) hine) ⟨ho,?_⟩
  have e:(List.replicate k.toNat xs).flatten=[]:=by
   have:k.toNat=0:=by omega
   rw [this];rfl
  have:=q _ I.fresh
  rw [e] at this
  exact ⟨.ref _,_,LS.Inv.tnew (its:=[]) (t':=s.toks) I .nil (Ep _),rfl,this⟩
 ·subst hk
  refine call_meets F.slot_tuple_mul ⟨_,ho,rfl⟩ F.entry_tuple_mul (F.args_tuple_mul_2 _ _) (Z5 l its.toArray n dd sl t) ⟨ho,?_⟩
  exact ⟨.ref l,H,I,rfl,q1 rfl⟩
 ·refine call_meets F.slot_tuple_mul ⟨_,ho,rfl⟩ F.entry_tuple_mul (F.args_tuple_mul_2 _ _) (Z4 l its.toArray n dd sl k t hk h2 hine (by rw [Bc,←hl];exact hz)) ⟨ho,?_⟩
  have f0:=LW its k.toNat []
  rw [GJ] at f0
  have f1:List.foldl (fun x1 x2=>x1++x2) #[] (List.replicate k.toNat its.toArray)=(List.replicate k.toNat its).flatten.toArray:=f0
  rw [f1]
  exact ⟨.ref _,_,LS.Inv.tnew (t':=s.toks) I (r.rep k.toNat) (by rw [LX,Nat.mul_comm];exact hz),rfl,q _ I.fresh⟩
noncomputable def D0:D→D→HD→Out D:=fun x y h=>match x,y with
 |.tup xs,.int k=>@ite _ (xs≠[]∧-(2^63)≤k∧k<2^63∧xs.length*k.toNat≤sizeLine) (Classical.propDecidable _) (.ok (.tup (List.replicate k.toNat xs).flatten) h) .stuck
 |_,_=>Ee x y h
theorem FR:BI X (binaryOp .Mult) D0:=by
 obtain ⟨r0,hr0,i0⟩:=YE (X:=X)
 refine ⟨_,op_repT.or hr0,fun m H h E x y v u Q hr rx ry q=>?_⟩
 unfold D0 at q
 split at q
 ·rename_i xs k
  split at q
  ·rename_i hc
   obtain ⟨hne,h1,h2,hz⟩:=hc
   simp only [DV] at rx ry
   obtain ⟨a,vs,rfl,ha,dv⟩:=rx
   subst ry
   refine .inl ⟨a,k,vs,rfl,rfl,ha,?_,h1,h2,by rw [←dv.len];exact hz,fun e=>?_,?_⟩
   ·intro e;have:=dv.len;rw [e] at this;exact hne (List.length_eq_zero_iff.mp this)
   ·subst e
    refine Bt hr q ?_
    simp only [DV]
    exact ⟨a,vs,rfl,ha,by simpa using dv⟩
   ·exact Hu hr (DVs.rep dv k.toNat) q
  ·exact q.elim
 ·exact .inr (i0 m H h E x y v u Q hr rx ry q)
end
end LS
namespace LS
open PySem PySem.Spec PyProof.Rows L2 PySem.W
section
variable {X:Cx} {E:XK}
abbrev MJ:=Str→Ai→HD→Out Str
def Z8:MJ:=fun acc _ h=>if acc.length≤sizeLine then .ok acc h else .stuck
def Z9 (y:Str) (r:MJ):MJ:=fun acc ρ h=>if (acc++y).length≤sizeLine then r (acc++y) ρ h else .stuck
def SL (f:ME) (r:MJ):MJ:=fun acc ρ h=>(f ρ h).bind fun d h1=>match d with
 |.int i=>if i.natAbs.log2<1920∧(acc++(toString i:Str)).length≤sizeLine then r (acc++(toString i:Str)) ρ h1 else .stuck
 |_=>.stuck
def OG (fj:MJ):ME:=fun ρ h=>(fj Str.empty ρ h).bind fun x h1=>.ok (.str x) h1
def ZgU:D→HD→Out D:=fun x h=>match A6 h 8 x with
 |some p=>if p.showable=true∧p.hasDict=false∧p.depth≤40∧p.shown.length≤sizeLine then .ok (.str p.shown) h else .stuck
 |none=>.stuck
def Cq:D→D→HD→Out D:=fun x y h=>match x,y with
 |.str a,.str b=>.ok (.bl (a==b)) h
 |_,_=>Hx x y h
def BA:D→D→HD→Out D:=fun x y h=>match x,y with
 |.str a,.str b=>.ok (.bl (!(a==b))) h
 |_,_=>EE x y h
theorem EU (hu:X.A.units+64<cLine):BI X (compareOp .Eq) Cq:=by
 obtain ⟨r0,hr0,i0⟩:=X6 (X:=X) hu
 refine ⟨_,op_eq.or hr0,fun m H h E x y v u Q hr rx ry q=>?_⟩
 unfold Cq at q
 split at q
 ·simp only [DV] at rx ry
  subst rx ry
  exact .inl ⟨rfl,by rw [LQ];exact Bt hr q (by simp [DV])⟩
 ·exact .inr (i0 m H h E x y v u Q hr rx ry q)
theorem DK (hu:X.A.units+64<cLine):BI X (compareOp .NotEq) BA:=by
 obtain ⟨r0,hr0,i0⟩:=X7 (X:=X) hu
 refine ⟨_,op_ne.or hr0,fun m H h E x y v u Q hr rx ry q=>?_⟩
 unfold BA at q
 split at q
 ·simp only [DV] at rx ry
  subst rx ry
  exact .inl ⟨rfl,by rw [LQ];exact Bt hr q (by simp [DV])⟩
 ·exact .inr (i0 m H h E x y v u Q hr rx ry q)
def Mu:List Nat→List D→Ai→Option Ai
 |[],[],ρ=>some ρ
 |i::is,d::ds,ρ=>Mu is ds (ρ.set i (some d))
 |_,_,_=>none
def Fe (is:List Nat):MG:=fun d ρ=>match d with
 |.tup ds=>Mu is ds ρ
 |_=>none
def Mv:List Nat→GL
 |[]=>FC
 |i::is=>CJ (Cc i) (Mv is)
theorem SM:∀{is:List Nat} {ds:List D} {ρ ρ':Ai},Mu is ds ρ=some ρ'→ds.length=is.length
 |[],[],_,_,_=>rfl
 |[],_::_,_,_,e=>by cases e
 |_::_,[],_,_,e=>by cases e
 |_::is,_::ds,_,_,e=>by simpa using SM (is:=is) (ds:=ds) e
theorem SO {K:Frag} {m:List Addr} {H:Hp}:∀{is:List Nat} {ds:List D} {vs:List V} {ρ ρ':Ai} {σ:L2.St} {Q:L2.St→Hp→Prop},DVs K m H ds vs→ER K m H ρ σ→Mu is ds ρ=some ρ'→(∀σ',ER K m H ρ' σ'→Q σ' H)→Mv is vs σ H Q
 |[],[],vs,ρ,ρ',σ,Q,r,er,e,q=>by
  simp only [DVs] at r
  subst r
  cases e
  exact ⟨rfl,q σ er⟩
 |[],_::_,_,_,_,_,_,_,_,e,_=>by cases e
 |_::_,[],_,_,_,_,_,_,_,e,_=>by cases e
 |i::is,d::ds,vs,ρ,ρ',σ,Q,r,er,e,q=>by
  simp only [DVs] at r
  obtain ⟨v,w,rfl,rv,rw'⟩:=r
  exact ⟨v,w,rfl,SO rw' (er.set rv) e q⟩
theorem SQ {es:List Expr} {is:List Nat} {kt:Nat} {pos:Pos} (h:PG X (.Tuple es kt pos) (E4 X.K is.length (Mv is))):Kg X (.Tuple es kt pos) (Fe is):=⟨_,h,fun m H d v ρ σ ρ' Q r er e q=>by
 unfold Fe at e
 split at e
 ·rename_i ds
  simp only [DV] at r
  obtain ⟨p,vs,rfl,hp,dv⟩:=r
  exact ⟨p,vs,rfl,SqT.of hp,by rw [←dv.len];exact SM e,SO dv er e q⟩
 ·cases e⟩
end
section
variable {X:Cx} {E:XK}
end
theorem CaM.mono {P:Program} {w:World} {K:Frag} {mg:Str→Option Value} {base:Heap} {x:Str} {j k:Nat} {F:List D→HD→Out D} (C:CaM P w K mg base x j F) (h:j≤k):CaM P w K mg base x k F:=by
 obtain ⟨f,fd,ps,G,r⟩:=C.ex
 exact ⟨f,fd,ps,⟨fun A outer s H args us vs Q hr=>G.run A outer s H args us vs Q (hr.mono h)⟩,r⟩
structure SaidD (K:Frag) (mg:Str→Option Value) (st:Stmt) (fs:Addr) (fd:FuncData):Prop where
 fn:Fun K "_law_said" "_law_said" st fs fd
 bd:Binds K fd ["_law_call"] []
 mg:mg "_law_said"=some (.ref fs)
structure ZgV (st:Stmt):Prop where
 sc:A5 ["_law_call","_law_word","_law_e"] ["_law_call"] (defScope st)
 k0:(defScope st).names.lookup ("_law_call":Str)=some .local
 k1:(defScope st).names.lookup ("_law_word":Str)=some .local
 k2:(defScope st).names.lookup ("_law_e":Str)=some .local
 gS:(defScope st).names.lookup ("SwitchError":Str)=some .globalImplicit
 gK:(defScope st).names.lookup ("_law_kind":Str)=some .globalImplicit
 tx:∃p1 j1 p2 p3 p4 p5 p6 p7 p8 p9 p10 p11 p12 p13 p14 p15 p16,defBody st=[.Assign [.Name "_law_word" p1] (.Constant (.str "told") j1 p2) p3,.Try [.Expr (.Call (.Name "_law_call" p4) [] [] p5) p6] [.ExceptHandler (some (.Name "SwitchError" p7)) (some "_law_e") [.Assign [.Name "_law_word" p8] (.Call (.Name "_law_kind" p9) [.Name "_law_e" p10] [] p11) p12] p13] [] [] p14,.Return (some (.Name "_law_word" p15)) p16]
def ZgW (K:Frag) (T:Addr):Bool:=match tabP K with
 |some (c,T')=>T'==T&&codeHdIn K c T
 |none=>false
end LS
namespace LS
open PySem PySem.Spec PyProof.Rows L2
def We {α:Type} (o:Out α) (Q:α→HD→Prop) (R:Str→List (Str×D)→HD→Prop):Prop:=match o with
 |.ok a h=>Q a h
 |.err (.str n _) fs h=>R n fs h
 |_=>False
section
variable {α β:Type} {o:Out α} {Q Q':α→HD→Prop} {R R':Str→List (Str×D)→HD→Prop}
@[simp] theorem ZgX (a:α) (h:HD):We (.ok a h) Q R=Q a h:=rfl
@[simp] theorem ZgY (n:Str) (t:Tok) (fs:List (Str×D)) (h:HD):We (.err (.str n t) fs h:Out α) Q R=R n fs h:=rfl
@[simp] theorem ZgZ:We .stuck Q R=False:=rfl
theorem DL {k:α→HD→Out β} {Q:β→HD→Prop}:We (o.bind k) Q R=We o (fun a h=>We (k a h) Q R) R:=by
 cases o with
 |ok a h=>rfl
 |err C fs h=>cases C<;>rfl
 |stuck=>rfl
theorem We.mono (h:We o Q R) (f:∀a h,Q a h→Q' a h) (g:∀n fs h,R n fs h→R' n fs h):We o Q' R':=by
 cases o with
 |ok a h'=>exact f _ _ h
 |err C fs h'=>cases C<;>first |exact g _ _ _ h |exact h.elim
 |stuck=>exact h
end
def Er {α:Type} (o:Out α) (h:HD) (n:Str):Prop:=We o (fun _ _=>False) fun n' fs h'=>n'=n∧fs=[]∧Sm h h'
section
variable {ρ:Ai} {h:HD} {Q:Fl×Ai→HD→Prop} {QD:D→HD→Prop} {QB:Bool→HD→Prop} {R:Str→List (Str×D)→HD→Prop} {g g1 g2:MS} {f:ME} {t:MT} {fa:MA} {F:List D→HD→Out D}
def OH (g2:MS) (Q:Fl×Ai→HD→Prop) (R:Str→List (Str×D)→HD→Prop):Fl×Ai→HD→Prop
 |(.nx,ρ),h=>We (g2 ρ h) Q R
 |y,h=>Q y h
@[simp] theorem Zg0:OH g2 Q R (.nx,ρ) h=We (g2 ρ h) Q R:=rfl
@[simp] theorem Zg1 {d:D}:OH g2 Q R (.rt d,ρ) h=Q (.rt d,ρ) h:=rfl
@[simp] theorem Zg2:We (Aj g1 g2 ρ h) Q R=We (g1 ρ h) (OH g2 Q R) R:=by
  unfold Aj
  rw [DL]
  congr 1
  funext x h1
  obtain ⟨fl,ρ1⟩:=x
  cases fl<;>rfl
@[simp] theorem Zg3:We (Be ρ h) Q R=Q (.nx,ρ) h:=rfl
@[simp] theorem Zg4:We (Cv f ρ h) Q R=We (f ρ h) (fun _ h1=>Q (.nx,ρ) h1) R:=by unfold Cv;rw [DL];rfl
@[simp] theorem Zg5:We (Ax f ρ h) Q R=We (f ρ h) (fun d h1=>Q (.rt d,ρ) h1) R:=by unfold Ax;rw [DL];rfl
@[simp] theorem Zg6 {i:Nat}:We (AD i f ρ h) Q R=We (f ρ h) (fun d h1=>Q (.nx,ρ.set i (some d)) h1) R:=by unfold AD;rw [DL];rfl
@[simp] theorem Zg7:We (A9 t g1 g2 ρ h) Q R=We (t ρ h) (fun b h1=>We (if b=true then g1 ρ h1 else g2 ρ h1) Q R) R:=by unfold A9;rw [DL]
@[simp] theorem Zg8:We (Af F fa ρ h) QD R=We (fa ρ h) (fun ds h1=>We (F ds h1) QD R) R:=by unfold Af;rw [DL]
@[simp] theorem Zg9 {n:Str}:We (Sk n fa ρ h) Q R=We (fa ρ h) (fun xs h1=>We (if xs.length≤sizeLine then (.err (Kr n) [] h1:Out (Fl×Ai)) else .stuck) Q R) R:=by unfold Sk;rw [DL]
@[simp] theorem Zha:We (Cf t ρ h) QB R=We (t ρ h) (fun b h1=>QB (!b) h1) R:=by unfold Cf;rw [DL];rfl
@[simp] theorem Zhb {u:MT}:We (Gm t u ρ h) QB R=We (t ρ h) (fun b h1=>We (if b=true then u ρ h1 else .ok false h1) QB R) R:=by unfold Gm;rw [DL]
@[simp] theorem Zhc {u:MT}:We (Ce t u ρ h) QB R=We (t ρ h) (fun b h1=>We (if b=true then .ok true h1 else u ρ h1) QB R) R:=by unfold Ce;rw [DL]
@[simp] theorem Zhd:We (B9 f ρ h) QB R=We (f ρ h) (fun x h1=>We (EB x h1) QB R) R:=by unfold B9;rw [DL]
@[simp] theorem Zhe:We (AO f ρ h) QB R=We (f ρ h) (fun x h1=>We (J5 x h1) QB R) R:=by unfold AO;rw [DL]
@[simp] theorem Zhf {QA:List D→HD→Prop}:We (Ae ρ h) QA R=QA [] h:=rfl
@[simp] theorem Zhg {QA:List D→HD→Prop}:We (Ab f fa ρ h) QA R=We (f ρ h) (fun x h1=>We (fa ρ h1) (fun xs h2=>QA (x::xs) h2) R) R:=by
  unfold Ab;simp only [DL];rfl
@[simp] theorem Zhh {d:D} {r:Ai}:We (Aa 0 (some d::r) h) QD R=QD d h:=rfl
@[simp] theorem Zhi {i:Nat} {x:Option D} {r:Ai}:We (Aa (i+1) (x::r) h) QD R=We (Aa i r h) QD R:=rfl
@[simp] theorem Zhj {d:D}:We (mC d ρ h) QD R=QD d h:=rfl
@[simp] theorem Zhk {op:D→D→HD→Out D} {f':ME}:We (Ah op f f' ρ h) QD R=We (f ρ h) (fun x h1=>We (f' ρ h1) (fun y h2=>We (op x y h2) QD R) R) R:=by unfold Ah;simp only [DL]
@[simp] theorem Zhl {fj:MJ}:We (OG fj ρ h) QD R=We (fj Str.empty ρ h) (fun x h1=>QD (.str x) h1) R:=by unfold OG;rw [DL];rfl
end
def Et {α:Type} (o:Out α) (h:HD) (n:Str) (fs:List (Str×D)):Prop:=We o (fun _ _=>False) fun n' fs' h'=>n'=n∧fs'=fs∧Sm h h'
def Rp (n L:Nat) (d:D):Prop:=∃p:PyData,(∀(h:HD) (m:Nat),A6 h (n+m) d=some p)∧p.showable=true∧p.hasDict=false∧p.depth≤n∧p.shown.length≤L
section
variable {h:HD} {i j:Int} {ds:List D} {a b:D} {l:Nat} {x y:Str}
@[simp] theorem Zhm:BA (.str x) (.str y) h=.ok (.bl (!(x==y))) h:=rfl
@[simp] theorem Zhn:Cq (.str x) (.str y) h=.ok (.bl (x==y)) h:=rfl
@[simp] theorem Zho:BA (.int i) (.int j) h=.ok (.bl (!(i==j))) h:=rfl
@[simp] theorem OI:Cq (.int i) (.int j) h=.ok (.bl (i==j)) h:=rfl
@[simp] theorem Zhp {c d:Bool}:BA (.bl c) (.bl d) h=.ok (.bl (!(c==d))) h:=rfl
@[simp] theorem Zhq {c d:Bool}:Cq (.bl c) (.bl d) h=.ok (.bl (c==d)) h:=rfl
@[simp] theorem Zhr {es:List D}:BA (.tup ds) (.tup es) h=EE (.tup ds) (.tup es) h:=rfl
@[simp] theorem Zhs {es:List D}:Cq (.tup ds) (.tup es) h=Hx (.tup ds) (.tup es) h:=rfl
@[simp] theorem Zht:D0 (.int i) (.int j) h=Ee (.int i) (.int j) h:=rfl
@[simp] theorem Zaa:D0 (.loc l) b h=Ee (.loc l) b h:=rfl
@[simp] theorem Zhu:DA (.int i) b h=B4 (.int i) b h:=rfl
@[simp] theorem Zhv {c:Bool}:DA (.bl c) b h=B4 (.bl c) b h:=rfl
@[simp] theorem Zhw:DA .non b h=B4 .non b h:=rfl
@[simp] theorem Zhx:DA (.str x) b h=B4 (.str x) b h:=rfl
@[simp] theorem Zhy:DA (.tup ds) b h=B4 (.tup ds) b h:=rfl
@[simp] theorem Zab:DA (.loc l) b h=B4 (.loc l) b h:=rfl
@[simp] theorem Zhz {c:Bool}:B4 (.bl c) (.ty "int") h=.ok (.bl true) h:=rfl
@[simp] theorem ZhA {c:Bool}:B4 (.bl c) (.ty "bool") h=.ok (.bl true) h:=rfl
@[simp] theorem ZhB {c:Bool}:B4 (.bl c) (.ty "tuple") h=.ok (.bl false) h:=rfl
@[simp] theorem ZhC:B4 .non (.ty "int") h=.ok (.bl false) h:=rfl
@[simp] theorem ZhD:B4 .non (.ty "tuple") h=.ok (.bl false) h:=rfl
@[simp] theorem ZhE:B4 (.str x) (.ty "int") h=.ok (.bl false) h:=rfl
@[simp] theorem ZhF:B4 (.str x) (.ty "tuple") h=.ok (.bl false) h:=rfl
theorem Zac (e:h[l]?=some (.lst ds)):B4 (.loc l) (.ty "int") h=.ok (.bl false) h:=by
 simp only [B4,Fc,e];rfl
theorem Zad (e:h[l]?=some (.lst ds)):B4 (.loc l) (.ty "tuple") h=.ok (.bl false) h:=by
 simp only [B4,Fc,e];rfl
@[simp] theorem ZhG:DA .edic (.ty "int") h=.ok (.bl false) h:=rfl
@[simp] theorem ZhH:DA .edic (.ty "tuple") h=.ok (.bl false) h:=rfl
@[simp] theorem ZhI {ρ:Ai} {c d:D} {i j k l:Nat}:Fe [i,j,k,l] (.tup [a,b,c,d]) ρ=some ((((ρ.set i (some a)).set j (some b)).set k (some c)).set l (some d)):=rfl
@[simp] theorem ZhJ {chk:D→HD→Out D} {op:D→D→HD→Out D} {f g:ME} {ρ:Ai} {Q:D→HD→Prop}:Wp (Kx chk op f g ρ h) Q=Wp (f ρ h) fun x h1=>Wp (chk x h1) fun x h2=>Wp (g ρ h2) fun y h3=>Wp (op x y h3) Q:=by unfold Kx;simp only [AB]
@[simp] theorem sz6:(6≤sizeLine)=True:=eq_true (by unfold sizeLine;omega)
@[simp] theorem sz7:(7≤sizeLine)=True:=eq_true (by unfold sizeLine;omega)
@[simp] theorem sz8:(8≤sizeLine)=True:=eq_true (by unfold sizeLine;omega)
@[simp] theorem sz9:(9≤sizeLine)=True:=eq_true (by unfold sizeLine;omega)
@[simp] theorem ZhK:(10≤sizeLine)=True:=eq_true (by unfold sizeLine;omega)
end
section
variable {ρ:Ai} {h:HD} {Q:Str→HD→Prop} {R:Str→List (Str×D)→HD→Prop} {acc y:Str} {r:MJ} {f:ME} {n:Nat} {i:Int}
end
end LS
namespace LS
open PySem PySem.Spec PyProof.Rows L2 PySem.W
section
variable {X:Cx} {E:XK}
def ZhL:D→HD→Out D:=fun x h=>match BY x h with
 |some ds=>Du ds h
 |none=>.stuck
def ZhM (T:List (Str×(List D→HD→Out D))) (fv:ME) (fa:MA):ME:=fun ρ h=>(fv ρ h).bind fun d h1=>match d with
 |.glo n=>(match T.lookup n with
  |some F=>(fa ρ h1).bind F
  |none=>.stuck)
 |_=>.stuck
def ZhN (P:Program) (w:World) (K:Frag) (mg:Str→Option Value) (base:Heap) (k:Nat) (T:List (Str×(List D→HD→Out D))):Prop:=∀n F,T.lookup n=some F→CaE P w K mg base n k F
theorem CaE.mono {P:Program} {w:World} {K:Frag} {mg:Str→Option Value} {base:Heap} {x:Str} {j k:Nat} {F:List D→HD→Out D} (C:CaE P w K mg base x j F) (h:j≤k):CaE P w K mg base x k F:=by
 obtain ⟨f,fd,ps,G,r⟩:=C.ex
 exact ⟨f,fd,ps,G.mono h,r⟩
end
def ZhO (K:Frag) (c:Addr):Bool:=match tabP K with
 |some (c',T)=>c'==c&&codeHdIn K c T
 |none=>false
section
variable {prog:Program} {w:World} {A:Around} {E:Str→Value→Shared→Prop}
end
section
variable {X:Cx} {E:XK}
def Zae (K:PySem.W.Frag):V→Option Int→Option Int→Hp→VK→Prop:=fun x lo hi H Q=>∃a xs,x=.ref a∧SqT K H a xs∧HT.sIx xs.length 0 lo=0∧HT.sIx xs.length xs.length hi=xs.length∧Q (.ref a) H
theorem sl_whole:SlR X (Zae X.K):=by
 rintro pins s σ H x v vl vu lo hi sl Q I rx hs pl pu ⟨a,xs,rfl,hx,w0,w1,q⟩
 cases rx
 obtain ⟨its,r,ht,hz⟩:=I.tuple hx
 have hl:its.toArray.size=xs.length:=by rw [Bc];exact r.length.symm
 rw [←hl] at w0 w1
 obtain ⟨os,hos,hcs,hds⟩:=id hs
 refine ⟨"tuple",_,slot_tuple_getitem.lookup,ht.typeIs,?_⟩
 unfold getItem
 try with_reducible refine wpAny_holding ?_
 first |refine wpAny_bind (wpAny_pure ?_) |skip
 refine wpAny_bind (wpAny_sequenceKey ht.typeIs (by decide) (wpAny_bind (wpAny_callSpecial?_slot (name:=Str.ofString "__getitem__") ht.typeIs slot_tuple_getitem
  (wpAny_call_entry slot_tuple_getitem ht.typeIs entry_tuple_getitem ?_ (args_tuple_getitem _ _)))))
 show wpAny _ _ (Builtin.Tuple.tupleItemsOf (.ref a) >>=_) _ _ s
 refine wpAny_bind (tupleItemsOf_ ht (wpAny_bind (wpAny_typeOf (show s.TypeIs (.ref sl) "slice" from ⟨os,hos,hcs⟩) ?_)))
 rw [if_pos (by decide)]
 refine wpAny_bind (HT.sliceApplied_gen hs pl pu ?_)
 have hy:(((HT.sIx its.toArray.size 0 lo:Nat):Int)==0&&(1:Int)==1&&(HT.sIx its.toArray.size its.toArray.size hi - HT.sIx its.toArray.size 0 lo)==its.toArray.size)=true:=by
  rw [w0,w1]
  simp
 show wpAny _ _ (if (((HT.sIx its.toArray.size 0 lo:Nat):Int)==0&&(1:Int)==1&&(HT.sIx its.toArray.size its.toArray.size hi - HT.sIx its.toArray.size 0 lo)==its.toArray.size)=true then _ else _) _ _ s
 rw [if_pos hy]
 unfold Builtin.Tuple.tupleIsExact
 refine wpAny_bind (wpAny_bind (wpAny_typeOf ht.typeIs (wpAny_pure ?_)))
 rw [if_pos (by decide)]
 refine wpAny_bind (wpAny_rule ?_)
 have fin:EP X pins σ Q (.ref a) s:=⟨.ref a,H,I,rfl,q⟩
 first
  |exact wpAny_pure ⟨_,rfl,wpAny_pure fin⟩
  |exact wpAny_pure fin
def D3 (x:D) (lo hi:Option Int) (h:HD):Out D:=match x with
 |.tup xs=>.ok (.tup (cutD xs lo hi)) h
 |_=>.stuck
def Ei (f:ME) (lo hi:MO):ME:=fun ρ h=>(f ρ h).bind fun x h1=>(lo ρ h1).bind fun l h2=>(hi ρ h2).bind fun u h3=>D3 x l u h3
theorem Zaf {α:Type} {xs:List α} {lo hi:Option Int} (h0:HT.sIx xs.length 0 lo=0) (h1:HT.sIx xs.length xs.length hi=xs.length):(xs.drop (HT.sIx xs.length 0 lo)).take (HT.sIx xs.length xs.length hi - HT.sIx xs.length 0 lo)=xs:=by
 rw [h0,h1];simp
theorem FS {e:Expr} {lo hi:Option Expr} {f:ME} {fl fh:MO} {p2 pos:Pos} (he:Ev X E e f) (hl:Mk X E lo fl) (hu:Mk X E hi fh):Ev X E (.Subscript e (.Slice lo hi none p2) pos) (Ei f fl fh):=
 Cd (Xk (sl_whole.or Xn) he hl hu) fun σ H Q ⟨m,ρ,h,hr,er,p⟩=>⟨m,ρ,h,hr,er,Post.bind p fun x h1 v m1 H1 eo1 p1 k1 hr1 r1 q1=>
  ⟨m1,ρ,h1,hr1,er.keep p1 k1,Post.bind q1 fun l h2 l' m2 H2 eo2 p2 k2 hr2 r2 q2=>
   ⟨m2,ρ,h2,hr2,(er.keep p1 k1).keep p2 k2,Post.bind q2 fun u h3 u' m3 H3 eo3 p3 k3 hr3 r3 q3=>by
    clear eo1 eo2 eo3
    subst r2 r3
    have rx:=DV.keep p3 k3 (DV.keep p2 k2 r1)
    unfold D3 at q3
    split at q3
    ·rename_i xs
     have rx0:=rx
     simp only [DV] at rx
     obtain ⟨a,vs,rfl,ha,dv⟩:=rx
     by_cases hz:HT.sIx xs.length 0 l=0∧HT.sIx xs.length xs.length u=xs.length
     ·refine .inl ⟨a,vs,rfl,SqT.of ha,by rw [←dv.len];exact hz.1,by rw [←dv.len];exact hz.2,?_⟩
      have e:cutD xs l u=xs:=Zaf hz.1 hz.2
      rw [e] at q3
      exact q3 (.ref a) m3 H3 (AC _) (.refl _) hr3 rx0
     ·rw [dv.len] at hz
      exact .inr ⟨a,vs,rfl,SqT.of ha,hz,Hu hr3 (dv.cut l u) q3⟩
    ·exact q3.elim⟩⟩⟩
end
section
variable {f:ME} {lo hi:MO} {ρ:Ai} {h:HD} {Q:D→HD→Prop}
@[simp] theorem ZhP:Wp (Ei f lo hi ρ h) Q=Wp (f ρ h) fun x h1=>Wp (lo ρ h1) fun l h2=>Wp (hi ρ h2) fun u h3=>Wp (D3 x l u h3) Q:=by unfold Ei;simp only [AB]
end
section
variable {K:Frag} {mg:Str→Option Value} {h:Heap}
theorem Zag {us:List Value} (h:us.length=0):us=[]:=List.length_eq_zero_iff.mp h
theorem SS {us:List Value} (h:us.length=1):∃v0,us=[v0]:=by
 cases us with
 |nil=>cases h
 |cons v t=>
  obtain rfl:=Zag (Nat.succ.inj h)
  exact ⟨v,rfl⟩
theorem SU {us:List Value} (h:us.length=2):∃v0 v1,us=[v0,v1]:=by
 cases us with
 |nil=>cases h
 |cons v t=>
  obtain ⟨w0,rfl⟩:=SS (Nat.succ.inj h)
  exact ⟨v,w0,rfl⟩
theorem Zah {us:List Value} (h:us.length=3):∃v0 v1 v2,us=[v0,v1,v2]:=by
 cases us with
 |nil=>cases h
 |cons v t=>
  obtain ⟨w0,w1,rfl⟩:=SU (Nat.succ.inj h)
  exact ⟨v,w0,w1,rfl⟩
theorem Cr {x p0:Str} {st:Stmt} {f:Addr} {oc:Value} {od an:Option Addr} {osl:Array (Option Value)} {kV doc pm cdv ct:Value} (X:K.In h) (G:h.Ns mainGlobals mg) (l:K.lookup f=some ⟨oc,od,.func (fnOf x x (defArgs st) (defBody st) (defScope st) .none kV doc pm an cdv ct),osl⟩) (c:codeIn K cdv x=true) (k:keepIn K (.ref f)=true) (a:nsIn K mainGlobals x=some (some (.ref f)))
 (b:∀(kV doc pm:Value) (an:Option Addr) (cdv ct v0:Value),bindArgs (fnOf x x (defArgs st) (defBody st) (defScope st) .none kV doc pm an cdv ct) ⟨[v0],[]⟩=pure (([p0]:List Str).zip [v0])):Dn K mg x [p0] st f (fnOf x x (defArgs st) (defBody st) (defScope st) .none kV doc pm an cdv ct):=
 ⟨Jo l c k,(Jo l c k).binds (fun kV doc pm an cdv ct us hl=>by obtain ⟨v0,rfl⟩:=SS hl;exact b kV doc pm an cdv ct v0),mg_of X G a⟩
theorem CC {x p0 p1:Str} {st:Stmt} {f:Addr} {oc:Value} {od an:Option Addr} {osl:Array (Option Value)} {kV doc pm cdv ct:Value} (X:K.In h) (G:h.Ns mainGlobals mg) (l:K.lookup f=some ⟨oc,od,.func (fnOf x x (defArgs st) (defBody st) (defScope st) .none kV doc pm an cdv ct),osl⟩) (c:codeIn K cdv x=true) (k:keepIn K (.ref f)=true) (a:nsIn K mainGlobals x=some (some (.ref f)))
 (b:∀(kV doc pm:Value) (an:Option Addr) (cdv ct v0 v1:Value),bindArgs (fnOf x x (defArgs st) (defBody st) (defScope st) .none kV doc pm an cdv ct) ⟨[v0,v1],[]⟩=pure (([p0,p1]:List Str).zip [v0,v1])):Dn K mg x [p0,p1] st f (fnOf x x (defArgs st) (defBody st) (defScope st) .none kV doc pm an cdv ct):=
 ⟨Jo l c k,(Jo l c k).binds (fun kV doc pm an cdv ct us hl=>by obtain ⟨v0,v1,rfl⟩:=SU hl;exact b kV doc pm an cdv ct v0 v1),mg_of X G a⟩
theorem OJ {x p0 p1 p2:Str} {st:Stmt} {f:Addr} {oc:Value} {od an:Option Addr} {osl:Array (Option Value)} {kV doc pm cdv ct:Value} (X:K.In h) (G:h.Ns mainGlobals mg) (l:K.lookup f=some ⟨oc,od,.func (fnOf x x (defArgs st) (defBody st) (defScope st) .none kV doc pm an cdv ct),osl⟩) (c:codeIn K cdv x=true) (k:keepIn K (.ref f)=true) (a:nsIn K mainGlobals x=some (some (.ref f)))
 (b:∀(kV doc pm:Value) (an:Option Addr) (cdv ct v0 v1 v2:Value),bindArgs (fnOf x x (defArgs st) (defBody st) (defScope st) .none kV doc pm an cdv ct) ⟨[v0,v1,v2],[]⟩=pure (([p0,p1,p2]:List Str).zip [v0,v1,v2])):Dn K mg x [p0,p1,p2] st f (fnOf x x (defArgs st) (defBody st) (defScope st) .none kV doc pm an cdv ct):=
 ⟨Jo l c k,(Jo l c k).binds (fun kV doc pm an cdv ct us hl=>by obtain ⟨v0,v1,v2,rfl⟩:=Zah hl;exact b kV doc pm an cdv ct v0 v1 v2),mg_of X G a⟩
theorem SaidD.of {st:Stmt} {f:Addr} {fd:FuncData} (d:Dn K mg "_law_said" ["_law_call"] st f fd):SaidD K mg st f fd:=⟨d.fn,d.bd,d.mg⟩
end
open AutoSeq1 (wpAny_loadPart')
section
variable {prog:Program} {w:World} {A:Around} {E:Value→Shared→Prop} {s:Shared}
end
def SV (r:Addr) (n:Nat) (h:Heap):Prop:=∃t u v,IsRange h r 0 (n:Int) 1 t u v
section
variable {X:Cx} {E:XK}
inductive Zai (vs:List V) (H:Hp) (Q:VK):Prop where
 |mk (n:Nat) (e:vs=[.int (n:Int)]) (hn:n≤1000) (q:∀p,H p=none→Q (.ref p) (Az H p (.ext (SV p n)))):Zai vs H Q
inductive Zaj (vs:List V) (H:Hp) (Q:VK):Prop where
 |mk (r:Addr) (n:Nat) (e:vs=[.ref r]) (hr:H r=some (.ext (SV r n))) (hn:n≤1000) (q:∀p,H p=none→Q (.ref p) (Az H p (.tup ((List.range n).map fun i=>V.int ((i:Nat):Int))))):Zaj vs H Q
noncomputable def Zak:D→HD→Out D:=fun d h=>match d with
 |.int i=>@ite _ (0≤i∧i≤1000) (Classical.propDecidable _) (.ok (.tup ((List.range i.toNat).map fun k=>D.int ((k:Nat):Int))) h) .stuck
 |_=>.stuck
noncomputable def ZhQ (f:ME):ME:=fun ρ h=>(f ρ h).bind Zak
end
end LS
namespace LS
open PySem PySem.Spec PyProof.Rows L2 PySem.W
section
variable {X:Cx} {E:XK}
def Mw:D→HD→Out D:=fun x h=>match x with
 |.tup _=>.ok x h
 |_=>.stuck
theorem Zal:SI X "tuple" Mw where
 two:=fun x h=>by cases x<;>first |exact .inl rfl |exact .inr rfl
 ty:=fun m H h x v hr r e=>by
  cases x with
  |tup ds=>
   simp only [DV] at r
   obtain ⟨a,vs,rfl,ha,dv⟩:=r
   intro pins σ s u I ru
   cases (show u=Value.ref a from ru)
   obtain ⟨_,its,rv,⟨o,ho,hc,k,hd⟩,nd⟩:=I.hok a _ ha
   exact ⟨⟨o,ho,hc⟩,fun b e=>by cases e;exact ⟨o,ho,nd o ho⟩⟩
  |_=>cases e
def Kz:D→D→HD→Out D:=fun x y h=>(Mw x h).bind fun _ _=>Gy x y h
theorem Zam (x y:D) (h:HD):HL (Kz x y h):=by
 unfold Kz
 cases x with
 |tup ds=>
  show HL (Gy (.tup ds) y h)
  exact ZV _ _ _
 |_=>exact trivial
theorem Zan:SJ X "tuple.count" Kz:=by
 intro pins s σ H m h x y v yv u uy Q I hr rx ry r r2 q
 cases x with
 |tup ds=>
  change Post X.K (rD X.K) m H E0 Q (Gy (.tup ds) y h) at q
  unfold Gy at q
  change Post X.K (rD X.K) m H E0 Q (match CT y,Bk (ds.map CT) with
   |some v,some vs=>.ok (.int (JG v vs)) h
   |_,_=>.stuck) at q
  split at q
  ·rename_i w ws e1 e2
   simp only [DV] at rx
   obtain ⟨a,vs,rfl,ha,dv⟩:=rx
   cases (show u=Value.ref a from r)
   obtain ⟨h1,h2⟩:=NZ ry e1
   obtain ⟨h3,h4⟩:=N0 dv e2
   subst h1 h3
   obtain ⟨_,its,rr,⟨⟨oc,od,odt,osl⟩,ho,hc,k,hd⟩,nd⟩:=I.hok a _ ha
   cases hc
   cases hd
   refine call_meets F.slot_tuple_count ⟨_,ho,rfl⟩ F.entry_tuple_count (F.args_tuple_count_2 _ _) (PySem.SeqAt.tuple_countAt a its.toArray k od osl uy (Ey yv)) ⟨ho,fun w hw=>LV r2 h2 rr h4 w (by simpa using hw),?_⟩
   refine ⟨.int _,H,I.tok _,⟨_,rfl⟩,?_⟩
   rw [show (its.toArray.toList.countP (Ey yv))=JG yv vs by rw [←SK rr h4]]
   exact Bt hr q (by simp [DV])
  ·exact q.elim
 |_=>exact q.elim
mutual
def OK:PyData→Bool
 |.list _=>false
 |.tuple xs=>OL xs
 |_=>true
def OL:List PyData→Bool
 |[]=>true
 |x::xs=>OK x&&OL xs
end
def OM (h:HD):Nat→D→Option PyData
 |_,.non=>some .none
 |_,.bl b=>some (.bool b)
 |_,.int i=>some (.int i)
 |_,.str x=>some (.str x)
 |_,.edic=>some (.dict [])
 |n+1,.tup ds=>(Bk (ds.map (OM h n))).map .tuple
 |n+1,.loc l=>match h[l]? with
  |some (.lst ds)=>(Bk (ds.map (OM h n))).map .list
  |_=>none
 |_,_=>none
inductive RdX (h:Heap) (u:Value) (p:PyData):Prop where
 |mk (as:List Addr) (f1:Reads h u p as) (f2:OK p=true→sysModules∉as):RdX h u p
inductive Zao (h:Heap) (us:List Value) (ps:List PyData):Prop where
 |mk (as:List Addr) (f1:ReadsAll h us ps as) (f2:OL ps=true→sysModules∉as):Zao h us ps
variable {pins:List (Addr×Obj)} {σ:L2.St} {H:Hp} {s:Shared} {m:List Addr} {h:HD}
def ZhR:D→HD→Out D:=fun x h=>match OM h 8 x with
 |some p=>if p.showable=true∧(p.hasDict=false∨OK p=true)∧p.depth≤40∧p.shown.length≤sizeLine then .ok (.str p.shown) h else .stuck
 |none=>.stuck
end
end LS
namespace HT
open PySem PyProof.Rows
def lexLe:List Int→List Int→Bool
 |[],[]=>true
 |[],_::_=>true
 |_::_,[]=>false
 |x::xs,y::ys=>if x=y then lexLe xs ys else decide (x≤y)
section
open PySem.SeqAt
open PySem.AutoSeq1 (wpAny_loadPart')
open PySem.MeetsSeq PySem.MeetsSeq2 PySem.MeetsSeq3
end
section
variable {prog:Program} {w:World} {A:Around} {E:Value→Shared→Prop} {s:Shared}
end
end HT
namespace L2
open PySem PySem.Spec PyProof.Rows
section
variable {X:Cx}
def ZhS (K:PySem.W.Frag):R2:=fun x y H Q=>∃a b ns ms,x=.ref a∧y=.ref b∧SqT K H a (ns.map V.int)∧SqT K H b (ms.map V.int)∧Q (.bl (HT.lexLe ns ms)) H
end
end L2
namespace LS
open PySem PySem.Spec PyProof.Rows L2
theorem ON {K:PySem.W.Frag} {cs:List (Option Nat)} {i j k:Nat} (h:cs[i]?=some none) (h':cs[j]?=some none) (h2:cs[k]?=some none):HA K cs (E4 K [i,j,k].length (Mv [i,j,k])) (Fe [i,j,k]):=fun m H d v ρ σ0 ρ' Q r er e q=>by
 unfold Fe at e
 split at e
 ·rename_i ds
  match ds,e with
  |[a,b,c],e=>
   cases e
   simp only [DV,DVs] at r
   obtain ⟨p,vs,rfl,hp,v1,w1,rfl,r1,v2,w2,rfl,r2,v3,w3,rfl,r3,rfl⟩:=r
   exact ⟨p,_,rfl,SqT.of hp,rfl,v1,_,rfl,v2,_,rfl,v3,_,rfl,rfl,q _ ((((Sub.refl _).set h).set h').set h2) (((er.set r1).set r2).set r3)⟩
 ·cases e
section
variable {X:Cx} {E:XK}
def OO:D→Option (List Int)
 |.tup ds=>Bk (ds.map Gv)
 |_=>none
theorem SW {m:List Addr} {H:Hp} {d:D} {v:V} {ns:List Int} (r:DV X.K m H d v) (e:OO d=some ns):∃a,v=.ref a∧SqT X.K H a (ns.map V.int):=by
 cases d with
 |tup ds=>
  simp only [DV] at r
  obtain ⟨a,vs,rfl,ha,dv⟩:=r
  have:=L8 dv e
  subst this
  exact ⟨a,rfl,SqT.of ha⟩
 |_=>exact nomatch (show (none:Option (List Int))=some ns from e)
def Mx (f:List Int→List Int→Bool):D→D→HD→Out D:=fun x y h=>match OO x,OO y with
 |some ns,some ms=>.ok (.bl (f ns ms)) h
 |_,_=>.stuck
theorem Zap (hu:X.A.units+64<cLine):BI X (compareOp .Lt) (Mx HT.lexLt):=⟨_,Xp (by omega),fun m H h E x y v u Q hr rx ry q=>by
 unfold Mx at q
 split at q
 ·rename_i ns ms e1 e2
  obtain ⟨a,rfl,ha⟩:=SW rx e1
  obtain ⟨b,rfl,hb⟩:=SW ry e2
  exact ⟨a,b,ns,ms,rfl,rfl,ha,hb,Bt hr q (by simp [DV])⟩
 ·exact q.elim⟩
end
section
variable {prog:Program} {w:World} {A:Around} {E:Value→Shared→Prop} {s:Shared}
theorem Zaq {n:Nat} {sl:Addr} {tk:Tok} {Q:Int×Int×Nat→Shared→Prop} (hs:s.heap.IsSliceOf sl .none .none (.int (-1) tk)) (h:Q ((n:Int) - 1,-1,n) s):wpAny (model prog w) A (Builtin.Slice.sliceApplied (.ref sl) (pure ((n:Nat):Int))) Q E s:=by
 obtain ⟨os,hos,hcs,hds⟩:=id hs
 unfold Builtin.Slice.sliceApplied Builtin.Slice.sliceFields
 refine wpAny_bind (wpAny_bind (wpAny_field hos hds (x:=.none) rfl (wpAny_bind (wpAny_field hos hds (x:=.none) rfl (wpAny_bind (wpAny_field hos hds (x:=.int (-1) tk) rfl (wpAny_pure ?_)))))))
 refine wpAny_bind (slicePart_int ?_)
 show wpAny _ _ (if ((-1:Int)==0)=true then _ else _) _ _ s
 rw [if_neg (by decide)]
 refine wpAny_bind (slicePart_none (wpAny_bind (slicePart_none (wpAny_bind (wpAny_pure ?_)))))
 refine wpAny_pure ?_
 have e1:Builtin.Slice.slicePlaces ((n:Int) - 1) (-1) (-1)=n:=by
  unfold Builtin.Slice.slicePlaces
  simp
  omega
 have e2:Builtin.Slice.sliceAdjust none none (-1) (n:Int)=((n:Int) - 1,-1):=by
  rfl
 show Q ((Builtin.Slice.sliceAdjust none none (-1) (n:Int)).1,-1,Builtin.Slice.slicePlaces (Builtin.Slice.sliceAdjust none none (-1) (n:Int)).1 (Builtin.Slice.sliceAdjust none none (-1) (n:Int)).2 (-1)) s
 rw [e2]
 show Q ((n:Int) - 1,-1,Builtin.Slice.slicePlaces ((n:Int) - 1) (-1) (-1)) s
 rw [e1]
 exact h
theorem fm_congr {α β:Type} {f g:α→Option β}:∀{l:List α},(∀x∈l,f x=g x)→l.filterMap f=l.filterMap g
 |[],_=>rfl
 |x::xs,h=>by rw [GG,GG,h x AZ,fm_congr fun y hy=>h y (Bb _ hy)]
theorem My {vs:List Value}:((List.range vs.toArray.size).filterMap fun (m:Nat)=>vs.toArray[(((vs.toArray.size:Nat):Int) - 1+(m:Int)*(-1)).toNat]?).toArray=vs.reverse.toArray:=by
 have e:(List.range vs.toArray.size).filterMap (fun (m:Nat)=>vs.toArray[(((vs.toArray.size:Nat):Int) - 1+(m:Int)*(-1)).toNat]?)=((List.range vs.toArray.size).map fun k=>vs.toArray.size - 1 - k).filterMap (vs.toArray[·]?):=by
  rw [List.filterMap_map]
  refine fm_congr fun m hm=>?_
  have:=qb2.mp hm
  show vs.toArray[_]?=vs.toArray[vs.toArray.size - 1 - m]?
  congr 1
  omega
 rw [e,PySem.W.krv_range,List.filterMap_reverse,PySem.W.krv_all]
theorem Zar {t sl:Addr} {vs:List Value} {tk:Tok} {Q:Value→Shared→Prop} (ht:IsTup s.heap t vs.toArray) (hs:s.heap.IsSliceOf sl .none .none (.int (-1) tk)) (hn:vs.length≤sizeLine)
 (h:Q (.ref s.heap.objs.size) {s with heap:=s.heap.push {cls:=.type "tuple",data:=.seq vs.reverse.toArray}}):wpAny (model prog w) A (getItem (.ref t) (.ref sl)) Q E s:=by
 obtain ⟨os,hos,hcs,hds⟩:=id hs
 have hTs:s.TypeIs (.ref sl) "slice":=⟨os,hos,hcs⟩
 unfold getItem
 try with_reducible refine wpAny_holding ?_
 first |refine wpAny_bind (wpAny_pure ?_) |skip
 refine wpAny_bind (wpAny_sequenceKey ht.typeIs (by decide) ?_)
 refine wpAny_bind (wpAny_callSpecial?_slot (name:=Str.ofString "__getitem__") ht.typeIs PyProof.Rows.slot_tuple_getitem
  (wpAny_call_entry PyProof.Rows.slot_tuple_getitem ht.typeIs entry_tuple_getitem ?_ (args_tuple_getitem _ _)))
 show wpAny _ _ (Builtin.Tuple.tupleItemsOf (.ref t) >>=_) _ _ s
 refine wpAny_bind (tupleItemsOf_ ht ?_)
 refine wpAny_bind (wpAny_typeOf hTs ?_)
 rw [if_pos (by decide)]
 refine wpAny_bind (Zaq (n:=vs.toArray.size) hs ?_)
 show wpAny _ _ (if ((((vs.toArray.size:Nat):Int) - 1)==0&&(-1:Int)==1&&vs.toArray.size==vs.toArray.size)=true then _ else _) _ _ s
 rw [if_neg (by rw [show ((-1:Int)==1)=false from rfl,Bool.and_false,LD];exact BF)]
 have hz:sizeOk (.seq vs.reverse.toArray):=by show vs.reverse.toArray.size≤sizeLine;simpa using hn
 first
  |(rw [My];exact wpAny_bind (m:=Builtin.Tuple.tupleExact _) (wpAny_newObj_type (wpAny_pure ⟨_,rfl,wpAny_pure h⟩) hz))
  |(rw [My];exact wpAny_bind (m:=Builtin.Tuple.tupleExact _) (wpAny_newObj_type (wpAny_bind (wpAny_pure (wpAny_pure ⟨_,rfl,wpAny_pure h⟩))) hz))
  |(rw [My];exact wpAny_bind (wpAny_bind (m:=Builtin.Tuple.tupleExact _) (wpAny_newObj_type (wpAny_pure (wpAny_pure ⟨_,rfl,wpAny_pure h⟩)) hz)))
  |(rw [My];exact wpAny_bind (wpAny_bind (m:=Builtin.Tuple.tupleExact _) (wpAny_newObj_type (wpAny_pure ⟨_,rfl,wpAny_pure h⟩) hz)))
end
section
variable {X:Cx} {E:XK} {e:Expr} {f:ME}
def Mz:D→HD→Out D:=fun x h=>match x with
 |.tup ds=>.ok (.tup ds.reverse) h
 |_=>.stuck
def MB (f:ME):ME:=fun ρ h=>(f ρ h).bind Mz
theorem DVs.rev {K:PySem.W.Frag} {m:List Addr} {H:Hp}:∀{ds:List D} {vs:List V},DVs K m H ds vs→DVs K m H ds.reverse vs.reverse
 |[],vs,r=>by
  simp only [DVs] at r
  subst r
  exact .nil
 |d::ds,vs,r=>by
  simp only [DVs] at r
  obtain ⟨v,w,rfl,rv,rw'⟩:=r
  rw [En,En]
  exact (DVs.rev rw').app (.cons rv .nil)
theorem Zas {vs:List V} {us:List Value} (r:Vals vs us):Vals vs.reverse us.reverse:=r.reverse
theorem Zat {j:Nat} {p1 p2 p3 pos:Pos} (he:Ev X E e f):Ev X E (.Subscript e (.Slice none none (some (.UnaryOp .USub (.Constant (.int 1) j p1) p2)) p3) pos) (MB f):=by
 rintro pins s σ H Q I ⟨m,ρ,h,hr,er,p⟩
 have p':tD X.K E f σ H fun v H1=>∃t xs,v=.ref t∧SqT X.K H1 t xs∧∀q,H1 q=none→Q (.ref q) (Az H1 q (.tup xs.reverse)):=⟨m,ρ,h,hr,er,Post.bind p fun x h1 v m1 H1 eo p1 k1 hr1 r1 q1=>by
  clear eo
  unfold Mz at q1
  split at q1
  ·simp only [rD,DV] at r1
   obtain ⟨t,vs,rfl,ht,dv⟩:=r1
   exact ⟨t,vs,rfl,SqT.of ht,Hu hr1 (DVs.rev dv) q1⟩
  ·exact q1.elim⟩
 refine Subscript_ (AA (he pins s σ H _ I p') fun v s1 z1_=>?_)
 obtain ⟨x,H1,I1,r1,t,xs,ex,hq,q1⟩:=z1_
 subst ex
 cases r1
 refine wpAny_Slice ?_
 rw [evalPart_none,evalPart_some]
 refine wpAny_pure (wpAny_pure ?_)
 have st:PE X (.UnaryOp .USub (.Constant (.int 1) j p1) p2) (QJ (rU fun i=>.int (-i)) (tC (.int 1))):=QK QN QC
 refine AA (st pins s1 σ H1 (fun v H3=>v=.int (-1)∧H3=H1) I1 ⟨1,rfl,rfl,rfl⟩) fun sv s3 z2_=>?_
 obtain ⟨x,H3,I3,r3,ex,eH⟩:=z2_
 subst ex eH
 obtain ⟨tk,rfl⟩:=r3
 obtain ⟨its,rv,pl,hz⟩:=I3.tuple hq
 have I4:Inv X pins σ H3 {s3 with heap:=s3.heap.push {cls:=.type "slice",data:=.fields #[.none,.none,.int (-1) tk]}}:=I3.kept (t':=s3.toks) fun b ob q=>AY _ q
 have pl4:IsTup (s3.heap.push {cls:=.type "slice",data:=.fields #[.none,.none,.int (-1) tk]}) t its.toArray:=by
  obtain ⟨o,ho,r⟩:=pl
  exact ⟨o,AY _ ho,r⟩
 have hsl:(s3.heap.push {cls:=.type "slice",data:=.fields #[.none,.none,.int (-1) tk]}).IsSliceOf s3.heap.objs.size .none .none (.int (-1) tk):=Heap.IsSliceOf.new ..
 show wpAny (model X.prog X.w) X.A (subscriptTail e (.Slice none none (some (.UnaryOp .USub (.Constant (.int 1) j p1) p2)) p3) (.ref t) (.ref s3.heap.objs.size)) (EP X pins σ Q) X.xe {s3 with heap:=s3.heap.push {cls:=.type "slice",data:=.fields #[.none,.none,.int (-1) tk]}}
 refine tail_any (ops:=[.ref t,.ref s3.heap.objs.size]) (T:="tuple") pl4.typeIs PyProof.Rows.slot_tuple_getitem.lookup (Zar (s:={s3 with heap:=s3.heap.push {cls:=.type "slice",data:=.fields #[.none,.none,.int (-1) tk]}}) pl4 hsl (by rw [←rv.length];exact hz) ?_) (by with_unfolding_all rfl)
 refine ⟨.ref _,_,I4.laid (t':=s3.toks) (o:=.tup xs.reverse) (fun b ob q=>AY _ q) (AK _) ?_,rfl,q1 _ (I4.hok.fresh (AK _))⟩
 exact ⟨by rw [List.length_reverse];exact hz,its.reverse,Zas rv,IsTup.new _ _,NoDict.new⟩
end
end LS
namespace LS
open PySem
section
variable {prog:Program} {w:World} {A:Around} {E:Value→Shared→Prop} {h:Heap} {g:Array GenState} {d:Drawn} {t:Nat} {os:OsState}
variable {nm q:Str} {C N:Addr} {bs bm bmB:List Value} {hdct:Bool} {sn:List Str} {sub:List Value} {ab:Bool} {col:Option Bool} {dd:Option Addr} {k0 k1 k2 k3 k5:Option Value} {B newId initId:String}
end
end LS
namespace LS
open PySem PySem.Spec PyProof.Rows L2
def ZhT (i j k:Nat):MG:=fun d ρ=>match d with
 |.tup [x,.tup [y,z]]=>some (((ρ.set i (some x)).set j (some y)).set k (some z))
 |_=>none
abbrev ZhU (K:PySem.W.Frag) (i j k:Nat):TG:=E4 K 2 (CJ (Cc i) (CJ (E4 K 2 (CJ (Cc j) (CJ (Cc k) FC))) FC))
def DB (elt:Expr) (gens:List Comprehension) (scope:Scope) (pos:Pos) (d:Nat) (acc:Value) (env:Env):Sem Unit:=match gens[d+1]? with
 |some g=>eval g.iter env >>=fun x=>standAt g.iter.pos >>=fun _=>foldedSetIterable g.iter env x >>=fun y=>holding [y] (pyIter y) >>=fun it=>
  runOwn (.compStart (.ListComp elt gens scope pos) (d+1) it acc env) env >>=fun _=>pure ()
 |none=>eval elt env >>=fun x=>call (.builtin "list.append") [acc,x] >>=fun _=>pure ()
theorem Zau {elt tg iter:Expr} {gens:List Comprehension} {ifs:List Expr} {scope:Scope} {pos:Pos} {d:Nat} {it acc:Value} {env:Env} (hg:gens[d]?=some ⟨tg,iter,ifs,0⟩) (ha:∀g,gens[d+1]?=some g→g.is_async=0):
 compTurn (.ListComp elt gens scope pos) d it acc env=standAt iter.pos >>=fun _=>pyNext it >>=fun r=>match r with
  |none=>pure (.done .next)
  |some v=>letOwnedTupleGo tg it v >>=fun _=>assign tg env v >>=fun _=>(forIn ifs true fun c r=>if r=true then do let ok ←isTrue c env (eval c env);pure (ForInStep.yield ok) else pure (ForInStep.yield r)) >>=fun ok=>
   if ok=true then DB elt gens scope pos d acc env >>=fun _=>again (.compLoop (.ListComp elt gens scope pos) d it acc env) else again (.compLoop (.ListComp elt gens scope pos) d it acc env):=by
 unfold compTurn DB
 simp only [hg]
 cases e:gens[d+1]? with
 |none=>rfl
 |some g=>
  obtain ⟨a,b,c,k⟩:=g
  have:k=0:=ha _ e
  subst this
  simp only [bind_assoc,pure_bind]
  rfl
section
variable {prog:Program} {w:World} {A:Around} {R:Result→Shared→Prop} {s:Shared} {elt tg iter:Expr} {gens:List Comprehension} {ifs:List Expr} {scope:Scope} {pos:Pos} {d:Nat} {it acc:Value} {env:Env}
theorem Zav (hg:gens[d]?=some ⟨tg,iter,ifs,0⟩) (ha:∀g,gens[d+1]?=some g→g.is_async=0) (I:Nat→Shared→Prop)
 (turn:∀n s,I n s→wpAny (model prog w) A (pyNext it) (fun r s₁=>match r with
  |none=>R (.ok .next) s₁
  |some v=>wpAny (model prog w) A (letOwnedTupleGo tg it v) (fun _ s₁'=>wpAny (model prog w) A (assign tg env v) (fun _ s₂=>
   wpAny (model prog w) A (forIn ifs true fun c r=>if r=true then do let ok ←isTrue c env (eval c env);pure (ForInStep.yield ok) else pure (ForInStep.yield r)) (fun ok s₃=>
    if ok=true then wpAny (model prog w) A (DB elt gens scope pos d acc env) (fun _ s₅=>∃m,m<n∧I m s₅) (fun _ _=>False) s₃ else ∃m,m<n∧I m s₃) (fun _ _=>False) s₂) (fun _ _=>False) s₁') (fun _ _=>False) s₁) (fun _ _=>False) s)
 (n:Nat) (h:I n s):codeAny (model prog w) A (.compLoop (.ListComp elt gens scope pos) d it acc env) R s:=by
 refine codeAny_loop rfl I (fun n s hI=>?_) n h
 show wpAny _ A ((compTurn (.ListComp elt gens scope pos) d it acc env).onRaise (fun x=>do noteFrame x env;theTreesLotGoes x)) _ _ s
 refine wpAny_noted ?_
 rw [Zau hg ha]
 refine wpAny_bind (wpAny_standAt (wpAny_bind (wpAny_mono (turn n s hI) (fun r s₁ h₁=>?_) fun _ _ h'=>h'.elim)))
 cases r with
 |none=>exact wpAny_pure h₁
 |some v=>
  refine wpAny_bind (wpAny_mono h₁ (fun _ s₁' h₁'=>?_) fun _ _ h'=>h'.elim)
  refine wpAny_bind (wpAny_mono h₁' (fun _ s₂ h₂=>wpAny_bind (wpAny_mono h₂ (fun ok s₃ h₃=>?_) fun _ _ h'=>h'.elim)) fun _ _ h'=>h'.elim)
  cases ok with
  |false=>exact wpAny_pure ⟨rfl,h₃⟩
  |true=>exact wpAny_bind (wpAny_mono h₃ (fun _ s₅ h₅=>wpAny_pure ⟨rfl,h₅⟩) fun _ _ h'=>h'.elim)
theorem SX (hg:gens[d]?=some ⟨tg,iter,ifs,0⟩)
 (h0:codeAny (model prog w) A (.compLoop (.ListComp elt gens scope pos) d it acc env) R s)
 (h:wpAny (model prog w) A (pyIter it) (fun it' s'=>codeAny (model prog w) A (.compLoop (.ListComp elt gens scope pos) d it' acc env) R s') (fun _ _=>False) s):
 codeAny (model prog w) A (.compStart (.ListComp elt gens scope pos) d it acc env) R s:=by
 refine codeAny_of_tree ?_
 show wpAny _ _ ((compStart (.ListComp elt gens scope pos) d it acc env).onRaise (fun x=>do noteFrame x env;standAt theWindowsPlace)) _ _ s
 refine wpAny_notedAt ?_
 have hc:(clausesOf (.ListComp elt gens scope pos))[d]?=some ⟨tg,iter,ifs,0⟩:=hg
 unfold compStart
 rw [hc]
 show wpAny _ _ (ask >>=_) _ _ s
 refine wpAny_bind (wpAny_askSetting (wpAny_ite ?_))
 split
 ·first
   |exact wpAny_bind (wpAny_pure (wpAny_pure ⟨rfl,h0⟩))
   |exact wpAny_pure ⟨rfl,h0⟩
 ·refine wpAny_bind (wpAny_rule ?_)
  show wpAny _ _ (standAt iter.pos >>=_) _ _ s
  exact wpAny_bind (wpAny_standAt (wpAny_bind (wpAny_mono h (fun it' s' h'=>wpAny_pure ⟨rfl,h'⟩) fun _ _ x=>x.elim)))
end
abbrev Dk (its:List Value) (k:Nat):Obj:={cls:=.type "list",data:=.seq its.toArray k}
structure G7 (X:Cx) (D:Addr):Prop where
 lo:D≠X.env.locals
 ce:∀x c,X.env.cells.lookup x=some c→c≠D
 pn:∀p∈X.pn,p.1≠D
 ex:D∈X.ex
 fs:D∉X.fs
section
variable {X:Cx} {D:Addr} {its its':List Value} {k k':Nat} {rest:List (Addr×Obj)} {σ:L2.St} {H:Hp} {s:Shared} {h':Heap}
theorem Inv.repin (ao:G7 X D) (I:Inv X ((D,Dk its k)::rest) σ H s) (hr:∀p∈rest,p.1≠D) (sb:Heap.SameBut D s.heap h') (e:h'.get? D=some (Dk its' k')):Inv X ((D,Dk its' k')::rest) σ H {s with heap:=h'}:=by
 have hD:=(I.pin _ (Bi _ AZ)).2.1
 have I1:Inv X rest σ H s:=I.pins_of fun p hp=>I.pin p (Bi _ (Bb _ hp))
 have I2:Inv X rest σ H {s with heap:=h'}:=I1.turned (t':=s.toks) (it:=D) (fun b o hb e=>(sb.2 b hb).trans e) hD ao.lo (.inl ao.ex) ao.ce fun p hp=>by
  rcases qaH.mp hp with z |z
  ·exact ao.pn p z
  ·exact hr p z
 refine I2.pins_of fun p hp=>?_
 rcases qa3.mp hp with rfl |z
 ·exact ⟨e,hD,ao.lo,ao.fs,fun v z=>by cases z⟩
 ·exact I2.pin p (Bi _ z)
def EM (X:Cx) (D:Addr) (em:Sem Unit) (te:L2.St→Hp→List V→(List V→Hp→Prop)→Prop):Prop:=
 ∀(rest:List (Addr×Obj)) (its:List Value) (k:Nat) (acc:List V) (σ:L2.St) (H:Hp) (s:Shared) (Q:List V→Hp→Prop),Inv X ((D,Dk its k)::rest) σ H s→(∀p∈rest,p.1≠D)→Vals acc its→te σ H acc Q→
  wpAny (model X.prog X.w) X.A em (fun _ s'=>∃its' k' acc' H',Inv X ((D,Dk its' k')::rest) σ H' s'∧Vals acc' its'∧Q acc' H') (fun _ _=>False) s
def SY (te:TE):L2.St→Hp→List V→(List V→Hp→Prop)→Prop:=fun σ H acc Q=>acc.length<sizeLine∧te σ H fun y H'=>Q (acc++[y]) H'
theorem Zaw {elt:Expr} {gens:List Comprehension} {scope:Scope} {pos:Pos} {d:Nat} {te:TE} (ao:G7 X D) (xe:X.xe=fun _ _=>False) (hl:gens[d+1]?=none) (pe:PE X elt te):EM X D (DB elt gens scope pos d (.ref D) X.env) (SY te):=by
 rintro rest its k acc σ H s Q I hr rv ⟨hz,h⟩
 unfold DB
 rw [hl]
 have z:=pe _ s σ H _ I h
 rw [xe] at z
 refine wpAny_bind (wpAny_mono z (fun y s1 z1=>?_) fun _ _ z=>z.elim)
 obtain ⟨yv,H1,I1,r1,q1⟩:=z1
 obtain ⟨ho,hD,_⟩:=I1.pin _ (Bi _ AZ)
 have hlen:=rv.length
 refine wpAny_bind (wpAny_list_append_plain ⟨k,ho⟩ (fun h' z2 sb=>?_) (by rw [Bc];omega))
 obtain ⟨k',hl'⟩:=z2
 refine wpAny_pure ⟨its++[y],k',acc++[yv],H1,Inv.repin ao I1 hr sb (by rw [hl'];simp [Dk]),rv.append (.cons r1 .nil),q1⟩
theorem Zax {o o':Obj} {H':Hp} {b:Addr} (f:Dr X ((D,o)::rest) H b) (n:H' b=none):Dr X ((D,o')::rest) H' b:=by
 obtain ⟨_,f1,f2,f3,f4,f5⟩:=f
 refine ⟨n,f1,f2,f3,f4,fun p hp=>?_⟩
 rcases qaH.mp hp with z |z
 ·exact f5 p (Cu _ z)
 ·rcases qa3.mp z with rfl |z
  ·exact f5 (D,o) (Bi _ AZ)
  ·exact f5 p (Bi _ (Bb _ z))
def SZ (wi:TI) (g:TG) (tc:TT) (te:L2.St→Hp→List V→(List V→Hp→Prop)→Prop):L2.St→Hp→List V→(List V→Hp→Prop)→Prop:=fun σ H acc Q=>wi σ H fun J H1=>∃W:Nat→Nat→List V→Hp→Prop,(∃n,W 0 n acc H1)∧∀i n acc H,W i n acc H→
 (J.stop i H∧Q acc H)∨
 (J.go i H∧∀x H',J.yld i H x H'→g x σ H' fun σ2 H2=>Sub σ σ2∧tc σ2 H2 fun b H3=>if b=true then te σ2 H3 acc fun acc' H4=>∃n',n' < n∧W (i+1) n' acc' H4 else ∃n',n' < n∧W (i+1) n' acc H3)
inductive OP (X:Cx) (D:Addr) (rest:List (Addr×Obj)) (σ:L2.St) (W:Nat→Nat→List V→Hp→Prop) (tn:Nat→Heap→Prop) (fp:List Addr) (n:Nat) (s':Shared):Prop where
 |mk (i:Nat) (acc:List V) (H':Hp) (its:List Value) (k:Nat) (w:W i n acc H') (ii:Inv X ((D,Dk its k)::rest) σ H' s') (st:tn i s'.heap) (fr:∀b∈fp,H' b=none) (rv:Vals acc its):OP X D rest σ W tn fp n s'
theorem S4 {elt tg iter:Expr} {gens:List Comprehension} {ifs:List Expr} {scope:Scope} {pos:Pos} {d:Nat} {g:TG} {tc:TT} {te:L2.St→Hp→List V→(List V→Hp→Prop)→Prop} {R:Result→Shared→Prop} {it:Addr} {fp:List Addr} {tn:Nat→Heap→Prop} {J:It} {W:Nat→Nat→List V→Hp→Prop} {QQ:List V→Hp→Prop}
 (xe:X.xe=fun _ _=>False) (xc:X.calm=true) (hg:gens[d]?=some ⟨tg,iter,ifs,0⟩) (ha:∀g,gens[d+1]?=some g→g.is_async=0) (pg:PG X tg g) (pt:Gs X ifs tc) (em:EM X D (DB elt gens scope pos d (.ref D) X.env) te)
 (T:Gj X.prog X.w X.K tg J fp it tn) (f:∀b∈fp,∀o H',H' b=none→Dr X ((D,o)::rest) H' b) (hr:∀p∈rest,p.1≠D)
 (turn:∀i n acc H,W i n acc H→(J.stop i H∧QQ acc H)∨
  (J.go i H∧∀x H',J.yld i H x H'→g x σ H' fun σ2 H2=>Sub σ σ2∧tc σ2 H2 fun b H3=>if b=true then te σ2 H3 acc fun acc' H4=>∃n',n' < n∧W (i+1) n' acc' H4 else ∃n',n' < n∧W (i+1) n' acc H3))
 (fin:∀its k acc H' s',Inv X ((D,Dk its k)::rest) σ H' s'→Vals acc its→QQ acc H'→R (.ok .next) s') (n:Nat) (h:OP X D rest σ W tn fp n s):
 codeAny (model X.prog X.w) X.A (.compLoop (.ListComp elt gens scope pos) d (.ref it) (.ref D) X.env) R s:=by
 refine Zav hg ha (OP X D rest σ W tn fp) ?_ n h
 rintro n s5 ⟨i,acc,H5,its,k,w5,I5,Fz,fr5,rv5⟩
 have fk:∀{H':Hp},(∀b∈fp,H' b=none)→∀b∈fp,Dr X ((D,Dk its k)::rest) H' b:=fun hn b hb=>f b hb _ _ (hn b hb)
 rcases turn i n acc H5 w5 with ⟨stop,qn⟩ |⟨go,step⟩
 ·refine wpAny_mono (T.done X rfl rfl rfl xc i _ s5 σ H5 (fun _ _=>False) I5 (fk fr5) Fz stop) (fun r s6 z=>?_) fun _ _ z=>z
  obtain ⟨rfl,I6⟩:=z
  exact fin its k acc H5 s6 I6 rv5 qn
 ·refine wpAny_mono (T.item X rfl rfl rfl xc i _ s5 σ H5 (fun _ _=>False) I5 (fk fr5) Fz go) (fun r s6 z=>?_) fun _ _ z=>z
  obtain ⟨u,rfl,h6⟩:=z
  refine wpAny_mono h6 (fun _ s7 z=>?_) fun _ _ z=>z
  obtain ⟨x,H7,I7,r7,y7,GF,fr7⟩:=z
  have I7':Inv X ((D,Dk its k)::(rest++GO fp s7.heap)) σ H7 s7:=I7.pinned (fp:=fp) (fk fr7) (T.obj _ _ GF)
  have hr':∀p∈rest++GO fp s7.heap,p.1≠D:=fun p hp=>by
   rcases qaH.mp hp with z |z
   ·exact hr p z
   ·obtain ⟨hb,_⟩:=QH z
    exact Ne.symm ((f p.1 hb (Dk its k) H7 (fr7 p.1 hb)).2.2.2.2.2 (D,Dk its k) (Bi _ AZ))
  have z2:=pg _ s7 σ H7 x u _ I7' r7 (step x H7 y7)
  rw [xe] at z2
  refine wpAny_mono z2 (fun _ s8 z=>?_) fun _ _ z=>z
  obtain ⟨σ8,H8,I8,sub8,q8⟩:=z
  have z3:=pt _ s8 σ8 H8 _ I8 q8
  rw [xe] at z3
  refine wpAny_mono z3 (fun ok s9 z=>?_) fun _ _ z=>z
  obtain ⟨H9,I9,q9⟩:=z
  have back:∀{sy:Shared} {Hy:Hp} {its':List Value} {k':Nat},Inv X ((D,Dk its' k')::(rest++GO fp s7.heap)) σ8 Hy sy→
   Inv X ((D,Dk its' k')::rest) σ Hy sy∧tn (i+1) sy.heap∧∀b∈fp,Hy b=none:=fun {sy Hy its' k'} Iy=>by
   have at_:∀b∈fp,∀o,s7.heap.get? b=some o→sy.heap.get? b=some o∧Hy b=none:=fun b hb o e=>by
    obtain ⟨z1,z2,_⟩:=Iy.pin (b,o) (Bi _ (Bb _ (Bi _ (JZ hb e))))
    exact ⟨z1,z2⟩
   refine ⟨(Iy.pins_of fun p hp=>Iy.pin p (Bi _ ?_)).weak sub8.1 fun j v z=>sub8.2 j v z,T.keep _ _ _ GF fun b hb o e=>(at_ b hb o e).1,fun b hb=>?_⟩
   ·rcases qa3.mp hp with rfl |z
    ·exact AZ
    ·exact Bb _ (Cu _ z)
   ·obtain ⟨o,e,_⟩:=T.obj _ _ GF b hb
    exact (at_ b hb o e).2
  cases ok with
  |false=>
   simp only [DF,if_false] at q9 ⊢
   obtain ⟨n',hn',w'⟩:=q9
   obtain ⟨a1,a2,a3⟩:=back I9
   exact ⟨n',hn',i+1,acc,H9,its,k,w',a1,a2,a3,rv5⟩
  |true=>
   simp only [if_true] at q9 ⊢
   refine wpAny_mono (em _ its k acc σ8 H9 s9 _ I9 hr' rv5 q9) (fun _ s10 z=>?_) fun _ _ z=>z
   obtain ⟨its',k',acc',H10,I10,rv10,n',hn',w'⟩:=z
   obtain ⟨a1,a2,a3⟩:=back I10
   exact ⟨n',hn',i+1,acc',H10,its',k',w',a1,a2,a3,rv10⟩
theorem Zay {elt tg iter:Expr} {gens:List Comprehension} {ifs:List Expr} {scope:Scope} {pos:Pos} {d:Nat} {wi:TI} {g:TG} {tc:TT} {te:L2.St→Hp→List V→(List V→Hp→Prop)→Prop}
 (xe:X.xe=fun _ _=>False) (xc:X.calm=true) (hg:gens[d+1]?=some ⟨tg,iter,ifs,0⟩) (ha:∀g,gens[d+1+1]?=some g→g.is_async=0) (hi:PI X tg iter wi) (pg:PG X tg g) (pt:Gs X ifs tc) (em:EM X D (DB elt gens scope pos (d+1) (.ref D) X.env) te)
 (hsf:∀x,foldedSetIterable iter X.env x=pure x):EM X D (DB elt gens scope pos d (.ref D) X.env) (SZ wi g tc te):=by
 rintro rest its k acc σ H s Q I hr rv h
 unfold DB
 rw [hg]
 have z:=hi _ s σ H _ I h
 rw [xe] at z
 refine wpAny_bind (wpAny_mono z (fun xv s1 h1=>?_) fun _ _ z=>z)
 refine wpAny_bind (wpAny_standAt (wpAny_bind (wpAny_of_eq (hsf xv) ?_)))
 refine wpAny_bind (wpAny_holding (wpAny_mono h1 (fun itv s2 h2=>?_) fun _ _ z=>z))
 obtain ⟨it,fp,tn,J,H2,e,I2,T,Cy,f2,W,⟨n0,w0⟩,turn⟩:=h2
 subst e
 refine wpAny_bind (wpAny_runOwn ?_)
 rw [Around.mark_none]
 have loop:=S4 (R:=fun r s'=>match r with |.ok f=>wpAny (model X.prog X.w) X.A (pure ()) (fun _ s'=>∃its' k' acc' H',Inv X ((D,Dk its' k')::rest) σ H' s'∧Vals acc' its'∧Q acc' H') (fun _ _=>False) s' |.error e=>cameBackBy (model X.prog X.w) X.A X.env (fun _ _=>False) e s')
  xe xc hg ha pg pt em T (fun b hb o H' hn=>Zax (f2 b hb) hn) hr turn (fun its' k' acc' H' s' I' rv' q'=>wpAny_pure ⟨its',k',acc',H',I',rv',q'⟩) n0 ⟨0,acc,H2,its,k,w0,I2,Cy,fun b hb=>(f2 b hb).1,rv⟩
 exact SX hg loop (T.self X.A 0 s2 _ _ Cy loop)
end
def MC (cs:List (Option Nat)) (wi:TI) (g:TG) (tc:TT) (te:L2.St→Hp→List V→(List V→Hp→Prop)→Prop):TE:=fun σ H Q=>wi σ H fun J H1=>∃W:Nat→Nat→List V→Hp→Prop,(∃n,W 0 n [] H1)∧∀i n acc H,W i n acc H→
 (J.stop i H∧acc.length≤sizeLine∧∀p,H p=none→Q (.ref p) (Az H p (.lst acc)))∨
 (J.go i H∧∀x H',J.yld i H x H'→g x (BU cs σ) H' fun σ2 H2=>Sub (BU cs σ) σ2∧tc σ2 H2 fun b H3=>if b=true then te σ2 H3 acc fun acc' H4=>∃n',n' < n∧W (i+1) n' acc' H4 else ∃n',n' < n∧W (i+1) n' acc H3)
section
variable {X:Cx} {elt tg iter:Expr} {ifs:List Expr} {gs:List Comprehension} {scope:Scope} {pos:Pos} {Nc:List Str} {cs:List (Option Nat)} {wi:TI} {g:TG} {tc:TT} {te:L2.St→Hp→List V→(List V→Hp→Prop)→Prop}
theorem S5 {use:Option (Value→Sem Unit)} {QQ:Value→Shared→Prop} {ppos:Pos} {pins:List (Addr×Obj)} {s:Shared} {σ:L2.St} {H:Hp} {Q:VK} (hcalm:X.calm=true) (S:FK X scope Nc cs) (hi:PI X tg iter wi) (ha:∀g,gs[0]?=some g→g.is_async=0)
 (hb:∀(C D:Addr) (cells:List (Str×Addr)) (fp:List Addr) (s₀:Shared) (H₀:Hp) (pins:List (Addr×Obj)),G7 (Bj X Nc scope C D cells fp s₀ H₀ pins) D→PG (Bj X Nc scope C D cells fp s₀ H₀ pins) tg g∧Gs (Bj X Nc scope C D cells fp s₀ H₀ pins) ifs tc∧
  EM (Bj X Nc scope C D cells fp s₀ H₀ pins) D (DB elt (⟨tg,iter,ifs,0⟩::gs) scope pos 0 (.ref D) (Bj X Nc scope C D cells fp s₀ H₀ pins).env) te)
 (hsf:∀x,foldedSetIterable iter X.env x=pure x) (I:Inv X pins σ H s) (h:MC cs wi g tc te σ H Q)
 (fin:∀(s6:Shared) (C D:Addr) (H7:Hp) (m6:Str→Option Value),s6.heap.Ns C m6→H7 C=none→X.s₀.heap.objs.size≤C→C≠X.env.locals→(∀x c,X.env.cells.lookup x=some c→c≠C)→(∀p∈X.pn++pins,p.1≠C)→
  (∀h',Heap.SameBut C s6.heap h'→Inv X pins σ H7 {s6 with heap:=h'})→Q (.ref D) H7→compPost (model X.prog X.w) X.A X.xe use QQ (.ref D) C (.ok .next) s6):
 wpAny (model X.prog X.w) X.A (comprehension (.ListComp elt (⟨tg,iter,ifs,0⟩::gs) scope pos) scope X.env ppos (newList []) false (eval iter X.env) use) QQ X.xe s:=by
 obtain ⟨cl,hclos,hcl,hcl2⟩:=RI (scope:=scope) (env:=X.env) fun y hy hf=>I.ok.has y.1 (S.free y hy hf)
 refine wpAny_comprehension_free (use:=use) rfl hsf hclos S.kind S.loc (AA (hi pins s σ H _ I h) fun xv s1 h1=>AA h1 fun itv s2 h2=>?_)
 obtain ⟨it,fp,tn,J,H2,e,I2,T,Cy,f2,W,⟨n0,w0⟩,turn⟩:=h2
 subst e
 refine wpAny_newObj_type ?_
 generalize e3:({s2 with heap:=s2.heap.push {cls:=.type "list",data:=.seq ([]:List Value).toArray}}:Shared)=s3
 refine RJ ?_
 have ob2:∀b∈fp,∃o,s2.heap.get? b=some o:=fun b hb=>let ⟨o,e,_⟩:=T.obj _ _ Cy b hb;⟨o,e⟩
 have I4:=RM (fp:=fp) (cl:=cl) S I2 f2 ob2 hcl hcl2 e3.symm
 generalize e4:({s3 with heap:=pushCells (s3.heap.push {cls:=.type "dict",data:=.dict #[]}) scope.names}:Shared)=s4 at I4
 generalize ecl:cellsFrom (s3.heap.objs.size+1) scope.names cl=cells at I4
 have okc:=I4.ok
 have k3:∀b o,s2.heap.get? b=some o→s3.heap.get? b=some o:=fun b o e=>by subst e3;exact AY _ e
 have Kl:s3.heap.objs.size=s2.heap.objs.size+1:=by subst e3;exact Dq ..
 have k34:∀b o,s3.heap.get? b=some o→s4.heap.get? b=some o:=fun b o e=>by subst e4;exact pushCells_keeps _ _ b o (AY _ e)
 have hDfp:s2.heap.objs.size∉fp:=fun hm=>by
  obtain ⟨o,e⟩:=ob2 _ hm
  exact absurd (AS e) (Eo _)
 have hDex:s2.heap.objs.size∈(Bj X Nc scope s3.heap.objs.size s2.heap.objs.size cells fp s3 H2 pins).ex:=AZ
 have ao:G7 (Bj X Nc scope s3.heap.objs.size s2.heap.objs.size cells fp s3 H2 pins) s2.heap.objs.size:=
  ⟨show s2.heap.objs.size≠s3.heap.objs.size from BM (by omega),fun x c e=>(okc.exf _ hDex).2 x c e,fun p hp=>BM (AS (I2.pin p hp).1),hDex,okc.exfs _ hDex⟩
 obtain ⟨pg,pt,em⟩:=hb s3.heap.objs.size s2.heap.objs.size cells fp s3 H2 pins ao
 have hD4:s4.heap.get? s2.heap.objs.size=some (Dk [] 0):=by
  refine k34 _ _ ?_
  subst e3
  exact BR _ rfl
 have fC:∀b∈fp,∀(o:Obj) (H':Hp),H' b=none→Dr (Bj X Nc scope s3.heap.objs.size s2.heap.objs.size cells fp s3 H2 pins) ((s2.heap.objs.size,o)::[]) H' b:=fun b hb o H' hn=>by
  have hbx:b∈(Bj X Nc scope s3.heap.objs.size s2.heap.objs.size cells fp s3 H2 pins).ex:=Bb _ hb
  refine ⟨hn,(okc.exf b hbx).1,okc.exfs b hbx,.inl hbx,(okc.exf b hbx).2,fun p hpp=>?_⟩
  rcases qaH.mp hpp with z |z
  ·exact (f2 b hb).2.2.2.2.2 p z
  ·rw [qa7] at z
   subst z
   intro e
   exact hDfp ((show s2.heap.objs.size=b from e) ▸ hb)
 have I4':Inv (Bj X Nc scope s3.heap.objs.size s2.heap.objs.size cells fp s3 H2 pins) ((s2.heap.objs.size,Dk [] 0)::[]) (BU cs σ) H2 s4:=I4.pins_of fun p hp=>by
  rw [qa7] at hp
  subst hp
  exact ⟨hD4,I2.hok.fresh (AK _),ao.lo,ao.fs,fun v z=>by cases z⟩
 have Nj:tn 0 s4.heap:=T.keep _ _ _ Cy fun b hb o e=>k34 b o (k3 b o e)
 have loop:=S4 (X:=Bj X Nc scope s3.heap.objs.size s2.heap.objs.size cells fp s3 H2 pins) (QQ:=fun acc H5=>acc.length≤sizeLine∧∀p,H5 p=none→Q (.ref p) (Az H5 p (.lst acc)))
  (R:=compPost (model X.prog X.w) X.A X.xe use QQ (.ref s2.heap.objs.size) s3.heap.objs.size) rfl hcalm (d:=0) (gens:=⟨tg,iter,ifs,0⟩::gs) rfl ha pg pt em T fC (fun p hp=>(nomatch hp)) turn (fun its k acc H5 s6 I6 rv5 qn=>?_) n0
   ⟨0,[],H2,[],0,w0,I4',Nj,fun b hb=>(f2 b hb).1,.nil⟩
 ·exact SX (d:=0) rfl loop (T.self X.A 0 s4 _ _ Nj loop)
 ·obtain ⟨m6,hn6,_⟩:=I6.loc
  obtain ⟨ho6,hD6,_⟩:=I6.pin _ (Bi _ AZ)
  have lt2:∀b,b<s2.heap.objs.size→b≠s3.heap.objs.size:=fun b hb=>BM (Bp hb (by omega))
  refine fin s6 s3.heap.objs.size s2.heap.objs.size (Az H5 s2.heap.objs.size (.lst acc)) m6 hn6 ?_ (B8 I2.sz (by omega)) ?_ ?_ ?_ ?_ (qn.2 _ hD6)
  ·rw [AJ (Jy (by omega))]
   exact I6.free
  ·obtain ⟨m2,hn2,_⟩:=I2.loc
   exact Ne.symm (lt2 _ hn2.lt)
  ·intro x c hx
   obtain ⟨v,hv⟩:=I2.cell x c hx
   obtain ⟨o,ho,_⟩:=hv
   exact lt2 _ (AS ho)
  ·intro p hp
   exact lt2 _ (AS (I2.pin p hp).1)
  ·intro h' sb
   exact RN I2 f2 e3.symm rfl I6 hD6 qn.1 rv5 ho6 sb
theorem Zaz (hcalm:X.calm=true) (S:FK X scope Nc cs) (hi:PI X tg iter wi) (ha:∀g,gs[0]?=some g→g.is_async=0)
 (hb:∀(C D:Addr) (cells:List (Str×Addr)) (fp:List Addr) (s₀:Shared) (H₀:Hp) (pins:List (Addr×Obj)),G7 (Bj X Nc scope C D cells fp s₀ H₀ pins) D→PG (Bj X Nc scope C D cells fp s₀ H₀ pins) tg g∧Gs (Bj X Nc scope C D cells fp s₀ H₀ pins) ifs tc∧
  EM (Bj X Nc scope C D cells fp s₀ H₀ pins) D (DB elt (⟨tg,iter,ifs,0⟩::gs) scope pos 0 (.ref D) (Bj X Nc scope C D cells fp s₀ H₀ pins).env) te)
 (hsf:∀x,foldedSetIterable iter X.env x=pure x:=by intro _;rfl):PE X (.ListComp elt (⟨tg,iter,ifs,0⟩::gs) scope pos) (MC cs wi g tc te):=by
 intro pins s σ H Q I h
 rw [eval_ListComp]
 exact S5 (use:=none) hcalm S hi ha hb hsf I h fun s6 C D H7 m6 hn _ _ _ _ _ inv q=>⟨m6,hn,fun h' sb=>⟨.ref D,H7,inv h' sb,rfl,q⟩⟩
end
abbrev DM:=Ai→HD→List D→Out (List D)
abbrev S6:=L2.St→Hp→List V→(List V→Hp→Prop)→Prop
def Frs (js:List Nat) (σ:L2.St):Prop:=∀j∈js,σ[j]?=some none
def G8 (K:PySem.W.Frag) (is js:List Nat) (gg:TG) (sg:MG):Prop:=
 ∀m H d v ρ σ ρ' Q,DV K m H d v→ER K m H ρ σ→Frs (is++js) σ→sg d ρ=some ρ'→(∀σ',Sub σ σ'→Frs js σ'→ER K m H ρ' σ'→Q σ' H)→gg v σ H Q
theorem OQ {σ σ':L2.St} {i:Nat} {v:V} (h:σ[i]?=some none) (s:Sub σ σ'):Sub σ (σ'.set i (some v)):=by
 refine ⟨by rw [s.1];simp,fun j w e=>?_⟩
 have hj:i≠j:=by
  rintro rfl
  rw [h] at e
  cases e
 rw [CI hj]
 exact s.2 j w e
theorem Frs.set {js:List Nat} {σ:L2.St} {i:Nat} {v:Option V} (h:Frs js σ) (n:i∉js):Frs js (σ.set i v):=fun j hj=>by
 have hn:i≠j:=by
  rintro rfl
  exact n hj
 rw [CI hn]
 exact h j hj
theorem S7 {K:PySem.W.Frag} {i:Nat} {js:List Nat} (n:i∉js):G8 K [i] js (Cc i) (Bd i):=fun m H d v ρ σ ρ' Q r er f e q=>by
 simp only [Bd,Option.some.injEq] at e
 subst e
 exact q _ (OQ (f i AZ) (.refl _)) (Frs.set (fun j hj=>f j (Bb _ hj)) n) (er.set r)
theorem S8 {K:PySem.W.Frag} {i j:Nat} {js:List Nat} (n:i∉js) (n':j∉js):G8 K [i,j] js (E4 K 2 (CJ (Cc i) (CJ (Cc j) FC))) (Ci i j):=fun m H d v ρ σ ρ' Q r er f e q=>by
 unfold Ci at e
 split at e
 ·rename_i a b
  cases e
  simp only [DV,DVs] at r
  obtain ⟨p,vs,rfl,hp,v1,w1,rfl,r1,v2,w2,rfl,r2,rfl⟩:=r
  refine ⟨p,_,rfl,SqT.of hp,rfl,v1,_,rfl,v2,_,rfl,rfl,q _ (OQ (f j (by simp)) (OQ (f i (by simp)) (.refl _))) (Frs.set (Frs.set (fun k hk=>f k (by simp [hk])) n) n') ((er.set r1).set r2)⟩
 ·cases e
noncomputable def Gz (f:ME):DM:=fun ρ h acc=>if acc.length<sizeLine then (noErr (f ρ h)).bind fun y h2=>.ok (acc++[y]) h2 else .stuck
open Classical in
noncomputable def EV (src:Bm) (items:List D) (sg:MG) (t:MT) (e:DM) (ρ:Ai):List D→HD→List D→Out (List D)
 |[],h,acc=>if Bq src items h then .ok acc h else .stuck
 |d::ds,h,acc=>if Bq src items h then match sg d ρ with
   |none=>.stuck
   |some ρ1=>(noErr (t ρ1 h)).bind fun b h1=>if b=true then (noErr (e ρ1 h1 acc)).bind fun acc2 h2=>EV src items sg t e ρ ds h2 acc2 else EV src items sg t e ρ ds h1 acc
  else .stuck
noncomputable def G9 (it:MI) (sg:MG) (t:MT) (e:DM):DM:=fun ρ h acc=>(noErr (it ρ h)).bind fun x h1=>EV x.2 x.1 sg t e ρ x.1 h1 acc
noncomputable def Ff (cs:List (Option Nat)) (it:MI) (sg:MG) (t:MT) (e:DM):ME:=fun ρ h=>(it ρ h).bind fun x h1=>(EV x.2 x.1 sg t e (Cp cs ρ) x.1 h1 []).bind Du
def EW (K:PySem.W.Frag) (js:List Nat) (e:DM):S6:=fun σ H acc Q=>∃m ρ h dacc,HR K m h H∧ER K m H ρ σ∧DVs K m H dacc acc∧Frs js σ∧Post K (Ez K) m H E0 Q (e ρ h dacc)
theorem EM.imp {X:Cx} {D:Addr} {em:Sem Unit} {te te':S6} (h:EM X D em te) (f:∀σ H acc Q,te' σ H acc Q→te σ H acc Q):EM X D em te':=
 fun rest its k acc σ H s Q I hr rv z=>h rest its k acc σ H s Q I hr rv (f _ _ _ _ z)
theorem ZaA {K:PySem.W.Frag} {js:List Nat} {f:ME} (σ:L2.St) (H:Hp) (acc:List V) (Q:List V→Hp→Prop):EW K js (Gz f) σ H acc Q→SY (tD K E0 f) σ H acc Q:=by
 rintro ⟨m,ρ,h,dacc,hr,er,da,_,p⟩
 unfold Gz at p
 split at p
 ·rename_i hz
  refine ⟨by rw [←DVs.len da];exact hz,m,ρ,h,hr,er,Jz p fun y h1 v m1 H1 _ p1 k1 hr1 r1 q1=>?_⟩
  exact q1 _ m1 H1 (AC _) (.refl _) hr1 ((DVs.keep p1 k1 da).app (.cons r1 .nil))
 ·exact p.elim
inductive S9 {β:Type} (K:PySem.W.Frag) (E:XK) (α:Type) (R:List Addr→Hp→α→β→Prop) (Q:β→Hp→Prop) (kk:List D→HD→Out α) (src:Bm) (items:List D) (sg:MG) (t:MT) (e:DM) (ρ:Ai) (m1:List Addr) (H1:Hp) (i n:Nat) (acc:List V) (H2:Hp):Prop where
 |mk (en:n=items.length - i) (l:i≤items.length) (m2:List Addr) (h2:HD) (dacc:List D) (p:m1 <+:m2) (k:Kp H1 H2) (hr:HR K m2 h2 H2) (da:DVs K m2 H2 dacc acc) (q:Post K R m2 H2 E Q ((EV src items sg t e ρ (items.drop i) h2 dacc).bind kk)):S9 K E α R Q kk src items sg t e ρ m1 H1 i n acc H2
theorem Ta {K:PySem.W.Frag} {E:XK} {α β:Type} {R:List Addr→Hp→α→β→Prop} {Q:β→Hp→Prop} {kk:List D→HD→Out α} {is js:List Nat} {gg:TG} {sg:MG} {t:MT} {e:DM} {src:Bm} {items:List D} {J:It} {ρ:Ai} {σ:L2.St} {m1:List Addr} {h1:HD} {H1:Hp} {dacc:List D} {acc:List V} {QQ:List V→Hp→Prop}
 (hg:G8 K is js gg sg) (fr:Frs (is++js) σ) (er:ER K m1 H1 ρ σ) (r1:GV K m1 H1 (items,src) J) (hr1:HR K m1 h1 H1) (da:DVs K m1 H1 dacc acc) (q:Post K R m1 H1 E Q ((EV src items sg t e ρ items h1 dacc).bind kk))
 (fin:∀m h H dacc acc,m1 <+:m→Kp H1 H→HR K m h H→DVs K m H dacc acc→Post K R m H E Q (kk dacc h)→QQ acc H):
 ∃W:Nat→Nat→List V→Hp→Prop,(∃n,W 0 n acc H1)∧∀i n acc H,W i n acc H→(J.stop i H∧QQ acc H)∨
  (J.go i H∧∀x H',J.yld i H x H'→gg x σ H' fun σ2 H2=>Sub σ σ2∧E8 K E0 t σ2 H2 fun b H3=>if b=true then EW K js e σ2 H3 acc fun acc' H4=>∃n',n' < n∧W (i+1) n' acc' H4 else ∃n',n' < n∧W (i+1) n' acc H3):=by
 refine ⟨S9 K E α R Q kk src items sg t e ρ m1 H1,⟨items.length,rfl,Ep _,m1,h1,dacc,AC _,.refl _,hr1,da,q⟩,?_⟩
 rintro i n acc H2 ⟨rfl,hi',m2,h2,dacc,p2,k2,hr2,da,q2⟩
 by_cases hlt:i<items.length
 ·rw [Ll hlt] at q2
  unfold EV at q2
  split at q2
  ·rename_i hs
   obtain ⟨hgo,hy⟩:=(r1 i m2 h2 H2 p2 k2 hr2 hs).1 hlt
   refine .inr ⟨hgo,fun y H3 hyl=>?_⟩
   obtain ⟨k3,hr3,d,ed,rd⟩:=hy y H3 hyl
   have ed':d=items[i]:=by rw [Bh hlt] at ed;exact (Option.some.inj ed).symm
   subst ed'
   split at q2
   ·exact q2.elim
   ·rename_i ρ3 es
    refine hg m2 H3 _ y ρ σ ρ3 _ rd (er.keep p2 (k2.trans k3)) fr es fun σ4 sub4 fr4 er4=>⟨sub4,m2,ρ3,h2,hr3,er4,?_⟩
    rw [Out.bind_assoc] at q2
    refine Jz (Post.ahead (AC _) k3 q2) fun b h5 v m5 H5 _ p5 k5 hr5 r5 q5=>?_
    cases r5
    cases b with
    |false=>
     simp only [DF,if_false] at q5 ⊢
     exact ⟨items.length - (i+1),by omega,rfl,hlt,m5,h5,dacc,p2.trans p5,(k2.trans k3).trans k5,hr5,DVs.keep p5 (k3.trans k5) da,q5⟩
    |true=>
     simp only [if_true] at q5 ⊢
     rw [Out.bind_assoc] at q5
     refine ⟨m5,ρ3,h5,dacc,hr5,er4.keep p5 k5,DVs.keep p5 (k3.trans k5) da,fr4,Jz q5 fun z h6 w m6 H6 _ p6 k6 hr6 r6 q6=>?_⟩
     exact ⟨items.length - (i+1),by omega,rfl,hlt,m6,h6,z,(p2.trans p5).trans p6,((k2.trans k3).trans k5).trans k6,hr6,r6,q6⟩
  ·exact q2.elim
 ·have he:i=items.length:=Nat.le_antisymm hi' (Je hlt)
  subst he
  rw [List.drop_length] at q2
  unfold EV at q2
  split at q2
  ·rename_i hs
   exact .inl ⟨(r1 _ m2 h2 H2 p2 k2 hr2 hs).2 rfl,fin m2 h2 H2 dacc acc p2 k2 hr2 da q2⟩
  ·exact q2.elim
theorem ZaB {K:PySem.W.Frag} {is js:List Nat} {it:MI} {gg:TG} {sg:MG} {t:MT} {e:DM} (hg:G8 K is js gg sg) (σ:L2.St) (H:Hp) (acc:List V) (Q:List V→Hp→Prop):EW K (is++js) (G9 it sg t e) σ H acc Q→SZ (tM K (GV K) E0 it) gg (E8 K E0 t) (EW K js e) σ H acc Q:=by
 rintro ⟨m,ρ,h,dacc,hr,er,da,fr,p⟩
 unfold G9 at p
 refine ⟨m,ρ,h,hr,er,Jz p fun x h1 J m1 H1 _ p1 k1 hr1 r1 q1=>?_⟩
 refine Ta (E:=E0) (kk:=fun a h=>.ok a h) hg fr (er.keep p1 k1) r1 hr1 (DVs.keep p1 k1 da) ?_ fun m2 h2 H2 dacc2 acc2 p2 k2 hr2 da2 q2=>q2 _ m2 H2 (AC _) (.refl _) hr2 da2
 have:∀o:Out (List D),(o.bind fun a h=>.ok a h)=o:=fun o=>by cases o<;>rfl
 rw [this]
 exact q1
section
variable {X:Cx} {E:XK} {D:Addr} {elt tg iter:Expr} {ifs:List Expr} {gs gens:List Comprehension} {scope:Scope} {pos:Pos} {Nc:List Str} {cs:List (Option Nat)} {it:MI} {gg:TG} {sg:MG} {t:MT} {f:ME} {e:DM} {d:Nat} {is js:List Nat}
theorem Tb (ao:G7 X D) (xe:X.xe=fun _ _=>False) (hl:gens[d+1]?=none) (pe:Ev X E0 elt f):EM X D (DB elt gens scope pos d (.ref D) X.env) (EW X.K js (Gz f)):=(Zaw ao xe hl pe).imp ZaA
theorem Tc (xe:X.xe=fun _ _=>False) (xc:X.calm=true) (hg:gens[d+1]?=some ⟨tg,iter,ifs,0⟩) (ha:∀g,gens[d+1+1]?=some g→g.is_async=0) (hi:EF X E0 tg iter it) (pg:PG X tg gg) (gk:G8 X.K is js gg sg) (pt:HB X E0 ifs t) (em:EM X D (DB elt gens scope pos (d+1) (.ref D) X.env) (EW X.K js e))
 (hsf:∀x,foldedSetIterable iter X.env x=pure x:=by intro _;rfl):EM X D (DB elt gens scope pos d (.ref D) X.env) (EW X.K (is++js) (G9 it sg t e)):=(Zay xe xc hg ha hi pg pt em hsf).imp (ZaB gk)
theorem Td (hc:∀j∈is++js,cs[j]?=some none) (hg:G8 X.K is js gg sg):∀σ H Q,tD X.K E (Ff cs it sg t e) σ H Q→MC cs (tM X.K (GV X.K) E it) gg (E8 X.K E0 t) (EW X.K js e) σ H Q:=by
 rintro σ H Q ⟨m,ρ,h,hr,er,p⟩
 refine ⟨m,ρ,h,hr,er,Post.bind p fun x h1 J m1 H1 _ p1 k1 hr1 r1 q1=>?_⟩
 exact Ta (QQ:=fun acc H=>acc.length≤sizeLine∧∀p,H p=none→Q (.ref p) (Az H p (.lst acc))) hg (fun j hj=>by unfold BU;rw [DG,hc j hj];rfl) ((er.keep p1 k1).comp cs) r1 hr1 .nil q1 fun m2 h2 H2 dacc2 acc2 p2 k2 hr2 da2 q2=>J6 (X:=X) hr2 da2 q2
theorem ZaC (hcalm:X.calm=true) (S:FK X scope Nc cs) (hi:EF X E tg iter it) (ha:∀g,gs[0]?=some g→g.is_async=0) (hc:∀j∈is++js,cs[j]?=some none) (hg:G8 X.K is js gg sg)
 (hb:∀(C D:Addr) (cells:List (Str×Addr)) (fp:List Addr) (s₀:Shared) (H₀:Hp) (pins:List (Addr×Obj)),G7 (Bj X Nc scope C D cells fp s₀ H₀ pins) D→PG (Bj X Nc scope C D cells fp s₀ H₀ pins) tg gg∧HB (Bj X Nc scope C D cells fp s₀ H₀ pins) E0 ifs t∧
  EM (Bj X Nc scope C D cells fp s₀ H₀ pins) D (DB elt (⟨tg,iter,ifs,0⟩::gs) scope pos 0 (.ref D) (Bj X Nc scope C D cells fp s₀ H₀ pins).env) (EW X.K js e))
 (hsf:∀x,foldedSetIterable iter X.env x=pure x:=by intro _;rfl):Ev X E (.ListComp elt (⟨tg,iter,ifs,0⟩::gs) scope pos) (Ff cs it sg t e):=
 Cd (Zaz (g:=gg) (tc:=E8 X.K E0 t) (te:=EW X.K js e) hcalm S hi ha hb hsf) (Td hc hg)
end
theorem OR {α:Type} {src:Bm} {items:List D} {sg:MG} {t:MT} {e:DM} {ρ:Ai} (φ:α→D) (g:α→Bool) (es:α→List D) (ρ1:α→Ai):
 ∀(xs:List α) (h:HD) (acc:List D),(∀h',Sm h h'→Bq src items h')→(∀x∈xs,sg (φ x) ρ=some (ρ1 x))→(∀x∈xs,∀h',Sm h h'→Pu (t (ρ1 x) h') h' (g x))→(∀x∈xs,g x=true→∀h' acc,Sm h h'→acc.length+(es x).length≤sizeLine→Pu (e (ρ1 x) h' acc) h' (acc++es x))→
  acc.length+((xs.filter g).flatMap es).length≤sizeLine→Pu (EV src items sg t e ρ (xs.map φ) h acc) h (acc++(xs.filter g).flatMap es)
 |[],h,acc,hs,_,_,_,_=>by
  simp only [Hq,List.filter_nil,EV]
  rw [if_pos (hs h (.refl _))]
  simpa using (.ok:Pu (.ok acc h) h acc)
 |x::xs,h,acc,hs,hg,ht,hf,hz=>by
  simp only [Br,EV]
  rw [if_pos (hs h (.refl _)),hg x AZ]
  simp only
  refine Pu.bind (ht x AZ h (.refl _)).noErr fun h1 s1=>?_
  have ih:∀h2 acc,Sm h h2→acc.length+((xs.filter g).flatMap es).length≤sizeLine→Pu (EV src items sg t e ρ (xs.map φ) h2 acc) h2 (acc++(xs.filter g).flatMap es):=fun h2 acc s2 z2=>OR φ g es ρ1 xs h2 acc (fun h' s'=>hs h' (s2.trans s'))
   (fun y hy=>hg y (Bb _ hy)) (fun y hy h' s'=>ht y (Bb _ hy) h' (s2.trans s')) (fun y hy gy h' a s' z'=>hf y (Bb _ hy) gy h' a (s2.trans s') z') z2
  cases hgx:g x with
  |false=>
   rw [Nk (by simp [hgx])] at hz ⊢
   rw [if_neg BF]
   exact ih h1 acc s1 hz
  |true=>
   rw [Nl hgx,GI] at hz ⊢
   rw [D5] at hz
   rw [if_pos rfl]
   refine Pu.bind (hf x AZ hgx h1 acc s1 (by omega)).noErr fun h2 s2=>?_
   have:=ih h2 (acc++es x) (s1.trans s2) (by rw [D5];omega)
   rwa [CO] at this
theorem ZaD {f:ME} {ρ:Ai} {h:HD} {acc:List D} {y:D} (hf:Pu (f ρ h) h y) (hz:acc.length+1≤sizeLine):Pu (Gz f ρ h acc) h (acc++[y]):=by
 unfold Gz
 rw [if_pos (by omega)]
 exact Pu.bind hf.noErr fun h2 s2=>.ok
theorem OT {α β:Type} {y:α→β}:∀{xs:List α},xs.flatMap (fun x=>[y x])=xs.map y
 |[]=>rfl
 |x::xs=>by rw [GI,OT,Br];rfl
section
variable {α β:Type} {cs:List (Option Nat)} {it:MI} {sg:MG} {t:MT} {f:ME} {e:DM} {ρ:Ai} {h:HD} {src:Bm} {xs:List α} {φ:α→D} {acc:List D}
theorem ZaE (g:α→Bool) (es:α→List D) (ρ1:α→Ai) (hi:By (it ρ h) h (xs.map φ) src) (hg:∀x∈xs,sg (φ x) ρ=some (ρ1 x)) (ht:∀x∈xs,∀h',Sm h h'→Pu (t (ρ1 x) h') h' (g x)) (hf:∀x∈xs,g x=true→∀h' acc,Sm h h'→acc.length+(es x).length≤sizeLine→Pu (e (ρ1 x) h' acc) h' (acc++es x))
 (hz:acc.length+((xs.filter g).flatMap es).length≤sizeLine):Pu (G9 it sg t e ρ h acc) h (acc++(xs.filter g).flatMap es):=by
 unfold G9 Pu
 have:Wp (noErr (it ρ h)) fun x h'=>x=(xs.map φ,src)∧Sm h h'∧∀h2,Sm h' h2→Bq src (xs.map φ) h2:=by
  unfold By at hi
  cases eo:it ρ h with
  |ok a h1=>rw [eo] at hi;exact hi
  |err C fs h1=>rw [eo] at hi;exact hi
  |stuck=>rw [eo] at hi;exact hi
 rw [AB]
 refine Wp.mono this fun x h1 z=>?_
 obtain ⟨rfl,s1,hs⟩:=z
 exact (OR φ g es ρ1 xs h1 acc hs hg (fun x hx h' s'=>ht x hx h' (s1.trans s')) (fun x hx gx h' a s' z'=>hf x hx gx h' a (s1.trans s') z') hz).wp fun h2 s2=>⟨rfl,s1.trans s2⟩
theorem Te (y:α→D) (ρ1:α→Ai) (hi:By (it ρ h) h (xs.map φ) src) (hg:∀x∈xs,sg (φ x) ρ=some (ρ1 x)) (hf:∀x∈xs,∀h',Sm h h'→Pu (f (ρ1 x) h') h' (y x)) (hz:acc.length+(xs.map y).length≤sizeLine):
 Pu (G9 it sg A4 (Gz f) ρ h acc) h (acc++xs.map y):=by
 have:=ZaE (t:=A4) (e:=Gz f) (acc:=acc) (fun _=>true) (fun x=>[y x]) ρ1 hi hg (fun x hx h' s'=>(.ok:Pu (.ok true h') h' true)) (fun x hx _ h' acc s' z'=>ZaD (hf x hx h' s') z') (by rw [DY,OT];exact hz)
 rwa [DY,OT] at this
theorem Tf {Q:D→HD→Prop} (g:α→Bool) (es:α→List D) (ρ1:α→Ai) (hi:By (it ρ h) h (xs.map φ) src) (hg:∀x∈xs,sg (φ x) (Cp cs ρ)=some (ρ1 x)) (ht:∀x∈xs,∀h',Sm h h'→Pu (t (ρ1 x) h') h' (g x)) (hf:∀x∈xs,g x=true→∀h' acc,Sm h h'→acc.length+(es x).length≤sizeLine→Pu (e (ρ1 x) h' acc) h' (acc++es x))
 (hz:((xs.filter g).flatMap es).length≤sizeLine) (q:∀l h',Sm h h'→h'[l]?=some (.lst ((xs.filter g).flatMap es))→Q (.loc l) h'):Wp (Ff cs it sg t e ρ h) Q:=by
 unfold Ff
 rw [AB]
 refine Wp.mono hi fun x h1 z=>?_
 obtain ⟨rfl,s1,hs⟩:=z
 rw [AB]
 refine (OR φ g es ρ1 xs h1 [] hs hg (fun x hx h' s'=>ht x hx h' (s1.trans s')) (fun x hx gx h' a s' z'=>hf x hx gx h' a (s1.trans s') z') (by simpa using hz)).wp fun h2 s2=>?_
 rw [GJ]
 exact Dz hz fun l h3 s3 e3 _ _=>q l h3 ((s1.trans s2).trans s3) e3
noncomputable def OU (cs:List (Option Nat)) (it:MI) (sg:MG) (t:MT) (e:DM):ME:=Af (Au BL) (Ab (Ff cs it sg t e) Ae)
noncomputable def ZaF (cs:List (Option Nat)) (it:MI) (sg:MG) (t:MT) (e:DM):ME:=Af (Au DJ) (Ab (Ff cs it sg t e) Ae)
@[simp] theorem ZhV:Af (Au BL) (Ab (Ff cs it sg t e) Ae) ρ h=OU cs it sg t e ρ h:=rfl
@[simp] theorem ZhW:Af (Au DJ) (Ab (Ff cs it sg t e) Ae) ρ h=ZaF cs it sg t e ρ h:=rfl
theorem ZaG (es:α→List D) (ρ1:α→Ai) (hi:By (it ρ h) h (xs.map φ) src) (hg:∀x∈xs,sg (φ x) (Cp cs ρ)=some (ρ1 x)) (hf:∀x∈xs,∀h' acc,Sm h h'→acc.length+(es x).length≤sizeLine→Pu (e (ρ1 x) h' acc) h' (acc++es x))
 (hz:(xs.flatMap es).length≤sizeLine):Pu (OU cs it sg A4 e ρ h) h (.tup (xs.flatMap es)):=by
 unfold OU Pu
 rw [GX,GY]
 refine Tf (fun _=>true) es ρ1 hi hg (fun x hx h' s'=>(.ok:Pu (.ok true h') h' true)) (fun x hx _ h' a s' z'=>hf x hx h' a s' z') (by rw [DY];exact hz) fun l h' s' e'=>?_
 rw [Gw]
 rw [DY] at e'
 simp only [Au,BL,e']
 exact ⟨rfl,s'⟩
end
end LS
namespace LS
open PySem
inductive TlN (h:Heap) (ns:List Str) (bB:List Value):List Value→Prop
 |base:TlN h ns bB bB
 |own {a:Addr} {c0:Value} {dd:Option Addr} {cd:ClassData} {sl:Array (Option Value)} {m:Str→Option Value} {tl:List Value} (ha:h.get? a=some {cls:=c0,dict:=dd,data:=.cls cd,slots:=sl}) (hm:h.Ns cd.ns m) (no:∀n∈ns,m n=none) (r:TlN h ns bB tl):TlN h ns bB (.ref a::tl)
theorem TlN.keeps {h h':Heap} {ns:List Str} {bB tl:List Value} (T:TlN h ns bB tl) (k:∀b o,h.get? b=some o→h'.get? b=some o):TlN h' ns bB tl:=by
 induction T with
 |base=>exact .base
 |own ha hm no _ ih=>exact .own (k _ _ ha) (hm.keeps k) no ih
theorem TlN.has {h:Heap} {ns:List Str} {bB tl:List Value} {v:Value} (T:TlN h ns bB tl) (hv:bB.contains v=true):tl.contains v=true:=by
 induction T with
 |base=>exact hv
 |own ha hm no _ ih=>rw [List.contains_cons,ih,Bool.or_true]
section
variable {M:Model} {A:Around} {E:Value→Shared→Prop} {h:Heap} {g:Array GenState} {d:Drawn} {t:Nat} {os:OsState}
theorem TlN.look {ns:List Str} {bB tl:List Value} {n:Str} {y:Option Value} {Q:Option Value→Shared→Prop} (T:TlN h ns bB tl) (hn:n∈ns) (e:lookupAlong bB n=pure y) (q:Q y ⟨h,g,d,t,os⟩):wpAny M A (lookupAlong tl n) Q E ⟨h,g,d,t,os⟩:=by
 induction T with
 |base=>rw [e];exact wpAny_pure q
 |own ha hm no _ ih=>
  rw [lookupAlong_cons];refine wpAny_bind (wpAny_classOwn_cls ha hm ?_);rw [no n hn]
  exact ih
variable {nm q:Str} {C N x:Addr} {bs bm bB:List Value} {hd:Bool} {sn:List Str} {sub:List Value} {ab:Bool} {col:Option Bool} {dd:Option Addr} {k0 k1 k2 k3 k5:Option Value} {B newId sa owner:String} {ns:List Str} {mN mA:Str→Option Value} {name:Str} {v:Value}
end
section
variable {prog:Program} {w:World} {A:Around} {E:Value→Shared→Prop} {h:Heap} {g:Array GenState} {d:Drawn} {t:Nat} {os:OsState}
variable {nm q:Str} {C N x:Addr} {bs bm bB:List Value} {sn:List Str} {sub:List Value} {ab:Bool} {col:Option Bool} {dd:Option Addr} {k0 k1 k2 k3 k5:Option Value} {B newId sa owner:String} {ns:List Str} {mN mA:Str→Option Value} {name:Str} {v:Value}
structure ZhX (h h':Heap) (x C:Addr) (name:Str) (v:Value) (mA:Str→Option Value):Prop where
 inst:h'.Inst x C (fun y=>if y=name then some v else mA y)
 keep:∀b o,b≠x→(∀o0 dx,h.get? x=some o0→o0.dict=some dx→b≠dx)→h.get? b=some o→h'.get? b=some o
 new:∀o0,h.get? x=some o0→o0.dict=none→∃o1,h'.get? x=some o1∧o1.dict=some h.objs.size
 same:∀o0,h.get? x=some o0→∃o1,h'.get? x=some o1∧o1.cls=o0.cls∧o1.data=o0.data∧o1.slots=o0.slots∧∀dx,o0.dict=some dx→o1.dict=some dx
end
section
variable {prog:Program} {w:World} {A:Around} {E:Value→Shared→Prop} {h:Heap} {g:Array GenState} {d:Drawn} {t:Nat} {os:OsState}
variable {nm q:Str} {C N x:Addr} {bs bm bB:List Value} {sn:List Str} {sub:List Value} {ab:Bool} {col:Option Bool} {dd:Option Addr} {k0 k1 k2 k3 k5:Option Value} {B newId:String} {ns:List Str} {mN mA:Str→Option Value} {name:Str} {v:Value}
end
end LS
namespace LS
open PySem PySem.Spec PyProof.Rows L2
def tmNames:List Str:=["__init__","__setattr__","__getattribute__","__getattr__","many","most"]
def Tg (K:PySem.W.Frag) (ns:List Str) (bB:List Value):List Value→Bool
 |[]=>bB==[]
 |v::r=>(v::r)==bB||match v with
  |.ref a=>(match K.lookup a with
   |some o=>(match clsOf o.data with
    |some cd=>PySem.W.nsOkIn K cd.ns&&(ns.all (fun n=>PySem.W.nsIn K cd.ns n==some none)&&Tg K ns bB r)
    |none=>false)
   |none=>false)
  |_=>false
theorem TlN.tail {h:Heap} {ns:List Str} {bB tl:List Value} (T:TlN h ns bB tl) (hi:("__init__":Str)∈ns):OwnTail h bB tl:=by
 induction T with
 |base=>exact .base
 |own ha hm no _ ih=>exact .own ha hm (no _ hi) ih
inductive ZaH (h:Heap) (C fI:Addr):Prop where
 |mk (bm:List Value) (N:Addr) (nm q:Str) (bs:List Value) (sn:List Str) (sub:List Value) (ab:Bool) (col:Option Bool) (dd:Option Addr) (k0 k1 k2 k3 k5:Option Value) (mN:Str→Option Value)
  (hC:h.get? C=some (excClassObj nm q C N bs bm true sn sub ab col dd k0 k1 k2 k3 k5 "ValueError.__new__")) (hN:h.Ns N mN) (hi:mN "__init__"=some (.ref fI)) (no:∀n∈tmNames.tail,mN n=none) (T:TlN h tmNames Mj bm):ZaH h C fI
def tmY (K:PySem.W.Frag) (C fI:Addr) (o:Obj) (cd:ClassData):Bool:=
 decide (o.cls=.type "type")&&(decide (cd.mro=.ref C::cd.mro.tail)&&(!cd.hasDel&&(Tg K tmNames Mj cd.mro.tail&&(PySem.W.nsOkIn K cd.ns&&(PySem.W.nsIn K cd.ns "__init__"==some (some (.ref fI))&&(tmNames.tail.all (fun n=>PySem.W.nsIn K cd.ns n==some none)&&(decide (o.slots.toList.length=6)&&(decide (o.slots.toList[4]?=some (some (.builtin "ValueError.__new__")))&&cd.hasDict))))))))
def tmX (K:PySem.W.Frag) (C fI:Addr):Bool:=match K.lookup C with
 |some o=>(match clsOf o.data with
  |some cd=>tmY K C fI o cd
  |none=>false)
 |none=>false
def exO (C t0:Addr) (da:Option Addr):Obj:={cls:=.ref C,dict:=da,data:=.fields #[.ref t0,.none,.none,.none,.bool false,.none]}
def MD (C e:Addr) (da:Option Addr) (h:Heap):Prop:=∃t0,h.get? e=some (exO C t0 da)
def ZhY (d:Addr) (m:Str→Option Value) (h:Heap):Prop:=h.Ns1 d m
def one (n:Str) (u:Value):Str→Option Value:=fun y=>if y=n then some u else none
section
variable {X:Cx} {pins:List (Addr×Obj)} {σ:L2.St} {H:Hp} {s:Shared} {E:Value→Shared→Prop} {A:Around} {C fI e da:Addr} {n:Str} {u:Value}
def del (H:Hp) (a:Addr):Hp:=fun b=>if b=a then none else H b
theorem Th {H:Hp} {a b:Addr} (h:b≠a):del H a b=H b:=by unfold del;rw [if_neg h]
theorem Kp.del {H:Hp} {a:Addr} {φ:Heap→Prop} (h:H a=some (.mex φ)):Kp H (LS.del H a):=fun b o e i=>by
 rw [Th]
 ·exact e
 ·intro z
  rw [z,h] at e;cases e;cases i
theorem HR.del {K:PySem.W.Frag} {m:List Addr} {h:HD} {H:Hp} {a:Addr} {φ:Heap→Prop} (r:HR K m h H) (e:H a=some (.mex φ)):HR K m h (LS.del H a):=r.same (.del e) fun b hb=>Th fun z=>by
 subst z
 obtain ⟨l,hl,el⟩:=JQ hb
 have hl':l<h.length:=by rw [←r.len];exact hl
 have c:=r.cells l h[l] m[l] (Bh hl') (Bh hl)
 rw [el] at c
 cases hc:h[l] with
 |lst ds=>rw [hc] at c;obtain ⟨vs,q,_⟩:=c;rw [e] at q;cases q
 |tab=>rw [hc] at c;obtain ⟨_,ps,q,_⟩:=c;rw [e] at q;cases q
 |dic fz kvs=>
  rw [hc] at c
  obtain ⟨es,q,_⟩:=c
  cases fz with
  |true=>obtain ⟨o,q⟩:=q;rw [e] at q;cases q
  |false=>exact absurd (e.symm.trans q) (by intro z;cases z)
end
end LS
namespace LS
open PySem PySem.Spec PyProof.Rows L2 PySem.Calls PySem.W
def swX (K:PySem.W.Frag) (S:Addr):Bool:=PySem.W.readsIn K S (.type "type")&&(match PySem.W.findCls K (.ref S) (.type "type") "__init__" with
 |some (.val (.builtin b))=>b=="ValueError.__init__"
 |_=>false)
def ZhZ (H₀:Hp) (C:Addr) (ta:TA):TE:=fun σ H Q=>∃e,H₀ e≠none∧H e=some (.mex (MD C e none))∧ta σ (del H e) fun vs H1=>∃x,vs=[.ref e,.str x]∧(H1 e=none→Q .non (Az H1 e (.mex (MD C e none))))
section
variable {X:Cx} {C fI S:Addr} {ta:TA} {a1 a2:Expr} {p1 p2 p5:Pos}
end
end LS
namespace LS
open PySem PySem.Spec PyProof.Rows L2 PySem.Calls
section
variable {X:Cx} {C fI S:Addr}
end
noncomputable abbrev Ti:ME:=OG (SL (Aa 1) (Z9 " are more than " (SL (Aa 2) Z8)))
inductive Tj (K:PySem.W.Frag) (C:Addr) (vs:List V) (H:Hp) (Q:VK) (E:XK):Prop
 |mk (e:Addr) (a b:Int) (m:List Addr) (h h2:HD) (x:Str) (ev:vs=[.ref e,.int a,.int b]) (hr:HR K m h H) (hH:H e=some (.mex (MD C e none))) (hj:Ti [none,some (.int a),some (.int b)] h=.ok (.str x) h2)
  (q:∀m1 H1 da,m <+:m1→Kp (del H e) H1→HR K m1 h2 H1→H1 e=none→H1 da=none→da≠e→Q .non (Az (Az H1 e (.mex (MD C e (some da)))) da (.xd [("many",.int a),("most",.int b)]))):Tj K C vs H Q E
section
variable {P:Program} {w:World} {K:PySem.W.Frag} {mg:Str→Option Value} {base:Heap} {C f S:Addr} {k:Nat} {qual:Str} {scope:Scope} {p1 p2 p3 p4 p5 p6 q1 q2 q3 q4 r1 r2 r3 r4:Pos} {js:Expr}
abbrev Zh0 (js:Expr) (p1 p2 p3 p5 p6 q1 q2 q3 q4 r1 r2 r3 r4:Pos):List Stmt:=[.Expr (.Call (.Attribute (.Name "SwitchError" p1) "__init__" p2) [.Name "self" p3,js] [] p5) p6,.Assign [.Attribute (.Name "self" q1) "many" q2] (.Name "many" q3) q4,.Assign [.Attribute (.Name "self" r1) "most" r2] (.Name "most" r3) r4]
end
noncomputable def Zh1 (fa:MA):MS:=fun ρ h=>(fa ρ h).bind fun xs h1=>match xs with
 |[.int a,.int b]=>(match Ti [none,some (.int a),some (.int b)] h1 with
  |.ok (.str _) h2=>.err (Kr "TooMany") [("many",.int a),("most",.int b)] h2
  |_=>.stuck)
 |_=>.stuck
section
variable {X:Cx} {E:XK} {C fI:Addr} {fd:FuncData} {k:Nat}
end
def ZaI (nm:Str):D→HD→Out D
 |.exc n fs,h=>if n="TooMany" then (match fs.lookup nm with
  |some i=>.ok (.int i) h
  |none=>.stuck) else .stuck
 |_,_=>.stuck
noncomputable def Zh2 (f:ME) (nm:Str):ME:=fun ρ h=>(f ρ h).bind fun d h1=>ZaI nm d h1
section
variable {X:Cx} {E:XK} {C fI:Addr}
end
end LS
namespace Tp
open PySem PySem.W PySem.Spec PySem.Calls PyProof.Rows
section
variable {α β:Type}
noncomputable def fN (n:Nat) (k:Nat→α):α:=@Nat.rec (fun _=>α) (k 0) (fun m _=>k (Nat.succ m)) n
theorem MF (n:Nat) (k:Nat→α):fN n k=k n:=by cases n<;>rfl
noncomputable def fL (l:List β):(List β→α)→α:=@List.rec β (fun _=>(List β→α)→α) (fun k=>k []) (fun a _ ih k=>ih fun l'=>k (a::l')) l
theorem KA:∀(l:List β) (k:List β→α),fL l k=k l
 |[],_=>rfl
 |a::l,k=>KA l fun l'=>k (a::l')
noncomputable def fE (l:List DictEntry):(List DictEntry→α)→α:=@List.rec DictEntry (fun _=>(List DictEntry→α)→α) (fun k=>k []) (fun a _ ih k=>ih fun l'=>@DictEntry.rec (fun _=>α) (fun x y z=>k (⟨x,y,z⟩::l')) a) l
theorem Tn:∀(l:List DictEntry) (k:List DictEntry→α),fE l k=k l
 |[],_=>rfl
 |⟨_,_,_⟩::l,k=>Tn l fun l'=>k (_::l')
noncomputable def fD (d:Data) (k:Data→α):α:=@Data.rec (fun _=>α) (k .plain) (fun v=>k (.prim v)) (fun x n=>@Array.rec Value (fun _=>α) (fun l=>fL l fun l=>fN n fun n=>k (.seq ⟨l⟩ n)) x)
 (fun x n=>@Array.rec DictEntry (fun _=>α) (fun l=>fE l fun l=>fN n fun n=>k (.dict ⟨l⟩ n)) x) (fun x n t=>k (.set x n t)) (fun b n=>k (.bytearray b n)) (fun v=>k (.cell v)) (fun f=>k (.func f)) (fun c=>k (.cls c))
 (fun x=>@Array.rec Value (fun _=>α) (fun l=>fL l fun l=>k (.fields ⟨l⟩)) x) (k .freed) d
theorem ZaJ (d:Data) (k:Data→α):fD d k=k d:=by
 cases d with
 |seq x n=>cases x;simp only [fD,KA,MF]
 |dict x n=>cases x;simp only [fD,Tn,MF]
 |fields x=>cases x;simp only [fD,KA]
 |_=>rfl
noncomputable def fO (o:Obj) (k:Obj→α):α:=@Obj.rec (fun _=>α) (fun c d da sl=>fD da fun da=>k ⟨c,d,da,sl⟩) o
theorem To (o:Obj) (k:Obj→α):fO o k=k o:=by cases o;simp only [fO,ZaJ]
noncomputable def fT (t:BT):(BT→α)→α:=@BT.rec (fun _=>(BT→α)→α) (fun k=>k .nil) (fun v _ _ il ir k=>fO v fun v=>il fun l=>ir fun r=>k (.node v l r)) t
theorem OV:∀(t:BT) (k:BT→α),fT t k=k t
 |.nil,_=>rfl
 |.node v l r,k=>by
  show fO v (fun v=>fT l fun l=>fT r fun r=>k (.node v l r))=_
  rw [To,OV l,OV r]
noncomputable def fS (s:SharedT) (k:SharedT→α):α:=@SharedT.rec (fun _=>α) (fun t n li g d tk os=>fT t fun t=>fN n fun n=>fN tk fun tk=>@Drawn.rec (fun _=>α) (fun a b c e=>@Array.rec GenState (fun _=>α) (fun g=>fL g fun g=>k ⟨t,n,li,⟨g⟩,⟨a,b,c,e⟩,tk,os⟩) g) d) s
theorem OW (s:SharedT) (k:SharedT→α):fS s k=k s:=by
 obtain ⟨t,n,li,⟨g⟩,⟨a,b,c,e⟩,tk,os⟩:=s
 simp only [fS,OV,MF,KA]
noncomputable def fP (p:Pos) (k:Pos→α):α:=@Pos.rec (fun _=>α) (fun a b c d=>fN a fun a=>fN b fun b=>fN c fun c=>fN d fun d=>k ⟨a,b,c,d⟩) p
theorem OX (p:Pos) (k:Pos→α):fP p k=k p:=by cases p;simp only [fP,MF]
end
section
variable (stp:SharedT→Thread→Option (SharedT×Thread)) (ok:Thread→Bool) (seg:Nat→SharedT→Thread→Option (Flow×SharedT×Code×Pos))
noncomputable def JI (env:Env) (c:Code) (f:Nat):List (List Stmt)→SharedT→Pos→List Code→Option (SharedT×Pos×List Code)
 |[],s,pos,cs=>some (s,pos,cs)
 |l::ls,s,pos,cs=>match seg f s (piecesOf l env c pos [topFrame ⟨0,0,0,0⟩]) with
  |some (.next,s',c',pos')=>fS s' fun s'=>fP pos' fun pos'=>JI env c f ls s' pos' (c'::cs)
  |_=>none
def MH:Nat→SharedT→Thread→Option (SharedT×Thread)
 |0,s,t=>some (s,t)
 |n+1,s,t=>match through t with
  |true=>none
  |false=>match ok t with
   |false=>none
   |true=>match stp s t with
    |some (s',t')=>MH n s' t'
    |none=>none
def MK:Nat→SharedT→Thread→Option SharedT
 |0,_,_=>none
 |n+1,s,t=>match through t with
  |true=>some s
  |false=>match ok t with
   |false=>none
   |true=>match stp s t with
    |some (s',t')=>MK n s' t'
    |none=>none
def cut:Nat→List Stmt→List (List Stmt)
 |0,l=>[l]
 |n+1,l=>match l with
  |[]=>[]
  |x::l=>[x]::cut n l
theorem Tq:∀(n:Nat) (l:List Stmt),(cut n l).flatten=l
 |0,l=>by simp [cut]
 |_+1,[]=>rfl
 |n+1,x::l=>by simp [cut,Tq n l]
theorem Tr:∀(n:Nat) (l:List Stmt),(cut n l).length≤n+1
 |0,l=>AK _
 |_+1,[]=>Ep _
 |n+1,x::l=>Nat.succ_le_succ (Tr n l)
def OY (p:Program):Env:={scope:=p.main.scope,locals:=mainNs,globals:=mainNs,cells:=[],code:=.ref 13,frame:=some 14}
def HM (p:Program):Code:=.body (behindTheImports p) (OY p)
noncomputable def FT (p:Program) (S0:SharedT):Option (Thread×List Code×SharedT):=match MH stp ok 12 S0 (topStub p) with
 |some (sa,ta)=>match seg 1 sa (blockOf (behindTheImports p) (OY p) (HM p) ⟨0,0,0,0⟩ [topFrame ⟨0,0,0,0⟩]) with
  |some (.next,sb,cb,pb)=>fS sb fun sb=>fP pb fun pb=>match JI seg (OY p) (HM p) 2000 (cut 400 (behindTheImports p)) sb pb [cb] with
   |some (sf,pf,cs)=>match MK stp ok 2 sf ⟨doneF .next,HM p,pf,[topFrame ⟨0,0,0,0⟩]⟩ with
    |some sg=>some (ta,cs,sg)
    |none=>none
   |none=>none
  |_=>none
 |none=>none
end
noncomputable def Ts (P:Params) (os:OsState):SharedT:=⟨((boot_heap P).objs.toList.foldl (fun (x:BT×Nat) o=>(x.1.ins x.2 o,x.2+1)) (.nil,0)).1,11,(boot_heap P).life,⟨[]⟩,boot_drawn,boot_toks,os⟩
theorem ZaK (P:Params) (os:OsState):(Ts P os).abs=⟨boot_heap P,⟨[]⟩,boot_drawn,boot_toks,os⟩:=by kernel_rfl
section
variable {α:Type}
noncomputable def OZ (l:List Obj):(List Obj→α)→α:=@List.rec Obj (fun _=>(List Obj→α)→α) (fun k=>k []) (fun a _ ih k=>fO a fun a=>ih fun l'=>k (a::l')) l
theorem Tt:∀(l:List Obj) (k:List Obj→α),OZ l k=k l
 |[],_=>rfl
 |a::l,k=>by show fO a (fun a=>OZ l fun l'=>k (a::l'))=_;rw [To,Tt]
noncomputable def fin (s:SharedT) (k:Shared→α):α:=OZ (s.tree.list s.n) fun l=>k ⟨⟨⟨l⟩,s.life⟩,s.gens,s.drawn,s.toks,s.os⟩
theorem ZaL (s:SharedT) (k:Shared→α):fin s k=k s.abs:=Tt _ _
end
section
variable {tb:String→Option Builtin} {p:Program} {w:World} {m0:Nat} {ann:Option Value}
theorem Tu:∀{n:Nat} {s s':SharedT} {t t':Thread},MH (stepT (denote tb) p w) (stepOk m0 ann) n s t=some (s',t')→topGo tb p w m0 ann n s.abs t=some (s'.abs,t')
 |0,_,_,_,_,h=>by cases h;rfl
 |n+1,s,s',t,t',h=>by
  unfold MH at h
  unfold topGo
  cases he:through t with
  |true=>rw [he] at h;cases h
  |false=>
   rw [he] at h
   cases hk:stepOk m0 ann t with
   |false=>rw [hk] at h;cases h
   |true=>
    rw [hk] at h
    cases hs:stepT (denote tb) p w s t with
    |none=>rw [hs] at h;cases h
    |some r=>obtain ⟨s₂,t₂⟩:=r;rw [hs] at h;rw [stepT_spec hs];exact Tu h
theorem Tv:∀{n:Nat} {s s':SharedT} {t:Thread},MK (stepT (denote tb) p w) (stepOk m0 ann) n s t=some s'→topRun tb p w m0 ann n s.abs t=some s'.abs
 |0,_,_,_,h=>by cases h
 |n+1,s,s',t,h=>by
  unfold MK at h
  unfold topRun
  cases he:through t with
  |true=>rw [he] at h;cases h;rfl
  |false=>
   rw [he] at h
   cases hk:stepOk m0 ann t with
   |false=>rw [hk] at h;cases h
   |true=>
    rw [hk] at h
    cases hs:stepT (denote tb) p w s t with
    |none=>rw [hs] at h;cases h
    |some r=>obtain ⟨s₂,t₂⟩:=r;rw [hs] at h;rw [stepT_spec hs];exact Tv h
theorem O0 {seg:Nat→SharedT→Thread→Option (Flow×SharedT×Code×Pos)} {env:Env} {c:Code} {f:Nat}:∀{ls:List (List Stmt)} {s sf:SharedT} {pos pf:Pos} {c0 cs:List Code},JI seg env c f ls s pos c0=some (sf,pf,cs)→∀x∈c0,x∈cs
 |[],_,_,_,_,_,_,h,x,hx=>by cases h;exact hx
 |l::ls,s,sf,pos,pf,c0,cs,h,x,hx=>by
  unfold JI at h
  split at h
  ·rw [OW,OX] at h;exact O0 h x (.tail _ hx)
  ·cases h
theorem Tw {env:Env} {c:Code} {f:Nat}:∀{ls:List (List Stmt)} {s sf:SharedT} {pos pf:Pos} {c0 cs:List Code},JI (segRunT tb p w m0 ann 1) env c f ls s pos c0=some (sf,pf,cs)→(∀x∈cs,x=c)→∀{N:Nat} {r:Shared},
 topRun tb p w m0 ann N sf.abs ⟨doneF .next,c,pf,[topFrame ⟨0,0,0,0⟩]⟩=some r→topRun tb p w m0 ann (ls.length*f+N) s.abs (restOf ls.flatten env c pos [topFrame ⟨0,0,0,0⟩])=some r
 |[],s,sf,pos,pf,c0,cs,h,hc,N,r,k=>by
  cases h
  rw [Gh,Nat.zero_mul,Nat.zero_add]
  exact piece_nil k
 |l::ls,s,sf,pos,pf,c0,cs,h,hc,N,r,k=>by
  unfold JI at h
  split at h
  ·rename_i s' c' pos' e
   rw [OW,OX] at h
   have e1:=segRun_of e
   rw [hc c' (O0 h c' (.head _))] at e1
   have:=piece_app (rest:=ls.flatten) e1 (Tw h hc k)
   rw [FA,Nat.succ_mul,Nat.add_comm (ls.length*f) f,Nat.add_assoc]
   exact this
  ·cases h
end
noncomputable def ZaM {α:Type} (OS:Program→List Str→List Str→(Shared→Bool)→Bool→Shared→_) (IM:List Stmt→List Str) (p q:Program) (loose:List Str) (Yf:Shared→α) (H₀:Heap) (s:Shared):=
 ((staticsOk (IM p.main.body) H₀ s.heap&&namesBound p s.heap&&gensDone s&&laidKept H₀ s.heap),(OS q loose (IM p.main.body) (fun _=>true) true s:type_of% (openSeen q loose [] (fun _=>true) true s)),Yf s)
theorem left_of {p q:Program} {loose:List Str} {α:Type} {Yf:Shared→α} {Ya:World→α} {n:Nat} (e:opening p=plainProg p.main.scope.names) (fm:∀s,fenceModules? p s=some s)
 (size:∀w:World,((boot_heap w.params).isNs mainGlobals&&(Array.mk ([]:List GenState)).size==0,(boot_heap w.params).objs.size,(boot_heap w.params).nsMap mainGlobals "__annotations__")=(true,11,some (.ref 6)))
 (h:∀(w:World) (os:OsState),(FT (stepT (denote treeTable) p w) (stepOk 11 (some (.ref 6))) (segRunT treeTable p w 11 (some (.ref 6)) 1) p (Ts w.params os)).map (fun r=>(r.1,r.2.1,fin r.2.2 (ZaM openSeen importedModules p q loose Yf (boot_heap w.params))))=
  some (⟨denote treeTable (HM p),HM p,⟨0,0,0,0⟩,[topFrame ⟨0,0,0,0⟩]⟩,List.replicate n (HM p),(true,openGood q loose,Ya w))):
 LeftO p q loose (fun _=>true) Yf Ya 1000000:=fun w=>by
 obtain ⟨⟨hp,gs,d,k,os⟩,e0,e'⟩:=qb5.mp (boot_open (N:=1000000) e rfl fm w)
 obtain ⟨rfl,rfl,rfl,rfl⟩:hp=boot_heap w.params∧gs=Array.mk []∧d=boot_drawn∧k=boot_toks:=by simpa using e'
 obtain ⟨z1,z2,z3⟩:_∧_∧_:=by simpa only [Prod.mk.injEq] using size w
 obtain ⟨⟨ta,cs,sg⟩,h1,h2⟩:=qb5.mp (h w os)
 dsimp only at h2
 rw [ZaL] at h2
 obtain ⟨h3,h4⟩:=Prod.mk.inj h2
 obtain ⟨h5,h6⟩:=Prod.mk.inj h4
 obtain ⟨l1,h7⟩:=Prod.mk.inj h6
 obtain ⟨l2,l3⟩:=Prod.mk.inj h7
 have hcs:∀x∈cs,x=HM p:=fun x hx=>by rw [h5] at hx;exact List.eq_of_mem_replicate hx
 have run:topRun treeTable p w 11 (some (.ref 6)) 1000000 ⟨boot_heap w.params,Array.mk [],boot_drawn,boot_toks,os⟩ (topStub p)=some sg.abs:=by
  rw [←ZaK]
  unfold FT at h1
  split at h1
  ·rename_i sa ta' ea
   split at h1
   ·rename_i sb cb pb eb
    rw [OW,OX] at h1
    split at h1
    ·rename_i sf pf cs' ec
     split at h1
     ·rename_i sg' eg
      cases h1
      have hb:=segRun_of eb
      rw [hcs cb (O0 ec cb (.head _))] at hb
      have c1:=Tw ec hcs (Tv eg)
      rw [Tq] at c1
      have c2:=piece_block hb c1
      have c3:=Tu ea
      rw [h3] at c3
      have c4:=go_top c3 c2
      have hl:=Tr 400 (behindTheImports p)
      have:=topRun_mono (1000000 - (12+(1+((cut 400 (behindTheImports p)).length*2000+2)))) _ _ _ _ c4
      rwa [show 12+(1+((cut 400 (behindTheImports p)).length*2000+2))+(1000000 - (12+(1+((cut 400 (behindTheImports p)).length*2000+2))))=1000000 by omega] at this
     ·cases h1
    ·cases h1
   ·cases h1
  ·cases h1
 have t:topFrom treeTable p w 1000000 ⟨boot_heap w.params,Array.mk [],boot_drawn,boot_toks,os⟩=some sg.abs:=by
  unfold topFrom
  dsimp only
  rw [z1,z2,z3,run]
  show (match staticsOk (importedModules p.main.body) (boot_heap w.params) sg.abs.heap&&namesBound p sg.abs.heap&&gensDone sg.abs&&laidKept (boot_heap w.params) sg.abs.heap with |true=>_ |false=>_)=_
  rw [l1]
 unfold openEnds
 rw [e0]
 show (topFrom treeTable p w 1000000 _).map _=_
 rw [t]
 exact congrArg some (Prod.ext l2 l3)
def Tx (h:Heap) (a:Addr):Option (Addr×Obj):=match h.get? a with
 |some o=>(match o.cls,a==mainNs||a==cStatics with
  |.none,false=>none
  |_,_=>some (a,o))
 |none=>none
def ML (h:Heap):Frag:=(List.range h.objs.size).filterMap (Tx h)
theorem lookup_mem {a:Addr} {o:Obj}:∀{l:Frag},l.lookup a=some o→(a,o)∈l
 |[],h=>by cases h
 |(b,o')::l,h=>by
  rw [Jf] at h
  split at h
  ·rename_i q
   cases h
   rw [beq_iff_eq.mp q]
   exact .head _
  ·exact .tail _ (lookup_mem h)
theorem ZaN (h:Heap):(ML h).In h:=fun a o e=>by
 obtain ⟨b,_,hb⟩:=List.mem_filterMap.mp (lookup_mem e)
 unfold Tx at hb
 split at hb
 ·rename_i o' e'
  split at hb
  ·cases hb
  ·cases hb;exact e'
 ·cases hb
def blank (fd:FuncData):FuncData:={fd with kwdefaults:=.none,doc:=.none,pyModule:=.none,annotations:=none,code:=.none,closureTuple:=.none}
def KB (K:Frag) (n:Str):Option (FuncData×Bool×Bool):=match nsIn K mainGlobals n with
 |some (some (.ref f))=>(match K.lookup f with
  |some ⟨_,_,.func fd,_⟩=>some (blank fd,codeIn K fd.code n,keepIn K (.ref f))
  |_=>none)
 |_=>none
abbrev MM (n:Str) (st:Stmt):FuncData:=fnOf n n (L2.defArgs st) (L2.defBody st) (L2.defScope st) .none .none .none .none none .none .none
inductive MN (K:Frag) (n:Str) (st:Stmt):Prop where
 |mk (f:Addr) (od an:Option Addr) (sl:Array (Option Value)) (oc kV dc pm cd ct:Value) (a:nsIn K mainGlobals n=some (some (.ref f)))
  (l:K.lookup f=some ⟨oc,od,.func (fnOf n n (L2.defArgs st) (L2.defBody st) (L2.defScope st) .none kV dc pm an cd ct),sl⟩) (c:codeIn K cd n=true) (k:keepIn K (.ref f)=true):MN K n st
theorem ZaO {K:Frag} {n:Str} {st:Stmt} (e:KB K n=some (MM n st,true,true)):MN K n st:=by
 unfold KB at e
 split at e
 ·rename_i f hf
  split at e
  ·rename_i oc od fd sl hl
   obtain ⟨e1,e2⟩:=Prod.mk.inj (Option.some.inj e)
   obtain ⟨e3,e4⟩:=Prod.mk.inj e2
   obtain ⟨x1,x2,x3,x4,x5,x6,x7,x8,x9,x10,x11,x12,x13,x14,x15⟩:=fd
   replace e1:FuncData.mk x1 x2 x3 x4 x5 x6 x7 x8 .none .none .none none .none .none x15=MM n st:=e1
   injection e1 with y1 y2 y3 y4 y5 y6 y7 y8 y9 y10 y11 y12 y13 y14 y15
   subst x1 x2 x3 x4 x5 x6 x7 x8 x15
   exact ⟨f,od,x12,sl,oc,x9,x10,x11,x13,x14,hf,hl,e3,e4⟩
  ·cases e
 ·cases e
def KC (K:Frag) (x:Str):Option Int:=match nsIn K mainGlobals x with
 |some (some (.int v _))=>some v
 |_=>none
theorem ZaP {K:Frag} {x:Str} {v:Int} (e:KC K x=some v):∃t,nsIn K mainGlobals x=some (some (.int v t)):=by
 unfold KC at e
 split at e
 ·rename_i t h;cases e;exact ⟨t,h⟩
 ·cases e
def Tz (K:Frag) (h:Heap):Option (Option Obj×Bool×Bool):=match LS.tabP K with
 |some (c,T)=>some (h.get? T,codeHdIn K c T,(K.lookup T).isNone)
 |none=>none
structure Want where
 fs:List (Str×Stmt)
 cs:List (Str×Int)
 bs:List Str
abbrev MP:=List (Option (FuncData×Bool×Bool))×List (Option Int)×List (Option (Option Value))×Bool×Option (Option Obj×Bool×Bool)
noncomputable def Zh3 (W:Want) (s:Shared):MP:=fL (ML s.heap) fun K=>
 (W.fs.map fun x=>KB K x.1,W.cs.map fun x=>KC K x.1,W.bs.map (nsIn K mainGlobals),LS.etOk K,Tz K s.heap)
def ZaQ (W:Want):MP:=(W.fs.map fun x=>some (MM x.1 x.2,true,true),W.cs.map fun x=>some x.2,W.bs.map fun _=>some none,true,some (some (tabObj #[]),true,true))
inductive O1 (W:Want) (K:Frag) (c T:Addr):Prop where
 |mk (fs:∀(i:Nat) n st,W.fs[i]?=some (n,st)→MN K n st) (cs:∀(i:Nat) n v,W.cs[i]?=some (n,v)→∃t,nsIn K mainGlobals n=some (some (.int v t))) (bs:∀(i:Nat) n,W.bs[i]?=some n→nsIn K mainGlobals n=some none)
  (et:LS.etOk K=true) (tb:LS.tabP K=some (c,T)) (hd:codeHdIn K c T=true) (no:K.lookup T=none):O1 W K c T
def Says (W:Want) (_:World) (h:Heap):Prop:=∃(K:Frag) (c T:Addr),K.In h∧O1 W K c T∧h.get? T=some (tabObj #[])
theorem Says.keeps {W:Want} (w:World) (h h':Heap) (x:Says W w h) (k:∀b o,h.get? b=some o→h'.get? b=some o):Says W w h':=by
 obtain ⟨K,c,T,h1,h2,h3⟩:=x
 exact ⟨K,c,T,h1.keeps k,h2,k _ _ h3⟩
theorem O2 {α β:Type} {f g:α→β} {l:List α} (e:l.map f=l.map g) {i:Nat} {x:α} (h:l[i]?=some x):f x=g x:=by
 have:=congrArg (·[i]?) e
 simp only [DG,h,Gi,Option.some.injEq] at this
 exact this
end Tp
namespace LS
open PySem PySem.W PySem.Spec PySem.Calls PyProof.Rows L2
end LS
namespace Tp
open PySem PySem.W PySem.Spec PySem.Calls PyProof.Rows
def ZaR (K:Frag):Option (FuncData×List Bool):=match nsIn K mainGlobals "TooMany",nsIn K mainGlobals "SwitchError" with
 |some (some (.ref C)),some (some (.ref S))=>(match K.lookup C with
  |some o=>(match LS.clsOf o.data with
   |some cd=>(match nsIn K cd.ns "__init__" with
    |some (some (.ref f))=>(match K.lookup f with
     |some ⟨oc,_,.func fd,_⟩=>some (blank fd,[codeIn K fd.code "TooMany.__init__",LS.tmX K C f,LS.swX K S,keepIn K (.ref C),oc==.type "function"])
     |_=>none)
    |_=>none)
   |none=>none)
  |none=>none)
 |_,_=>none
abbrev fnI (st:Stmt):FuncData:=fnOf "__init__" "TooMany.__init__" (L2.defArgs st) (L2.defBody st) (L2.defScope st) .none .none .none .none none .none .none
inductive TB (K:Frag) (st:Stmt):Prop where
 |mk (C S f:Addr) (od an:Option Addr) (sl:Array (Option Value)) (kV dc pm cd ct:Value) (nC:nsIn K mainGlobals "TooMany"=some (some (.ref C))) (nS:nsIn K mainGlobals "SwitchError"=some (some (.ref S)))
  (l:K.lookup f=some ⟨.type "function",od,.func (fnOf "__init__" "TooMany.__init__" (L2.defArgs st) (L2.defBody st) (L2.defScope st) .none kV dc pm an cd ct),sl⟩) (c:codeIn K cd "TooMany.__init__"=true) (tm:LS.tmX K C f=true) (sw:LS.swX K S=true) (kp:keepIn K (.ref C)=true):TB K st
noncomputable def Zh4 (W:Want) (s:Shared):MP×Option (FuncData×List Bool):=fL (ML s.heap) fun K=>
 ((W.fs.map fun x=>KB K x.1,W.cs.map fun x=>KC K x.1,W.bs.map (nsIn K mainGlobals),LS.etOk K,Tz K s.heap),ZaR K)
def Zh5 (W:Want) (st:Stmt):MP×Option (FuncData×List Bool):=(ZaQ W,some (fnI st,[true,true,true,true,true]))
def SaysT (W:Want) (st:Stmt) (_:World) (h:Heap):Prop:=∃(K:Frag) (c T:Addr),K.In h∧(O1 W K c T∧TB K st)∧h.get? T=some (tabObj #[])
theorem SaysT.keeps {W:Want} {st:Stmt} (w:World) (h h':Heap) (x:SaysT W st w h) (k:∀b o,h.get? b=some o→h'.get? b=some o):SaysT W st w h':=by
 obtain ⟨K,c,T,h1,h2,h3⟩:=x
 exact ⟨K,c,T,h1.keeps k,h2,k _ _ h3⟩
end Tp
namespace LS
open PySem PySem.W PySem.Spec PySem.Calls PyProof.Rows L2
structure TmK (P:Program) (w:World) (K:Frag) (mg:Str→Option Value) (base:Heap) (C f:Addr) (fd:FuncData) (oI:Obj):Prop where
 tm:tmX K C f=true
 F:FnOk P w K mg base (AG P w K) 1 f fd ["self","many","most"] (Tj K C)
 hb:Binds K fd ["self","many","most"] []
 lI:K.lookup f=some oI
 cI:oI.cls=.type "function"
 kp:keepIn K (.ref C)=true
 nC:nsIn K mainGlobals "TooMany"=some (some (.ref C))
end LS
namespace LS
open PySem PySem.Spec PyProof.Rows L2
open Classical in
noncomputable def Zh6:D→HD→Out D
 |.int i,h=>if i.natAbs<4611686018427387904 then .ok (.str (toString i)) h else .stuck
 |_,_=>.stuck
section
variable {X:Cx}
def Zh7 (i j k:Nat) (ta:TA):TS:=fun Dn σ H=>ta σ H fun vs H1=>∃u v w,vs=[u,v,w]∧Dn.nx (((σ.set i (some u)).set j (some v)).set k (some w)) H1
def O3 (i j k:Nat) (ρ:Ai):List D→HD→Out (Fl×Ai)
 |[u,v,w],h=>.ok (.nx,((ρ.set i (some u)).set j (some v)).set k (some w)) h
 |_,_=>.stuck
noncomputable def TC (i j k:Nat) (fa:MA):MS:=fun ρ h=>(fa ρ h).bind fun ds h1=>O3 i j k ρ ds h1
end
@[simp] theorem Zh8 {i j k:Nat} {fa:MA} {ρ:Ai} {h:HD} {Q:Fl×Ai→HD→Prop}:Wp (TC i j k fa ρ h) Q=Wp (fa ρ h) fun ds h1=>Wp (O3 i j k ρ ds h1) Q:=by unfold TC;rw [AB]
@[simp] theorem Zh9 {i j k:Nat} {ρ:Ai} {u v w:D} {h:HD} {Q:Fl×Ai→HD→Prop}:Wp (O3 i j k ρ [u,v,w] h) Q=Q (.nx,((ρ.set i (some u)).set j (some v)).set k (some w)) h:=rfl
section
variable {X:Cx}
abbrev Zia:=GQ fun i j=>.int (Builtin.bitXor i j)
end
section
variable {X:Cx} {E:XK} {D:Addr} {elt tg iter:Expr} {ifs:List Expr} {gs gens:List Comprehension} {scope:Scope} {pos:Pos} {Nc:List Str} {cs:List (Option Nat)} {it:MI} {gg:TG} {sg:MG} {t:MT} {f:ME} {e:DM} {d:Nat} {is js:List Nat}
theorem ZaS {i:Nat} {x:Str} {pos' pos2:Pos} (hcalm:X.calm=true) (hN:X.N.Nodup) (hix:X.N[i]?=some x) (hx:Hr X.env.scope x) (S:FK X scope Nc cs) (hi:EF X E tg iter it) (ha:∀g,gs[0]?=some g→g.is_async=0) (hc:∀j∈is++js,cs[j]?=some none) (hg:G8 X.K is js gg sg)
 (hb:∀(C D:Addr) (cells:List (Str×Addr)) (fp:List Addr) (s₀:Shared) (H₀:Hp) (pins:List (Addr×Obj)),G7 (Bj X Nc scope C D cells fp s₀ H₀ pins) D→PG (Bj X Nc scope C D cells fp s₀ H₀ pins) tg gg∧HB (Bj X Nc scope C D cells fp s₀ H₀ pins) E0 ifs t∧
  EM (Bj X Nc scope C D cells fp s₀ H₀ pins) D (DB elt (⟨tg,iter,ifs,0⟩::gs) scope pos 0 (.ref D) (Bj X Nc scope C D cells fp s₀ H₀ pins).env) (EW X.K js e))
 (hsf:∀x,foldedSetIterable iter X.env x=pure x:=by intro _;rfl) (hsw:swapsWith (.ListComp elt (⟨tg,iter,ifs,0⟩::gs) scope pos) (some (.Name x pos')) pos2.line X.env=pure true:=by rfl)
 (hf:X.fn x=true∨X.env.scope.names.lookup x=some .local:=by first |exact .inl rfl |exact .inr rfl |assumption):Ex X E (.Assign [.Name x pos'] (.ListComp elt (⟨tg,iter,ifs,0⟩::gs) scope pos) pos2) (AD i (Ff cs it sg t e)):=by
 rintro pins s σ H D I ⟨m,ρ,h,hr,er,p⟩
 have hq:MC cs (tM X.K (GV X.K) E it) gg (E8 X.K E0 t) (EW X.K js e) σ H (fun v H1=>D.nx (σ.set i (some v)) H1):=Td hc hg σ H _ ⟨m,ρ,h,hr,er,PostS.bind p fun y h1 v m1 H1 _ p1 k1 hr1 r1 q1=>(q1.here hr1) _ ((er.keep p1 k1).set r1)⟩
 rw [exec_Assign_Name_used _ _ _ _ hsw]
 refine wpAny_bind (wpAny_standAt (wpAny_bind ?_))
 show wpAny _ X.A (do let _ ←comprehension (.ListComp elt (⟨tg,iter,ifs,0⟩::gs) scope pos) scope X.env _ (newList []) false (eval iter X.env) (some (assign (.Name x pos') X.env))) _ _ s
 refine wpAny_bind (wpAny_mono (S5 (QQ:=fun _ s'=>SP X pins D .next s') hcalm S hi ha hb hsf I hq fun s6 C Dd H7 m6 hn hC h0 hL hc hp inv q=>?_) (fun _ s' z=>wpAny_pure (wpAny_pure z)) fun _ _ z=>z)
 have I6:Inv X pins σ H7 s6:=inv s6.heap ⟨rfl,fun _ _=>rfl⟩
 refine wpAny_assign_Name (Nu I6 hN hix hx (v:=.ref Dd) rfl (fun s7 I7 z3_=>?_) hf)
 obtain ⟨a,sb7,ha⟩:=z3_
 have nCa:C≠a:=by
  rcases ha with z |z
  ·rw [z];exact hL
  ·exact Ne.symm (hc x a z)
 obtain ⟨o,es,ep,e1,e2⟩:=hn
 refine ⟨m6,⟨o,es,ep,(sb7.2 C nCa).trans e1,e2⟩,fun h' sb=>?_⟩
 exact ⟨_,H7,I7.turned (t':=s7.toks) (it:=C) (fun b o hb e=>(sb.2 b hb).trans e) hC hL (.inr h0) hc hp,q⟩
end
def ZaT:List Expr→Option (List (Int×Int))
 |[]=>some []
 |.Tuple [.Constant (.int a) _ _,.Constant (.int b) _ _] _ _::es=>(ZaT es).map ((a,b)::·)
 |_=>none
noncomputable def MQ:List (Int×Int)→MA
 |[]=>Ae
 |p::ps=>Ab (BO (Ab (mC (.int p.1)) (Ab (mC (.int p.2)) Ae))) (MQ ps)
@[simp] theorem Zib:MQ []=Ae:=rfl
@[simp] theorem Zic {p:Int×Int} {ps:List (Int×Int)}:MQ (p::ps)=Ab (BO (Ab (mC (.int p.1)) (Ab (mC (.int p.2)) Ae))) (MQ ps):=rfl
section
variable {X:Cx} {E:XK}
@[irreducible] def ExI (X:Cx) (E:XK) (st:Stmt) (g:MS):Prop:=Ex X E st g
@[irreducible] def Zid (X:Cx) (E:XK) (sts:List Stmt) (g:MS):Prop:=AU X E sts g
end
end LS
namespace LS
open PySem PySem.Spec PySem.W PyProof.Rows L2
end LS
namespace LS
open PySem PySem.Spec PyProof.Rows L2 PySem.W
theorem ZaU {P:Program} {w:World} {K:Frag} {mg mb:Str→Option Value} {k:Nat} {fa a:Addr} {fd:FuncData} {x:Str} {F:List D→HD→Out D} {s₁:Shared} {vs:List Value} {ns:List Int}
 (KX:K.In s₁.heap) (hns:s₁.heap.Ns mainGlobals mg) (hb:s₁.heap.Ns builtinsNs mb) (hbb:∀x:Str,x≠"__name__"→mb x=bootBuiltins x) (hlim:s₁.heap.NoLimit) (hg:s₁.gens=#[]) (hbm:Ky mg s₁.heap)
 (ha:s₁.heap.get? a=some {cls:=.type "list",data:=.seq vs.toArray}) (hi:IntsAre vs ns) (hl:ns.length≤sizeLine) (hr:Room k callerA)
 (FF:∀base:Heap,K.In base→base.Ns mainGlobals mg→Ky mg base→FnOk P w K mg base (AG P w K) k fa fd [x] (G1 K F)) (hbind:∀(s:Shared) (u:Value),BindsTo s fd ⟨[u],[]⟩ [(x,u)])
 (hF:∃h',F [.scr ns] []=.ok (.bl true) h'):
 codeAny (model P w) callerA (.call (.ref fa) ⟨[.ref a],[]⟩) (fun r s'=>r=.ok (.ret (.bool true))∧OldK s₁.heap s'.heap∧s'.os=s₁.os∧AllBare s'.gens) s₁:=by
 have rv:=L2.vals_ints hi
 have lenV:=hi.length
 have core:∀H:Hp,(∀b,H b=none∨∃o xs,H b=some (.frz o (.lst xs)))→FzL K H a (ns.map V.int)→HOk P w H s₁.heap→(∀b,H b≠none→b=a)→(H a≠none→K.lookup a=none)→
  codeAny (model P w) callerA (.call (.ref fa) ⟨[.ref a],[]⟩) (fun r s'=>r=.ok (.ret (.bool true))∧OldK s₁.heap s'.heap∧s'.os=s₁.os∧AllBare s'.gens) s₁:=by
  intro H hO hS hok hA hK
  have base_of:∀{b:Addr} {o:Obj},s₁.heap.get? b=some o→H b=none→(FB s₁.heap H).get? b=some o:=fun e n=>Vx e n
  have noA:∀{b:Addr} {o:Obj},s₁.heap.get? b=some o→(∀its n,o.data≠.seq its n)→(∀ws,o.data≠.fields ws)→H b=none:=fun {b o} e d1 d2=>by
   cases q:H b with
   |none=>rfl
   |some u=>
    have e':=hA b (by rw [q];simp)
    subst e'
    rw [ha] at e;cases e
    exact absurd rfl (d1 _ _)
  have nsK:∀{b:Addr} {m:Str→Option Value},s₁.heap.Ns b m→(FB s₁.heap H).Ns b m:=fun {b m} ⟨o,es,ep,e,d,r⟩=>⟨o,es,ep,base_of e (noA e (fun _ _ z=>by rw [d] at z;cases z) (fun _ z=>by rw [d] at z;cases z)),d,r⟩
  have hKb:K.In (FB s₁.heap H):=fun b o e=>base_of (KX b o e) (by
   cases q:H b with
   |none=>rfl
   |some u=>
    have e':=hA b (by rw [q];simp)
    subst e'
    rw [hK (by rw [q];simp)] at e;cases e)
  have hM:Mod K mg (FB s₁.heap H):=⟨hKb,nsK hns,⟨mb,nsK hb,hbb⟩,let ⟨mc,h1,h2⟩:=hlim;⟨mc,nsK h1,h2⟩⟩
  have e0:J1 P w K mg (FB s₁.heap H) callerA [] s₁ H:=⟨rfl,hM,fun b o e=>Vy e,Nat.le_of_eq (Vw _ _),trivial,fun b hb=>absurd (show b∈([]:List Addr) from hb) (by simp),hok,.of_eq hg⟩
  have hBM:Ky mg (FB s₁.heap H):=by
   obtain ⟨bm,o,h1,h2,h3,h4,h5,h6⟩:=hbm
   exact ⟨bm,o,h1,h2,base_of h3 (noA h3 (fun _ _ z=>by rw [h6] at z;cases z) (fun _ z=>by rw [h6] at z;cases z)),h4,h5,h6⟩
  have hsp:G1 K F [.ref a] H (fun v _=>v=.bl true) fun _ _ _=>False:=by
   obtain ⟨h',e⟩:=hF
   refine ⟨[],[.scr ns],[],⟨rfl,by simp,fun l cc b e1 e2=>by simp at e1⟩,.cons (by simp only [DV];exact ⟨a,rfl,hS⟩) .nil,?_⟩
   ·rw [e]
    intro v m' H' _ _ _ r
    simpa [rD,DV] using r
  refine codeAny_mono ((FF _ hKb (nsK hns) hBM).run callerA [] s₁ H ⟨[.ref a],[]⟩ [.ref a] [.ref a] _ _ hr e0 (hbind s₁ (.ref a)) (.cons rfl .nil) hsp) fun r s' h=>?_
  cases r with
  |error e=>
   obtain ⟨_,_,_,_,_,_,_,_,_,_,_,_,q⟩:=h
   exact q.elim
  |ok fl=>
   cases fl with
   |next=>exact False.elim h
   |brk=>exact False.elim h
   |cont=>exact False.elim h
   |ret u=>
    obtain ⟨v,H',os,bare,un,hok',r',q⟩:=h
    have q':v=.bl true:=q
    subst q'
    obtain rfl:u=Value.bool true:=r'
    have keepO:∀b o,s₁.heap.get? b=some o→s'.heap.get? b=some o:=fun b o e=>by
     cases q:H b with
     |none=>exact un.keep b o e q (by intro z;exact absurd (show b∈([]:List Addr) from z) (by simp)) (by simp)
     |some u=>
      rcases hO b with z |⟨ob,xs,z⟩
      ·rw [q] at z;cases z
      ·have z2:=un.frzs b ob _ z
       obtain ⟨e1,_⟩:=hok b _ z
       obtain ⟨e2,_⟩:=hok' b _ z2
       rw [e] at e1;cases e1
       exact e2
    exact ⟨rfl,⟨fun b o e=>.inl (keepO b o e),fun b o e=>⟨o,keepO b o e⟩⟩,os,bare⟩
 cases hk:K.lookup a with
 |some o=>
  have e:=KX a o hk
  rw [ha] at e
  cases e
  exact core (fun b=>none) (fun b=>.inl rfl) (.inr (.inr ⟨_,vs.toArray,_,hk,rfl,rfl,rfl,by rw [Bc,lenV];exact hl,by simpa using rv⟩)) (fun b u z=>by cases z) (fun b z=>absurd rfl z) fun z=>absurd rfl z
 |none=>
  refine core (fun b=>if b=a then some (.frz {cls:=.type "list",data:=.seq vs.toArray} (.lst (ns.map V.int))) else none) (fun b=>?_) (.inl ⟨{cls:=.type "list",data:=.seq vs.toArray},if_pos rfl⟩) (fun b u z=>?_) (fun b z=>?_) fun _=>hk
  ·by_cases hba:b=a
   ·exact .inr ⟨_,_,if_pos hba⟩
   ·exact .inl (if_neg hba)
  ·by_cases hba:b=a
   ·have z':=(if_pos hba).symm.trans z
    cases z'
    subst hba
    exact ⟨ha,by rw [Cb];exact hl,vs,_,rv,ha⟩
   ·have z':=(if_neg hba).symm.trans z
    cases z'
  ·by_cases hba:b=a
   ·exact hba
   ·exact absurd (if_neg hba) z
end LS
namespace Tp
open PySem PySem.W PySem.Spec PySem.Calls PyProof.Rows
abbrev TF:=List (Option (FuncData×Bool×Bool))×List (Option Int)×List (Option (Option Value))×Bool
noncomputable def obs0 (W:Want) (s:Shared):TF:=fL (ML s.heap) fun K=>
 (W.fs.map fun x=>KB K x.1,W.cs.map fun x=>KC K x.1,W.bs.map (nsIn K mainGlobals),true)
def val0 (W:Want):TF:=(W.fs.map fun x=>some (MM x.1 x.2,true,true),W.cs.map fun x=>some x.2,W.bs.map fun _=>some none,true)
inductive Has0 (W:Want) (K:Frag):Prop where
 |mk (fs:∀(i:Nat) n st,W.fs[i]?=some (n,st)→MN K n st) (cs:∀(i:Nat) n v,W.cs[i]?=some (n,v)→∃t,nsIn K mainGlobals n=some (some (.int v t))) (bs:∀(i:Nat) n,W.bs[i]?=some n→nsIn K mainGlobals n=some none)
  (et:True):Has0 W K
def Says0 (W:Want) (_:World) (h:Heap):Prop:=∃K:Frag,K.In h∧Has0 W K
theorem Says0.keeps {W:Want} (w:World) (h h':Heap) (x:Says0 W w h) (k:∀b o,h.get? b=some o→h'.get? b=some o):Says0 W w h':=by
 obtain ⟨K,h1,h2⟩:=x
 exact ⟨K,h1.keeps k,h2⟩
theorem says0_of {W:Want} (w:World) (s:Shared) (e:obs0 W s=val0 W):Says0 W w s.heap:=by
 unfold obs0 val0 at e
 rw [KA] at e
 obtain ⟨e1,e⟩:=Prod.mk.inj e
 obtain ⟨e2,e⟩:=Prod.mk.inj e
 obtain ⟨e3,e4⟩:=Prod.mk.inj e
 exact ⟨_,ZaN _,fun i n st h=>ZaO (O2 e1 h),fun i n v h=>ZaP (O2 e2 h),fun i n h=>O2 e3 h,trivial⟩
end Tp
namespace LS
open PySem PySem.W PySem.Spec PySem.Calls PyProof.Rows L2
theorem walk_hd0 {l:OpenLaw} {n k:Nat} {q:Program} {loose:List Str} {XP:(Str→Option Value)→Heap→Prop} {W:Tp.Want} {d:DefRec} {x:Str} {F:List D→HD→Out D}
 (hn:l.most=some n) (hn2:n≤sizeLine) (hdf:d.params.defaults=[]) (hr:Room k callerA)
 (Fn:∀(w:World) (K:Frag) (mg:Str→Option Value) (fa:Addr) (h:Heap),Tp.Has0 W K→K.In h→h.Ns mainGlobals mg→mg d.name=some (.ref fa)→
  ∃fd:FuncData,(∀(s:Shared) (u:Value),BindsTo s fd ⟨[u],[]⟩ [(x,u)])∧
   ∀base:Heap,K.In base→base.Ns mainGlobals mg→Ky mg base→FnOk l.prog w K mg base (AG l.prog w K) k fa fd [x] (G1 K F))
 (hF:∀ns:List Int,ns.length≤n→(∀i∈ns,Builtin.Int.intBits i≤2^20)→∃h',F [.scr ns] []=.ok (.bl true) h'):
 WalkO q loose XP (Tp.Says0 W) l.row.toRowW d [] (fun f vs=>PySem.call f vs):=by
 refine Att.attach_bits hn hdf fun w s₀ s₁ mg mb fa o pm cd doc a vs ns hbits G Y ho hd hcd' hmg hobj hints hlen hg=>?_
 obtain ⟨K,KX,HS⟩:=Y
 obtain ⟨fd,hb,hF'⟩:=Fn w K mg fa _ HS KX G.T.g hmg
 obtain ⟨bm,ob,b1,b2,b3,b4,b5,b6⟩:=G.T.bmain
 exact ZaU KX G.T.g G.T.b G.T.builtins G.T.nolimit hg ⟨bm,ob,b1,b2,b3,b4,b5,b6⟩ hobj hints (B8 hlen hn2) hr hF' hb (hF ns hlen hbits)
end LS
namespace LS
open PySem PySem.Spec PyProof.Rows L2
def ZaV:D→HD→Out D:=fun x h=>match x with
 |.loc l=>(match h[l]? with
  |some (.lst ds)=>Du ds.reverse h
  |_=>.stuck)
 |_=>.stuck
def Zie (f:ME):ME:=fun ρ h=>(f ρ h).bind ZaV
section
variable {X:Cx} {E:XK} {e:Expr} {f:ME}
end
def CV:D→D→HD→Out D:=fun x y h=>match x with
 |.exc _ _=>.stuck
 |.edic=>.stuck
 |_=>DA x y h
theorem GA {X:Cx}:DX X (.builtin "isinstance") (Cg CV):=by
 obtain ⟨r,hr,i⟩:=Yv (X:=X)
 refine ⟨r,hr,fun m H h E ds vs Q hr rd q=>i m H h E ds vs Q hr rd ?_⟩
 match ds,q with
 |[],q=>exact q
 |[_],q=>exact q
 |x::_::_::_,q=>exact q
 |[x,y],q=>
  cases x with
  |exc _ _=>exact q.elim
  |edic=>exact q.elim
  |_=>exact q
section
variable {h:HD} {y:D} {i:Int} {b:Bool} {x:Str} {ds:List D} {l:Nat}
@[simp] theorem Zif:CV (.int i) y h=DA (.int i) y h:=rfl
@[simp] theorem Zig:CV (.bl b) y h=DA (.bl b) y h:=rfl
@[simp] theorem Zih:CV .non y h=DA .non y h:=rfl
@[simp] theorem Zii:CV (.str x) y h=DA (.str x) y h:=rfl
@[simp] theorem Zij:CV (.tup ds) y h=DA (.tup ds) y h:=rfl
@[simp] theorem Zik:CV (.loc l) y h=DA (.loc l) y h:=rfl
end
end LS
namespace LS
open PySem PySem.Spec PyProof.Rows L2 PySem.W PySem.Calls
def JJ:D→D→HD→Out D:=fun x y h=>match x,y with
 |.loc l,.loc k=>(match h[l]?,h[k]? with
  |some (.lst ds),some (.lst es)=>if ds.length+es.length≤sizeLine then .ok .non (h.set l (.lst (ds++es))) else .stuck
  |_,_=>.stuck)
 |_,_=>.stuck
section
variable {X:Cx} {E:XK}
def KF (f g:ME):ME:=fun ρ h=>((f ρ h).bind EH).bind fun x h1=>(g ρ h1).bind fun y h2=>JJ x y h2
theorem ZaW {o e:Expr} {f g:ME} {apos cpos:Pos} (ho:Ev X E o f) (he:Ev X E e g)
 (hbase:attributeBase o "extend" X.env (eval o X.env)=eval o X.env:=by rfl)
 (hfew:((backTo cpos (starEach [e] X.env)).all (fun x=>!x.1)&&(backToKw cpos (keywordEach [] X.env)).all (fun x=>x.1.isSome)
  &&decide ([e].length+([]:List Keyword).length+(if ([]:List Keyword).isEmpty then 0 else 1)<30))=true:=by rfl)
 (hline:(apos.endLine==cpos.line)=true:=by rfl) (hs:starEach [e] X.env=(false,eval e X.env)::starEach [] X.env:=by rfl) (hplain:(backTo cpos (starEach [] X.env)).any (·.1)=false:=by rfl):
 Ev X E (.Call (.Attribute o "extend" apos) [e] [] cpos) (KF f g):=
 Cd (Rb PySem.F.plainAttrs_list PySem.F.slot_list_extend PySem.F.type_list_extend XJ ho (Ad he Ag hs) hbase hfew hline hs hplain) fun σ H Q z1_=>by
  obtain ⟨m,ρ,h,hr,er,p⟩:=z1_
  refine ⟨m,ρ,h,hr,er,?_⟩
  unfold KF at p
  rw [Out.bind_assoc] at p
  refine Post.bind p fun x h1 v m1 H1 eo p1 k1 hr1 r1 q1=>?_
  clear eo
  unfold EH at q1
  split at q1
  ·rename_i l
   split at q1
   ·rename_i ds el
    simp only [Out.bind_ok] at q1
    have r1':=r1
    simp only [rD,DV] at r1'
    obtain ⟨a,rfl,ha⟩:=r1'
    obtain ⟨ws,hv,dv⟩:=hr1.cells l _ a el ha
    refine ⟨.inl ⟨rfl,ws,SqL.of hv⟩,m1,ρ,h1,hr1,er.keep p1 k1,?_⟩
    have q2:Post X.K (rD X.K) m1 H1 E Q ((Ab g Ae ρ h1).bind fun ys h2=>match ys with
     |[y]=>JJ (.loc l) y h2
     |_=>.stuck):=by
     unfold Ab Ae
     rw [Out.bind_assoc]
     exact q1
    refine Post.bind q2 fun ys h2 vs m2 H2 eo p2 k2 hr2 r2 q3=>?_
    clear eo
    split at q3
    ·rename_i y
     simp only [Ez,DVs] at r2
     obtain ⟨yv,w,rfl,ry,rfl⟩:=r2
     unfold JJ at q3
     split at q3
     ·rename_i l' k el'
      cases el'
      split at q3
      ·rename_i ds2 zs el2 ek2
       split at q3
       ·rename_i hz
        have ha2:=Jp p2 ha
        obtain ⟨ws2,hv2,dv2⟩:=hr2.cells _ _ a el2 ha2
        simp only [DV] at ry
        obtain ⟨b,rfl,hb⟩:=ry
        obtain ⟨zs2,hz2,dz2⟩:=hr2.cells _ _ b ek2 hb
        refine ⟨a,b,ws2,zs2,rfl,rfl,hv2,hz2,by rw [←dv2.len,←dz2.len];exact hz,?_⟩
        refine q3 .non m2 _ (AC _) (.set hv2 rfl) (hr2.setCell ha2 hv2 rfl ⟨_,Cz,?_⟩) (by simp [rD,DV])
        exact (dv2.app dz2).keep (AC _) (.set hv2 rfl)
       ·exact q3.elim
      ·exact q3.elim
     ·exact q3.elim
    ·exact q3.elim
   ·exact q1.elim
  ·exact q1.elim
end
section
variable {f g:ME} {ρ:Ai} {h:HD} {Q:D→HD→Prop} {l k:Nat} {ds es:List D}
@[simp] theorem Zil:Wp (KF f g ρ h) Q=Wp (f ρ h) fun x h1=>Wp (EH x h1) fun x h1=>Wp (g ρ h1) fun y h2=>Wp (JJ x y h2) Q:=by unfold KF;simp only [AB]
theorem ZaX (e:h[l]?=some (.lst ds)) (e':h[k]?=some (.lst es)) (hn:ds.length+es.length≤sizeLine):JJ (.loc l) (.loc k) h=.ok .non (h.set l (.lst (ds++es))):=by
 simp only [JJ,e,e']
 rw [if_pos hn]
end
def isI:Kyd→Bool
 |.i _=>true
 |_=>false
def Fg (kvs:List (Kyd×D)):Bool:=kvs.all fun p=>isI p.1
def Bn (kvs:List (Kyd×D)) (k:Kyd):Option D:=(kvs.find? fun p=>decide (p.1=k)).map (·.2)
def Ck (kvs:List (Kyd×D)) (k:Kyd) (v:D):List (Kyd×D):=if kvs.any (fun p=>decide (p.1=k)) then kvs.map (fun p=>if p.1=k then (p.1,v) else p) else kvs++[(k,v)]
def IR (K:Frag) (m:List Addr) (H:Hp) (p:Kyd×D) (q:Int×Value):Prop:=p.1=.i q.1∧∃v,DV K m H p.2 v∧RelV v q.2
section
variable {P:Program} {w:World} {K:Frag} {m:List Addr} {H:Hp} {h:Heap} {a:Addr}
theorem EntD.len:∀{kvs:List (Kyd×D)} {es:List (Kyd×V×V)},EntD K m H kvs es→kvs.length=es.length
 |[],_,e=>by simp only [EntD] at e;subst e;rfl
 |_::_,_,e=>by
  simp only [EntD] at e
  obtain ⟨kv,vv,r',rfl,_,_,t⟩:=e
  simp [EntD.len t]
theorem TH:∀{kvs:List (Kyd×D)} {es:List (Kyd×V×V)} {ul:List DictEntry},EntD K m H kvs es→Fg kvs=true→Paired J2 es ul→
 ∃vs:List (Int×Value),Pairs (intKind P w) ul vs∧(∀e∈ul,∃k,(intKind P w).is k e.key=true∧e.hash=(intKind P w).hash k)∧Paired (IR K m H) kvs vs∧vs.map (fun q=>Kyd.i q.1)=es.map (·.1)
 |[],_,_,e,_,p=>by
  simp only [EntD] at e
  subst e
  cases p
  exact ⟨[],.nil,by simp,.nil,rfl⟩
 |(k,d)::kvs,_,_,e,hi,p=>by
  simp only [EntD] at e
  obtain ⟨kv,vv,r',rfl,d1,d2,t⟩:=e
  simp only [Fg,Ji,CP] at hi
  cases p with
  |cons p1 p2=>
   rename_i e ul'
   obtain ⟨vs,h1,h2,h3,h4⟩:=TH t hi.2 p2
   obtain ⟨q1,q2,q3⟩:=p1
   cases k with
   |i n=>
    simp only [kD,DV] at d1
    subst d1
    obtain ⟨tk,q2⟩:=q2
    have hk:(intKind P w).is n e.key=true:=by
     rw [q2];exact intKind_is P w n tk
    refine ⟨(n,e.val)::vs,.cons hk rfl h1,fun x hx=>?_,.cons ⟨rfl,vv,d2,q3⟩ h3,by simp [h4]⟩
    rcases qa3.mp hx with rfl |hx
    ·exact ⟨n,hk,q1⟩
    ·exact h2 x hx
   |t ns=>cases hi.1
   |b rs=>cases hi.1
theorem ZaY {vs:List (Int×Value)} {es:List (Kyd×V×V)} (e:vs.map (fun q=>Kyd.i q.1)=es.map (·.1)) (nd:(es.map (·.1)).Nodup):(vs.map (·.1)).Nodup:=by
 rw [←e] at nd
 unfold List.Nodup at nd ⊢
 rw [Hk] at nd ⊢
 exact nd.imp fun z y=>z (by rw [y])
theorem O4 {es:List (Kyd×V×V)} {kvs:List (Kyd×D)} (d:BH a es h) (e:EntD K m H kvs es) (hi:Fg kvs=true):
 ∃(ob:Obj) (us:Array DictEntry) (ep:Nat) (vs:List (Int×Value)),h.get? a=some ob∧ob.data=.dict us ep∧h.DictAt (intKind P w) a vs ep∧Paired (IR K m H) kvs vs:=by
 obtain ⟨hs,hz,nd,o,us,ep,h1,h2,h3,h4⟩:=d
 obtain ⟨vs,q1,q2,q3,q4⟩:=TH (P:=P) (w:=w) e hi h4
 exact ⟨o,us,ep,vs,h1,h3,⟨o,us,h1,h2,h3,fun x hx=>q2 x (Array.mem_toList_iff.mpr hx),q1,ZaY q4 nd⟩,q3⟩
theorem TJ:∀{kvs:List (Kyd×D)} {vs:List (Int×Value)} {ul:List DictEntry},Paired (IR K m H) kvs vs→Pairs (intKind P w) ul vs→(∀e∈ul,∃k,(intKind P w).is k e.key=true∧e.hash=(intKind P w).hash k)→
 ∃es:List (Kyd×V×V),EntD K m H kvs es∧Paired J2 es ul∧es.map (·.1)=vs.map (fun q=>Kyd.i q.1)
 |_,_,_,.nil,p,_=>by
  cases p
  exact ⟨[],rfl,.nil,rfl⟩
 |_,_,_,.cons r t,p,hk=>by
  rename_i x y xs ys
  cases p with
  |cons p1 p2 p3=>
   rename_i e es'
   obtain ⟨es,h1,h2,h3⟩:=TJ t p3 (fun z hz=>hk z (Bb _ hz))
   obtain ⟨k,d⟩:=x
   obtain ⟨n,u⟩:=y
   obtain ⟨r1,v,r2,r3⟩:=r
   simp only at r1 p1 p2 r2 r3
   subst r1
   obtain ⟨tk,ek⟩:=Value.isInt_shape p1
   obtain ⟨k',k1,k2⟩:=hk e AZ
   have:k'=n:=(intKind P w).inj _ _ _ k1 p1
   subst this
   refine ⟨(.i k',.int k',v)::es,?_,.cons ⟨k2,⟨tk,ek⟩,by rw [p2];exact r3⟩ h2,by simp [h3]⟩
   simp only [EntD]
   exact ⟨_,_,_,rfl,by simp [kD,DV],r2,h1⟩
theorem ZaZ {kvs:List (Kyd×D)} {vs:List (Int×Value)} (hs:(a==sysModules)=false) (hz:kvs.length≤sizeLine) (dd:h.DictOf (intKind P w) a vs) (r:Paired (IR K m H) kvs vs):∃es,BH a es h∧EntD K m H kvs es:=by
 obtain ⟨o,us,ep,h1,h2,h3,h4,h5,h6⟩:=dd
 obtain ⟨es,q1,q2,q3⟩:=TJ (P:=P) (w:=w) r h5 (fun e he=>h4 e (Array.mem_toList_iff.mp he))
 refine ⟨es,⟨hs,by rw [←q1.len];exact hz,?_,o,us,ep,h1,h2,h3,q2⟩,q1⟩
 rw [q3]
 unfold List.Nodup at h6 ⊢
 rw [Hk] at h6 ⊢
 exact h6.imp fun z y=>z (by injection y)
theorem O5 {n:Int}:∀{kvs:List (Kyd×D)} {vs:List (Int×Value)},Paired (IR K m H) kvs vs→(Bn kvs (.i n)=none∧valueAt vs n=none)∨∃d u v,Bn kvs (.i n)=some d∧valueAt vs n=some u∧DV K m H d v∧RelV v u
 |_,_,.nil=>.inl ⟨rfl,rfl⟩
 |_,_,.cons r t=>by
  rename_i x y xs ys
  obtain ⟨r1,v,r2,r3⟩:=r
  by_cases z:y.1=n
  ·refine .inr ⟨x.2,y.2,v,?_,?_,r2,r3⟩
   ·simp [Bn,D6,r1,z]
   ·simp [valueAt,D6,z]
  ·have e1:Bn (x::xs) (.i n)=Bn xs (.i n):=by simp [Bn,D6,r1,z]
   have e2:valueAt (y::ys) n=valueAt ys n:=by simp [valueAt,D6,z]
   rw [e1,e2]
   exact O5 t
theorem TK {n:Int}:∀{kvs:List (Kyd×D)} {vs:List (Int×Value)},Paired (IR K m H) kvs vs→(kvs.any fun p=>decide (p.1=.i n))=vs.any fun kv=>decide (kv.1=n)
 |_,_,.nil=>rfl
 |_,_,.cons r t=>by
  rw [Jj,Jj,TK t,r.1]
  congr 1
  simp
theorem TL {n:Int} {d:D} {v:V} {u:Value} (dv:DV K m H d v) (rv:RelV v u):∀{kvs:List (Kyd×D)} {vs:List (Int×Value)},Paired (IR K m H) kvs vs→Paired (IR K m H) (kvs.map fun p=>if p.1=.i n then (p.1,d) else p) (vs.map fun kv=>if kv.1=n then (kv.1,u) else kv)
 |_,_,.nil=>.nil
 |_,_,.cons r t=>by
  rename_i x y xs ys
  refine .cons ?_ (TL dv rv t)
  show IR K m H (if x.1=.i n then (x.1,d) else x) (if y.1=n then (y.1,u) else y)
  by_cases z:y.1=n
  ·rw [if_pos z,if_pos (by rw [r.1,z])]
   exact ⟨r.1,v,dv,rv⟩
  ·rw [if_neg z,if_neg (by rw [r.1];intro q;injection q with q;exact z q)]
   exact r
theorem TM {p:Kyd×D} {q:Int×Value} (r:IR K m H p q):∀{kvs:List (Kyd×D)} {vs:List (Int×Value)},Paired (IR K m H) kvs vs→Paired (IR K m H) (kvs++[p]) (vs++[q])
 |_,_,.nil=>.cons r .nil
 |_,_,.cons x t=>.cons x (TM r t)
theorem Za0 {n:Int} {d:D} {v:V} {u:Value} {kvs:List (Kyd×D)} {vs:List (Int×Value)} (r:Paired (IR K m H) kvs vs) (dv:DV K m H d v) (rv:RelV v u):Paired (IR K m H) (Ck kvs (.i n) d) (stored vs n u):=by
 unfold Ck stored
 rw [TK r]
 by_cases z:(vs.any fun kv=>decide (kv.1=n))=true
 ·rw [if_pos z,if_pos z];exact TL dv rv r
 ·rw [if_neg z,if_neg z];exact TM ⟨rfl,v,dv,rv⟩ r
theorem KG {kvs:List (Kyd×D)} {k:Kyd} {d:D}:(Ck kvs k d).length≤kvs.length+1:=by
 unfold Ck
 split<;>simp
theorem TN:∀{kvs:List (Kyd×D)} {vs:List (Int×Value)},Paired (IR K m H) kvs vs→kvs.length=vs.length
 |_,_,.nil=>rfl
 |_,_,.cons _ t=>by simp [TN t]
theorem O6 {H':Hp} {es:List (Kyd×V×V)} (d:BH a es h):ObjOk P w H' h a (.dct (BH a es)):=
 ⟨d,let ⟨_,_,_,o,_,_,e,_⟩:=d;⟨o,e⟩,fun h1 h2 ⟨x1,x2,x3,o,us,ep,e,r⟩ k=>⟨x1,x2,x3,o,us,ep,k _ e,r⟩⟩
end
section
variable {X:Cx} {E:XK} {pins:List (Addr×Obj)} {σ:L2.St} {H:Hp} {s:Shared}
theorem Za1 (I:Inv X pins σ H s):(s.heap.objs.size==sysModules)=false:=by
 have ne:s.heap.objs.size≠sysModules:=by
  obtain ⟨og,_,_,eg,_⟩:=I.ok.mod.glob
  obtain ⟨ml,⟨ol,_,_,el,_⟩,_⟩:=I.loc
  have h1:(3:Nat)<X.base.objs.size:=AS eg
  have h2:(X.env.locals:Nat)<s.heap.objs.size:=AS el
  have h3:X.base.objs.size≤X.s₀.heap.objs.size:=I.ok.bsz
  have h4:X.s₀.heap.objs.size≤(X.env.locals:Nat):=I.ok.above
  have h5:(1:Nat)<s.heap.objs.size:=Bp (Bp (show 1<4 by decide) h1) (B8 h3 (B8 h4 (Nat.le_of_lt h2)))
  exact fun z=>Bs h5 z
 exact beq_eq_false_iff_ne.mpr ne
def O7 (kvs:List (Kyd×D)) (h:HD):Out D:=.ok (.loc h.length) (h++[.dic false kvs])
def MR:ME:=fun _ h=>O7 [] h
theorem Za2 {m:List Addr} {h:HD} {Q:VK} {a:Addr} {kvs:List (Kyd×D)} {es:List (Kyd×V×V)} {H1:Hp} (hr:HR X.K m h H) (hf:H a=none) (k:Kp H H1) (p:Post X.K (rD X.K) m H E Q (O7 kvs h)) (e1:H1=Az H a (.dct (BH a es))) (en:EntD X.K m H kvs es):Q (.ref a) H1:=by
 subst e1
 refine p (.ref a) (m++[a]) _ (Gg _ _) (.new hf) (hr.newCell hf ⟨es,Cz,en.keep (Gg _ _) (.new hf)⟩) ?_
 simp only [rD,DV]
 refine ⟨a,rfl,?_⟩
 rw [←hr.len]
 simp
theorem TQ {pos:Pos}:Ev X E (.Dict [] [] pos) MR:=fun pins s σ H Q I z1_=>by
 obtain ⟨m,ρ,h,hr,er,p⟩:=z1_
 have hf:H s.heap.objs.size=none:=I.hok.fresh (AK _)
 exact wpAny_Dict_empty ⟨.ref s.heap.objs.size,Az H s.heap.objs.size (.dct (BH s.heap.objs.size [])),I.laid (t':=s.toks) (fun _ _ q=>AY _ q) (AK _) (O6 ⟨Za1 I,Ep _,List.nodup_nil,_,#[],0,BR _ rfl,⟨rfl,rfl,rfl⟩,rfl,.nil⟩),rfl,
  Za2 (es:=[]) hr hf (.new hf) p rfl (by simp [EntD])⟩
def Za3 (i j:Int):ME:=fun _ h=>O7 [(.i i,.int j)] h
def TU:D→HD→Out D:=fun x h=>match x with
 |.loc l=>(match h[l]? with
  |some (.dic _ _)=>.ok x h
  |_=>.stuck)
 |_=>.stuck
theorem TV {fz:Bool} {a:Addr} {es:List (Kyd×V×V)} (I:Inv X pins σ H s) (d:DicH fz H a es):BH a es s.heap:=by
 have:=d.rd.ok I.hok
 exact (show ObjOk X.prog X.w H s.heap a (.dct (BH a es)) from this).1
theorem TX {a:Addr} {es:List (Kyd×V×V)} (d:BH a es s.heap):s.TypeIs (.ref a) "dict"∧∀b,Value.ref a=.ref b→∃ob,s.heap.get? b=some ob∧ob.dict=none:=by
 obtain ⟨_,_,_,o,us,ep,h1,h2,h3,_⟩:=d
 exact ⟨⟨o,h1,h2.1⟩,fun b z=>by cases z;exact ⟨o,h1,h2.2.1⟩⟩
def TY:D→D→D→HD→Out D:=fun x y z h=>match x,y with
 |.loc l,.int n=>(match h[l]? with
  |some (.dic _ kvs)=>if Fg kvs then .ok ((Bn kvs (.i n)).getD z) h else .stuck
  |_=>.stuck)
 |_,_=>.stuck
def TZ (f g k:ME):ME:=fun ρ h=>((f ρ h).bind TU).bind fun x h1=>(g ρ h1).bind fun y h2=>(k ρ h2).bind fun z h3=>TY x y z h3
def KH (o i v:D) (h:HD) (g:HD→Out (Fl×Ai)):Out (Fl×Ai):=match o,i with
 |.loc l,.int n=>(match h[l]? with
  |some (.dic false kvs)=>if Fg kvs∧kvs.length<sizeLine then g (h.set l (.dic false (Ck kvs (.i n) v))) else .stuck
  |_=>.stuck)
 |_,_=>.stuck
def MU (fo fi fv:ME):MS:=fun ρ h=>(fv ρ h).bind fun v h1=>(fo ρ h1).bind fun o h2=>(fi ρ h2).bind fun i h3=>KH o i v h3 fun h4=>.ok (.nx,ρ) h4
def Za4 (K:Frag):V→V→V→Hp→(Hp→Prop)→Prop:=fun o i v H Q=>∃(m:List Addr) (a:Addr) (n:Int) (kvs:List (Kyd×D)) (es:List (Kyd×V×V)) (d:D),o=.ref a∧i=.int n∧H a=some (.dct (BH a es))∧EntD K m H kvs es∧Fg kvs=true∧kvs.length<sizeLine∧DV K m H d v∧
 ∀es',EntD K m H (Ck kvs (.i n) d) es'→Q (Az H a (.dct (BH a es')))
theorem Za5:LN X (Za4 X.K):=by
 intro pins s σ H o i v ov iv u Q I ro ri rv h
 obtain ⟨m,a,n,kvs,es,d,rfl,rfl,hH,en,hi,hz,dv,q⟩:=h
 cases ro
 obtain ⟨tk,rfl⟩:=ri
 have dc:BH a es s.heap:=(show ObjOk X.prog X.w H s.heap a (.dct (BH a es)) from I.hok a _ hH).1
 obtain ⟨ob,us,ep,vs,h1,h2,dd,rr⟩:=O4 (P:=X.prog) (w:=X.w) dc en hi
 refine wpAny_setItem_pairs (hsz:=by rw [←TN rr];omega) (intKind_is X.prog X.w n tk) dd.dictOf fun h' dd' hs=>?_
 obtain ⟨es',q1,q2⟩:=ZaZ (P:=X.prog) (w:=X.w) dc.1 (B8 KG (by omega)) dd' (Za0 rr dv rv)
 refine ⟨_,I.write (x:=a) (e:=a) (t':=s.toks+1) (by rw [hH];exact True.intro) (.inl rfl) (fun b q hb z=>(hs.2 b hb).trans z) ?_ (O6 q1),q es' q2⟩
 obtain ⟨q,_,_,hq,_⟩:=dd'
 exact ⟨q,hq⟩
theorem Za6 {o i e:Expr} {fo fi fv:ME} {pos pos':Pos} (ho:Ev X E o fo) (hi:Ev X E i fi) (he:Ev X E e fv)
 (ha:∀v,assign (.Subscript o i pos') X.env v=(do
  let ov ←holding [v] (eval o X.env)
  let iv ←holding [v,ov] (eval i X.env)
  standAt pos'
  holding [v,ov,iv] (setItem ov iv v)
  release [v,ov,iv] []):=by intro _;rfl)
 (hs:swapsWithSole [.Subscript o i pos'] e pos.line X.env=pure false:=by rfl) (hw:swappedStores [.Subscript o i pos'] e X.env=pure none:=by rfl)
 (h1:(assignEach [.Subscript o i pos'] X.env).map (·.2)=[assign (.Subscript o i pos') X.env]:=by rfl):Ex X E (.Assign [.Subscript o i pos'] e pos) (MU fo fi fv):=
 EA (LO he (Nx ho hi Za5 ha) hs hw h1) fun Dn σ H ⟨m,ρ,h,hr,er,p⟩=>⟨m,ρ,h,hr,er,PostS.bind p fun v h1 vv m1 H1 eo1 p1 k1 hr1 r1 q1=>by
  refine ⟨m1,ρ,h1,hr1,er.keep p1 k1,PostS.bind q1 fun ov h2 vo m2 H2 eo2 p2 k2 hr2 r2 q2=>?_⟩
  refine ⟨m2,ρ,h2,hr2,(er.keep p1 k1).keep p2 k2,PostS.bind q2 fun iv h3 vi m3 H3 eo3 p3 k3 hr3 r3 q3=>?_⟩
  clear eo1 eo2 eo3
  unfold KH at q3
  split at q3
  ·rename_i l n
   split at q3
   ·rename_i kvs el
    split at q3
    ·rename_i hc
     have ro:=DV.keep p3 k3 r2
     simp only [DV] at ro
     obtain ⟨a,rfl,ha⟩:=ro
     have ri:=r3
     simp only [rD,DV] at ri
     subst ri
     obtain ⟨es,hv,en⟩:=hr3.cells l _ a el ha
     have hv:H3 a=some (.dct (BH a es)):=hv
     have rvv:=DV.keep p3 k3 (DV.keep p2 k2 r1)
     refine ⟨m3,a,n,kvs,es,v,rfl,rfl,hv,en,hc.1,hc.2,rvv,fun es' en'=>?_⟩
     have kk:Kp H3 (Az H3 a (.dct (BH a es'))):=.set hv rfl
     have hr4:HR X.K m3 (h3.set l (.dic false (Ck kvs (.i n) v))) (Az H3 a (.dct (BH a es'))):=hr3.setCell ha hv rfl ⟨es',Cz,en'.keep (AC _) kk⟩
     exact q3 m3 _ (AC _) kk hr4 σ ((((er.keep p1 k1).keep p2 k2).keep p3 k3).keep (AC _) kk)
    ·exact q3.elim
   ·exact q3.elim
  ·exact q3.elim⟩
def Zim (a:Addr) (ob:Obj) (es:List (Kyd×V×V)):It:=⟨fun i H=>H a=some (.frz ob (.dct (BH a es)))∧i<es.length,fun i H x H'=>∃p k kv vv,H p=none∧x=.ref p∧es[i]?=some (k,kv,vv)∧H'=Az H p (.tup [kv,vv]),fun i H=>H a=some (.frz ob (.dct (BH a es)))∧i=es.length⟩
def T1 (d:D) (h:HD):Out (List D×Bm):=match d with
 |.loc l=>(match h[l]? with
  |some (.dic _ kvs)=>if Fg kvs then .ok (kvs.map fun p=>.tup [kD p.1,p.2],[]) (h.set l (.dic true kvs)) else .stuck
  |_=>.stuck)
 |_=>.stuck
def T3 (f:ME):MI:=fun ρ h=>(f ρ h).bind T1
end
section
variable {f g k fo fi fv:ME} {ρ:Ai} {h:HD} {Q:D→HD→Prop} {QS:Fl×Ai→HD→Prop} {QI:List D×Bm→HD→Prop} {i j:Int} {l:Nat} {fz:Bool} {kvs:List (Kyd×D)}
@[simp] theorem Zin:Wp (MR ρ h) Q=Q (.loc h.length) (h++[.dic false []]):=id rfl
@[simp] theorem Zio:Wp (Za3 i j ρ h) Q=Q (.loc h.length) (h++[.dic false [(.i i,.int j)]]):=id rfl
@[simp] theorem Ziq:Wp (TZ f g k ρ h) Q=Wp (f ρ h) fun x h1=>Wp (TU x h1) fun x h2=>Wp (g ρ h2) fun y h3=>Wp (k ρ h3) fun z h4=>Wp (TY x y z h4) Q:=by unfold TZ;simp only [AB]
@[simp] theorem Zir:Wp (MU fo fi fv ρ h) QS=Wp (fv ρ h) fun v h1=>Wp (fo ρ h1) fun o h2=>Wp (fi ρ h2) fun i h3=>Wp (KH o i v h3 fun h4=>.ok (.nx,ρ) h4) QS:=by unfold MU;simp only [AB]
@[simp] theorem Zis:Wp (T3 f ρ h) QI=Wp (f ρ h) fun d h1=>Wp (T1 d h1) QI:=by unfold T3;rw [AB]
end
namespace Dt
open PySem
abbrev iK (prog:Program) (w:World):KeyKind prog w Int:=intKind prog w
abbrev tK (prog:Program) (w:World):HeapKind prog w (List Int):=tupleKind (iK prog w)
abbrev Ent:=List Int×Addr×Value
end Dt
section
variable {P:Program} {w:World} {K:Frag} {m:List Addr} {H:Hp} {h:Heap} {a:Addr}
theorem T4:∀{ns:List Int} {vs:List V} {us:List Value},DVs K m H (ns.map D.int) vs→Vals vs us→ItemsAre (intKind P w) ns us
 |[],_,_,r,t=>by
  simp only [Hq,DVs] at r
  subst r
  cases t
  exact .nil
 |n::ns,_,_,r,t=>by
  simp only [Br,DVs] at r
  obtain ⟨v,vs,rfl,rv,rr⟩:=r
  simp only [DV] at rv
  subst rv
  cases t with
  |cons t1 t2=>
   obtain ⟨tk,rfl⟩:=t1
   exact .cons (intKind_is P w n tk) (T4 rr t2)
theorem Za7 (ok:HOk P w H h) {ns:List Int} {v:V} (d:DV K m H (.tup (ns.map D.int)) v):∃b,v=.ref b∧IsTupleKey (intKind P w) h ns b:=by
 simp only [DV] at d
 obtain ⟨b,vs,rfl,hb,dv⟩:=d
 obtain ⟨_,its,f2,⟨o,ho,hc,n,hd⟩,_⟩:=(show Nt h b vs from ok b _ hb)
 exact ⟨b,rfl,o,its.toArray,n,ho,hc,hd,by simpa using T4 dv f2⟩
end
def Ha:List D→Option (List Int)
 |[]=>some []
 |.int n::ds=>(Ha ds).map (n::·)
 |_=>none
theorem T5:∀{ds:List D} {ns:List Int},Ha ds=some ns→ds=ns.map D.int
 |[],_,e=>by cases e;rfl
 |d::ds,ns,e=>by
  cases d<;>simp only [Ha] at e<;>try cases e
  rename_i n
  cases q:Ha ds with
  |none=>rw [q] at e;cases e
  |some ms=>rw [q] at e;cases e;rw [T5 q];rfl
end LS
namespace LS
open PySem PySem.Spec PyProof.Rows L2 PySem.W PySem.Calls
def isT:Kyd→Bool
 |.t _=>true
 |_=>false
def Dl (kvs:List (Kyd×D)):Bool:=kvs.all fun p=>isT p.1
def TR (K:Frag) (m:List Addr) (H:Hp) (p:Kyd×D) (q:List Int×Addr×Value):Prop:=p.1=.t q.1∧DV K m H (kD p.1) (.ref q.2.1)∧∃v,DV K m H p.2 v∧RelV v q.2.2
section
variable {P:Program} {w:World} {K:Frag} {m:List Addr} {H:Hp} {h:Heap} {a:Addr}
theorem MV (ok:HOk P w H h) {ns:List Int} {v:V} (d:DV K m H (kD (.t ns)) v):∃b,v=.ref b∧IsTupleKey (intKind P w) h ns b:=Za7 ok d
theorem T6 (ok:HOk P w H h):∀{kvs:List (Kyd×D)} {es:List (Kyd×V×V)} {ul:List DictEntry},EntD K m H kvs es→Dl kvs=true→Paired J2 es ul→
 ∃xs:List (List Int×Addr×Value),ul=xs.map (entryOfKey (Dt.tK P w))∧Paired (TR K m H) kvs xs∧(∀x∈xs,(Dt.tK P w).is h x.1 x.2.1)∧xs.map (fun q=>Kyd.t q.1)=es.map (·.1)
 |[],_,_,e,_,p=>by
  simp only [EntD] at e
  subst e
  cases p
  exact ⟨[],rfl,.nil,by simp,rfl⟩
 |(k,d)::kvs,_,_,e,hi,p=>by
  simp only [EntD] at e
  obtain ⟨kv,vv,r',rfl,d1,d2,t⟩:=e
  simp only [Dl,Ji,CP] at hi
  cases p with
  |cons p1 p2=>
   rename_i e ul'
   obtain ⟨xs,h1,h2,h3,h4⟩:=T6 ok t hi.2 p2
   obtain ⟨q1,q2,q3⟩:=p1
   cases k with
   |t rs=>
    obtain ⟨b,rfl,hb⟩:=MV ok d1
    obtain ⟨eh,ek,ev⟩:=e
    cases (show ek=Value.ref b from q2)
    simp only at q1
    subst q1
    refine ⟨(rs,b,ev)::xs,by rw [h1];rfl,.cons ⟨rfl,d1,vv,d2,q3⟩ h2,fun x hx=>?_,by simp [h4]⟩
    rcases qa3.mp hx with rfl |hx
    ·exact hb
    ·exact h3 x hx
   |b ns=>cases hi.1
   |i n=>cases hi.1
theorem O8 (ok:HOk P w H h) {es:List (Kyd×V×V)} {kvs:List (Kyd×D)} (d:BH a es h) (e:EntD K m H kvs es) (hi:Dl kvs=true):∃xs:List (List Int×Addr×Value),h.DictOfH (Dt.tK P w) a xs∧Paired (TR K m H) kvs xs:=by
 obtain ⟨hs,hz,nd,o,us,ep,h1,h2,h3,h4⟩:=d
 obtain ⟨xs,q1,q2,q3,q4⟩:=T6 ok e hi h4
 refine ⟨xs,⟨o,us,ep,h1,h2,h3,q1,q3,?_⟩,q2⟩
 rw [←q4] at nd
 unfold List.Nodup at nd ⊢
 rw [Hk] at nd ⊢
 exact nd.imp fun z y=>z (by rw [y])
theorem T7:∀{kvs:List (Kyd×D)} {xs:List (List Int×Addr×Value)},Paired (TR K m H) kvs xs→∃es:List (Kyd×V×V),EntD K m H kvs es∧Paired J2 es (xs.map (entryOfKey (Dt.tK P w)))∧es.map (·.1)=xs.map (fun q=>Kyd.t q.1)
 |_,_,.nil=>⟨[],rfl,.nil,rfl⟩
 |_,_,.cons r t=>by
  rename_i x y xs ys
  obtain ⟨es,h1,h2,h3⟩:=T7 t
  obtain ⟨k,d⟩:=x
  obtain ⟨n,b,u⟩:=y
  obtain ⟨r1,r0,v,r2,r3⟩:=r
  simp only at r1 r0 r2 r3
  subst r1
  refine ⟨(.t n,.ref b,v)::es,?_,.cons ⟨rfl,rfl,r3⟩ h2,by simp [h3]⟩
  simp only [EntD]
  exact ⟨_,_,_,rfl,r0,r2,h1⟩
theorem T8:∀{kvs:List (Kyd×D)} {xs:List (List Int×Addr×Value)},Paired (TR K m H) kvs xs→kvs.length=xs.length
 |_,_,.nil=>rfl
 |_,_,.cons _ t=>by simp [T8 t]
theorem Za8 {kvs:List (Kyd×D)} {xs:List (List Int×Addr×Value)} (hs:(a==sysModules)=false) (hz:kvs.length≤sizeLine) (dd:h.DictOfH (Dt.tK P w) a xs) (r:Paired (TR K m H) kvs xs):∃es,BH a es h∧EntD K m H kvs es:=by
 obtain ⟨o,us,ep,h1,h2,h3,h4,h5,h6⟩:=dd
 obtain ⟨es,q1,q2,q3⟩:=T7 (P:=P) (w:=w) r
 refine ⟨es,⟨hs,by rw [←q1.len];exact hz,?_,o,us,ep,h1,h2,h3,by rw [h4];exact q2⟩,q1⟩
 rw [q3]
 unfold List.Nodup at h6 ⊢
 rw [Hk] at h6 ⊢
 exact h6.imp fun z y=>z (by injection y)
theorem T9 {n:List Int}:∀{kvs:List (Kyd×D)} {xs:List (List Int×Addr×Value)},Paired (TR K m H) kvs xs→(kvs.any fun p=>decide (p.1=.t n))=(atKey xs n).isSome
 |_,_,.nil=>rfl
 |_,_,.cons r t=>by
  rename_i x y xs ys
  rw [Jj,T9 t,r.1]
  by_cases z:y.1=n
  ·simp [atKey,D6,z]
  ·simp [atKey,D6,z]
theorem Ua {n:List Int} {d:D} {v:V} {u:Value} (dv:DV K m H d v) (rv:RelV v u):∀{kvs:List (Kyd×D)} {xs:List (List Int×Addr×Value)},Paired (TR K m H) kvs xs→Paired (TR K m H) (kvs.map fun p=>if p.1=.t n then (p.1,d) else p) (xs.map (putAt n u))
 |_,_,.nil=>.nil
 |_,_,.cons r t=>by
  rename_i x y xs ys
  refine .cons ?_ (Ua dv rv t)
  show TR K m H (if x.1=.t n then (x.1,d) else x) (putAt n u y)
  unfold putAt
  by_cases z:y.1=n
  ·rw [if_pos z,if_pos (by rw [r.1,z])]
   exact ⟨r.1,r.2.1,v,dv,rv⟩
  ·rw [if_neg z,if_neg (by rw [r.1];intro q;injection q with q;exact z q)]
   exact r
theorem Ub {p:Kyd×D} {q:List Int×Addr×Value} (r:TR K m H p q):∀{kvs:List (Kyd×D)} {xs:List (List Int×Addr×Value)},Paired (TR K m H) kvs xs→Paired (TR K m H) (kvs++[p]) (xs++[q])
 |_,_,.nil=>.cons r .nil
 |_,_,.cons x t=>.cons x (Ub r t)
theorem Za9 {n:List Int} {b:Addr} {d:D} {v:V} {u:Value} {kvs:List (Kyd×D)} {xs:List (List Int×Addr×Value)} (r:Paired (TR K m H) kvs xs) (db:DV K m H (kD (.t n)) (.ref b)) (dv:DV K m H d v) (rv:RelV v u):Paired (TR K m H) (Ck kvs (.t n) d) (storedH xs n b u):=by
 unfold Ck storedH
 rw [T9 r]
 by_cases z:(atKey xs n).isSome=true
 ·rw [if_pos z,if_pos z];exact Ua dv rv r
 ·rw [if_neg z,if_neg z];exact Ub ⟨rfl,db,v,dv,rv⟩ r
end
def keyT:D→Option (List Int)
 |.tup ds=>Ha ds
 |_=>none
theorem O9 {d:D} {ns:List Int} (e:keyT d=some ns):d=kD (.t ns):=by
 cases d<;>simp only [keyT] at e<;>try cases e
 rw [T5 e]
 rfl
def KI (o i v:D) (h:HD) (g:HD→Out (Fl×Ai)):Out (Fl×Ai):=match o,keyT i with
 |.loc l,some rs=>(match h[l]? with
  |some (.dic false kvs)=>if Dl kvs∧kvs.length<sizeLine then g (h.set l (.dic false (Ck kvs (.t rs) v))) else .stuck
  |_=>.stuck)
 |_,_=>.stuck
def KJ (fo fi fv:ME):MS:=fun ρ h=>(fv ρ h).bind fun v h1=>(fo ρ h1).bind fun o h2=>(fi ρ h2).bind fun i h3=>KI o i v h3 fun h4=>.ok (.nx,ρ) h4
def Zba (K:Frag):V→V→V→Hp→(Hp→Prop)→Prop:=fun o i v H Q=>∃(m:List Addr) (a:Addr) (rs:List Int) (kvs:List (Kyd×D)) (es:List (Kyd×V×V)) (d:D),o=.ref a∧DV K m H (kD (.t rs)) i∧H a=some (.dct (BH a es))∧EntD K m H kvs es∧Dl kvs=true∧kvs.length<sizeLine∧DV K m H d v∧
 ∀es',EntD K m H (Ck kvs (.t rs) d) es'→Q (Az H a (.dct (BH a es')))
section
variable {X:Cx} {E:XK} {pins:List (Addr×Obj)} {σ:L2.St} {H:Hp} {s:Shared}
theorem Zbb (hu:X.A.units+64<cLine):LN X (Zba X.K):=by
 intro pins s σ H o i v ov iv u Q I ro ri rv h
 obtain ⟨m,a,rs,kvs,es,d,rfl,di,hH,en,hi,hz,dv,q⟩:=h
 cases ro
 obtain ⟨b,rfl,hb⟩:=MV I.hok di
 cases (show iv=Value.ref b from ri)
 have dc:BH a es s.heap:=(show ObjOk X.prog X.w H s.heap a (.dct (BH a es)) from I.hok a _ hH).1
 obtain ⟨xs,dd,rr⟩:=O8 (P:=X.prog) (w:=X.w) I.hok dc en hi
 refine wpAny_setItem_heap (knd:=Dt.tK X.prog X.w) (hsz:=by rw [←T8 rr];omega) (by show X.A.units+1<cLine;omega) hb dd fun h' dd' hs=>?_
 obtain ⟨es',q1,q2⟩:=Za8 (P:=X.prog) (w:=X.w) dc.1 (B8 KG (by omega)) dd' (Za9 rr di dv rv)
 refine ⟨_,I.write (x:=a) (e:=a) (t':=_) (by rw [hH];exact True.intro) (.inl rfl) (fun b q hb z=>(hs.2 b hb).trans z) ?_ (O6 q1),q es' q2⟩
 obtain ⟨q,_,_,hq,_⟩:=dd'
 exact ⟨q,hq⟩
theorem Uc {o i e:Expr} {fo fi fv:ME} {pos pos':Pos} (hu:X.A.units+64<cLine) (ho:Ev X E o fo) (hi:Ev X E i fi) (he:Ev X E e fv)
 (ha:∀v,assign (.Subscript o i pos') X.env v=(do
  let ov ←holding [v] (eval o X.env)
  let iv ←holding [v,ov] (eval i X.env)
  standAt pos'
  holding [v,ov,iv] (setItem ov iv v)
  release [v,ov,iv] []):=by intro _;rfl)
 (hs:swapsWithSole [.Subscript o i pos'] e pos.line X.env=pure false:=by rfl) (hw:swappedStores [.Subscript o i pos'] e X.env=pure none:=by rfl)
 (h1:(assignEach [.Subscript o i pos'] X.env).map (·.2)=[assign (.Subscript o i pos') X.env]:=by rfl):Ex X E (.Assign [.Subscript o i pos'] e pos) (KJ fo fi fv):=
 EA (LO he (Nx ho hi (Zbb hu) ha) hs hw h1) fun Dn σ H ⟨m,ρ,h,hr,er,p⟩=>⟨m,ρ,h,hr,er,PostS.bind p fun v h1 vv m1 H1 eo1 p1 k1 hr1 r1 q1=>by
  refine ⟨m1,ρ,h1,hr1,er.keep p1 k1,PostS.bind q1 fun ov h2 vo m2 H2 eo2 p2 k2 hr2 r2 q2=>?_⟩
  refine ⟨m2,ρ,h2,hr2,(er.keep p1 k1).keep p2 k2,PostS.bind q2 fun iv h3 vi m3 H3 eo3 p3 k3 hr3 r3 q3=>?_⟩
  clear eo1 eo2 eo3
  unfold KI at q3
  split at q3
  ·rename_i l rs er'
   split at q3
   ·rename_i kvs el
    split at q3
    ·rename_i hc
     have ro:=DV.keep p3 k3 r2
     simp only [DV] at ro
     obtain ⟨a,rfl,ha⟩:=ro
     have ri:DV X.K m3 H3 (kD (.t rs)) vi:=by rw [←O9 er'];exact r3
     obtain ⟨es,hv,en⟩:=hr3.cells l _ a el ha
     have hv:H3 a=some (.dct (BH a es)):=hv
     have rvv:=DV.keep p3 k3 (DV.keep p2 k2 r1)
     refine ⟨m3,a,rs,kvs,es,v,rfl,ri,hv,en,hc.1,hc.2,rvv,fun es' en'=>?_⟩
     have kk:Kp H3 (Az H3 a (.dct (BH a es'))):=.set hv rfl
     have hr4:HR X.K m3 (h3.set l (.dic false (Ck kvs (.t rs) v))) (Az H3 a (.dct (BH a es'))):=hr3.setCell ha hv rfl ⟨es',Cz,en'.keep (AC _) kk⟩
     exact q3 m3 _ (AC _) kk hr4 σ ((((er.keep p1 k1).keep p2 k2).keep p3 k3).keep (AC _) kk)
    ·exact q3.elim
   ·exact q3.elim
  ·exact q3.elim⟩
end
section
variable {K:Frag} {m:List Addr} {H:Hp}
theorem Pa {n:List Int}:∀{kvs:List (Kyd×D)} {xs:List Dt.Ent},Paired (TR K m H) kvs xs→(Bn kvs (.t n)=none∧atKey xs n=none)∨∃d p v,Bn kvs (.t n)=some d∧atKey xs n=some p∧DV K m H d v∧RelV v p.2
 |_,_,.nil=>.inl ⟨rfl,rfl⟩
 |_,_,.cons r t=>by
  rename_i x y xs ys
  obtain ⟨r1,r0,v,r2,r3⟩:=r
  by_cases z:y.1=n
  ·refine .inr ⟨x.2,y.2,v,?_,?_,r2,r3⟩
   ·simp [Bn,D6,r1,z]
   ·simp [atKey,D6,z]
  ·have e1:Bn (x::xs) (.t n)=Bn xs (.t n):=by simp [Bn,D6,r1,z]
   have e2:atKey (y::ys) n=atKey ys n:=by simp [atKey,D6,z]
   rw [e1,e2]
   exact Pa t
theorem Zbc {kvs:List (Kyd×D)} {k:Kyd}:(kvs.any fun p=>decide (p.1=k))=(Bn kvs k).isSome:=by
 unfold Bn
 rw [Option.isSome_map,qaS,qbC,List.find?_isSome]
end
def DD (neg:Bool):D→D→HD→Out D:=fun x y h=>match y with
 |.loc l=>(match h[l]? with
  |some (.dic _ kvs)=>(match x with
   |.int n=>if Fg kvs then .ok (.bl (Bool.xor neg (Bn kvs (.i n)).isSome)) h else .stuck
   |_=>(match keyT x with
    |some ns=>if Dl kvs then .ok (.bl (Bool.xor neg (Bn kvs (.t ns)).isSome)) h else .stuck
    |none=>.stuck))
  |_=>.stuck)
 |_=>.stuck
theorem Zbd (neg:Bool) (x y:D) (h:HD):HL (DD neg x y h):=by
 unfold DD
 repeat' split
 all_goals trivial
section
variable {X:Cx} {E:XK}
def Zbe (X:Cx) (neg:Bool):R2:=fun v u H Q=>∃m h x y,HR X.K m h H∧DV X.K m H x v∧DV X.K m H y u∧Post X.K (rD X.K) m H E0 Q (DD neg x y h)
theorem Ud {neg:Bool} {o:CmpOp} (hu:X.A.units+64<cLine)
 (ki:∀{s:Shared} {d:Addr} {n:Int} {tk:Tok} {f:Int→Option Value} {Q:Value→Shared→Prop} {E:Value→Shared→Prop},(d==sysModules)=false→s.heap.MapOf (intKind X.prog X.w) d f→Q (.bool (Bool.xor neg (f n).isSome)) {s with toks:=s.toks+1}→wpAny (model X.prog X.w) X.A (compareOp o (.int n tk) (.ref d)) Q E s)
 (kt:∀{s:Shared} {d c:Addr} {ns:List Int} {xs:List Dt.Ent} {Q:Value→Shared→Prop} {E:Value→Shared→Prop},IsTupleKey (intKind X.prog X.w) s.heap ns c→(d==sysModules)=false→s.heap.DictOfH (Dt.tK X.prog X.w) d xs→Q (.bool (Bool.xor neg (atKey xs ns).isSome)) {s with toks:=s.toks+(Dt.tK X.prog X.w).draws ns}→wpAny (model X.prog X.w) X.A (compareOp o (.ref c) (.ref d)) Q E s):
 BI X (compareOp o) (DD neg):=by
 refine ⟨Zbe X neg,fun pins s σ H v u a b Q I rv ru z=>?_,fun m H h E x y v u Q hr rx ry q=>⟨m,h,x,y,hr,rx,ry,Post.noE (Zbd _ _ _ _) q⟩⟩
 obtain ⟨m,h,x,y,hr,rx,ry,q⟩:=z
 unfold DD at q
 split at q
 ·rename_i l
  split at q
  ·rename_i fz kvs el
   simp only [DV] at ry
   obtain ⟨d,rfl,hd⟩:=ry
   cases (show b=Value.ref d from ru)
   obtain ⟨es,he,en⟩:=hr.cells l _ d el hd
   have dc:=TV I he
   split at q
   ·rename_i n
    split at q
    ·rename_i hi
     simp only [DV] at rx
     subst rx
     obtain ⟨tk,rfl⟩:=rv
     obtain ⟨ob,us,ep,vs,h1,h2,dd,rr⟩:=O4 (P:=X.prog) (w:=X.w) dc en hi
     refine ki dc.1 dd.dictOf.mapOf ?_
     have e:(valueAt vs n).isSome=(Bn kvs (.i n)).isSome:=by
      rcases O5 (n:=n) rr with ⟨e1,e2⟩ |⟨d,u',v',e1,e2,e3,e4⟩<;>rw [e1,e2]<;>rfl
     rw [e]
     exact ⟨.bl _,H,I.tok _,rfl,Bt hr q (by simp [DV])⟩
    ·exact q.elim
   ·split at q
    ·rename_i ns ek
     split at q
     ·rename_i hi
      rw [O9 ek] at rx
      obtain ⟨c,rfl,hk⟩:=MV (P:=X.prog) (w:=X.w) I.hok rx
      cases (show a=Value.ref c from rv)
      obtain ⟨xs,dd,rr⟩:=O8 (P:=X.prog) (w:=X.w) I.hok dc en hi
      refine kt hk dc.1 dd ?_
      have e:(atKey xs ns).isSome=(Bn kvs (.t ns)).isSome:=by
       rcases Pa (n:=ns) rr with ⟨e1,e2⟩ |⟨d,u',v',e1,e2,e3,e4⟩<;>rw [e1,e2]<;>rfl
      rw [e]
      exact ⟨.bl _,H,I.tok _,rfl,Bt hr q (by simp [DV])⟩
     ·exact q.elim
    ·exact q.elim
  ·exact q.elim
 ·exact q.elim
theorem Ue (hu:X.A.units+64<cLine):BI X (compareOp .In) (DD false):=
 Ud hu (fun hd hm q=>wpAny_in_of (intKind_is _ _ _ _) hd hm (by rw [LF] at q;exact q)) fun hk hd dd q=>wpAny_in_heap (knd:=Dt.tK X.prog X.w) (by show X.A.units+1<cLine;omega) hk hd dd (by rw [LF] at q;exact q)
theorem Zbf (hu:X.A.units+64<cLine):BI X (compareOp .NotIn) (DD true):=
 Ud hu (fun hd hm q=>wpAny_notIn_of (intKind_is _ _ _ _) hd hm (by rw [Bool.true_xor] at q;exact q)) fun hk hd dd q=>wpAny_notIn_heap (knd:=Dt.tK X.prog X.w) (by show X.A.units+1<cLine;omega) hk hd dd (by rw [Bool.true_xor] at q;exact q)
def DE:D→D→HD→Out D:=fun x y h=>match x with
 |.loc l=>(match h[l]? with
  |some (.dic _ kvs)=>(match y with
   |.int n=>if Fg kvs then (match Bn kvs (.i n) with
    |some d=>.ok d h
    |none=>.stuck) else .stuck
   |_=>(match keyT y with
    |some ns=>if Dl kvs then (match Bn kvs (.t ns) with
     |some d=>.ok d h
     |none=>.stuck) else .stuck
    |none=>.stuck))
  |_=>.stuck)
 |_=>.stuck
theorem Zbg (x y:D) (h:HD):HL (DE x y h):=by
 unfold DE
 repeat' split
 all_goals trivial
def Zbh (X:Cx):R2:=fun v u H Q=>∃m h x y,HR X.K m h H∧DV X.K m H x v∧DV X.K m H y u∧Post X.K (rD X.K) m H E0 Q (DE x y h)
theorem Zbi (hu:X.A.units+64<cLine):IxR X (Zbh X):=by
 intro value slice pins s σ H v u a b Q I rv ru z hs
 obtain ⟨m,h,x,y,hr,rx,ry,q⟩:=z
 unfold DE at q
 split at q
 ·rename_i l
  split at q
  ·rename_i fz kvs el
   simp only [DV] at rx
   obtain ⟨d,rfl,hd⟩:=rx
   cases (show a=Value.ref d from rv)
   obtain ⟨es,he,en⟩:=hr.cells l _ d el hd
   have dc:=TV I he
   split at q
   ·rename_i n
    split at q
    ·rename_i hi
     split at q
     ·rename_i dd' eg
      simp only [DV] at ry
      subst ry
      obtain ⟨tk,rfl⟩:=ru
      obtain ⟨ob,us,ep,vs,h1,h2,dd,rr⟩:=O4 (P:=X.prog) (w:=X.w) dc en hi
      rcases O5 (n:=n) rr with ⟨e1,e2⟩ |⟨d2,u',v',e1,e2,e3,e4⟩
      ·rw [e1] at eg;cases eg
      ·rw [e1] at eg
       cases eg
       exact subscriptTail_builtinR (x:=u') (TX dc).1 slot_dict_getitem.lookup (wpAny_getItem_of (Q:=fun r s'=>r=u'∧EP X pins σ Q r s') (intKind_is _ _ _ _) dd.dictOf.mapOf e2 ⟨rfl,v',H,I.tok _,e4,Bt hr q e3⟩) hs
     ·exact q.elim
    ·exact q.elim
   ·split at q
    ·rename_i ns ek
     split at q
     ·rename_i hi
      split at q
      ·rename_i dd' eg
       rw [O9 ek] at ry
       obtain ⟨c,rfl,hk⟩:=MV (P:=X.prog) (w:=X.w) I.hok ry
       cases (show b=Value.ref c from ru)
       obtain ⟨xs,dd,rr⟩:=O8 (P:=X.prog) (w:=X.w) I.hok dc en hi
       rcases Pa (n:=ns) rr with ⟨e1,e2⟩ |⟨d2,p,v',e1,e2,e3,e4⟩
       ·rw [e1] at eg;cases eg
       ·rw [e1] at eg
        cases eg
        exact subscriptTail_builtinR (x:=p.2) (TX dc).1 slot_dict_getitem.lookup (wpAny_getItem_heap (knd:=Dt.tK X.prog X.w) (Q:=fun r s'=>r=p.2∧EP X pins σ Q r s') (by show X.A.units+1<cLine;omega) hk dd e2 ⟨rfl,v',H,I.tok _,e4,Bt hr q e3⟩) hs
      ·exact q.elim
     ·exact q.elim
    ·exact q.elim
  ·exact q.elim
 ·exact q.elim
theorem JK {a b:Expr} {pos:Pos} {f g:ME} (hu:X.A.units+64<cLine) (ha:Ev X E a f) (hb:Ev X E b g) (hs:NJ b):Ev X E (.Subscript a b pos) (Ah DE f g):=
 Cd (Q8 (Zbi hu) ha hb hs) fun σ H Q hq=>J4 hq fun m H2 h2 x y v u hr rx ry q=>⟨m,h2,x,y,hr,rx,ry,Post.noE (Zbg _ _ _) q⟩
def KL:D→HD→Out D:=fun x h=>match x with
 |.loc l=>(match h[l]? with
  |some (.lst ds)=>(match ds[ds.length - 1]? with
   |some d=>.ok d (h.set l (.lst ds.dropLast))
   |none=>.stuck)
  |_=>.stuck)
 |_=>.stuck
def KM (f:ME):ME:=fun ρ h=>((f ρ h).bind EH).bind KL
theorem DVs.dropLast {K:Frag} {m:List Addr} {H:Hp} {ds:List D} {vs:List V} (r:DVs K m H ds vs):DVs K m H ds.dropLast vs.dropLast:=by
 rw [List.dropLast_eq_take,List.dropLast_eq_take,r.len]
 exact r.take _
theorem Zbj {o:Expr} {f:ME} {apos cpos:Pos} (ho:Ev X E o f)
 (hbase:attributeBase o "pop" X.env (eval o X.env)=eval o X.env:=by rfl) (hline:(apos.endLine==cpos.line)=true:=by rfl):
 Ev X E (.Call (.Attribute o "pop" apos) [] [] cpos) (KM f):=
 Cd (XE PySem.F.plainAttrs_list PySem.F.slot_list_pop PySem.F.type_list_pop XN ho hbase hline) fun σ H Q z1_=>by
  obtain ⟨m,ρ,h,hr,er,p⟩:=z1_
  refine ⟨m,ρ,h,hr,er,?_⟩
  unfold KM at p
  rw [Out.bind_assoc] at p
  refine Post.bind p fun x h1 v m1 H1 eo p1 k1 hr1 r1 q1=>?_
  clear eo
  unfold EH at q1
  split at q1
  ·rename_i l
   split at q1
   ·rename_i ds el
    simp only [Out.bind_ok] at q1
    simp only [rD,DV] at r1
    obtain ⟨a,rfl,ha⟩:=r1
    obtain ⟨ws,hv,dv⟩:=hr1.cells l _ a el ha
    refine ⟨.inl ⟨rfl,ws,SqL.of hv⟩,?_⟩
    unfold KL at q1
    simp only [el] at q1
    split at q1
    ·rename_i d ed
     obtain ⟨w,hw,dw⟩:=dv.get ed
     refine ⟨a,ws,w,rfl,rfl,hv,by rw [←dv.len];exact hw,?_⟩
     refine q1 w m1 _ (AC _) (.set hv rfl) (hr1.setCell ha hv rfl ⟨_,Cz,?_⟩) (DV.keep (AC _) (.set hv rfl) dw)
     exact (DVs.dropLast dv).keep (AC _) (.set hv rfl)
    ·exact q1.elim
   ·exact q1.elim
  ·exact q1.elim
end
section
variable {f fo fi fv:ME} {ρ:Ai} {h:HD} {QS:Fl×Ai→HD→Prop} {Q:D→HD→Prop} {l:Nat} {ds:List D}
@[simp] theorem Zit:Wp (KJ fo fi fv ρ h) QS=Wp (fv ρ h) fun v h1=>Wp (fo ρ h1) fun o h2=>Wp (fi ρ h2) fun i h3=>Wp (KI o i v h3 fun h4=>.ok (.nx,ρ) h4) QS:=by unfold KJ;simp only [AB]
@[simp] theorem Ziu:Wp (KM f ρ h) Q=Wp (f ρ h) fun x h1=>Wp (EH x h1) fun x h1=>Wp (KL x h1) Q:=by unfold KM;simp only [AB]
end
end LS
namespace LS
open PySem PySem.Spec PyProof.Rows L2
def Pb (i j k l:Nat):MG:=fun d ρ=>match d with
 |.tup [.tup [x,y,z],t]=>some ((((ρ.set i (some x)).set j (some y)).set k (some z)).set l (some t))
 |_=>none
abbrev Zbk (K:PySem.W.Frag) (i j k l:Nat):TG:=E4 K 2 (CJ (E4 K 3 (CJ (Cc i) (CJ (Cc j) (CJ (Cc k) FC)))) (CJ (Cc l) FC))
theorem Zbl {K:PySem.W.Frag} {cs:List (Option Nat)} {i j k l:Nat} (h:cs[i]?=some none) (h':cs[j]?=some none) (h2:cs[k]?=some none) (h3:cs[l]?=some none):HA K cs (Zbk K i j k l) (Pb i j k l):=fun m H d v ρ σ0 ρ' Q r er e q=>by
 unfold Pb at e
 split at e
 ·cases e
  simp only [DV,DVs] at r
  obtain ⟨p,vs,rfl,hp,v1,w1,rfl,⟨p2,vs2,rfl,hp2,v3,w3,rfl,r3,v4,w4,rfl,r4,v5,w5,rfl,r5,rfl⟩,v2,w2,rfl,r2,rfl⟩:=r
  exact ⟨p,_,rfl,SqT.of hp,rfl,_,_,rfl,⟨p2,_,rfl,SqT.of hp2,rfl,v3,_,rfl,v4,_,rfl,v5,_,rfl,rfl,v2,_,rfl,rfl,q _ (((((Sub.refl _).set h).set h').set h2).set h3) ((((er.set r3).set r4).set r5).set r2)⟩⟩
 ·cases e
abbrev Fh (h:Heap) (z TI TO:Addr) (f0 f1:Value):Prop:=h.get? z=some {cls:=.type "zip",dict:=none,data:=.fields #[f0,f1,.bool false,.ref TI,.ref TO],slots:=#[]}
inductive ZipN (h:Heap) (z TI TO:Addr):Prop where
 |none (b:Bool) (e:Fh h z TI TO .none (.bool b)):ZipN h z TI TO
 |held (a:Int) (t:Tok) (b:Bool) (e:Fh h z TI TO (.int a t) (.bool b)):ZipN h z TI TO
section
variable {prog:Program} {w:World} {A:Around} {E:Value→Shared→Prop} {s:Shared} {z TI TO p q:Addr} {f g:List Addr} {n1 n2 k:Nat} {P1 P2:Nat→Value→Prop} {S1 S2:Nat→Heap→Prop} {a b:Value}
theorem Zbm {M:Model} {c:Addr} {Q:Option Obj→Shared→Prop} (h:Q (s.heap.get? c) s):wpAny M A (loadIfAlive c) Q E s:=fun _ _ _=>h
theorem Ug {Q:Bool→Shared→Prop} (zz:ZipN s.heap z TI TO) (h1:∀f0 b,Fh s.heap z TI TO f0 (.bool b)→Q true s)
 (h2:∀h',ZipN h' z TI TO→Heap.SameBut z s.heap h'→Q false {s with heap:=h'}):wpAny (model prog w) A (Builtin.SmallTypes.ownedTupleIsFree (.ref z)) Q E s:=by
 unfold Builtin.SmallTypes.ownedTupleIsFree
 cases zz with
 |none b e=>exact wpAny_bind (wpAny_field e rfl (x:=.none) rfl (wpAny_pure (h1 _ _ e)))
 |held a t b e=>
  refine wpAny_bind (wpAny_field e rfl (x:=.int a t) rfl ?_)
  refine wpAny_bind (Zbm ?_)
  cases hc:s.heap.get? a.toNat with
  |none=>exact wpAny_pure (h1 _ _ e)
  |some o=>
   simp only [Option.isNone_some,DF,if_false]
   refine wpAny_bind (wpAny_field e rfl (x:=.bool b) rfl ?_)
   cases b with
   |true=>exact wpAny_pure (h2 s.heap (.held a t true e) ⟨rfl,fun _ _=>rfl⟩)
   |false=>
    rw [if_pos (by decide)]
    refine wpAny_bind (wpAny_setField_rec e (by simp) fun h' e' sb=>wpAny_pure (h2 h' (.held a t true e') sb))
theorem Zbn {Q:Value→Shared→Prop} (D1:Draws prog w A p f n1 P1 S1) (D2:Draws prog w A q g n2 P2 S2) (ap:EO z TI TO p q f g)
 (zz:ZipN s.heap z TI TO) (zi:IsPair s.heap TI (.ref p) (.ref q)) (zo:IsPair s.heap TO a b) (s1:S1 k s.heap) (s2:S2 k s.heap) (l1:k<n1) (l2:k<n2)
 (hQ:∀h' tk x y,P1 k x→P2 k y→ZipN h' z TI TO→(∃a b,IsPair h' TO a b)→S1 (k+1) h'→S2 (k+1) h'→IsPair h' s.heap.objs.size x y→
  (∀c o,c≠z→c≠TO→c≠p→c≠q→s.heap.get? c=some o→h'.get? c=some o)→Q (.ref s.heap.objs.size) {s with heap:=h',toks:=tk}):
 wpAny (model prog w) A (Builtin.«zip.__next__» ⟨[.ref z],[]⟩) (fun fin s'=>∃v,fin=.done (.ret v)∧Q v s') E s:=by
 have fl:∀i (x:Value),i=2∧x=.bool false∨i=3∧x=.ref TI→∀{Q:Value→Shared→Prop},Q x s→wpAny (model prog w) A (field (.ref z) i) Q E s:=fun i x h {Q} hq=>by
  cases zz with
  |none b e=>rcases h with ⟨rfl,rfl⟩ |⟨rfl,rfl⟩<;>exact wpAny_field e rfl rfl hq
  |held a t b e=>rcases h with ⟨rfl,rfl⟩ |⟨rfl,rfl⟩<;>exact wpAny_field e rfl rfl hq
 show wpAny _ _ (field (.ref z) 2 >>=_) _ _ _
 refine wpAny_bind (fl 2 (.bool false) (.inl ⟨rfl,rfl⟩) ?_)
 show wpAny _ _ (field (.ref z) 3 >>=_) _ _ _
 refine wpAny_bind (fl 3 (.ref TI) (.inr ⟨rfl,rfl⟩) ?_)
 refine wpAny_bind (wpAny_seqItems zi rfl ?_)
 show wpAny _ _ (Builtin.SmallTypes.ownedTupleIsFree (.ref z) >>=_) _ _ _
 refine wpAny_bind (Ug zz (fun f0 b1 zz=>?_) fun m1 zz1 t1=>?_)
 ·simp only [if_true]
  refine wpAny_bind (wpAny_rule ?_)
  refine wpAny_bind (wpAny_field zz rfl (x:=.ref TO) rfl ?_)
  refine wpAny_bind (wpAny_setField_rec zz (by simp) fun m1 zz1 t1=>?_)
  replace zz1:Fh m1 z TI TO .ellipsis (.bool b1):=zz1
  refine wpAny_bind ?_
  simp only [Lu,LB,Hm,Hn]
  refine wpAny_bind (wpAny_bind (wpAny_onRaise ?_))
  show wpAny _ _ (Builtin.SmallTypes.nextOf (.ref p) >>=_) _ _ _
  refine wpAny_bind (D1.item k _ _ _ l1 (D1.frame k _ _ s1 fun c hc o e=>t1.extBut _ _ (fun y=>ap.b2 (y ▸ hc)) e) fun x m2 tk2 px s12 t2=>wpAny_pure ?_)
  have zo2:IsPair m2 TO a b:=t2.extBut _ _ ap.a8 (t1.extBut _ _ ap.a2 zo)
  refine wpAny_bind (wpAny_seqItems zo2 rfl ?_)
  refine wpAny_bind (wpAny_updateSeq_pair zo2 fun m3 zo3 t3=>?_)
  replace zo3:IsPair m3 TO x b:=zo3
  refine wpAny_bind (wpAny_letGo (wpAny_pure ?_))
  refine wpAny_bind (wpAny_bind (wpAny_onRaise ?_))
  show wpAny _ _ (Builtin.SmallTypes.nextOf (.ref q) >>=_) _ _ _
  have s23:S2 k m3:=D2.frame k _ _ s2 fun c hc o e=>t3.extBut _ _ (fun y=>ap.b5 (y ▸ hc)) (t2.extBut _ _ (fun y=>ap.b6 (y ▸ hc)) (t1.extBut _ _ (fun y=>ap.b3 (y ▸ hc)) e))
  refine wpAny_bind (D2.item k _ _ _ l2 s23 fun y m4 tk4 py s24 t4=>wpAny_pure ?_)
  have zo4:IsPair m4 TO x b:=t4.extBut _ _ ap.a9 zo3
  refine wpAny_bind (wpAny_seqItems zo4 rfl ?_)
  refine wpAny_bind (wpAny_updateSeq_pair zo4 fun m5 zo5 t5=>?_)
  replace zo5:IsPair m5 TO x y:=zo5
  refine wpAny_bind (wpAny_letGo (wpAny_pure (wpAny_pure ?_)))
  refine wpAny_bind (wpAny_seqItems zo5 rfl ?_)
  refine wpAny_bind (wpAny_newTuple ?_)
  have sz:m5.objs.size=s.heap.objs.size:=by rw [t5.1,t4.1,t3.1,t2.1,t1.1]
  have zz5:Fh m5 z TI TO .ellipsis (.bool b1):=t5.extBut _ _ ap.a2.symm (t4.extBut _ _ ap.a4.symm (t3.extBut _ _ ap.a2.symm (t2.extBut _ _ ap.a3.symm zz1)))
  have kp:∀c o,c≠z→c≠TO→c≠p→c≠q→s.heap.get? c=some o→m5.get? c=some o:=fun c o c1 c2 c3 c4 e=>t5.extBut _ _ c2 (t4.extBut _ _ c4 (t3.extBut _ _ c2 (t2.extBut _ _ c3 (t1.extBut _ _ c1 e))))
  have zlt:z<m5.objs.size:=AS zz5
  show wpAny _ _ (Builtin.SmallTypes.ownedTupleHandOut (.ref z) (.ref m5.objs.size) >>=_) _ _ _
  refine wpAny_bind ?_
  unfold Builtin.SmallTypes.ownedTupleHandOut
  have zz6:Fh (m5.push {cls:=.type "tuple",data:=.seq #[x,y]}) z TI TO .ellipsis (.bool b1):=AY _ zz5
  refine wpAny_bind (wpAny_setField_rec zz6 (by simp) fun m7 zz7 t7=>?_)
  replace zz7:Fh m7 z TI TO (rawInt m5.objs.size) (.bool b1):=zz7
  refine wpAny_setField_rec zz7 (by simp) fun m8 zz8 t8=>?_
  replace zz8:Fh m8 z TI TO (rawInt m5.objs.size) (.bool false):=zz8
  have up:∀c o,c≠z→m5.get? c=some o→m8.get? c=some o:=fun c o c1 e=>t8.extBut _ _ c1 (t7.extBut _ _ c1 (AY _ e))
  have nw:IsPair m8 m5.objs.size x y:=t8.extBut _ _ (Bs zlt) (t7.extBut _ _ (Bs zlt) (BR _ rfl))
  rw [sz] at zz8 nw
  refine wpAny_pure ⟨_,rfl,?_⟩
  show Q (.ref m5.objs.size) _
  rw [sz]
  refine hQ m8 tk4 x y px py (.held _ _ _ zz8) ⟨_,_,up _ _ ap.a2 zo5⟩ (D1.frame _ m2 m8 s12 fun c hc o e=>?_) (D2.frame _ m4 m8 s24 fun c hc o e=>?_) nw fun c o c1 c2 c3 c4 e=>up c o c1 (kp c o c1 c2 c3 c4 e)
  ·have n1:c≠TO:=fun y=>ap.b4 (y ▸ hc)
   exact up c o (fun y=>ap.b2 (y ▸ hc)) (t5.extBut _ _ n1 (t4.extBut _ _ (fun y=>ap.b7 (y ▸ hc)) (t3.extBut _ _ n1 e)))
  ·exact up c o (fun y=>ap.b3 (y ▸ hc)) (t5.extBut _ _ (fun y=>ap.b5 (y ▸ hc)) e)
 ·simp only [DF,if_false]
  refine wpAny_bind ?_
  simp only [List.forIn_toArray,Hm,Hn]
  refine wpAny_bind (wpAny_bind (wpAny_holding ?_))
  show wpAny _ _ (Builtin.SmallTypes.nextOf (.ref p) >>=_) _ _ _
  refine wpAny_bind (D1.item k _ _ _ l1 (D1.frame k _ _ s1 fun c hc o e=>t1.extBut _ _ (fun y=>ap.b2 (y ▸ hc)) e) fun x m2 tk2 px s12 t2=>wpAny_pure ?_)
  refine wpAny_pure ?_
  refine wpAny_bind (wpAny_bind (wpAny_holding ?_))
  show wpAny _ _ (Builtin.SmallTypes.nextOf (.ref q) >>=_) _ _ _
  have s23:S2 k m2:=D2.frame k _ _ s2 fun c hc o e=>t2.extBut _ _ (fun y=>ap.b6 (y ▸ hc)) (t1.extBut _ _ (fun y=>ap.b3 (y ▸ hc)) e)
  refine wpAny_bind (D2.item k _ _ _ l2 s23 fun y m4 tk4 py s24 t4=>wpAny_pure ?_)
  refine wpAny_pure (wpAny_pure ?_)
  refine wpAny_bind (wpAny_newTuple ?_ (by show 2≤sizeLine;unfold sizeLine;decide))
  have sz:m4.objs.size=s.heap.objs.size:=by rw [t4.1,t2.1,t1.1]
  have up:∀c o,m4.get? c=some o→(m4.push {cls:=.type "tuple",data:=.seq #[x,y]}).get? c=some o:=fun c o e=>AY _ e
  have zn:ZipN (m4.push {cls:=.type "tuple",data:=.seq #[x,y]}) z TI TO:=by
   cases zz1 with
   |none b e=>exact .none b (up _ _ (t4.extBut _ _ ap.a4.symm (t2.extBut _ _ ap.a3.symm e)))
   |held a t b e=>exact .held a t b (up _ _ (t4.extBut _ _ ap.a4.symm (t2.extBut _ _ ap.a3.symm e)))
  refine wpAny_pure ⟨_,rfl,?_⟩
  show Q (.ref m4.objs.size) _
  have nw:IsPair (m4.push {cls:=.type "tuple",data:=.seq #[x,y]}) m4.objs.size x y:=BR _ rfl
  rw [sz] at nw ⊢
  refine hQ _ tk4 x y px py zn ⟨a,b,up _ _ (t4.extBut _ _ ap.a9 (t2.extBut _ _ ap.a8 (t1.extBut _ _ ap.a2 zo)))⟩ (D1.frame _ m2 _ s12 fun c hc o e=>up _ _ (t4.extBut _ _ (fun y=>ap.b7 (y ▸ hc)) e)) (D2.frame _ m4 _ s24 fun c hc o e=>up _ _ e) nw fun c o c1 c2 c3 c4 e=>up _ _ (t4.extBut _ _ c4 (t2.extBut _ _ c3 (t1.extBut _ _ c1 e)))
theorem Zbo {Q:Fin→Shared→Prop} (D1:Draws prog w A p f n1 P1 S1) (D2:Draws prog w A q g n2 P2 S2) (ap:EO z TI TO p q f g)
 (zz:ZipN s.heap z TI TO) (zi:IsPair s.heap TI (.ref p) (.ref q)) (zo:IsPair s.heap TO a b) (s1:S1 k s.heap) (s2:S2 k s.heap) (hk:k=n1∨(k<n1∧k=n2))
 (hE:∀h' tk e,(∀c o,c≠z→c≠TO→c≠p→c≠q→s.heap.get? c=some o→h'.get? c=some o)→(∃o,h'.get? e=some o∧o.cls=.type "StopIteration")→E (.ref e) {s with heap:=h',toks:=tk}):
 wpAny (model prog w) A (Builtin.«zip.__next__» ⟨[.ref z],[]⟩) Q E s:=by
 have fl:∀i (x:Value),i=2∧x=.bool false∨i=3∧x=.ref TI→∀{Q:Value→Shared→Prop},Q x s→wpAny (model prog w) A (field (.ref z) i) Q E s:=fun i x h {Q} hq=>by
  cases zz with
  |none b e=>rcases h with ⟨rfl,rfl⟩ |⟨rfl,rfl⟩<;>exact wpAny_field e rfl rfl hq
  |held a t b e=>rcases h with ⟨rfl,rfl⟩ |⟨rfl,rfl⟩<;>exact wpAny_field e rfl rfl hq
 show wpAny _ _ (field (.ref z) 2 >>=_) _ _ _
 refine wpAny_bind (fl 2 (.bool false) (.inl ⟨rfl,rfl⟩) ?_)
 show wpAny _ _ (field (.ref z) 3 >>=_) _ _ _
 refine wpAny_bind (fl 3 (.ref TI) (.inr ⟨rfl,rfl⟩) ?_)
 refine wpAny_bind (wpAny_seqItems zi rfl ?_)
 show wpAny _ _ (Builtin.SmallTypes.ownedTupleIsFree (.ref z) >>=_) _ _ _
 refine wpAny_bind (Ug zz (fun f0 b1 zz=>?_) fun m1 zz1 t1=>?_)
 ·simp only [if_true]
  refine wpAny_bind (wpAny_rule ?_)
  refine wpAny_bind (wpAny_field zz rfl (x:=.ref TO) rfl ?_)
  refine wpAny_bind (wpAny_setField_rec zz (by simp) fun m1 zz1 t1=>?_)
  replace zz1:Fh m1 z TI TO .ellipsis (.bool b1):=zz1
  refine wpAny_bind ?_
  simp only [Lu,LB,Hm,Hn]
  refine wpAny_bind (wpAny_bind (wpAny_onRaise ?_))
  show wpAny _ _ (Builtin.SmallTypes.nextOf (.ref p) >>=_) _ _ _
  have s11:=D1.frame k _ m1 s1 fun c hc o e=>t1.extBut _ _ (fun y=>ap.b2 (y ▸ hc)) e
  rcases hk with hk |⟨hk,hk2⟩
  ·subst hk
   refine wpAny_bind (D1.done _ _ _ s11 fun m2 e t2 he=>?_)
   obtain ⟨oe,e1,e2⟩:=he
   have zz2:Fh m2 z TI TO .ellipsis (.bool b1):=t2 _ _ ap.a3.symm zz1
   have ne:e≠z:=fun y=>by subst y;rw [zz2] at e1;cases e1;simp at e2
   exact wpAny_setField_rec zz2 (by simp) fun m3 _ t3=>hE m3 _ e (fun c o c1 _ c3 _ y=>t3.extBut _ _ c1 (t2 _ _ c3 (t1.extBut _ _ c1 y))) ⟨oe,t3.extBut _ _ ne e1,e2⟩
  ·subst hk2
   refine wpAny_bind (D1.item k _ _ _ hk s11 fun x m2 tk2 px s12 t2=>wpAny_pure ?_)
   have zo2:IsPair m2 TO a b:=t2.extBut _ _ ap.a8 (t1.extBut _ _ ap.a2 zo)
   refine wpAny_bind (wpAny_seqItems zo2 rfl ?_)
   refine wpAny_bind (wpAny_updateSeq_pair zo2 fun m3 zo3 t3=>?_)
   refine wpAny_bind (wpAny_letGo (wpAny_pure ?_))
   refine wpAny_bind (wpAny_bind (wpAny_onRaise ?_))
   show wpAny _ _ (Builtin.SmallTypes.nextOf (.ref q) >>=_) _ _ _
   have s23:S2 k m3:=D2.frame k _ _ s2 fun c hc o e=>t3.extBut _ _ (fun y=>ap.b5 (y ▸ hc)) (t2.extBut _ _ (fun y=>ap.b6 (y ▸ hc)) (t1.extBut _ _ (fun y=>ap.b3 (y ▸ hc)) e))
   refine wpAny_bind (D2.done _ _ _ s23 fun m4 e t4 he=>?_)
   obtain ⟨oe,e1,e2⟩:=he
   have zz4:Fh m4 z TI TO .ellipsis (.bool b1):=t4 _ _ ap.a4.symm (t3.extBut _ _ ap.a2.symm (t2.extBut _ _ ap.a3.symm zz1))
   have ne:e≠z:=fun y=>by subst y;rw [zz4] at e1;cases e1;simp at e2
   exact wpAny_setField_rec zz4 (by simp) fun m5 _ t5=>hE m5 _ e (fun c o c1 c2 c3 c4 y=>t5.extBut _ _ c1 (t4 _ _ c4 (t3.extBut _ _ c2 (t2.extBut _ _ c3 (t1.extBut _ _ c1 y))))) ⟨oe,t5.extBut _ _ ne e1,e2⟩
 ·simp only [DF,if_false]
  refine wpAny_bind ?_
  simp only [List.forIn_toArray,Hm,Hn]
  refine wpAny_bind (wpAny_bind (wpAny_holding ?_))
  show wpAny _ _ (Builtin.SmallTypes.nextOf (.ref p) >>=_) _ _ _
  have s11:=D1.frame k _ m1 s1 fun c hc o e=>t1.extBut _ _ (fun y=>ap.b2 (y ▸ hc)) e
  rcases hk with hk |⟨hk,hk2⟩
  ·subst hk
   refine wpAny_bind (D1.done _ _ _ s11 fun m2 e t2 he=>?_)
   exact hE m2 _ e (fun c o c1 _ c3 _ y=>t2 _ _ c3 (t1.extBut _ _ c1 y)) he
  ·subst hk2
   refine wpAny_bind (D1.item k _ _ _ hk s11 fun x m2 tk2 px s12 t2=>wpAny_pure ?_)
   refine wpAny_pure ?_
   refine wpAny_bind (wpAny_bind (wpAny_holding ?_))
   show wpAny _ _ (Builtin.SmallTypes.nextOf (.ref q) >>=_) _ _ _
   have s23:S2 k m2:=D2.frame k _ _ s2 fun c hc o e=>t2.extBut _ _ (fun y=>ap.b6 (y ▸ hc)) (t1.extBut _ _ (fun y=>ap.b3 (y ▸ hc)) e)
   refine wpAny_bind (D2.done _ _ _ s23 fun m4 e t4 he=>?_)
   exact hE m4 _ e (fun c o c1 c2 c3 c4 y=>t4 _ _ c4 (t2.extBut _ _ c3 (t1.extBut _ _ c1 y))) he
theorem Zbp {Q:Option Value→Shared→Prop} (D1:Draws prog w A.in1 p f n1 P1 S1) (D2:Draws prog w A.in1 q g n2 P2 S2) (ap:EO z TI TO p q f g)
 (zz:ZipN s.heap z TI TO) (zi:IsPair s.heap TI (.ref p) (.ref q)) (zo:IsPair s.heap TO a b) (s1:S1 k s.heap) (s2:S2 k s.heap) (l1:k<n1) (l2:k<n2)
 (hQ:∀h' tk x y,P1 k x→P2 k y→ZipN h' z TI TO→(∃a b,IsPair h' TO a b)→S1 (k+1) h'→S2 (k+1) h'→IsPair h' s.heap.objs.size x y→
  (∀c o,c≠z→c≠TO→c≠p→c≠q→s.heap.get? c=some o→h'.get? c=some o)→Q (some (.ref s.heap.objs.size)) {s with heap:=h',toks:=tk}):
 wpAny (model prog w) A (pyNext (.ref z)) Q E s:=by
 have hT:s.TypeIs (.ref z) "zip":=by cases zz with |none b e=>exact ⟨_,e,rfl⟩ |held a t b e=>exact ⟨_,e,rfl⟩
 unfold pyNext
 exact wpAny_bind (wpAny_attempt (wpAny_callSpecial?_slot (name:=Str.ofString "__next__") hT F.slot_zip_next (wpAny_call_entry F.slot_zip_next hT F.entry_zip_next
  (Zbn D1 D2 ap zz zi zo s1 s2 l1 l2 fun h' tk x y c1 c2 c3 c4 c5 c6 c7 c8=>wpAny_pure (hQ h' tk x y c1 c2 c3 c4 c5 c6 c7 c8)) (F.args_zip_next_1 _))))
theorem Zbq {Q:Option Value→Shared→Prop} (D1:Draws prog w A.in1 p f n1 P1 S1) (D2:Draws prog w A.in1 q g n2 P2 S2) (ap:EO z TI TO p q f g)
 (zz:ZipN s.heap z TI TO) (zi:IsPair s.heap TI (.ref p) (.ref q)) (zo:IsPair s.heap TO a b) (s1:S1 k s.heap) (s2:S2 k s.heap) (hk:k=n1∨(k<n1∧k=n2))
 (hQ:∀h' tk,(∀c o,c≠z→c≠TO→c≠p→c≠q→s.heap.get? c=some o→h'.get? c=some o)→Q none {s with heap:=h',toks:=tk}):wpAny (model prog w) A (pyNext (.ref z)) Q E s:=by
 have hT:s.TypeIs (.ref z) "zip":=by cases zz with |none b e=>exact ⟨_,e,rfl⟩ |held a t b e=>exact ⟨_,e,rfl⟩
 unfold pyNext
 refine wpAny_bind (wpAny_attempt (wpAny_callSpecial?_slot (name:=Str.ofString "__next__") hT F.slot_zip_next (wpAny_call_entry F.slot_zip_next hT F.entry_zip_next
  (Zbo D1 D2 ap zz zi zo s1 s2 hk fun h' tk e kp he=>?_) (F.args_zip_next_1 _))))
 obtain ⟨o,ho,hc⟩:=he
 refine wpAny_bind (wpAny_isInstance (T:="StopIteration") (b:=true) ⟨o,ho,hc⟩ isSubtype_stop ?_)
 exact wpAny_pure (hQ _ _ kp)
theorem ZipN.at {h h':Heap} (x:ZipN h z TI TO) (f:∀o,h.get? z=some o→h'.get? z=some o):ZipN h' z TI TO:=by
 cases x with
 |none b e=>exact .none b (f _ e)
 |held a t b e=>exact .held a t b (f _ e)
theorem ZipN.get {h:Heap} (x:ZipN h z TI TO):∃o,h.get? z=some o:=by
 cases x with
 |none b e=>exact ⟨_,e⟩
 |held a t b e=>exact ⟨_,e⟩
theorem Zbr {Q:Value→Shared→Prop} (x:ZipN s.heap z TI TO) (hQ:Q (.ref z) s):wpAny (model prog w) A (pyIter (.ref z)) Q E s:=by
 have hT:s.TypeIs (.ref z) "zip":=by cases x with |none b e=>exact ⟨_,e,rfl⟩ |held a t b e=>exact ⟨_,e,rfl⟩
 exact wpAny_pyIter_slot hT F.slot_zip_iter (wpAny_call_entry F.slot_zip_iter hT F.entry_zip_iter (wpAny_pure ⟨_,rfl,"zip",_,hT,F.slot_zip_next.lookup,hQ⟩) (F.args_zip_iter_1 _))
end
inductive Uh (k1 k2:Bool) (z TI TO p q t u:Addr) (i:Nat) (h:Heap):Prop where
 |mk (zz:ZipN h z TI TO) (zi:IsPair h TI (.ref p) (.ref q)) (zo:∃a b,IsPair h TO a b) (x1:ItAt k1 h p t i) (x2:ItAt k2 h q u i):Uh k1 k2 z TI TO p q t u i h
theorem Zbs {P:Program} {w:World} {K:PySem.W.Frag} {nm:Str} {tpos:Pos} (k1 k2:Bool) (z TI TO p q t u:Addr) (ap:EO z TI TO p q [p,t] [q,u]) (n1:t≠p) (n2:u≠q):
 Gj P w K (.Name nm tpos) (Mn K k1 k2 t u) [z,TI,TO,p,q] z (Uh k1 k2 z TI TO p q t u) where
 mem:=by simp
 obj:=fun i h st c hc=>by
  obtain ⟨zz,zi,⟨a,b,zo⟩,x1,x2⟩:=st
  simp only [qa3,Ca,or_false] at hc
  rcases hc with rfl |rfl |rfl |rfl |rfl
  ·cases zz with
   |none b e=>exact ⟨_,e,fun v y=>by cases y⟩
   |held a t b e=>exact ⟨_,e,fun v y=>by cases y⟩
  ·exact ⟨_,zi,fun v y=>by cases y⟩
  ·exact ⟨_,zo,fun v y=>by cases y⟩
  ·exact x1.obj
  ·exact x2.obj
 keep:=fun i h h' st kp=>by
  obtain ⟨zz,zi,⟨a,b,zo⟩,x1,x2⟩:=st
  exact ⟨zz.at fun o e=>kp z (by simp) o e,kp TI (by simp) _ zi,⟨a,b,kp TO (by simp) _ zo⟩,x1.at fun o e=>kp p (by simp) o e,x2.at fun o e=>kp q (by simp) o e⟩
 item:=by
  intro X hP hw hK hc i pins s σ H E I hf st hg
  subst hP hw hK
  obtain ⟨zz,zi,⟨a,b,zo⟩,x1,x2⟩:=st
  obtain ⟨xs,ys,hq1,hq2,l1,l2⟩:=hg
  obtain ⟨it1,rv1,sq1,lt1⟩:=ES I hq1
  obtain ⟨it2,rv2,sq2,lt2⟩:=ES I hq2
  have e1:=rv1.length
  have e2:=rv2.length
  have hh:X.A.in1.handled=none:=I.ok.hd hc
  refine Zbp (G3 k1 hh p t n1 it1.toArray) (G3 k2 hh q u n2 it2.toArray) ap zz zi zo ⟨x1,sq1⟩ ⟨x2,sq2⟩ (by rw [Bc];omega) (by rw [Bc];omega) fun h1 tk x y px py zz1 zo1 Lj Cy nw kp=>?_
  obtain ⟨a1,b1,zo1⟩:=zo1
  refine ⟨.ref s.heap.objs.size,rfl,(show wpAny _ _ (pure ()) _ _ _ from wpAny_pure ?_)⟩
  have hx:xs[i]?=some xs[i]:=Bh l1
  have hy:ys[i]?=some ys[i]:=Bh l2
  obtain ⟨u1,hu1,ru1⟩:=rv1.get hx
  obtain ⟨u2,hu2,ru2⟩:=rv2.get hy
  have hux:u1=x:=by
   have:it1[i]?=some x:=by simpa using px
   rw [hu1] at this
   exact Option.some.inj this
  have huy:u2=y:=by
   have:it2[i]?=some y:=by simpa using py
   rw [hu2] at this
   exact Option.some.inj this
  subst hux huy
  have hfr:H s.heap.objs.size=none:=I.hok.fresh (AK _)
  have kk:∀c o,c∉[z,TI,TO,p,q]→s.heap.get? c=some o→h1.get? c=some o:=fun c o hc e=>by
   simp only [qa3,Ca,or_false,not_or] at hc
   exact kp c o hc.1 hc.2.2.1 hc.2.2.2.1 hc.2.2.2.2 e
  have nal:∀c o,s.heap.get? c=some o→c≠s.heap.objs.size:=fun c o e=>BM (AS e)
  have na:s.heap.objs.size≠z:=Ne.symm (let ⟨_,ez⟩:=zz.get;nal z _ ez)
  have hnew:h1.get? s.heap.objs.size=some {cls:=.type "tuple",data:=.seq #[u1,u2]}:=nw
  have ntr:∀c o,H c=some o→c∉[z,TI,TO,p,q]:=fun c o e hc=>by
   rw [(hf c hc).1] at e;cases e
  refine ⟨.ref s.heap.objs.size,Az H s.heap.objs.size (.tup [xs[i],ys[i]]),?_,rfl,⟨s.heap.objs.size,xs[i],ys[i],hfr,rfl,fun zs hz=>by rw [Mm I hz hq1];exact hx,fun zs hz=>by rw [Mm I hz hq2];exact hy,rfl⟩,
   ⟨zz1,kp TI _ ap.a1 ap.a5 ap.a6 ap.a7 zi,⟨a1,b1,zo1⟩,Lj.1,Cy.1⟩,fun c hc=>?_⟩
  ·show Inv X pins σ _ {s with heap:=h1,gens:=s.gens,drawn:=s.drawn,toks:=tk}
   refine I.step (g':=s.gens) (d':=s.drawn) (t':=tk) (h':=h1) (ch:=[z,TI,TO,p,q]) (fun c hc=>?_) (fun c o _ _ hc e _=>kk c o hc e) (fun c o _ _ hc e _=>⟨o.slots,kk c o hc e⟩) (fun c o _ e n=>by rw [AJ (nal c o e)];exact n)
    (fun c o hc e=>⟨o,kk c o hc e⟩) (fun c zs e=>by rw [AJ (BN e hfr)];exact e) (fun c o v e=>by rw [AJ (BN e hfr)];exact e) (fun c ps e=>⟨#[],by rw [AJ (BN e hfr),e];simp⟩) (fun m hm=>?_) (fun c o e=>?_) I.bare
   ·obtain ⟨_,c1,_,c3,c4,c5⟩:=hf c hc
    exact ⟨c3,c1,c4,c5⟩
   ·obtain ⟨o,es,ep,e,r⟩:=hm
    exact ⟨o,es,ep,kk _ o (fun hc=>(hf _ hc).2.1 rfl) e,r⟩
   ·by_cases hb:c=s.heap.objs.size
    ·subst hb
     rw [Cz] at e
     cases e
     exact ⟨by simp only [FA,Gh];rw [sizeLine_eq];decide,[u1,u2],.cons ru1 (.cons ru2 .nil),⟨_,hnew,rfl,0,rfl⟩,fun o e=>by rw [hnew] at e;cases e;rfl⟩
    ·rw [AJ hb] at e
     refine (I.hok c o e).stay (fun d v hd e'=>kk d v ?_ e') (fun d e'=>by rw [AJ (BN e' hfr)];exact e') fun d zs e'=>by rw [AJ (BN e' hfr)];exact e'
     rcases hd with rfl |hd
     ·exact ntr d _ e
     ·exact ntr d _ hd
  ·have nc:c≠s.heap.objs.size:=by
    simp only [qa3,Ca,or_false] at hc
    rcases hc with rfl |rfl |rfl |rfl |rfl
    ·obtain ⟨_,ez⟩:=zz.get;exact nal _ _ ez
    ·exact nal _ _ zi
    ·exact nal _ _ zo
    ·obtain ⟨o,e,_⟩:=x1.obj;exact nal _ _ e
    ·obtain ⟨o,e,_⟩:=x2.obj;exact nal _ _ e
   rw [AJ nc]
   exact (hf c hc).1
 done:=by
  intro X hP hw hK hc i pins s σ H E I hf st hg
  subst hP hw hK
  obtain ⟨zz,zi,⟨a,b,zo⟩,x1,x2⟩:=st
  obtain ⟨xs,ys,hq1,hq2,hl⟩:=hg
  obtain ⟨it1,rv1,sq1,lt1⟩:=ES I hq1
  obtain ⟨it2,rv2,sq2,lt2⟩:=ES I hq2
  have e1:=rv1.length
  have e2:=rv2.length
  have hh:X.A.in1.handled=none:=I.ok.hd hc
  refine Zbq (G3 k1 hh p t n1 it1.toArray) (G3 k2 hh q u n2 it2.toArray) ap zz zi zo ⟨x1,sq1⟩ ⟨x2,sq2⟩ (by simp only [Bc];omega) fun h' tk kp=>⟨rfl,?_⟩
  have kk:∀c o,c∉[z,TI,TO,p,q]→s.heap.get? c=some o→h'.get? c=some o:=fun c o hc e=>by
   simp only [qa3,Ca,or_false,not_or] at hc
   exact kp c o hc.1 hc.2.2.1 hc.2.2.2.1 hc.2.2.2.2 e
  have ntr:∀c o,H c=some o→c∉[z,TI,TO,p,q]:=fun c o e hc=>by
   rw [(hf c hc).1] at e;cases e
  show Inv X pins σ _ {s with heap:=h',gens:=s.gens,drawn:=s.drawn,toks:=tk}
  refine I.step (g':=s.gens) (d':=s.drawn) (t':=tk) (h':=h') (ch:=[z,TI,TO,p,q]) (fun c hc=>?_) (fun c o _ _ hc e _=>kk c o hc e) (fun c o _ _ hc e _=>⟨o.slots,kk c o hc e⟩) (fun c o _ e n=>n)
   (fun c o hc e=>⟨o,kk c o hc e⟩) (fun c zs e=>e) (fun c o v e=>e) (fun c ps e=>⟨#[],by rw [e];simp⟩) (fun m hm=>?_) (fun c o e=>?_) I.bare
  ·obtain ⟨_,c1,_,c3,c4,c5⟩:=hf c hc
   exact ⟨c3,c1,c4,c5⟩
  ·obtain ⟨o,es,ep,e,r⟩:=hm
   exact ⟨o,es,ep,kk _ o (fun hc=>(hf _ hc).2.1 rfl) e,r⟩
  ·refine (I.hok c o e).stay (fun d v hd e'=>kk d v ?_ e') (fun d e'=>e') fun d zs e'=>e'
   rcases hd with rfl |hd
   ·exact ntr d _ e
   ·exact ntr d _ hd
 self:=fun A i s Q E st h=>by cases st with |mk zz zi zo x1 x2=>exact Zbr zz h
section
variable {X:Cx} {E:XK}
theorem Zbt {nm:Str} {tpos p pos:Pos} {a b:Expr} {ta:TA} (hg:Gl X "zip") (hm:X.mg "zip"=none) (ha:PA X [a,b] ta) (hs:starEach [a,b] X.env=[(false,eval a X.env),(false,eval b X.env)]:=by rfl) (hs2:starEach [b] X.env=[(false,eval b X.env)]:=by rfl):
 PI X (.Name nm tpos) (.Call (.Name "zip" p) [a,b] [] pos) (fun σ H R=>ta σ H fun vs H1=>∃k1 k2 t u xs ys,vs=[.ref t,.ref u]∧DZ k1 X.K H1 t xs∧DZ k2 X.K H1 u ys∧R (Mn X.K k1 k2 t u) H1):=by
 intro pins s σ H R I h
 refine Call_ (GK I hg hm PyProof.Rows.boot_zip (PyProof.Rows.callWith_type1 (AA (ha pos pins s σ H _ I h) fun us s1 ⟨vs,H1,I1,r1,q1⟩=>?_) (by rw [hs,hs2]) (by rw [hs2];rfl)))
 obtain ⟨k1,k2,t,u,xs,ys,e,hq1,hq2,q⟩:=q1
 subst e
 cases r1 with
 |cons r rr=>
  cases rr with
  |cons r' rr=>
   cases rr
   cases r
   cases r'
   obtain ⟨it1,rv1,sq1,lt1⟩:=ES I1 hq1
   obtain ⟨it2,rv2,sq2,lt2⟩:=ES I1 hq2
   refine Sz sq1 sq2 fun h' zz zi zo x1 x2 kp=>wpAny_pyIter_zip (s:={s1 with heap:=h'}) zz ?_
   have I2:Inv X pins σ H1 {s1 with heap:=h'}:=I1.kept (t':=s1.toks) kp
   have fr:∀c,s1.heap.objs.size≤c→Dr X pins H1 c:=fun c hc=>I1.fpOk hc (I1.hok.fresh hc)
   have m0:s1.heap.objs.size≠s1.heap.objs.size+4:=BG (by omega)
   have ap:EO (s1.heap.objs.size+4) (s1.heap.objs.size+2) (s1.heap.objs.size+3) s1.heap.objs.size (s1.heap.objs.size+1) [s1.heap.objs.size,t] [s1.heap.objs.size+1,u]:=by
    generalize s1.heap.objs.size=n at lt1 lt2
    exact ⟨BG (by omega),BG (by omega),BG (by omega),BG (by omega),BG (by omega),Bs (by omega),Bs (by omega),Bs (by omega),Bs (by omega),BG (by omega),
     fun z=>by simp only [qa3,Ca,or_false] at z;rcases z with z |z;exact absurd z (Bs (by omega));exact absurd z (Bs (Bp lt1 (CQ _ _))),
     fun z=>by simp only [qa3,Ca,or_false] at z;rcases z with z |z;exact absurd z (Bs (by omega));exact absurd z (Bs (Bp lt2 (CQ _ _))),
     fun z=>by simp only [qa3,Ca,or_false] at z;rcases z with z |z;exact absurd z (Bs (by omega));exact absurd z (Bs (Bp lt1 (CQ _ _))),
     fun z=>by simp only [qa3,Ca,or_false] at z;rcases z with z |z;exact absurd z (Bs (by omega));exact absurd z (Bs (Bp lt2 (CQ _ _))),
     fun z=>by simp only [qa3,Ca,or_false] at z;rcases z with z |z;exact absurd z (BG (by omega));exact absurd z (Bs lt2),
     fun z=>by simp only [qa3,Ca,or_false] at z;rcases z with z |z;exact absurd z (Bs (by omega));exact absurd z (Bs (Bp lt1 (CQ _ _)))⟩
   refine ⟨s1.heap.objs.size+4,[s1.heap.objs.size+4,s1.heap.objs.size+2,s1.heap.objs.size+3,s1.heap.objs.size,s1.heap.objs.size+1],_,_,H1,rfl,I2,Zbs k1 k2 _ _ _ _ _ t u ap (BM lt1) (BM (Hj lt2)),⟨.none _ zz,zi,⟨_,_,zo⟩,x1,x2⟩,fun c hc=>?_,q⟩
   simp only [qa3,Ca,or_false] at hc
   rcases hc with rfl |rfl |rfl |rfl |rfl
   ·exact fr _ (CQ _ _)
   ·exact fr _ (CQ _ _)
   ·exact fr _ (CQ _ _)
   ·exact fr _ (AK _)
   ·exact fr _ (CQ _ _)
theorem Ui {nm:Str} {tpos p pos:Pos} {a b:Expr} {fa:MA} (hg:Gl X "zip") (hm:X.mg "zip"=none) (ha:DU X E [a,b] fa) (hs:starEach [a,b] X.env=[(false,eval a X.env),(false,eval b X.env)]:=by rfl) (hs2:starEach [b] X.env=[(false,eval b X.env)]:=by rfl):
 EF X E (.Name nm tpos) (.Call (.Name "zip" p) [a,b] [] pos) (Gx fa):=
 Jw (Zbt hg hm ha hs hs2) fun σ H R ⟨m,ρ,h,hr,er,p⟩=>⟨m,ρ,h,hr,er,Post.bind p fun x h1 v m1 H1 eo p1 k1 hr1 r1 q1=>by
  clear eo
  unfold FQ at q1
  split at q1
  ·rename_i d1 d2
   split at q1
   ·rename_i xs s1 ys s2 e1 e2
    simp only [Ez,DVs] at r1
    obtain ⟨v1,w1,rfl,rv1,v2,w2,rfl,rv2,rfl⟩:=r1
    obtain ⟨kd1,t,rfl,f1⟩:=Mo hr1 rv1 e1
    obtain ⟨kd2,u,rfl,f2⟩:=Mo hr1 rv2 e2
    obtain ⟨vs1,sq1,_⟩:=f1 m1 h1 H1 (AC _) (.refl _) hr1 (Mp e1)
    obtain ⟨vs2,sq2,_⟩:=f2 m1 h1 H1 (AC _) (.refl _) hr1 (Mp e2)
    refine ⟨kd1,kd2,t,u,vs1,vs2,rfl,sq1,sq2,q1 _ m1 H1 (AC _) (.refl _) hr1 fun i m2 h2 H2 p2 k2 hr2 hsr=>?_⟩
    obtain ⟨ws1,sw1,dw1⟩:=f1 m2 h2 H2 p2 k2 hr2 fun p hp=>hsr p (Cu _ hp)
    obtain ⟨ws2,sw2,dw2⟩:=f2 m2 h2 H2 p2 k2 hr2 fun p hp=>hsr p (Bi _ hp)
    have n1:=dw1.len
    have n2:=dw2.len
    have nl:(CB xs ys).length=min xs.length ys.length:=by simp [CB]
    refine ⟨fun hi=>?_,fun hi=>⟨ws1,ws2,sw1,sw2,by dsimp only at hi;omega⟩⟩
    dsimp only at hi
    have i1:i<xs.length:=by omega
    have i2:i<ys.length:=by omega
    refine ⟨⟨ws1,ws2,sw1,sw2,by omega,by omega⟩,fun y H3 z3_=>?_⟩
    obtain ⟨pp,vv,vv',hp,ey,ev,ev',eH⟩:=z3_
    subst ey eH
    have g1:xs[i]?=some xs[i]:=Bh i1
    have g2:ys[i]?=some ys[i]:=Bh i2
    obtain ⟨c1,z1,r1'⟩:=dw1.get g1
    obtain ⟨c2,z2,r2'⟩:=dw2.get g2
    rw [ev ws1 sw1] at z1
    rw [ev' ws2 sw2] at z2
    cases z1
    cases z2
    refine ⟨.new hp,hr2.new hp,.tup [xs[i],ys[i]],?_,?_⟩
    ·simp [CB,List.getElem?_zipWith,g1,g2]
    ·simp only [DV]
     exact ⟨pp,_,rfl,Cz,.cons (DV.keep (AC _) (.new hp) r1') (.cons (DV.keep (AC _) (.new hp) r2') .nil)⟩
   ·exact q1.elim
  ·exact q1.elim⟩
end
end LS
set_option maxHeartbeats 0
namespace LK
open PySem PySem.Spec PyProof.Rows L2 LS
def Bg (i:Nat):Stmt:=PySem.Challenge.pw_lineswitch_k75_whole_nets.main.body.getD i (.Pass ⟨0,0,0,0⟩)
structure Bl (mg:Str→Option Value):Prop where
 n_all:mg "all"=none
 n_any:mg "any"=none
 n_bool:mg "bool"=none
 n_divmod:mg "divmod"=none
 n_enumerate:mg "enumerate"=none
 n_int:mg "int"=none
 n_isinstance:mg "isinstance"=none
 n_len:mg "len"=none
 n_max:mg "max"=none
 n_min:mg "min"=none
 n_range:mg "range"=none
 n_sum:mg "sum"=none
 n_tuple:mg "tuple"=none
 n_zip:mg "zip"=none
theorem HN:bootBuiltins "all"=some (.builtin "all"):=by decide +kernel
theorem Zbu:bootBuiltins "any"=some (.builtin "any"):=by decide +kernel
theorem Zbv:bootBuiltins "bool"=some (.type "bool"):=by decide +kernel
theorem Zbw:bootBuiltins "divmod"=some (.builtin "divmod"):=by decide +kernel
theorem Uj:bootBuiltins "int"=some (.type "int"):=by decide +kernel
theorem GB:bootBuiltins "isinstance"=some (.builtin "isinstance"):=by decide +kernel
theorem Dm:bootBuiltins "len"=some (.builtin "len"):=by decide +kernel
theorem Zbx:bootBuiltins "max"=some (.builtin "max"):=by decide +kernel
theorem MW:bootBuiltins "min"=some (.builtin "min"):=by decide +kernel
theorem HP:bootBuiltins "sum"=some (.builtin "sum"):=by decide +kernel
theorem Cs:bootBuiltins "tuple"=some (.type "tuple"):=by decide +kernel
abbrev HQ:Stmt:=Bg 9
theorem Zby:A5 ["thing"] ["thing"] (defScope HQ):=⟨rfl,rfl,rfl,by decide +kernel,rfl,by decide +kernel,by decide +kernel⟩
noncomputable abbrev Pc:MS:=Ax (Gn (Af (Cg CV) (Ab (Aa 0) (Ab (mC (.ty "int")) (Ae)))) (L0 (Af (Cg CV) (Ab (Aa 0) (Ab (mC (.ty "bool")) (Ae))))))
abbrev HU:Stmt:=Bg 12
theorem Zbz:A5 ["thing"] ["thing"] (defScope HU):=⟨rfl,rfl,rfl,by decide +kernel,rfl,by decide +kernel,by decide +kernel⟩
noncomputable abbrev Pd:MS:=Ax (Gn (Af (Cg CV) (Ab (Aa 0) (Ab (mC (.ty "tuple")) (Ae)))) (FD Hw Hw (mC (.int 1)) (Af (Au BK) (Ab (Aa 0) (Ae))) (mC (.int 8))))
abbrev HV:Stmt:=Bg 21
theorem ZbA:A5 ["row","columns","is_turned"] ["row","columns","is_turned"] (defScope HV):=⟨rfl,rfl,rfl,by decide +kernel,rfl,by decide +kernel,by decide +kernel⟩
noncomputable abbrev Pe:MS:=Ax (Af (Au BL) (Ab (AR [none,none,some 1,some 2] (HI (Ab (Aa 0) (Ae))) (Ci 0 1) (A4) (Js (AO (Ah Cq (Ah (E9 false) (Aa 0) (Aa 2)) (Aa 3))) (Aa 1) (Ah FG (mC (.int 1)) (Aa 1)))) (Ae)))
abbrev HW:Stmt:=Bg 25
theorem ZbB:A5 ["counts","row"] ["counts","row"] (defScope HW):=⟨rfl,rfl,rfl,by decide +kernel,rfl,by decide +kernel,by decide +kernel⟩
noncomputable abbrev Pf:MS:=Ax (Af (Au BL) (Ab (AR [none,none] (Gx (Ab (Aa 0) (Ab (Aa 1) (Ae)))) (Ci 0 1) (A4) (Ah FG (Ah AV (Aa 0) (mC (.int 1))) (Ah D0 (mC (.int 2)) (Aa 1)))) (Ae)))
abbrev HX:Stmt:=Bg 27
theorem ZbC:A5 ["counts","high"] ["counts","high"] (defScope HX):=⟨rfl,rfl,rfl,by decide +kernel,rfl,by decide +kernel,by decide +kernel⟩
noncomputable abbrev Pg:MS:=Ax (Af (Au CU) (Ab (AR [none,some 1] (Bx (Aa 0)) (Bd 0) (A4) (Af (Cg Ju) (Ab (Aa 0) (Ab (Ah FG (Aa 1) (Aa 0)) (Ae))))) (Ae)))
abbrev HY:Stmt:=Bg 30
theorem sc_rising_rows:A5 ["start","many","rows","place"] ["start","many"] (defScope HY):=⟨rfl,rfl,rfl,by decide +kernel,rfl,by decide +kernel,by decide +kernel⟩
noncomputable abbrev Ph:MS:=Aj (AD 2 (Ea (Ab (Aa 0) (Ae)))) (Aj (Dx (Dj (Ab (Aa 1) (Ae))) (Bd 3) (AD 2 (Ff [none,none] (Bx (Aa 2)) (Bd 0) (A4) (G9 (Bx (BO (Ab (mC (.int 0)) (Ab (mC (.int 1)) (Ae))))) (Bd 1) (A4) (Gz (Ah AV (Aa 0) (BO (Ab (Aa 1) (Ae))))))))) (Ax (Aa 2)))
abbrev HZ:Stmt:=Bg 37
theorem sc_lights_of:A5 ["ties","lights","a","b","light"] ["ties"] (defScope HZ):=⟨rfl,rfl,rfl,by decide +kernel,rfl,by decide +kernel,by decide +kernel⟩
noncomputable abbrev Pi:MS:=Aj (AD 1 (MR)) (Aj (Dx (Bx (Aa 0)) (Fe [2,3,4]) (Aj (KJ (Aa 1) (BO (Ab (Aa 2) (Ab (Aa 3) (Ae)))) (Aa 4)) (KJ (Aa 1) (BO (Ab (Aa 3) (Ab (Aa 2) (Ae)))) (Aa 4)))) (Ax (Aa 1)))
abbrev H0:Stmt:=Bg 38
theorem sc_paths_of:A5 ["many","lights","paths","least","waiting","path","end"] ["many","lights"] (defScope H0):=⟨rfl,rfl,rfl,by decide +kernel,rfl,by decide +kernel,by decide +kernel⟩
noncomputable abbrev Pj:MS:=Aj (AD 2 (MR)) (Aj (Dx (Dj (Ab (Aa 0) (Ae))) (Bd 3) (Aj (AD 4 (Ea (Ab (BO (Ab (Aa 3) (Ae))) (Ae)))) (Mr (B9 (Aa 4)) (Aj (AD 5 (KM (Aa 4))) (Aj (AD 6 (Ah AE (Aa 5) (Ma (mC (.int 1))))) (A9 (AO (Ah (DD true) (Aa 6) (Aa 2))) (Aj (MU (Aa 2) (Aa 6) (Aa 5)) (Cv (KF (Aa 4) (AR [none,some 5,some 6,some 1] (Dj (Ab (Aa 0) (Ae))) (Bd 0) (AO (Ah (DD false) (BO (Ab (Aa 2) (Ab (Aa 0) (Ae)))) (Aa 3))) (Ah AV (Aa 1) (BO (Ab (Aa 0) (Ae)))))))) (Be))))))) (Ax (Aa 2)))
abbrev Ia:Stmt:=Bg 39
theorem ZbD:A5 ["lights","path"] ["lights","path"] (defScope Ia):=⟨rfl,rfl,rfl,by decide +kernel,rfl,by decide +kernel,by decide +kernel⟩
noncomputable abbrev Pk:MS:=Ax (Af (Au CU) (Ab (AR [none,some 0] (Gx (Ab (Aa 1) (Ab (Ei (Aa 1) (Eg (mC (.int 1))) (EL)) (Ae)))) (Bd 0) (A4) (Ah DE (Aa 1) (Aa 0))) (Ae)))
abbrev Ib:Stmt:=Bg 40
theorem ZbE:A5 ["net"] ["net"] (defScope Ib):=⟨rfl,rfl,rfl,by decide +kernel,rfl,by decide +kernel,by decide +kernel⟩
noncomputable abbrev Pl:MS:=Ax (AR [none] (Bx (Ah AE (Aa 0) (mC (.int 1)))) (Bd 0) (A4) (Ei (Aa 0) (EL) (Eg (mC (.int 2)))))
abbrev Ic:Stmt:=Bg 44
theorem sc_ring_of:A5 ["one","other","shared"] ["one","other"] (defScope Ic):=⟨rfl,rfl,rfl,by decide +kernel,rfl,by decide +kernel,by decide +kernel⟩
noncomputable abbrev Pm:MS:=Aj (AD 2 (Af (Au BK) (Ab (AR [none,some 1] (Bx (Aa 0)) (Bd 0) (AO (Ah (E9 false) (Aa 0) (Aa 1))) (Aa 0)) (Ae)))) (Ax (Ah AV (Ei (Aa 0) (Eg (Ah FG (Aa 2) (mC (.int 1)))) (EL)) (MB (Ei (Aa 1) (Eg (Aa 2)) (EL)))))
abbrev Ie:Stmt:=Bg 46
theorem ZbF:A5 ["ties","sides"] ["ties","sides"] (defScope Ie):=⟨rfl,rfl,rfl,by decide +kernel,rfl,by decide +kernel,by decide +kernel⟩
noncomputable abbrev Pn:MS:=Ax (Af (Au CU) (Ab (AR [none,none,none,some 1] (Bx (Aa 0)) (Fe [0,1,2]) (A4) (Ah Dw (Ah AV (Ah AV (Aa 2) (Ah AE (Aa 3) (Aa 0))) (Ah AE (Aa 3) (Aa 1))) (mC (.int 2)))) (Ae)))
abbrev Ig:Stmt:=Bg 50
theorem ZbG:A5 ["_law_script","_law_k"] ["_law_script","_law_k"] (defScope Ig):=⟨rfl,rfl,rfl,by decide +kernel,rfl,by decide +kernel,by decide +kernel⟩
noncomputable abbrev MX:MS:=Aj (A9 (AO (Ah GS (Aa 1) (Af (Au BK) (Ab (Aa 0) (Ae))))) (Ax (Ah AE (Aa 0) (Aa 1))) (Be)) (Ax (Ah AV (Ah D0 (mC (.int 6151)) (Aa 1)) (mC (.int 29))))
abbrev Ih:Stmt:=Bg 51
theorem sc__law_mix:A5 ["_law_cell_here","_law_k","_law_number"] ["_law_cell_here","_law_k"] (defScope Ih):=⟨rfl,rfl,rfl,by decide +kernel,rfl,by decide +kernel,by decide +kernel⟩
noncomputable abbrev Po:MS:=Aj (AD 2 (Ah AV (Ah D0 (Ah AV (Aa 0) (mC (.int 1))) (mC (.int 40692))) (Ah D0 (mC (.int 104729)) (Aa 1)))) (Aj (AD 2 (Ah AV (Ah Dw (Ah D0 (Aa 2) (Aa 2)) (mC (.int 2147483399))) (Aa 1))) (Ax (Ah Dw (Ah D0 (Aa 2) (Ah AV (Aa 2) (mC (.int 31)))) (mC (.int 2147483563)))))
abbrev Ii:Stmt:=Bg 53
theorem sc__law_take:A5 ["_law_box_here","_law_many","_law_left","_law_digit"] ["_law_box_here","_law_many"] (defScope Ii):=⟨rfl,rfl,rfl,by decide +kernel,rfl,by decide +kernel,by decide +kernel⟩
noncomputable abbrev Pp:MS:=Aj (Fb (Ci 2 3) (Af (Cg Kb) (Ab (Ah AE (Aa 0) (mC (.int 0))) (Ab (Aa 1) (Ae))))) (Aj (L9 (Aa 0) (mC (.int 0)) (Aa 2)) (Ax (Aa 3)))
abbrev Ij:Stmt:=Bg 10
theorem ZbH:A5 ["thing","least","most"] ["thing","least","most"] (defScope Ij):=⟨rfl,rfl,rfl,by decide +kernel,rfl,by decide +kernel,by decide +kernel⟩
noncomputable abbrev MY (Ct:List D→HD→Out D):MS:=Ax (Gn (Af Ct (Ab (Aa 0) (Ae))) (FD Hw Hw (Aa 1) (Aa 0) (Aa 2)))
abbrev Ik:Stmt:=Bg 18
theorem sc_is_lot:A5 ["thing","size","last","number"] ["thing","size"] (defScope Ik):=⟨rfl,rfl,rfl,by decide +kernel,rfl,by decide +kernel,by decide +kernel⟩
noncomputable abbrev Pq (Ct:List D→HD→Out D):MS:=Aj (A9 (Cf (B9 (Af (Cg CV) (Ab (Aa 0) (Ab (mC (.ty "tuple")) (Ae)))))) (Ax (mC (.bl false))) (Be)) (Aj (AD 2 (Ma (mC (.int 1)))) (Aj (Dx (Bx (Aa 0)) (Bd 3) (Aj (A9 (Ce (Cf (B9 (Af Ct (Ab (Aa 3) (Ae))))) (Cf (AO (FD GS GS (Aa 2) (Aa 3) (Aa 1))))) (Ax (mC (.bl false))) (Be)) (AD 2 (Aa 3)))) (Ax (mC (.bl true)))))
abbrev Il:Stmt:=Bg 52
theorem sc__law_box:A5 ["_law_script","_law_k","_law_here","_law_number","_law_j"] ["_law_script","_law_k"] (defScope Il):=⟨rfl,rfl,rfl,by decide +kernel,rfl,by decide +kernel,by decide +kernel⟩
noncomputable abbrev Pr (F0:List D→HD→Out D) (F4:List D→HD→Out D):MS:=Aj (AD 2 (Af F0 (Ab (Aa 0) (Ab (Aa 1) (Ae))))) (Aj (A9 (AO (Ah Cq (Ah Dw (Aa 2) (mC (.int 2))) (mC (.int 0)))) (Ax (Ea (Ab (Ah L4 (Aa 2) (mC (.int 2))) (Ae)))) (Be)) (Aj (AD 3 (mC (.int 0))) (Aj (Dx (Dj (Ab (mC (.int 24)) (Ae))) (Bd 4) (AD 3 (Ah AV (Ah D0 (Aa 3) (mC (.int 2147483647))) (Af F4 (Ab (Aa 2) (Ab (Aa 4) (Ae))))))) (Ax (Ea (Ab (Aa 3) (Ae)))))))
abbrev Im:Stmt:=Bg 54
theorem sc__law_wide_box:A5 ["_law_box_here","_law_number","_law_many","_law_j"] ["_law_box_here"] (defScope Im):=⟨rfl,rfl,rfl,by decide +kernel,rfl,by decide +kernel,by decide +kernel⟩
noncomputable abbrev Pt (A0:List D→HD→Out D):MS:=Aj (Kf 1 2 (Ab (Af A0 (Ab (Aa 0) (Ab (mC (.int 2147483647)) (Ae)))) (Ab (mC (.int 0)) (Ae)))) (Aj (Dx (Dj (Ab (mC (.int 24)) (Ae))) (Bd 3) (Aj (AD 1 (Ah Dw (Ah AV (Ah AV (Ah D0 (Aa 1) (mC (.int 48271))) (mC (.int 11))) (Aa 3)) (mC (.int 2147483647)))) (AD 2 (Ah AV (Ah D0 (Aa 2) (mC (.int 2147483647))) (Aa 1))))) (Ax (Ea (Ab (Aa 2) (Ae)))))
abbrev Io:Stmt:=Bg 56
theorem ZbI:A5 ["_law_box_here","_law_size"] ["_law_box_here","_law_size"] (defScope Io):=⟨rfl,rfl,rfl,by decide +kernel,rfl,by decide +kernel,by decide +kernel⟩
noncomputable abbrev Pv (A0:List D→HD→Out D):MS:=Ax (Af (Au BL) (Ab (AR [none,some 0] (Dj (Ab (Aa 1) (Ae))) (Bd 0) (AO (Ah Cq (Af A0 (Ab (Aa 1) (Ab (mC (.int 2)) (Ae)))) (mC (.int 1)))) (Aa 0)) (Ae)))
abbrev Ip:Stmt:=Bg 11
theorem ZbJ:A5 ["thing"] ["thing"] (defScope Ip):=⟨rfl,rfl,rfl,by decide +kernel,rfl,by decide +kernel,by decide +kernel⟩
noncomputable abbrev Pw (BW:List D→HD→Out D):MS:=Ax (Af BW (Ab (Aa 0) (Ab (mC (.int 0)) (Ab (mC (.int 1)) (Ae)))))
abbrev Iq:Stmt:=Bg 55
theorem sc__law_board:A5 ["_law_box_here","_law_high","_law_wide","_law_way","_law_digits","_law_dense","_law_rows","_law_number"] ["_law_box_here","_law_high","_law_wide"] (defScope Iq):=⟨rfl,rfl,rfl,by decide +kernel,rfl,by decide +kernel,by decide +kernel⟩
noncomputable abbrev Px (A0:List D→HD→Out D) (CZ:List D→HD→Out D):MS:=Aj (AD 3 (Af A0 (Ab (Aa 0) (Ab (mC (.int 5)) (Ae))))) (Aj (AD 4 (Af CZ (Ab (Aa 0) (Ae)))) (Aj (AD 5 (Ah AE (Ea (Ab (mC (.int 3)) (Ab (mC (.int 1)) (Ab (mC (.int 5)) (Ab (mC (.int 3)) (Ab (mC (.int 2)) (Ae))))))) (Aa 3))) (Aj (AD 6 (Ea (Ae))) (Aj (Dx (Dj (Ab (Aa 1) (Ae))) (Bd 7) (Cv (HG (Aa 6) (Af (Au BL) (Ab (AR [none,some 4,some 5] (Dj (Ab (Aa 2) (Ae))) (Bd 0) (A4) (Af (Au Kd) (Ab (Ah GS (Af A0 (Ab (Aa 1) (Ab (mC (.int 6)) (Ae)))) (Aa 2)) (Ae)))) (Ae)))))) (Aj (A9 (AO (Ah Cq (Aa 3) (mC (.int 3)))) (AD 6 (Ah D0 (Ea (Ab (Ah AE (Aa 6) (mC (.int 0))) (Ae))) (Aa 1))) (Be)) (Ax (Af (Au BL) (Ab (Aa 6) (Ae)))))))))
abbrev Ir:Stmt:=Bg 57
theorem sc__law_net:A5 ["_law_box_here","_law_many","_law_way","_law_digits","_law_some","_law_ties","_law_a","_law_b","_law_light"] ["_law_box_here"] (defScope Ir):=⟨rfl,rfl,rfl,by decide +kernel,rfl,by decide +kernel,by decide +kernel⟩
noncomputable abbrev Pz (A0:List D→HD→Out D) (CZ:List D→HD→Out D):MS:=Aj (Kf 1 2 (Ab (Ah AV (mC (.int 1)) (Af A0 (Ab (Aa 0) (Ab (mC (.int 8)) (Ae))))) (Ab (Af A0 (Ab (Aa 0) (Ab (mC (.int 4)) (Ae)))) (Ae)))) (Aj (AD 3 (Af CZ (Ab (Aa 0) (Ae)))) (Aj (AD 4 (AR [none,some 3] (Dj (Ab (Aa 1) (Ae))) (Bd 0) (A4) (Af A0 (Ab (Aa 1) (Ab (mC (.int 2)) (Ae)))))) (Aj (AD 5 (Ea (Ae))) (Aj (Dx (Dj (Ab (Aa 1) (Ae))) (Bd 6) (Dx (Kj (Ab (Ah AV (Aa 6) (mC (.int 1))) (Ab (Aa 1) (Ae)))) (Bd 7) (Aj (AD 8 (Af A0 (Ab (Aa 3) (Ab (mC (.int 2)) (Ae))))) (Aj (A9 (AO (Ah Cq (Aa 2) (mC (.int 0)))) (AD 8 (Ah Dw (Ah AV (Ah AE (Aa 4) (Aa 6)) (Ah AE (Aa 4) (Aa 7))) (mC (.int 2)))) (Be)) (A9 (Gm (AO (Ah J7 (Af A0 (Ab (Aa 3) (Ab (mC (.int 3)) (Ae)))) (mC (.int 0)))) (Ce (AO (Ah BA (Aa 2) (mC (.int 1)))) (AO (FD GS Hw (Aa 6) (mC (.int 3)) (Aa 7))))) (Cv (HG (Aa 5) (BO (Ab (Aa 6) (Ab (Aa 7) (Ab (Aa 8) (Ae))))))) (Be)))))) (Ax (BO (Ab (Aa 1) (Ab (Af (Au BL) (Ab (Aa 5) (Ae))) (Ae)))))))))
abbrev Iu:Stmt:=Bg 13
theorem ZbK:A5 ["thing"] ["thing"] (defScope Iu):=⟨rfl,rfl,rfl,by decide +kernel,rfl,by decide +kernel,by decide +kernel⟩
noncomputable abbrev PB (CW:List D→HD→Out D) (Dc:List D→HD→Out D):MS:=Ax (Gn (Af CW (Ab (Aa 0) (Ae))) (Af (Au DJ) (Ab (AR [none] (Bx (Aa 0)) (Bd 0) (A4) (Af Dc (Ab (Aa 0) (Ae)))) (Ae))))
abbrev Iv:Stmt:=Bg 33
theorem ZbL:A5 ["thing","many"] ["thing","many"] (defScope Iv):=⟨rfl,rfl,rfl,by decide +kernel,rfl,by decide +kernel,by decide +kernel⟩
noncomputable abbrev PC (BX:List D→HD→Out D) (Dc:List D→HD→Out D):MS:=Aj (A9 (Ce (Cf (B9 (Af (Cg CV) (Ab (Aa 0) (Ab (mC (.ty "tuple")) (Ae)))))) (AO (Ah BA (Af (Au BK) (Ab (Aa 0) (Ae))) (mC (.int 3))))) (Ax (mC (.bl false))) (Be)) (Ax (Gn (Af BX (Ab (Ei (Aa 0) (EL) (Eg (mC (.int 2)))) (Ab (Aa 1) (Ae)))) (Af Dc (Ab (Ah AE (Aa 0) (mC (.int 2))) (Ae)))))
abbrev Iw:Stmt:=Bg 14
theorem ZbM:A5 ["thing"] ["thing"] (defScope Iw):=⟨rfl,rfl,rfl,by decide +kernel,rfl,by decide +kernel,by decide +kernel⟩
noncomputable abbrev PD (CW:List D→HD→Out D) (F5:List D→HD→Out D):MS:=Aj (A9 (Ce (Cf (B9 (Af CW (Ab (Aa 0) (Ae))))) (Cf (B9 (Af (Au DJ) (Ab (AR [none] (Bx (Aa 0)) (Bd 0) (A4) (Af F5 (Ab (Aa 0) (Ae)))) (Ae)))))) (Ax (mC (.bl false))) (Be)) (Ax (Af (Au DJ) (Ab (AR [none,some 0] (Bx (Aa 0)) (Bd 0) (A4) (Ah Cq (Af (Au BK) (Ab (Aa 0) (Ae))) (Af (Au BK) (Ab (Ah AE (Aa 1) (mC (.int 0))) (Ae))))) (Ae))))
abbrev Iz:Stmt:=Bg 34
theorem sc_is_net:A5 ["thing","many","ties"] ["thing"] (defScope Iz):=⟨rfl,rfl,rfl,by decide +kernel,rfl,by decide +kernel,by decide +kernel⟩
noncomputable abbrev PF (BW:List D→HD→Out D) (F6:List D→HD→Out D):MS:=Aj (A9 (Ce (Cf (B9 (Af (Cg CV) (Ab (Aa 0) (Ab (mC (.ty "tuple")) (Ae)))))) (AO (Ah BA (Af (Au BK) (Ab (Aa 0) (Ae))) (mC (.int 2))))) (Ax (mC (.bl false))) (Be)) (Aj (Fb (Ci 1 2) (Aa 0)) (Aj (A9 (Ce (Cf (B9 (Af BW (Ab (Aa 1) (Ab (mC (.int 1)) (Ab (mC (.int 8)) (Ae))))))) (Cf (B9 (Af (Cg CV) (Ab (Aa 2) (Ab (mC (.ty "tuple")) (Ae))))))) (Ax (mC (.bl false))) (Be)) (Aj (A9 (Cf (B9 (Af (Au DJ) (Ab (AR [none,some 1] (Bx (Aa 2)) (Bd 0) (A4) (Af F6 (Ab (Aa 0) (Ab (Aa 1) (Ae))))) (Ae))))) (Ax (mC (.bl false))) (Be)) (Ax (Af (Au DJ) (Ab (AR [none,none] (Gx (Ab (Aa 2) (Ab (Ei (Aa 2) (Eg (mC (.int 1))) (EL)) (Ae)))) (Ci 0 1) (A4) (Ah (Mx HT.lexLt) (Ei (Aa 0) (EL) (Eg (mC (.int 2)))) (Ei (Aa 1) (EL) (Eg (mC (.int 2)))))) (Ae)))))))
abbrev IA:Stmt:=Bg 15
theorem ZbN:A5 ["thing"] ["thing"] (defScope IA):=⟨rfl,rfl,rfl,by decide +kernel,rfl,by decide +kernel,by decide +kernel⟩
noncomputable abbrev PH (F7:List D→HD→Out D):MS:=A9 (Cf (B9 (Af F7 (Ab (Aa 0) (Ae))))) (Jv) (Be)
abbrev IB:Stmt:=Bg 35
theorem ZbO:A5 ["thing"] ["thing"] (defScope IB):=⟨rfl,rfl,rfl,by decide +kernel,rfl,by decide +kernel,by decide +kernel⟩
noncomputable abbrev PJ (Fp:List D→HD→Out D):MS:=A9 (Cf (B9 (Af Fp (Ab (Aa 0) (Ae))))) (Jv) (Be)
abbrev IC:Stmt:=Bg 16
theorem ZbP:A5 ["board"] ["board"] (defScope IC):=⟨rfl,rfl,rfl,by decide +kernel,rfl,by decide +kernel,by decide +kernel⟩
noncomputable abbrev PK (Bv:List D→HD→Out D):MS:=Aj (Cv (Af Bv (Ab (Aa 0) (Ae)))) (Ax (Af (Au BL) (Ab (AR [none] (Bx (Aa 0)) (Bd 0) (A4) (Af (Au CU) (Ab (Aa 0) (Ae)))) (Ae))))
abbrev ID:Stmt:=Bg 19
theorem ZbQ:A5 ["board","thing"] ["board","thing"] (defScope ID):=⟨rfl,rfl,rfl,by decide +kernel,rfl,by decide +kernel,by decide +kernel⟩
noncomputable abbrev PL (Bv:List D→HD→Out D) (BX:List D→HD→Out D):MS:=Aj (Cv (Af Bv (Ab (Aa 0) (Ae)))) (Aj (A9 (Ce (Cf (B9 (Af (Cg CV) (Ab (Aa 1) (Ab (mC (.ty "tuple")) (Ae)))))) (AO (Ah BA (Af (Au BK) (Ab (Aa 1) (Ae))) (mC (.int 2))))) (Ax (mC (.bl false))) (Be)) (Ax (Gn (Af BX (Ab (Ah AE (Aa 1) (mC (.int 0))) (Ab (Af (Au BK) (Ab (Aa 0) (Ae))) (Ae)))) (Af BX (Ab (Ah AE (Aa 1) (mC (.int 1))) (Ab (Af (Au BK) (Ab (Ah AE (Aa 0) (mC (.int 0))) (Ae))) (Ae)))))))
abbrev IE:Stmt:=Bg 23
theorem ZbR:A5 ["board"] ["board"] (defScope IE):=⟨rfl,rfl,rfl,by decide +kernel,rfl,by decide +kernel,by decide +kernel⟩
noncomputable abbrev PM (Bv:List D→HD→Out D):MS:=Aj (Cv (Af Bv (Ab (Aa 0) (Ae)))) (Ax (Af (Au BL) (Ab (AR [none,some 0] (Dj (Ab (Af (Au BK) (Ab (Ah AE (Aa 0) (mC (.int 0))) (Ae))) (Ae))) (Bd 0) (A4) (Af (Au BL) (Ab (AR [none,some 0] (Bx (Aa 1)) (Bd 0) (A4) (Ah AE (Aa 0) (Aa 1))) (Ae)))) (Ae))))
abbrev IF:Stmt:=Bg 36
theorem sc_net_switched:A5 ["net","lot","many","ties"] ["net","lot"] (defScope IF):=⟨rfl,rfl,rfl,by decide +kernel,rfl,by decide +kernel,by decide +kernel⟩
noncomputable abbrev PN (A2:List D→HD→Out D) (BX:List D→HD→Out D):MS:=Aj (Cv (Af A2 (Ab (Aa 0) (Ae)))) (Aj (Fb (Ci 2 3) (Aa 0)) (Aj (A9 (Cf (B9 (Af BX (Ab (Aa 1) (Ab (Aa 2) (Ae)))))) (Jv) (Be)) (Ax (BO (Ab (Aa 2) (Ab (Af (Au BL) (Ab (AR [none,none,none,some 1] (Bx (Aa 3)) (Fe [0,1,2]) (A4) (BO (Ab (Aa 0) (Ab (Aa 1) (Ab (Js (AO (Ah Cq (Ah (E9 false) (Aa 0) (Aa 3)) (Ah (E9 false) (Aa 1) (Aa 3)))) (Aa 2) (Ah FG (mC (.int 1)) (Aa 2))) (Ae)))))) (Ae))) (Ae)))))))
abbrev IG:Stmt:=Bg 43
theorem sc_is_odd_ring:A5 ["net","thing","many","ties","lights","way"] ["net","thing"] (defScope IG):=⟨rfl,rfl,rfl,by decide +kernel,rfl,by decide +kernel,by decide +kernel⟩
noncomputable abbrev PP (A2:List D→HD→Out D) (BW:List D→HD→Out D) (B1:List D→HD→Out D) (BV:List D→HD→Out D):MS:=Aj (Cv (Af A2 (Ab (Aa 0) (Ae)))) (Aj (Fb (Ci 2 3) (Aa 0)) (Aj (A9 (Ce (Cf (B9 (Af (Cg CV) (Ab (Aa 1) (Ab (mC (.ty "tuple")) (Ae)))))) (AO (Ah GS (Af (Au BK) (Ab (Aa 1) (Ae))) (mC (.int 3))))) (Ax (mC (.bl false))) (Be)) (Aj (A9 (Cf (B9 (Af (Au DJ) (Ab (AR [none,some 2] (Bx (Aa 1)) (Bd 0) (A4) (Af BW (Ab (Aa 0) (Ab (mC (.int 0)) (Ab (Ah FG (Aa 1) (mC (.int 1))) (Ae)))))) (Ae))))) (Ax (mC (.bl false))) (Be)) (Aj (A9 (B9 (Af (Au JE) (Ab (AR [none,some 1] (Bx (Aa 1)) (Bd 0) (A4) (Ah J7 (Kx Mw Kz (Aa 1) (Aa 0)) (mC (.int 1)))) (Ae)))) (Ax (mC (.bl false))) (Be)) (Aj (AD 4 (Af B1 (Ab (Aa 3) (Ae)))) (Aj (AD 5 (Ah AV (Aa 1) (Ei (Aa 1) (EL) (Eg (mC (.int 1)))))) (Aj (A9 (Cf (B9 (Af (Au DJ) (Ab (AR [none,some 4] (Gx (Ab (Aa 5) (Ab (Ei (Aa 5) (Eg (mC (.int 1))) (EL)) (Ae)))) (Bd 0) (A4) (Ah (DD false) (Aa 0) (Aa 1))) (Ae))))) (Ax (mC (.bl false))) (Be)) (Ax (Ah Cq (Ah Dw (Af BV (Ab (Aa 4) (Ab (Aa 5) (Ae)))) (mC (.int 2))) (mC (.int 1)))))))))))
abbrev IH:Stmt:=Bg 45
theorem sc_odd_ring:A5 ["net","many","ties","lights","paths","a","b","light"] ["net"] (defScope IH):=⟨rfl,rfl,rfl,by decide +kernel,rfl,by decide +kernel,by decide +kernel⟩
noncomputable abbrev PQ (A2:List D→HD→Out D) (B1:List D→HD→Out D) (CY:List D→HD→Out D) (BV:List D→HD→Out D) (FY:List D→HD→Out D):MS:=Aj (Cv (Af A2 (Ab (Aa 0) (Ae)))) (Aj (Fb (Ci 1 2) (Aa 0)) (Aj (AD 3 (Af B1 (Ab (Aa 2) (Ae)))) (Aj (AD 4 (Af CY (Ab (Aa 1) (Ab (Aa 3) (Ae))))) (Aj (Dx (Bx (Aa 2)) (Fe [5,6,7]) (A9 (AO (Ah Cq (Ah Dw (Ah AV (Ah AV (Af BV (Ab (Aa 3) (Ab (Ah DE (Aa 4) (Aa 5)) (Ae)))) (Aa 7)) (Af BV (Ab (Aa 3) (Ab (Ah DE (Aa 4) (Aa 6)) (Ae))))) (mC (.int 2))) (mC (.int 1)))) (Ax (Af FY (Ab (Ah DE (Aa 4) (Aa 5)) (Ab (Ah DE (Aa 4) (Aa 6)) (Ae))))) (Be))) (Ax (mC .non))))))
abbrev II:Stmt:=Bg 47
theorem sc_net_left:A5 ["net","many","ties"] ["net"] (defScope II):=⟨rfl,rfl,rfl,by decide +kernel,rfl,by decide +kernel,by decide +kernel⟩
noncomputable abbrev PR (A2:List D→HD→Out D) (FX:List D→HD→Out D) (FZ:List D→HD→Out D):MS:=Aj (Cv (Af A2 (Ab (Aa 0) (Ae)))) (Aj (Fb (Ci 1 2) (Aa 0)) (Ax (Af (Au (G2 EN)) (Ab (AR [none,some 2] (Bx (Af FX (Ab (BO (Ab (mC (.int 0)) (Ae))) (Ab (Ah FG (Aa 1) (mC (.int 1))) (Ae))))) (Bd 0) (A4) (Af FZ (Ab (Aa 1) (Ab (Aa 0) (Ae))))) (Ae)))))
abbrev IJ:Stmt:=Bg 48
theorem sc_net_of:A5 ["board","high","lines"] ["board"] (defScope IJ):=⟨rfl,rfl,rfl,by decide +kernel,rfl,by decide +kernel,by decide +kernel⟩
noncomputable abbrev PU (Bv:List D→HD→Out D):MS:=Aj (Cv (Af Bv (Ab (Aa 0) (Ae)))) (Aj (AD 1 (Af (Au BK) (Ab (Aa 0) (Ae)))) (Aj (AD 2 (Ah AV (Aa 1) (Af (Au BK) (Ab (Ah AE (Aa 0) (mC (.int 0))) (Ae))))) (Aj (A9 (AO (Ah J7 (Aa 2) (mC (.int 8)))) (Jv) (Be)) (Ax (BO (Ab (Aa 2) (Ab (Af (Au BL) (Ab (Ff [none,none,none,none,some 1] (HI (Ab (Aa 0) (Ae))) (Ci 0 1) (A4) (G9 (HI (Ab (Aa 1) (Ae))) (Ci 2 3) (A4) (Gz (BO (Ab (Aa 0) (Ab (Ah AV (Aa 4) (Aa 2)) (Ab (Aa 3) (Ae)))))))) (Ae))) (Ae))))))))
abbrev IK:Stmt:=Bg 17
theorem ZbS:A5 ["board"] ["board"] (defScope IK):=⟨rfl,rfl,rfl,by decide +kernel,rfl,by decide +kernel,by decide +kernel⟩
noncomputable abbrev PV (Ga:List D→HD→Out D) (F8:List D→HD→Out D):MS:=Ax (Af F8 (Ab (Af Ga (Ab (Aa 0) (Ae))) (Ae)))
abbrev IP:Stmt:=Bg 20
theorem ZbT:A5 ["board","thing"] ["board","thing"] (defScope IP):=⟨rfl,rfl,rfl,by decide +kernel,rfl,by decide +kernel,by decide +kernel⟩
noncomputable abbrev PX (F9:List D→HD→Out D):MS:=A9 (Cf (B9 (Af F9 (Ab (Aa 0) (Ab (Aa 1) (Ae)))))) (Jv) (Be)
abbrev IQ:Stmt:=Bg 41
theorem sc_net_lot:A5 ["one","other","many","turns","paths","lot"] ["one","other"] (defScope IQ):=⟨rfl,rfl,rfl,by decide +kernel,rfl,by decide +kernel,by decide +kernel⟩
noncomputable abbrev PY (A2:List D→HD→Out D) (Fi:List D→HD→Out D) (B1:List D→HD→Out D) (CY:List D→HD→Out D) (BV:List D→HD→Out D) (B6:List D→HD→Out D):MS:=Aj (Cv (Af A2 (Ab (Aa 0) (Ae)))) (Aj (Cv (Af A2 (Ab (Aa 1) (Ae)))) (Aj (AD 2 (Ah AE (Aa 0) (mC (.int 0)))) (Aj (A9 (Ce (AO (Ah BA (Aa 2) (Ah AE (Aa 1) (mC (.int 0))))) (AO (Ah BA (Af Fi (Ab (Aa 0) (Ae))) (Af Fi (Ab (Aa 1) (Ae)))))) (Ax (mC .non)) (Be)) (Aj (AD 3 (Af B1 (Ab (AR [none,none,none,none] (Gx (Ab (Ah AE (Aa 0) (mC (.int 1))) (Ab (Ah AE (Aa 1) (mC (.int 1))) (Ae)))) (Pb 1 2 3 0) (A4) (BO (Ab (Aa 1) (Ab (Aa 2) (Ab (Ah Dw (Ah AV (Aa 3) (Ah AE (Aa 0) (mC (.int 2)))) (mC (.int 2))) (Ae)))))) (Ae)))) (Aj (AD 4 (Af CY (Ab (Aa 2) (Ab (Aa 3) (Ae))))) (Aj (AD 5 (Af (Au BL) (Ab (AR [none,some 3,some 4] (Dj (Ab (Aa 2) (Ae))) (Bd 0) (AO (Ah Cq (Ah Dw (Af BV (Ab (Aa 1) (Ab (Ah DE (Aa 2) (Aa 0)) (Ae)))) (mC (.int 2))) (mC (.int 1)))) (Aa 0)) (Ae)))) (Ax (Js (AO (Ah Cq (Af B6 (Ab (Aa 0) (Ab (Aa 5) (Ae)))) (Aa 1))) (Aa 5) (mC .non)))))))))
abbrev IS:Stmt:=Bg 22
theorem sc_switched:A5 ["board","switching","rows","columns"] ["board","switching"] (defScope IS):=⟨rfl,rfl,rfl,by decide +kernel,rfl,by decide +kernel,by decide +kernel⟩
noncomputable abbrev PZ (Gc:List D→HD→Out D) (FU:List D→HD→Out D):MS:=Aj (Cv (Af Gc (Ab (Aa 0) (Ab (Aa 1) (Ae))))) (Aj (Fb (Ci 2 3) (Aa 1)) (Ax (Af (Au BL) (Ab (AR [none,none,some 3,some 2] (HI (Ab (Aa 0) (Ae))) (Ci 0 1) (A4) (Af FU (Ab (Aa 1) (Ab (Aa 2) (Ab (Ah (E9 false) (Aa 0) (Aa 3)) (Ae)))))) (Ae)))))
abbrev IT:Stmt:=Bg 26
theorem sc_lots_with_counts:A5 ["board","found","number"] ["board"] (defScope IT):=⟨rfl,rfl,rfl,by decide +kernel,rfl,by decide +kernel,by decide +kernel⟩
noncomputable abbrev P0 (Gb:List D→HD→Out D) (FV:List D→HD→Out D):MS:=Aj (AD 1 (Ea (Ab (BO (Ab (BO (Ae)) (Ab (Af Gb (Ab (Aa 0) (Ae))) (Ae)))) (Ae)))) (Aj (Dx (Kj (Ab (mC (.int 1)) (Ab (Af (Au BK) (Ab (Aa 0) (Ae))) (Ae)))) (Bd 2) (AD 1 (Ah AV (Aa 1) (AR [none,none,some 2,some 0] (Bx (Aa 1)) (Ci 0 1) (A4) (BO (Ab (Ah AV (Aa 0) (BO (Ab (Aa 2) (Ae)))) (Ab (Af FV (Ab (Aa 1) (Ab (Ah AE (Aa 3) (Aa 2)) (Ae)))) (Ae)))))))) (Ax (Aa 1)))
abbrev IU:Stmt:=Bg 42
theorem sc_is_quiet:A5 ["net","many","ties"] ["net"] (defScope IU):=⟨rfl,rfl,rfl,by decide +kernel,rfl,by decide +kernel,by decide +kernel⟩
noncomputable abbrev P3 (A2:List D→HD→Out D) (CD:List D→HD→Out D):MS:=Aj (Cv (Af A2 (Ab (Aa 0) (Ae)))) (Aj (Fb (Ci 1 2) (Aa 0)) (Ax (Ah Eb (Af CD (Ab (Aa 0) (Ab (BO (Ab (Aa 1) (Ab (Af (Au BL) (Ab (AR [none,none,none] (Bx (Aa 2)) (Fe [0,1,2]) (A4) (BO (Ab (Aa 0) (Ab (Aa 1) (Ab (mC (.int 0)) (Ae)))))) (Ae))) (Ae)))) (Ae)))) (mC .non))))
abbrev IV:Stmt:=Bg 28
theorem ZbU:A5 ["board"] ["board"] (defScope IV):=⟨rfl,rfl,rfl,by decide +kernel,rfl,by decide +kernel,by decide +kernel⟩
noncomputable abbrev P4 (DO:List D→HD→Out D) (FW:List D→HD→Out D):MS:=Ax (Af (Au (G2 EN)) (Ab (AR [none,none,some 0] (Bx (Af DO (Ab (Aa 0) (Ae)))) (Ci 0 1) (A4) (Af FW (Ab (Aa 1) (Ab (Af (Au BK) (Ab (Aa 2) (Ae))) (Ae))))) (Ae)))
abbrev s_law:Stmt:=Bg 58
theorem sc_law:A5 ["_law_script","_law_k","_law_box_here","_law_net_here","_law_lot_here","_law_other","_law_found","_law_ring","_law_high","_law_wide","_law_board_here","_law_some","_law_places"] ["_law_script"] (defScope s_law):=⟨rfl,rfl,rfl,by decide +kernel,rfl,by decide +kernel,by decide +kernel⟩
noncomputable abbrev MZ (Fj:List D→HD→Out D) (Fo:List D→HD→Out D) (DN:List D→HD→Out D) (B6:List D→HD→Out D) (CD:List D→HD→Out D) (De:List D→HD→Out D) (Do:List D→HD→Out D) (Fs:List D→HD→Out D) (Fq:List D→HD→Out D) (A0:List D→HD→Out D) (Fm:List D→HD→Out D) (Df:List D→HD→Out D) (Fu:List D→HD→Out D) (Ft:List D→HD→Out D):MS:=Aj (Dx (Dj (Ab (Af (Cg Kc) (Ab (mC (.int 1)) (Ab (Af (Cg Ju) (Ab (Af (Au BK) (Ab (Aa 0) (Ae))) (Ab (mC (.int 4)) (Ae)))) (Ae)))) (Ae))) (Bd 1) (Aj (AD 2 (Af Fj (Ab (Aa 0) (Ab (Aa 1) (Ae))))) (Aj (AD 3 (Af Fo (Ab (Aa 2) (Ae)))) (Aj (AD 4 (Af DN (Ab (Aa 2) (Ab (Ah AE (Aa 3) (mC (.int 0))) (Ae))))) (Aj (AD 5 (Af B6 (Ab (Aa 3) (Ab (Aa 4) (Ae))))) (Aj (AD 6 (Af CD (Ab (Aa 3) (Ab (Aa 5) (Ae))))) (Aj (A9 (Ce (AO (Ah Gp (Aa 6) (mC .non))) (Ce (AO (Ah BA (Af B6 (Ab (Aa 3) (Ab (Aa 6) (Ae)))) (Aa 5))) (AO (Ah BA (Af B6 (Ab (Aa 5) (Ab (Aa 4) (Ae)))) (Aa 3))))) (Ax (mC (.bl false))) (Be)) (Aj (A9 (Ce (AO (Ah BA (Af De (Ab (Aa 5) (Ae))) (Af De (Ab (Aa 3) (Ae))))) (AO (Ah BA (Af Do (Ab (Aa 3) (Ae))) (Ah Cq (Af De (Ab (Aa 3) (Ae))) (mC (.int 0)))))) (Ax (mC (.bl false))) (Be)) (Aj (AD 7 (Af Fs (Ab (Aa 3) (Ae)))) (Aj (A9 (Ce (AO (Ah BA (Ah Gp (Aa 7) (mC .non)) (Af Do (Ab (Aa 3) (Ae))))) (AO (Ah BA (Af Do (Ab (Aa 5) (Ae))) (Af Do (Ab (Aa 3) (Ae)))))) (Ax (mC (.bl false))) (Be)) (Aj (A9 (Gm (AO (Ah Eb (Aa 7) (mC .non))) (AO (Ah Eb (Af Fq (Ab (Aa 5) (Ab (Aa 7) (Ae)))) (mC (.bl true))))) (Ax (mC (.bl false))) (Be)) (Aj (AD 8 (Ah AV (mC (.int 1)) (Af A0 (Ab (Aa 2) (Ab (mC (.int 7)) (Ae)))))) (Aj (AD 9 (Ah AV (mC (.int 1)) (Af A0 (Ab (Aa 2) (Ab (Ah FG (mC (.int 8)) (Aa 8)) (Ae)))))) (Aj (AD 10 (Af Fm (Ab (Aa 2) (Ab (Aa 8) (Ab (Aa 9) (Ae)))))) (Aj (AD 11 (BO (Ab (Af DN (Ab (Aa 2) (Ab (Aa 8) (Ae)))) (Ab (Af DN (Ab (Aa 2) (Ab (Aa 9) (Ae)))) (Ae))))) (Aj (AD 12 (Ah AV (Ah AE (Aa 11) (mC (.int 0))) (Af (Au BL) (Ab (AR [none,some 8] (Bx (Ah AE (Aa 11) (mC (.int 1)))) (Bd 0) (A4) (Ah AV (Aa 1) (Aa 0))) (Ae))))) (Aj (A9 (AO (Ah BA (Af (Au CU) (Ab (AR [none] (Bx (Ah AE (Af Df (Ab (Aa 10) (Ae))) (mC (.int 1)))) (Bd 0) (A4) (Ah AE (Aa 0) (mC (.int 2)))) (Ae))) (Af (Au CU) (Ab (AR [none] (Bx (Aa 10)) (Bd 0) (A4) (Af (Au CU) (Ab (Aa 0) (Ae)))) (Ae))))) (Ax (mC (.bl false))) (Be)) (Aj (A9 (AO (Ah BA (Af De (Ab (Af Df (Ab (Aa 10) (Ae))) (Ae))) (Af Fu (Ab (Aa 10) (Ae))))) (Ax (mC (.bl false))) (Be)) (A9 (AO (Ah BA (Af B6 (Ab (Af Df (Ab (Aa 10) (Ae))) (Ab (Aa 12) (Ae)))) (Af Df (Ab (Af Ft (Ab (Aa 10) (Ab (Aa 11) (Ae)))) (Ae))))) (Ax (mC (.bl false))) (Be)))))))))))))))))))) (Ax (mC (.bl true)))
section
variable {P:Program} {w:World} {K:PySem.W.Frag} {mg:Str→Option Value} {base:Heap} (B:Bl mg) (et:True)
include B et
theorem ZbV (f:Addr) (cdv:Value) (A:Around) (outer:List Env) (s:Shared) (H:Hp) (E:XK) (hr:Room 0 (A.deeper (envOfC "is_whole" (defScope HQ) s.heap.objs.size f cdv))):
 AU (AQ (AG P w K) P w K mg base ["thing"] "is_whole" (defScope HQ) f cdv A outer s H E) E (defBody HQ) (Pc):=
 As (AI (Jr (A8 GA rfl B.n_isinstance GB (Ad (Ac (pv 0)) (Ad (Gu rfl B.n_int Uj) (Ag)))) (Jq (X4 (A8 GA rfl B.n_isinstance GB (Ad (Ac (pv 0)) (Ad (Gu rfl B.n_bool Zbv) (Ag))))))))
theorem ZbW {t_MOST_LINES:Tok} (m_MOST_LINES:mg "MOST_LINES"=some (.int 8 t_MOST_LINES)) (f:Addr) (cdv:Value) (A:Around) (outer:List Env) (s:Shared) (H:Hp) (E:XK) (hr:Room 0 (A.deeper (envOfC "is_line_tuple" (defScope HU) s.heap.objs.size f cdv))):
 AU (AQ (AG P w K) P w K mg base ["thing"] "is_line_tuple" (defScope HU) f cdv A outer s H E) E (defBody HU) (Pd):=
 As (AI (Jr (A8 GA rfl B.n_isinstance GB (Ad (Ac (pv 0)) (Ad (Gu rfl B.n_tuple Cs) (Ag)))) (Jq (Rr J8 J8 (Al) (A8 Di rfl B.n_len Dm (Ad (Ac (pv 0)) (Ag))) (NT rfl m_MOST_LINES)))))
theorem ZbX (f:Addr) (cdv:Value) (A:Around) (outer:List Env) (s:Shared) (H:Hp) (E:XK) (hr:Room 0 (A.deeper (envOfC "row_switched" (defScope HV) s.heap.objs.size f cdv))):
 AU (AQ (AG P w K) P w K mg base ["row","columns","is_turned"] "row_switched" (defScope HV) f cdv A outer s H E) E (defBody HV) (Pe):=
 As (AI (Dv DH rfl B.n_tuple Cs (Ad (BE (Nc:=["number","light","columns","is_turned"]) (cs:=[none,none,some 1,some 2]) rfl (CSc.ok ⟨rfl,by decide +kernel,by kernel_rfl,by decide +kernel,rfl,by kernel_rfl⟩) (Ml rfl B.n_enumerate (Ad (Ac (pv 0)) (Ag))) (JA rfl rfl) (fun C D cells fp s₀ H₀ pins=>⟨Dy rfl (Av (i:=0) (show (["number","light","columns","is_turned"]:List Str).Nodup from by decide +kernel) rfl) (Av (i:=1) (show (["number","light","columns","is_turned"]:List Str).Nodup from by decide +kernel) rfl),Bz,NU (Bw (EU hr.units) (D8 Ka (Ac (pv 0)) (Ac (pv 2)) (by with_unfolding_all rfl)) (Ac (pv 3)) (Bo _)) (Ac (pv 1)) (AN GR (Al) (Ac (pv 1)))⟩)) (Ag))))
theorem ZbY (f:Addr) (cdv:Value) (A:Around) (outer:List Env) (s:Shared) (H:Hp) (E:XK) (hr:Room 0 (A.deeper (envOfC "counts_with_row" (defScope HW) s.heap.objs.size f cdv))):
 AU (AQ (AG P w K) P w K mg base ["counts","row"] "counts_with_row" (defScope HW) f cdv A outer s H E) E (defBody HW) (Pf):=
 As (AI (Dv DH rfl B.n_tuple Cs (Ad (BE (Nc:=["count","light"]) (cs:=[none,none]) rfl (CSc.ok ⟨rfl,by decide +kernel,by kernel_rfl,by decide +kernel,rfl,by kernel_rfl⟩) (Oq rfl B.n_zip (Ad (Ac (pv 0)) (Ad (Ac (pv 1)) (Ag)))) (JA rfl rfl) (fun C D cells fp s₀ H₀ pins=>⟨Dy rfl (Av (i:=0) (show (["count","light"]:List Str).Nodup from by decide +kernel) rfl) (Av (i:=1) (show (["count","light"]:List Str).Nodup from by decide +kernel) rfl),Bz,AN GR (AN BJ (Ac (pv 0)) (Al)) (AN FR (Al) (Ac (pv 1)))⟩)) (Ag))))
theorem ZbZ (f:Addr) (cdv:Value) (A:Around) (outer:List Env) (s:Shared) (H:Hp) (E:XK) (hr:Room 0 (A.deeper (envOfC "fewest_lit" (defScope HX) s.heap.objs.size f cdv))):
 AU (AQ (AG P w K) P w K mg base ["counts","high"] "fewest_lit" (defScope HX) f cdv A outer s H E) E (defBody HX) (Pg):=
 As (AI (A8 (HC rfl) rfl B.n_sum HP (Ad (BE (Nc:=["count","high"]) (cs:=[none,some 1]) rfl (CSc.ok ⟨rfl,by decide +kernel,by kernel_rfl,by decide +kernel,rfl,by kernel_rfl⟩) (B3 (Ac (pv 0))) (Cj rfl) (fun C D cells fp s₀ H₀ pins=>⟨Av (i:=0) (show (["count","high"]:List Str).Nodup from by decide +kernel) rfl,Bz,A8 (RA rfl) rfl B.n_min MW (Ad (Ac (pv 0)) (Ad (AN GR (Ac (pv 1)) (Ac (pv 0))) (Ag)))⟩)) (Ag))))
theorem Zb0 (f:Addr) (cdv:Value) (A:Around) (outer:List Env) (s:Shared) (H:Hp) (E:XK) (hr:Room 0 (A.deeper (envOfC "rising_rows" (defScope HY) s.heap.objs.size f cdv))):
 AU (AQ (AG P w K) P w K mg base ["start","many","rows","place"] "rising_rows" (defScope HY) f cdv A outer s H E) E (defBody HY) (Ph):=
 Am (A7 (i:=2) sc_rising_rows.nd rfl (FE (Ad (Ac (pv 0)) (Ag)))) (Am (EG Ef rfl (Ec rfl B.n_range (Ad (Ac (pv 1)) (Ag))) (FI (Av (i:=3) (sc_rising_rows.nd) rfl)) (As (ZaS (i:=2) (Nc:=["row","light"]) (cs:=[none,none]) (is:=[0]) (js:=[1]) rfl sc_rising_rows.nd rfl (by first|exact .inl rfl|exact .inr rfl) (CSc.ok ⟨rfl,by decide +kernel,by kernel_rfl,by decide +kernel,rfl,by kernel_rfl⟩) (B3 (Ac (pv 2))) (fun g e=>by cases e<;>rfl) (by decide) (S7 (i:=0) (js:=[1]) (by decide)) (fun C D cells fp s₀ H₀ pins ao=>⟨Av (i:=0) (show (["row","light"]:List Str).Nodup from by decide +kernel) rfl,Bz,Tc (is:=[1]) (js:=[]) rfl rfl rfl (fun g e=>by cases e<;>rfl) (B3 (Co (Ad (Al) (Ad (Al) (Ag))))) (Av (i:=1) (show (["row","light"]:List Str).Nodup from by decide +kernel) rfl) (S7 (i:=1) (js:=[]) (by decide)) (Bz) (Tb ao rfl rfl (AN BJ (Ac (pv 0)) (Co (Ad (Ac (pv 1)) (Ag)))))⟩)))) (As (AI (Ac (pv 2)))))
theorem Zb1 (f:Addr) (cdv:Value) (A:Around) (outer:List Env) (s:Shared) (H:Hp) (E:XK) (hr:Room 0 (A.deeper (envOfC "lights_of" (defScope HZ) s.heap.objs.size f cdv))):
 AU (AQ (AG P w K) P w K mg base ["ties","lights","a","b","light"] "lights_of" (defScope HZ) f cdv A outer s H E) E (defBody HZ) (Pi):=
 Am (A7 (i:=1) sc_lights_of.nd rfl (TQ)) (Am (EG Ef rfl (B3 (Ac (pv 0))) (SQ (is:=[2,3,4]) (GN rfl (Cm (Av (i:=2) (sc_lights_of.nd) rfl) (Cm (Av (i:=3) (sc_lights_of.nd) rfl) (Cm (Av (i:=4) (sc_lights_of.nd) rfl) (GM)))))) (Am (Uc hr.units (Ac (pv 1)) (Co (Ad (Ac (pv 2)) (Ad (Ac (pv 3)) (Ag)))) (Ac (pv 4))) (As (Uc hr.units (Ac (pv 1)) (Co (Ad (Ac (pv 3)) (Ad (Ac (pv 2)) (Ag)))) (Ac (pv 4)))))) (As (AI (Ac (pv 1)))))
theorem Zb2 (f:Addr) (cdv:Value) (A:Around) (outer:List Env) (s:Shared) (H:Hp) (E:XK) (hr:Room 0 (A.deeper (envOfC "paths_of" (defScope H0) s.heap.objs.size f cdv))):
 AU (AQ (AG P w K) P w K mg base ["many","lights","paths","least","waiting","path","end"] "paths_of" (defScope H0) f cdv A outer s H E) E (defBody H0) (Pj):=
 Am (A7 (i:=2) sc_paths_of.nd rfl (TQ)) (Am (EG Ef rfl (Ec rfl B.n_range (Ad (Ac (pv 0)) (Ag))) (FI (Av (i:=3) (sc_paths_of.nd) rfl)) (Am (A7 (i:=4) sc_paths_of.nd rfl (FE (Ad (Co (Ad (Ac (pv 3)) (Ag))) (Ag)))) (As (Zz Ef (CK (Ac (pv 4))) (Am (A7 (i:=5) sc_paths_of.nd rfl (Zbj (Ac (pv 4)))) (Am (A7 (i:=6) sc_paths_of.nd rfl (BP (Ac (pv 5)) (RZ (Al)) (fun _ _=>rfl))) (As (BD (Bw (Zbf hr.units) (Ac (pv 6)) (Ac (pv 2)) (by with_unfolding_all rfl)) (Am (Za6 (Ac (pv 2)) (Ac (pv 6)) (Ac (pv 5))) (As (DI (ZaW (Ac (pv 4)) (BE (Nc:=["place","path","end","lights"]) (cs:=[none,some 5,some 6,some 1]) rfl (CSc.ok ⟨rfl,by decide +kernel,by kernel_rfl,by decide +kernel,rfl,by kernel_rfl⟩) (Ec rfl B.n_range (Ad (Ac (pv 0)) (Ag))) (Cj rfl) (fun C D cells fp s₀ H₀ pins=>⟨Av (i:=0) (show (["place","path","end","lights"]:List Str).Nodup from by decide +kernel) rfl,L6 (Bw (Ue hr.units) (Co (Ad (Ac (pv 2)) (Ad (Ac (pv 0)) (Ag)))) (Ac (pv 3)) (by with_unfolding_all rfl)),AN BJ (Ac (pv 1)) (Co (Ad (Ac (pv 0)) (Ag)))⟩)))))) (BC))))))))) (As (AI (Ac (pv 2)))))
theorem Zb3 (f:Addr) (cdv:Value) (A:Around) (outer:List Env) (s:Shared) (H:Hp) (E:XK) (hr:Room 0 (A.deeper (envOfC "lit_along" (defScope Ia) s.heap.objs.size f cdv))):
 AU (AQ (AG P w K) P w K mg base ["lights","path"] "lit_along" (defScope Ia) f cdv A outer s H E) E (defBody Ia) (Pk):=
 As (AI (A8 (HC rfl) rfl B.n_sum HP (Ad (BE (Nc:=["pair","lights"]) (cs:=[none,some 0]) rfl (CSc.ok ⟨rfl,by decide +kernel,by kernel_rfl,by decide +kernel,rfl,by kernel_rfl⟩) (Ui rfl B.n_zip (Ad (Ac (pv 1)) (Ad (FS (Ac (pv 1)) (FP (Al)) (FO)) (Ag)))) (Cj rfl) (fun C D cells fp s₀ H₀ pins=>⟨Av (i:=0) (show (["pair","lights"]:List Str).Nodup from by decide +kernel) rfl,Bz,JK hr.units (Ac (pv 1)) (Ac (pv 0)) (fun _ _=>rfl)⟩)) (Ag))))
theorem Zb4 (f:Addr) (cdv:Value) (A:Around) (outer:List Env) (s:Shared) (H:Hp) (E:XK) (hr:Room 0 (A.deeper (envOfC "pairs_of" (defScope Ib) s.heap.objs.size f cdv))):
 AU (AQ (AG P w K) P w K mg base ["net"] "pairs_of" (defScope Ib) f cdv A outer s H E) E (defBody Ib) (Pl):=
 As (AI (BE (Nc:=["tie"]) (cs:=[none]) rfl (CSc.ok ⟨rfl,by decide +kernel,by kernel_rfl,by decide +kernel,rfl,by kernel_rfl⟩) (B3 (BP (Ac (pv 0)) (Al) (fun _ _=>rfl))) (Cj rfl) (fun C D cells fp s₀ H₀ pins=>⟨Av (i:=0) (show (["tie"]:List Str).Nodup from by decide +kernel) rfl,Bz,FS (Ac (pv 0)) (FO) (FP (Al))⟩)))
theorem Zb5 (f:Addr) (cdv:Value) (A:Around) (outer:List Env) (s:Shared) (H:Hp) (E:XK) (hr:Room 0 (A.deeper (envOfC "ring_of" (defScope Ic) s.heap.objs.size f cdv))):
 AU (AQ (AG P w K) P w K mg base ["one","other","shared"] "ring_of" (defScope Ic) f cdv A outer s H E) E (defBody Ic) (Pm):=
 Am (A7 (i:=2) sc_ring_of.nd rfl (A8 Di rfl B.n_len Dm (Ad (BE (Nc:=["place","other"]) (cs:=[none,some 1]) rfl (CSc.ok ⟨rfl,by decide +kernel,by kernel_rfl,by decide +kernel,rfl,by kernel_rfl⟩) (B3 (Ac (pv 0))) (Cj rfl) (fun C D cells fp s₀ H₀ pins=>⟨Av (i:=0) (show (["place","other"]:List Str).Nodup from by decide +kernel) rfl,L6 (Bw Ka (Ac (pv 0)) (Ac (pv 1)) (by with_unfolding_all rfl)),Ac (pv 0)⟩)) (Ag)))) (As (AI (AN BJ (FS (Ac (pv 0)) (FP (AN GR (Ac (pv 2)) (Al))) (FO)) (Zat (FS (Ac (pv 1)) (FP (Ac (pv 2))) (FO))))))
theorem Zb6 (f:Addr) (cdv:Value) (A:Around) (outer:List Env) (s:Shared) (H:Hp) (E:XK) (hr:Room 0 (A.deeper (envOfC "lit_by_sides" (defScope Ie) s.heap.objs.size f cdv))):
 AU (AQ (AG P w K) P w K mg base ["ties","sides"] "lit_by_sides" (defScope Ie) f cdv A outer s H E) E (defBody Ie) (Pn):=
 As (AI (A8 (HC rfl) rfl B.n_sum HP (Ad (BE (Nc:=["a","b","light","sides"]) (cs:=[none,none,none,some 1]) rfl (CSc.ok ⟨rfl,by decide +kernel,by kernel_rfl,by decide +kernel,rfl,by kernel_rfl⟩) (B3 (Ac (pv 0))) (ON rfl rfl rfl) (fun C D cells fp s₀ H₀ pins=>⟨GN rfl (Cm (Av (i:=0) (show (["a","b","light","sides"]:List Str).Nodup from by decide +kernel) rfl) (Cm (Av (i:=1) (show (["a","b","light","sides"]:List Str).Nodup from by decide +kernel) rfl) (Cm (Av (i:=2) (show (["a","b","light","sides"]:List Str).Nodup from by decide +kernel) rfl) (GM)))),Bz,AN FH (AN BJ (AN BJ (Ac (pv 2)) (BP (Ac (pv 3)) (Ac (pv 0)) (fun _ _=>rfl))) (BP (Ac (pv 3)) (Ac (pv 1)) (fun _ _=>rfl))) (Al)⟩)) (Ag))))
theorem Zb7 (f:Addr) (cdv:Value) (A:Around) (outer:List Env) (s:Shared) (H:Hp) (E:XK) (hr:Room 0 (A.deeper (envOfC "_law_cell" (defScope Ig) s.heap.objs.size f cdv))):
 AU (AQ (AG P w K) P w K mg base ["_law_script","_law_k"] "_law_cell" (defScope Ig) f cdv A outer s H E) E (defBody Ig) (MX):=
 Am (BD (Bw Jt (Ac (pv 1)) (A8 Di rfl B.n_len Dm (Ad (Ac (pv 0)) (Ag))) (Bo _)) (As (AI (BP (Ac (pv 0)) (Ac (pv 1)) (fun _ _=>rfl)))) (BC)) (As (AI (AN BJ (AN FR (Al) (Ac (pv 1))) (Al))))
theorem Zb8 (f:Addr) (cdv:Value) (A:Around) (outer:List Env) (s:Shared) (H:Hp) (E:XK) (hr:Room 0 (A.deeper (envOfC "_law_mix" (defScope Ih) s.heap.objs.size f cdv))):
 AU (AQ (AG P w K) P w K mg base ["_law_cell_here","_law_k","_law_number"] "_law_mix" (defScope Ih) f cdv A outer s H E) E (defBody Ih) (Po):=
 Am (A7 (i:=2) sc__law_mix.nd rfl (AN BJ (AN FR (AN BJ (Ac (pv 0)) (Al)) (Al)) (AN FR (Al) (Ac (pv 1))))) (Am (A7 (i:=2) sc__law_mix.nd rfl (AN BJ (AN FH (AN FR (Ac (pv 2)) (Ac (pv 2))) (Al)) (Ac (pv 1)))) (As (AI (AN FH (AN FR (Ac (pv 2)) (AN BJ (Ac (pv 2)) (Al))) (Al)))))
theorem Zb9 (f:Addr) (cdv:Value) (A:Around) (outer:List Env) (s:Shared) (H:Hp) (E:XK) (hr:Room 0 (A.deeper (envOfC "_law_take" (defScope Ii) s.heap.objs.size f cdv))):
 AU (AQ (AG P w K) P w K mg base ["_law_box_here","_law_many","_law_left","_law_digit"] "_law_take" (defScope Ii) f cdv A outer s H E) E (defBody Ii) (Pp):=
 Am (GU (A8 Yc rfl B.n_divmod Zbw (Ad (BP (Ac (pv 0)) (Al) (fun _ _=>rfl)) (Ad (Ac (pv 1)) (Ag)))) (GT (Dy rfl (Av (i:=2) (sc__law_take.nd) rfl) (Av (i:=3) (sc__law_take.nd) rfl)))) (Am (Yy (Ac (pv 0)) (Al) (Ac (pv 2))) (As (AI (Ac (pv 3)))))
theorem Zca {Ct:List D→HD→Out D} (c_is_whole:CaE P w K mg base "is_whole" 1 Ct) (f:Addr) (cdv:Value) (A:Around) (outer:List Env) (s:Shared) (H:Hp) (E:XK) (hr:Room 1 (A.deeper (envOfC "is_between" (defScope Ij) s.heap.objs.size f cdv))):
 AU (AQ (AG P w K) P w K mg base ["thing","least","most"] "is_between" (defScope Ij) f cdv A outer s H E) E (defBody Ij) (MY Ct):=
 As (AI (Jr (Aq c_is_whole hr Aw (Ad (Ac (pv 0)) (Ag))) (Jq (Rr J8 J8 (Ac (pv 1)) (Ac (pv 0)) (Ac (pv 2))))))
theorem Zcb {Ct:List D→HD→Out D} (c_is_whole:CaE P w K mg base "is_whole" 1 Ct) (f:Addr) (cdv:Value) (A:Around) (outer:List Env) (s:Shared) (H:Hp) (E:XK) (hr:Room 1 (A.deeper (envOfC "is_lot" (defScope Ik) s.heap.objs.size f cdv))):
 AU (AQ (AG P w K) P w K mg base ["thing","size","last","number"] "is_lot" (defScope Ik) f cdv A outer s H E) E (defBody Ik) (Pq Ct):=
 Am (BD (CS (CK (A8 GA rfl B.n_isinstance GB (Ad (Ac (pv 0)) (Ad (Gu rfl B.n_tuple Cs) (Ag)))))) (As (AI (Cn))) (BC)) (Am (A7 (i:=2) sc_is_lot.nd rfl (RZ (Al))) (Am (EG Ef rfl (B3 (Ac (pv 0))) (FI (Av (i:=3) (sc_is_lot.nd) rfl)) (Am (BD (DW (D9 (CS (CK (Aq c_is_whole hr Aw (Ad (Ac (pv 3)) (Ag))))) (ED (CS (Rt Jt Jt (Ac (pv 2)) (Ac (pv 3)) (Ac (pv 1))))))) (As (AI (Cn))) (BC)) (As (A7 (i:=2) sc_is_lot.nd rfl (Ac (pv 3)))))) (As (AI (Cn)))))
theorem Zcc {F0:List D→HD→Out D} {F4:List D→HD→Out D} (c__law_cell:CaE P w K mg base "_law_cell" 1 F0) (c__law_mix:CaE P w K mg base "_law_mix" 1 F4) (f:Addr) (cdv:Value) (A:Around) (outer:List Env) (s:Shared) (H:Hp) (E:XK) (hr:Room 1 (A.deeper (envOfC "_law_box" (defScope Il) s.heap.objs.size f cdv))):
 AU (AQ (AG P w K) P w K mg base ["_law_script","_law_k","_law_here","_law_number","_law_j"] "_law_box" (defScope Il) f cdv A outer s H E) E (defBody Il) (Pr F0 F4):=
 Am (A7 (i:=2) sc__law_box.nd rfl (Aq c__law_cell hr Aw (Ad (Ac (pv 0)) (Ad (Ac (pv 1)) (Ag))))) (Am (BD (Bw (EU hr.units) (AN FH (Ac (pv 2)) (Al)) (Al) (Bo _)) (As (AI (FE (Ad (AN Ye (Ac (pv 2)) (Al)) (Ag))))) (BC)) (Am (A7 (i:=3) sc__law_box.nd rfl (Al)) (Am (EG Ef rfl (Ec rfl B.n_range (Ad (Al) (Ag))) (FI (Av (i:=4) (sc__law_box.nd) rfl)) (As (A7 (i:=3) sc__law_box.nd rfl (AN BJ (AN FR (Ac (pv 3)) (Al)) (Aq c__law_mix hr Aw (Ad (Ac (pv 2)) (Ad (Ac (pv 4)) (Ag)))))))) (As (AI (FE (Ad (Ac (pv 3)) (Ag))))))))
theorem Zcd {A0:List D→HD→Out D} (c__law_take:CaE P w K mg base "_law_take" 1 A0) (f:Addr) (cdv:Value) (A:Around) (outer:List Env) (s:Shared) (H:Hp) (E:XK) (hr:Room 1 (A.deeper (envOfC "_law_wide_box" (defScope Im) s.heap.objs.size f cdv))):
 AU (AQ (AG P w K) P w K mg base ["_law_box_here","_law_number","_law_many","_law_j"] "_law_wide_box" (defScope Im) f cdv A outer s H E) E (defBody Im) (Pt A0):=
 Am (RB (i:=1) (j:=2) rfl sc__law_wide_box.nd rfl rfl (by decide) rfl rfl (Ad (Aq c__law_take hr Aw (Ad (Ac (pv 0)) (Ad (Al) (Ag)))) (Ad (Al) (Ag))) (by first |rfl |with_unfolding_all rfl)) (Am (EG Ef rfl (Ec rfl B.n_range (Ad (Al) (Ag))) (FI (Av (i:=3) (sc__law_wide_box.nd) rfl)) (Am (A7 (i:=1) sc__law_wide_box.nd rfl (AN FH (AN BJ (AN BJ (AN FR (Ac (pv 1)) (Al)) (Al)) (Ac (pv 3))) (Al))) (As (A7 (i:=2) sc__law_wide_box.nd rfl (AN BJ (AN FR (Ac (pv 2)) (Al)) (Ac (pv 1))))))) (As (AI (FE (Ad (Ac (pv 2)) (Ag))))))
theorem Zce {A0:List D→HD→Out D} (c__law_take:CaE P w K mg base "_law_take" 1 A0) (f:Addr) (cdv:Value) (A:Around) (outer:List Env) (s:Shared) (H:Hp) (E:XK) (hr:Room 1 (A.deeper (envOfC "_law_lot" (defScope Io) s.heap.objs.size f cdv))):
 AU (AQ (AG P w K) P w K mg base ["_law_box_here","_law_size"] "_law_lot" (defScope Io) f cdv A outer s H E) E (defBody Io) (Pv A0):=
 As (AI (Dv DH rfl B.n_tuple Cs (Ad (BE (Nc:=["_law_number","_law_box_here"]) (cs:=[none,some 0]) rfl (CSc.ok ⟨rfl,by decide +kernel,by kernel_rfl,by decide +kernel,rfl,by kernel_rfl⟩) (Ec rfl B.n_range (Ad (Ac (pv 1)) (Ag))) (Cj rfl) (fun C D cells fp s₀ H₀ pins=>⟨Av (i:=0) (show (["_law_number","_law_box_here"]:List Str).Nodup from by decide +kernel) rfl,L6 (Bw (EU hr.units) (Aq c__law_take hr EK (Ad (Ac (pv 1)) (Ad (Al) (Ag)))) (Al) (Bo _)),Ac (pv 0)⟩)) (Ag))))
theorem Zcf {BW:List D→HD→Out D} (c_is_between:CaE P w K mg base "is_between" 2 BW) (f:Addr) (cdv:Value) (A:Around) (outer:List Env) (s:Shared) (H:Hp) (E:XK) (hr:Room 2 (A.deeper (envOfC "is_light" (defScope Ip) s.heap.objs.size f cdv))):
 AU (AQ (AG P w K) P w K mg base ["thing"] "is_light" (defScope Ip) f cdv A outer s H E) E (defBody Ip) (Pw BW):=
 As (AI (Aq c_is_between hr Aw (Ad (Ac (pv 0)) (Ad (Al) (Ad (Al) (Ag))))))
theorem Zcg {A0:List D→HD→Out D} {CZ:List D→HD→Out D} (c__law_take:CaE P w K mg base "_law_take" 1 A0) (c__law_wide_box:CaE P w K mg base "_law_wide_box" 2 CZ) (f:Addr) (cdv:Value) (A:Around) (outer:List Env) (s:Shared) (H:Hp) (E:XK) (hr:Room 2 (A.deeper (envOfC "_law_board" (defScope Iq) s.heap.objs.size f cdv))):
 AU (AQ (AG P w K) P w K mg base ["_law_box_here","_law_high","_law_wide","_law_way","_law_digits","_law_dense","_law_rows","_law_number"] "_law_board" (defScope Iq) f cdv A outer s H E) E (defBody Iq) (Px A0 CZ):=
 Am (A7 (i:=3) sc__law_board.nd rfl (Aq c__law_take hr Aw (Ad (Ac (pv 0)) (Ad (Al) (Ag))))) (Am (A7 (i:=4) sc__law_board.nd rfl (Aq c__law_wide_box hr Aw (Ad (Ac (pv 0)) (Ag)))) (Am (A7 (i:=5) sc__law_board.nd rfl (BP (FE (Ad (Al) (Ad (Al) (Ad (Al) (Ad (Al) (Ad (Al) (Ag))))))) (Ac (pv 3)) (fun _ _=>rfl))) (Am (A7 (i:=6) sc__law_board.nd rfl (FE (Ag))) (Am (EG Ef rfl (Ec rfl B.n_range (Ad (Ac (pv 1)) (Ag))) (FI (Av (i:=7) (sc__law_board.nd) rfl)) (As (DI (RU (Ac (pv 6)) (Dv DH rfl B.n_tuple Cs (Ad (BE (Nc:=["_law_place","_law_digits","_law_dense"]) (cs:=[none,some 4,some 5]) rfl (CSc.ok ⟨rfl,by decide +kernel,by kernel_rfl,by decide +kernel,rfl,by kernel_rfl⟩) (Ec rfl B.n_range (Ad (Ac (pv 2)) (Ag))) (Cj rfl) (fun C D cells fp s₀ H₀ pins=>⟨Av (i:=0) (show (["_law_place","_law_digits","_law_dense"]:List Str).Nodup from by decide +kernel) rfl,Bz,Dv Yh rfl B.n_int Uj (Ad (D8 Jt (Aq c__law_take hr EK (Ad (Ac (pv 1)) (Ad (Al) (Ag)))) (Ac (pv 2)) (Bo _)) (Ag))⟩)) (Ag))))))) (Am (BD (Bw (EU hr.units) (Ac (pv 3)) (Al) (Bo _)) (As (A7 (i:=6) sc__law_board.nd rfl (AN FR (FE (Ad (BP (Ac (pv 6)) (Al) (fun _ _=>rfl)) (Ag))) (Ac (pv 1))))) (BC)) (As (AI (Dv DH rfl B.n_tuple Cs (Ad (Ac (pv 6)) (Ag))))))))))
theorem Zch {A0:List D→HD→Out D} {CZ:List D→HD→Out D} (c__law_take:CaE P w K mg base "_law_take" 1 A0) (c__law_wide_box:CaE P w K mg base "_law_wide_box" 2 CZ) (f:Addr) (cdv:Value) (A:Around) (outer:List Env) (s:Shared) (H:Hp) (E:XK) (hr:Room 2 (A.deeper (envOfC "_law_net" (defScope Ir) s.heap.objs.size f cdv))):
 AU (AQ (AG P w K) P w K mg base ["_law_box_here","_law_many","_law_way","_law_digits","_law_some","_law_ties","_law_a","_law_b","_law_light"] "_law_net" (defScope Ir) f cdv A outer s H E) E (defBody Ir) (Pz A0 CZ):=
 Am (RB (i:=1) (j:=2) rfl sc__law_net.nd rfl rfl (by decide) rfl rfl (Ad (AN BJ (Al) (Aq c__law_take hr Aw (Ad (Ac (pv 0)) (Ad (Al) (Ag))))) (Ad (Aq c__law_take hr Aw (Ad (Ac (pv 0)) (Ad (Al) (Ag)))) (Ag))) (by first |rfl |with_unfolding_all rfl)) (Am (A7 (i:=3) sc__law_net.nd rfl (Aq c__law_wide_box hr Aw (Ad (Ac (pv 0)) (Ag)))) (Am (Yq (i:=4) (Nc:=["_law_place","_law_digits"]) (cs:=[none,some 3]) rfl sc__law_net.nd rfl (by first|exact .inl rfl|exact .inr rfl) (CSc.ok ⟨rfl,by decide +kernel,by kernel_rfl,by decide +kernel,rfl,by kernel_rfl⟩) (Ec rfl B.n_range (Ad (Ac (pv 1)) (Ag))) (Cj rfl) (fun C D cells fp s₀ H₀ pins=>⟨Av (i:=0) (show (["_law_place","_law_digits"]:List Str).Nodup from by decide +kernel) rfl,Bz,Aq c__law_take hr EK (Ad (Ac (pv 1)) (Ad (Al) (Ag)))⟩)) (Am (A7 (i:=5) sc__law_net.nd rfl (FE (Ag))) (Am (EG Ef rfl (Ec rfl B.n_range (Ad (Ac (pv 1)) (Ag))) (FI (Av (i:=6) (sc__law_net.nd) rfl)) (As (EG Ef rfl (RF rfl B.n_range (Ad (AN BJ (Ac (pv 6)) (Al)) (Ad (Ac (pv 1)) (Ag)))) (FI (Av (i:=7) (sc__law_net.nd) rfl)) (Am (A7 (i:=8) sc__law_net.nd rfl (Aq c__law_take hr Aw (Ad (Ac (pv 3)) (Ad (Al) (Ag))))) (Am (BD (Bw (EU hr.units) (Ac (pv 2)) (Al) (Bo _)) (As (A7 (i:=8) sc__law_net.nd rfl (AN FH (AN BJ (BP (Ac (pv 4)) (Ac (pv 6)) (fun _ _=>rfl)) (BP (Ac (pv 4)) (Ac (pv 7)) (fun _ _=>rfl))) (Al)))) (BC)) (As (BD (DW (Rn (Bw NW (Aq c__law_take hr Aw (Ad (Ac (pv 3)) (Ad (Al) (Ag)))) (Al) (Bo _)) (Rm (DW (D9 (Bw (DK hr.units) (Ac (pv 2)) (Al) (Bo _)) (ED (Rt Jt J8 (Ac (pv 6)) (Al) (Ac (pv 7))))))))) (As (DI (RU (Ac (pv 5)) (Co (Ad (Ac (pv 6)) (Ad (Ac (pv 7)) (Ad (Ac (pv 8)) (Ag)))))))) (BC)))))))) (As (AI (Co (Ad (Ac (pv 1)) (Ad (Dv DH rfl B.n_tuple Cs (Ad (Ac (pv 5)) (Ag))) (Ag))))))))))
theorem Zci {CW:List D→HD→Out D} {Dc:List D→HD→Out D} (c_is_line_tuple:CaE P w K mg base "is_line_tuple" 1 CW) (c_is_light:CaE P w K mg base "is_light" 3 Dc) (f:Addr) (cdv:Value) (A:Around) (outer:List Env) (s:Shared) (H:Hp) (E:XK) (hr:Room 3 (A.deeper (envOfC "is_row" (defScope Iu) s.heap.objs.size f cdv))):
 AU (AQ (AG P w K) P w K mg base ["thing"] "is_row" (defScope Iu) f cdv A outer s H E) E (defBody Iu) (PB CW Dc):=
 As (AI (Jr (Aq c_is_line_tuple hr Aw (Ad (Ac (pv 0)) (Ag))) (Jq (A8 (HF rfl) rfl B.n_all HN (Ad (BE (Nc:=["light"]) (cs:=[none]) rfl (CSc.ok ⟨rfl,by decide +kernel,by kernel_rfl,by decide +kernel,rfl,by kernel_rfl⟩) (B3 (Ac (pv 0))) (Cj rfl) (fun C D cells fp s₀ H₀ pins=>⟨Av (i:=0) (show (["light"]:List Str).Nodup from by decide +kernel) rfl,Bz,Aq c_is_light hr EK (Ad (Ac (pv 0)) (Ag))⟩)) (Ag))))))
theorem Zcj {BX:List D→HD→Out D} {Dc:List D→HD→Out D} (c_is_lot:CaE P w K mg base "is_lot" 2 BX) (c_is_light:CaE P w K mg base "is_light" 3 Dc) (f:Addr) (cdv:Value) (A:Around) (outer:List Env) (s:Shared) (H:Hp) (E:XK) (hr:Room 3 (A.deeper (envOfC "is_tie" (defScope Iv) s.heap.objs.size f cdv))):
 AU (AQ (AG P w K) P w K mg base ["thing","many"] "is_tie" (defScope Iv) f cdv A outer s H E) E (defBody Iv) (PC BX Dc):=
 Am (BD (DW (D9 (CS (CK (A8 GA rfl B.n_isinstance GB (Ad (Ac (pv 0)) (Ad (Gu rfl B.n_tuple Cs) (Ag)))))) (ED (Bw (DK hr.units) (A8 Di rfl B.n_len Dm (Ad (Ac (pv 0)) (Ag))) (Al) (Bo _))))) (As (AI (Cn))) (BC)) (As (AI (Jr (Aq c_is_lot hr Aw (Ad (FS (Ac (pv 0)) (FO) (FP (Al))) (Ad (Ac (pv 1)) (Ag)))) (Jq (Aq c_is_light hr Aw (Ad (BP (Ac (pv 0)) (Al) (fun _ _=>rfl)) (Ag)))))))
theorem Zck {CW:List D→HD→Out D} {F5:List D→HD→Out D} (c_is_line_tuple:CaE P w K mg base "is_line_tuple" 1 CW) (c_is_row:CaE P w K mg base "is_row" 4 F5) (f:Addr) (cdv:Value) (A:Around) (outer:List Env) (s:Shared) (H:Hp) (E:XK) (hr:Room 4 (A.deeper (envOfC "is_board" (defScope Iw) s.heap.objs.size f cdv))):
 AU (AQ (AG P w K) P w K mg base ["thing"] "is_board" (defScope Iw) f cdv A outer s H E) E (defBody Iw) (PD CW F5):=
 Am (BD (DW (D9 (CS (CK (Aq c_is_line_tuple hr Aw (Ad (Ac (pv 0)) (Ag))))) (ED (CS (CK (A8 (HF rfl) rfl B.n_all HN (Ad (BE (Nc:=["row"]) (cs:=[none]) rfl (CSc.ok ⟨rfl,by decide +kernel,by kernel_rfl,by decide +kernel,rfl,by kernel_rfl⟩) (B3 (Ac (pv 0))) (Cj rfl) (fun C D cells fp s₀ H₀ pins=>⟨Av (i:=0) (show (["row"]:List Str).Nodup from by decide +kernel) rfl,Bz,Aq c_is_row hr EK (Ad (Ac (pv 0)) (Ag))⟩)) (Ag)))))))) (As (AI (Cn))) (BC)) (As (AI (A8 (HF rfl) rfl B.n_all HN (Ad (BE (Nc:=["row","thing"]) (cs:=[none,some 0]) rfl (CSc.ok ⟨rfl,by decide +kernel,by kernel_rfl,by decide +kernel,rfl,by kernel_rfl⟩) (B3 (Ac (pv 0))) (Cj rfl) (fun C D cells fp s₀ H₀ pins=>⟨Av (i:=0) (show (["row","thing"]:List Str).Nodup from by decide +kernel) rfl,Bz,D8 (EU hr.units) (A8 Di rfl B.n_len Dm (Ad (Ac (pv 0)) (Ag))) (A8 Di rfl B.n_len Dm (Ad (BP (Ac (pv 1)) (Al) (fun _ _=>rfl)) (Ag))) (Bo _)⟩)) (Ag)))))
theorem Zcl {BW:List D→HD→Out D} {F6:List D→HD→Out D} (c_is_between:CaE P w K mg base "is_between" 2 BW) (c_is_tie:CaE P w K mg base "is_tie" 4 F6) {t_MOST_PLACES:Tok} (m_MOST_PLACES:mg "MOST_PLACES"=some (.int 8 t_MOST_PLACES)) (f:Addr) (cdv:Value) (A:Around) (outer:List Env) (s:Shared) (H:Hp) (E:XK) (hr:Room 4 (A.deeper (envOfC "is_net" (defScope Iz) s.heap.objs.size f cdv))):
 AU (AQ (AG P w K) P w K mg base ["thing","many","ties"] "is_net" (defScope Iz) f cdv A outer s H E) E (defBody Iz) (PF BW F6):=
 Am (BD (DW (D9 (CS (CK (A8 GA rfl B.n_isinstance GB (Ad (Ac (pv 0)) (Ad (Gu rfl B.n_tuple Cs) (Ag)))))) (ED (Bw (DK hr.units) (A8 Di rfl B.n_len Dm (Ad (Ac (pv 0)) (Ag))) (Al) (Bo _))))) (As (AI (Cn))) (BC)) (Am (GU (Ac (pv 0)) (GT (Dy rfl (Av (i:=1) (sc_is_net.nd) rfl) (Av (i:=2) (sc_is_net.nd) rfl)))) (Am (BD (DW (D9 (CS (CK (Aq c_is_between hr Aw (Ad (Ac (pv 1)) (Ad (Al) (Ad (NT rfl m_MOST_PLACES) (Ag))))))) (ED (CS (CK (A8 GA rfl B.n_isinstance GB (Ad (Ac (pv 2)) (Ad (Gu rfl B.n_tuple Cs) (Ag))))))))) (As (AI (Cn))) (BC)) (Am (BD (CS (CK (A8 (HF rfl) rfl B.n_all HN (Ad (BE (Nc:=["tie","many"]) (cs:=[none,some 1]) rfl (CSc.ok ⟨rfl,by decide +kernel,by kernel_rfl,by decide +kernel,rfl,by kernel_rfl⟩) (B3 (Ac (pv 2))) (Cj rfl) (fun C D cells fp s₀ H₀ pins=>⟨Av (i:=0) (show (["tie","many"]:List Str).Nodup from by decide +kernel) rfl,Bz,Aq c_is_tie hr EK (Ad (Ac (pv 0)) (Ad (Ac (pv 1)) (Ag)))⟩)) (Ag))))) (As (AI (Cn))) (BC)) (As (AI (A8 (HF rfl) rfl B.n_all HN (Ad (BE (Nc:=["ahead","tie"]) (cs:=[none,none]) rfl (CSc.ok ⟨rfl,by decide +kernel,by kernel_rfl,by decide +kernel,rfl,by kernel_rfl⟩) (Oq rfl B.n_zip (Ad (Ac (pv 2)) (Ad (FS (Ac (pv 2)) (FP (Al)) (FO)) (Ag)))) (JA rfl rfl) (fun C D cells fp s₀ H₀ pins=>⟨Dy rfl (Av (i:=0) (show (["ahead","tie"]:List Str).Nodup from by decide +kernel) rfl) (Av (i:=1) (show (["ahead","tie"]:List Str).Nodup from by decide +kernel) rfl),Bz,D8 (Zap hr.units) (FS (Ac (pv 0)) (FO) (FP (Al))) (FS (Ac (pv 1)) (FO) (FP (Al))) (Bo _)⟩)) (Ag))))))))
theorem Zcm {F7:List D→HD→Out D} (c_is_board:CaE P w K mg base "is_board" 5 F7) (f:Addr) (cdv:Value) (A:Around) (outer:List Env) (s:Shared) (H:Hp) (E:XK) (hr:Room 5 (A.deeper (envOfC "need_board" (defScope IA) s.heap.objs.size f cdv))):
 AU (AQ (AG P w K) P w K mg base ["thing"] "need_board" (defScope IA) f cdv A outer s H E) E (defBody IA) (PH F7):=
 As (BD (CS (CK (Aq c_is_board hr Aw (Ad (Ac (pv 0)) (Ag))))) (As (Ke)) (BC))
theorem Zcn {Fp:List D→HD→Out D} (c_is_net:CaE P w K mg base "is_net" 5 Fp) (f:Addr) (cdv:Value) (A:Around) (outer:List Env) (s:Shared) (H:Hp) (E:XK) (hr:Room 5 (A.deeper (envOfC "need_net" (defScope IB) s.heap.objs.size f cdv))):
 AU (AQ (AG P w K) P w K mg base ["thing"] "need_net" (defScope IB) f cdv A outer s H E) E (defBody IB) (PJ Fp):=
 As (BD (CS (CK (Aq c_is_net hr Aw (Ad (Ac (pv 0)) (Ag))))) (As (Ke)) (BC))
theorem Zco {Bv:List D→HD→Out D} (c_need_board:CaE P w K mg base "need_board" 6 Bv) (f:Addr) (cdv:Value) (A:Around) (outer:List Env) (s:Shared) (H:Hp) (E:XK) (hr:Room 6 (A.deeper (envOfC "row_counts" (defScope IC) s.heap.objs.size f cdv))):
 AU (AQ (AG P w K) P w K mg base ["board"] "row_counts" (defScope IC) f cdv A outer s H E) E (defBody IC) (PK Bv):=
 Am (DI (Aq c_need_board hr Aw (Ad (Ac (pv 0)) (Ag)))) (As (AI (Dv DH rfl B.n_tuple Cs (Ad (BE (Nc:=["row"]) (cs:=[none]) rfl (CSc.ok ⟨rfl,by decide +kernel,by kernel_rfl,by decide +kernel,rfl,by kernel_rfl⟩) (B3 (Ac (pv 0))) (Cj rfl) (fun C D cells fp s₀ H₀ pins=>⟨Av (i:=0) (show (["row"]:List Str).Nodup from by decide +kernel) rfl,Bz,A8 (HC rfl) rfl B.n_sum HP (Ad (Ac (pv 0)) (Ag))⟩)) (Ag)))))
theorem Zcp {Bv:List D→HD→Out D} {BX:List D→HD→Out D} (c_need_board:CaE P w K mg base "need_board" 6 Bv) (c_is_lot:CaE P w K mg base "is_lot" 2 BX) (f:Addr) (cdv:Value) (A:Around) (outer:List Env) (s:Shared) (H:Hp) (E:XK) (hr:Room 6 (A.deeper (envOfC "is_switching" (defScope ID) s.heap.objs.size f cdv))):
 AU (AQ (AG P w K) P w K mg base ["board","thing"] "is_switching" (defScope ID) f cdv A outer s H E) E (defBody ID) (PL Bv BX):=
 Am (DI (Aq c_need_board hr Aw (Ad (Ac (pv 0)) (Ag)))) (Am (BD (DW (D9 (CS (CK (A8 GA rfl B.n_isinstance GB (Ad (Ac (pv 1)) (Ad (Gu rfl B.n_tuple Cs) (Ag)))))) (ED (Bw (DK hr.units) (A8 Di rfl B.n_len Dm (Ad (Ac (pv 1)) (Ag))) (Al) (Bo _))))) (As (AI (Cn))) (BC)) (As (AI (Jr (Aq c_is_lot hr Aw (Ad (BP (Ac (pv 1)) (Al) (fun _ _=>rfl)) (Ad (A8 Di rfl B.n_len Dm (Ad (Ac (pv 0)) (Ag))) (Ag)))) (Jq (Aq c_is_lot hr Aw (Ad (BP (Ac (pv 1)) (Al) (fun _ _=>rfl)) (Ad (A8 Di rfl B.n_len Dm (Ad (BP (Ac (pv 0)) (Al) (fun _ _=>rfl)) (Ag))) (Ag)))))))))
theorem Zcq {Bv:List D→HD→Out D} (c_need_board:CaE P w K mg base "need_board" 6 Bv) (f:Addr) (cdv:Value) (A:Around) (outer:List Env) (s:Shared) (H:Hp) (E:XK) (hr:Room 6 (A.deeper (envOfC "turned" (defScope IE) s.heap.objs.size f cdv))):
 AU (AQ (AG P w K) P w K mg base ["board"] "turned" (defScope IE) f cdv A outer s H E) E (defBody IE) (PM Bv):=
 Am (DI (Aq c_need_board hr Aw (Ad (Ac (pv 0)) (Ag)))) (As (AI (Dv DH rfl B.n_tuple Cs (Ad (BE (Nc:=["number","board"]) (cs:=[none,some 0]) rfl (CSc.ok ⟨rfl,by decide +kernel,by kernel_rfl,by decide +kernel,rfl,by kernel_rfl⟩) (Ec rfl B.n_range (Ad (A8 Di rfl B.n_len Dm (Ad (BP (Ac (pv 0)) (Al) (fun _ _=>rfl)) (Ag))) (Ag))) (Cj rfl) (fun C D cells fp s₀ H₀ pins=>⟨Av (i:=0) (show (["number","board"]:List Str).Nodup from by decide +kernel) rfl,Bz,Dv DH rfl B.n_tuple Cs (Ad (BE (Nc:=["row","number"]) (cs:=[none,some 0]) rfl (CSc.ok ⟨rfl,by decide +kernel,by kernel_rfl,by decide +kernel,rfl,by kernel_rfl⟩) (B3 (Ac (pv 1))) (Cj rfl) (fun C D cells fp s₀ H₀ pins=>⟨Av (i:=0) (show (["row","number"]:List Str).Nodup from by decide +kernel) rfl,Bz,BP (Ac (pv 0)) (Ac (pv 1)) (fun _ _=>rfl)⟩)) (Ag))⟩)) (Ag)))))
theorem Zcr {A2:List D→HD→Out D} {BX:List D→HD→Out D} (c_need_net:CaE P w K mg base "need_net" 6 A2) (c_is_lot:CaE P w K mg base "is_lot" 2 BX) (f:Addr) (cdv:Value) (A:Around) (outer:List Env) (s:Shared) (H:Hp) (E:XK) (hr:Room 6 (A.deeper (envOfC "net_switched" (defScope IF) s.heap.objs.size f cdv))):
 AU (AQ (AG P w K) P w K mg base ["net","lot","many","ties"] "net_switched" (defScope IF) f cdv A outer s H E) E (defBody IF) (PN A2 BX):=
 Am (DI (Aq c_need_net hr Aw (Ad (Ac (pv 0)) (Ag)))) (Am (GU (Ac (pv 0)) (GT (Dy rfl (Av (i:=2) (sc_net_switched.nd) rfl) (Av (i:=3) (sc_net_switched.nd) rfl)))) (Am (BD (CS (CK (Aq c_is_lot hr Aw (Ad (Ac (pv 1)) (Ad (Ac (pv 2)) (Ag)))))) (As (Ke)) (BC)) (As (AI (Co (Ad (Ac (pv 2)) (Ad (Dv DH rfl B.n_tuple Cs (Ad (BE (Nc:=["a","b","light","lot"]) (cs:=[none,none,none,some 1]) rfl (CSc.ok ⟨rfl,by decide +kernel,by kernel_rfl,by decide +kernel,rfl,by kernel_rfl⟩) (B3 (Ac (pv 3))) (ON rfl rfl rfl) (fun C D cells fp s₀ H₀ pins=>⟨GN rfl (Cm (Av (i:=0) (show (["a","b","light","lot"]:List Str).Nodup from by decide +kernel) rfl) (Cm (Av (i:=1) (show (["a","b","light","lot"]:List Str).Nodup from by decide +kernel) rfl) (Cm (Av (i:=2) (show (["a","b","light","lot"]:List Str).Nodup from by decide +kernel) rfl) (GM)))),Bz,Co (Ad (Ac (pv 0)) (Ad (Ac (pv 1)) (Ad (NU (Bw (EU hr.units) (D8 Ka (Ac (pv 0)) (Ac (pv 3)) (by with_unfolding_all rfl)) (D8 Ka (Ac (pv 1)) (Ac (pv 3)) (by with_unfolding_all rfl)) (Bo _)) (Ac (pv 2)) (AN GR (Al) (Ac (pv 2)))) (Ag))))⟩)) (Ag))) (Ag))))))))
theorem Zcs {A2:List D→HD→Out D} {BW:List D→HD→Out D} {B1:List D→HD→Out D} {BV:List D→HD→Out D} (c_need_net:CaE P w K mg base "need_net" 6 A2) (c_is_between:CaE P w K mg base "is_between" 2 BW) (c_lights_of:CaE P w K mg base "lights_of" 1 B1) (c_lit_along:CaE P w K mg base "lit_along" 1 BV) (f:Addr) (cdv:Value) (A:Around) (outer:List Env) (s:Shared) (H:Hp) (E:XK) (hr:Room 6 (A.deeper (envOfC "is_odd_ring" (defScope IG) s.heap.objs.size f cdv))):
 AU (AQ (AG P w K) P w K mg base ["net","thing","many","ties","lights","way"] "is_odd_ring" (defScope IG) f cdv A outer s H E) E (defBody IG) (PP A2 BW B1 BV):=
 Am (DI (Aq c_need_net hr Aw (Ad (Ac (pv 0)) (Ag)))) (Am (GU (Ac (pv 0)) (GT (Dy rfl (Av (i:=2) (sc_is_odd_ring.nd) rfl) (Av (i:=3) (sc_is_odd_ring.nd) rfl)))) (Am (BD (DW (D9 (CS (CK (A8 GA rfl B.n_isinstance GB (Ad (Ac (pv 1)) (Ad (Gu rfl B.n_tuple Cs) (Ag)))))) (ED (Bw Jt (A8 Di rfl B.n_len Dm (Ad (Ac (pv 1)) (Ag))) (Al) (Bo _))))) (As (AI (Cn))) (BC)) (Am (BD (CS (CK (A8 (HF rfl) rfl B.n_all HN (Ad (BE (Nc:=["place","many"]) (cs:=[none,some 2]) rfl (CSc.ok ⟨rfl,by decide +kernel,by kernel_rfl,by decide +kernel,rfl,by kernel_rfl⟩) (B3 (Ac (pv 1))) (Cj rfl) (fun C D cells fp s₀ H₀ pins=>⟨Av (i:=0) (show (["place","many"]:List Str).Nodup from by decide +kernel) rfl,Bz,Aq c_is_between hr EK (Ad (Ac (pv 0)) (Ad (Al) (Ad (AN GR (Ac (pv 1)) (Al)) (Ag))))⟩)) (Ag))))) (As (AI (Cn))) (BC)) (Am (BD (CK (A8 (ZD rfl) rfl B.n_any Zbu (Ad (BE (Nc:=["place","thing"]) (cs:=[none,some 1]) rfl (CSc.ok ⟨rfl,by decide +kernel,by kernel_rfl,by decide +kernel,rfl,by kernel_rfl⟩) (B3 (Ac (pv 1))) (Cj rfl) (fun C D cells fp s₀ H₀ pins=>⟨Av (i:=0) (show (["place","thing"]:List Str).Nodup from by decide +kernel) rfl,Bz,D8 NW (ZU PySem.F.plainAttrs_tuple PySem.F.slot_tuple_count PySem.F.type_tuple_count Zal Zam Zan (Ac (pv 1)) (Ac (pv 0))) (Al) (Bo _)⟩)) (Ag)))) (As (AI (Cn))) (BC)) (Am (A7 (i:=4) sc_is_odd_ring.nd rfl (Aq c_lights_of hr Aw (Ad (Ac (pv 3)) (Ag)))) (Am (A7 (i:=5) sc_is_odd_ring.nd rfl (AN BJ (Ac (pv 1)) (FS (Ac (pv 1)) (FO) (FP (Al))))) (Am (BD (CS (CK (A8 (HF rfl) rfl B.n_all HN (Ad (BE (Nc:=["pair","lights"]) (cs:=[none,some 4]) rfl (CSc.ok ⟨rfl,by decide +kernel,by kernel_rfl,by decide +kernel,rfl,by kernel_rfl⟩) (Ui rfl B.n_zip (Ad (Ac (pv 5)) (Ad (FS (Ac (pv 5)) (FP (Al)) (FO)) (Ag)))) (Cj rfl) (fun C D cells fp s₀ H₀ pins=>⟨Av (i:=0) (show (["pair","lights"]:List Str).Nodup from by decide +kernel) rfl,Bz,D8 (Ue hr.units) (Ac (pv 0)) (Ac (pv 1)) (by with_unfolding_all rfl)⟩)) (Ag))))) (As (AI (Cn))) (BC)) (As (AI (D8 (EU hr.units) (AN FH (Aq c_lit_along hr Aw (Ad (Ac (pv 4)) (Ad (Ac (pv 5)) (Ag)))) (Al)) (Al) (Bo _)))))))))))
theorem Zct {A2:List D→HD→Out D} {B1:List D→HD→Out D} {CY:List D→HD→Out D} {BV:List D→HD→Out D} {FY:List D→HD→Out D} (c_need_net:CaE P w K mg base "need_net" 6 A2) (c_lights_of:CaE P w K mg base "lights_of" 1 B1) (c_paths_of:CaE P w K mg base "paths_of" 1 CY) (c_lit_along:CaE P w K mg base "lit_along" 1 BV) (c_ring_of:CaE P w K mg base "ring_of" 1 FY) (f:Addr) (cdv:Value) (A:Around) (outer:List Env) (s:Shared) (H:Hp) (E:XK) (hr:Room 6 (A.deeper (envOfC "odd_ring" (defScope IH) s.heap.objs.size f cdv))):
 AU (AQ (AG P w K) P w K mg base ["net","many","ties","lights","paths","a","b","light"] "odd_ring" (defScope IH) f cdv A outer s H E) E (defBody IH) (PQ A2 B1 CY BV FY):=
 Am (DI (Aq c_need_net hr Aw (Ad (Ac (pv 0)) (Ag)))) (Am (GU (Ac (pv 0)) (GT (Dy rfl (Av (i:=1) (sc_odd_ring.nd) rfl) (Av (i:=2) (sc_odd_ring.nd) rfl)))) (Am (A7 (i:=3) sc_odd_ring.nd rfl (Aq c_lights_of hr Aw (Ad (Ac (pv 2)) (Ag)))) (Am (A7 (i:=4) sc_odd_ring.nd rfl (Aq c_paths_of hr Aw (Ad (Ac (pv 1)) (Ad (Ac (pv 3)) (Ag))))) (Am (EG Ef rfl (B3 (Ac (pv 2))) (SQ (is:=[5,6,7]) (GN rfl (Cm (Av (i:=5) (sc_odd_ring.nd) rfl) (Cm (Av (i:=6) (sc_odd_ring.nd) rfl) (Cm (Av (i:=7) (sc_odd_ring.nd) rfl) (GM)))))) (As (BD (Bw (EU hr.units) (AN FH (AN BJ (AN BJ (Aq c_lit_along hr Aw (Ad (Ac (pv 3)) (Ad (JK hr.units (Ac (pv 4)) (Ac (pv 5)) (fun _ _=>rfl)) (Ag)))) (Ac (pv 7))) (Aq c_lit_along hr Aw (Ad (Ac (pv 3)) (Ad (JK hr.units (Ac (pv 4)) (Ac (pv 6)) (fun _ _=>rfl)) (Ag))))) (Al)) (Al) (Bo _)) (As (AI (Aq c_ring_of hr Aw (Ad (JK hr.units (Ac (pv 4)) (Ac (pv 5)) (fun _ _=>rfl)) (Ad (JK hr.units (Ac (pv 4)) (Ac (pv 6)) (fun _ _=>rfl)) (Ag)))))) (BC)))) (As (AI (Hs)))))))
theorem Zcu {A2:List D→HD→Out D} {FX:List D→HD→Out D} {FZ:List D→HD→Out D} (c_need_net:CaE P w K mg base "need_net" 6 A2) (c_rising_rows:CaE P w K mg base "rising_rows" 1 FX) (c_lit_by_sides:CaE P w K mg base "lit_by_sides" 1 FZ) (f:Addr) (cdv:Value) (A:Around) (outer:List Env) (s:Shared) (H:Hp) (E:XK) (hr:Room 6 (A.deeper (envOfC "net_left" (defScope II) s.heap.objs.size f cdv))):
 AU (AQ (AG P w K) P w K mg base ["net","many","ties"] "net_left" (defScope II) f cdv A outer s H E) E (defBody II) (PR A2 FX FZ):=
 Am (DI (Aq c_need_net hr Aw (Ad (Ac (pv 0)) (Ag)))) (Am (GU (Ac (pv 0)) (GT (Dy rfl (Av (i:=1) (sc_net_left.nd) rfl) (Av (i:=2) (sc_net_left.nd) rfl)))) (As (AI (A8 (Sv rfl) rfl B.n_min MW (Ad (BE (Nc:=["sides","ties"]) (cs:=[none,some 2]) rfl (CSc.ok ⟨rfl,by decide +kernel,by kernel_rfl,by decide +kernel,rfl,by kernel_rfl⟩) (B3 (Aq c_rising_rows hr Aw (Ad (Co (Ad (Al) (Ag))) (Ad (AN GR (Ac (pv 1)) (Al)) (Ag))))) (Cj rfl) (fun C D cells fp s₀ H₀ pins=>⟨Av (i:=0) (show (["sides","ties"]:List Str).Nodup from by decide +kernel) rfl,Bz,Aq c_lit_by_sides hr EK (Ad (Ac (pv 1)) (Ad (Ac (pv 0)) (Ag)))⟩)) (Ag))))))
theorem Zcv {Bv:List D→HD→Out D} (c_need_board:CaE P w K mg base "need_board" 6 Bv) {t_MOST_PLACES:Tok} (m_MOST_PLACES:mg "MOST_PLACES"=some (.int 8 t_MOST_PLACES)) (f:Addr) (cdv:Value) (A:Around) (outer:List Env) (s:Shared) (H:Hp) (E:XK) (hr:Room 6 (A.deeper (envOfC "net_of" (defScope IJ) s.heap.objs.size f cdv))):
 AU (AQ (AG P w K) P w K mg base ["board","high","lines"] "net_of" (defScope IJ) f cdv A outer s H E) E (defBody IJ) (PU Bv):=
 Am (DI (Aq c_need_board hr Aw (Ad (Ac (pv 0)) (Ag)))) (Am (A7 (i:=1) sc_net_of.nd rfl (A8 Di rfl B.n_len Dm (Ad (Ac (pv 0)) (Ag)))) (Am (A7 (i:=2) sc_net_of.nd rfl (AN BJ (Ac (pv 1)) (A8 Di rfl B.n_len Dm (Ad (BP (Ac (pv 0)) (Al) (fun _ _=>rfl)) (Ag))))) (Am (BD (Bw NW (Ac (pv 2)) (NT rfl m_MOST_PLACES) (Bo _)) (As (Ke)) (BC)) (As (AI (Co (Ad (Ac (pv 2)) (Ad (Dv DH rfl B.n_tuple Cs (Ad (ZaC (Nc:=["number","row","column","light","high"]) (cs:=[none,none,none,none,some 1]) (is:=[0,1]) (js:=[2,3]) rfl (CSc.ok ⟨rfl,by decide +kernel,by kernel_rfl,by decide +kernel,rfl,by kernel_rfl⟩) (Ml rfl B.n_enumerate (Ad (Ac (pv 0)) (Ag))) (fun g e=>by cases e<;>rfl) (by decide) (S8 (i:=0) (j:=1) (js:=[2,3]) (by decide) (by decide)) (fun C D cells fp s₀ H₀ pins ao=>⟨Dy rfl (Av (i:=0) (show (["number","row","column","light","high"]:List Str).Nodup from by decide +kernel) rfl) (Av (i:=1) (show (["number","row","column","light","high"]:List Str).Nodup from by decide +kernel) rfl),Bz,Tc (is:=[2,3]) (js:=[]) rfl rfl rfl (fun g e=>by cases e<;>rfl) (Ml rfl B.n_enumerate (Ad (Ac (pv 1)) (Ag))) (Dy rfl (Av (i:=2) (show (["number","row","column","light","high"]:List Str).Nodup from by decide +kernel) rfl) (Av (i:=3) (show (["number","row","column","light","high"]:List Str).Nodup from by decide +kernel) rfl)) (S8 (i:=2) (j:=3) (js:=[]) (by decide) (by decide)) (Bz) (Tb ao rfl rfl (Co (Ad (Ac (pv 0)) (Ad (AN BJ (Ac (pv 4)) (Ac (pv 2))) (Ad (Ac (pv 3)) (Ag))))))⟩)) (Ag))) (Ag)))))))))
theorem Zcw {Ga:List D→HD→Out D} {F8:List D→HD→Out D} (c_turned:CaE P w K mg base "turned" 7 Ga) (c_row_counts:CaE P w K mg base "row_counts" 7 F8) (f:Addr) (cdv:Value) (A:Around) (outer:List Env) (s:Shared) (H:Hp) (E:XK) (hr:Room 7 (A.deeper (envOfC "column_counts" (defScope IK) s.heap.objs.size f cdv))):
 AU (AQ (AG P w K) P w K mg base ["board"] "column_counts" (defScope IK) f cdv A outer s H E) E (defBody IK) (PV Ga F8):=
 As (AI (Aq c_row_counts hr Aw (Ad (Aq c_turned hr Aw (Ad (Ac (pv 0)) (Ag))) (Ag))))
theorem Zcx {F9:List D→HD→Out D} (c_is_switching:CaE P w K mg base "is_switching" 7 F9) (f:Addr) (cdv:Value) (A:Around) (outer:List Env) (s:Shared) (H:Hp) (E:XK) (hr:Room 7 (A.deeper (envOfC "need_switching" (defScope IP) s.heap.objs.size f cdv))):
 AU (AQ (AG P w K) P w K mg base ["board","thing"] "need_switching" (defScope IP) f cdv A outer s H E) E (defBody IP) (PX F9):=
 As (BD (CS (CK (Aq c_is_switching hr Aw (Ad (Ac (pv 0)) (Ad (Ac (pv 1)) (Ag)))))) (As (Ke)) (BC))
theorem Zcy {A2:List D→HD→Out D} {Fi:List D→HD→Out D} {B1:List D→HD→Out D} {CY:List D→HD→Out D} {BV:List D→HD→Out D} {B6:List D→HD→Out D} (c_need_net:CaE P w K mg base "need_net" 6 A2) (c_pairs_of:CaE P w K mg base "pairs_of" 1 Fi) (c_lights_of:CaE P w K mg base "lights_of" 1 B1) (c_paths_of:CaE P w K mg base "paths_of" 1 CY) (c_lit_along:CaE P w K mg base "lit_along" 1 BV) (c_net_switched:CaE P w K mg base "net_switched" 7 B6) (f:Addr) (cdv:Value) (A:Around) (outer:List Env) (s:Shared) (H:Hp) (E:XK) (hr:Room 7 (A.deeper (envOfC "net_lot" (defScope IQ) s.heap.objs.size f cdv))):
 AU (AQ (AG P w K) P w K mg base ["one","other","many","turns","paths","lot"] "net_lot" (defScope IQ) f cdv A outer s H E) E (defBody IQ) (PY A2 Fi B1 CY BV B6):=
 Am (DI (Aq c_need_net hr Aw (Ad (Ac (pv 0)) (Ag)))) (Am (DI (Aq c_need_net hr Aw (Ad (Ac (pv 1)) (Ag)))) (Am (A7 (i:=2) sc_net_lot.nd rfl (BP (Ac (pv 0)) (Al) (fun _ _=>rfl))) (Am (BD (DW (D9 (Bw (DK hr.units) (Ac (pv 2)) (BP (Ac (pv 1)) (Al) (fun _ _=>rfl)) (Bo _)) (ED (Bw (DK hr.units) (Aq c_pairs_of hr Aw (Ad (Ac (pv 0)) (Ag))) (Aq c_pairs_of hr Aw (Ad (Ac (pv 1)) (Ag))) (Bo _))))) (As (AI (Hs))) (BC)) (Am (A7 (i:=3) sc_net_lot.nd rfl (Aq c_lights_of hr Aw (Ad (BE (Nc:=["tie","a","b","light"]) (cs:=[none,none,none,none]) rfl (CSc.ok ⟨rfl,by decide +kernel,by kernel_rfl,by decide +kernel,rfl,by kernel_rfl⟩) (Oq rfl B.n_zip (Ad (BP (Ac (pv 0)) (Al) (fun _ _=>rfl)) (Ad (BP (Ac (pv 1)) (Al) (fun _ _=>rfl)) (Ag)))) (Zbl rfl rfl rfl rfl) (fun C D cells fp s₀ H₀ pins=>⟨GN rfl (Cm (GN rfl (Cm (Av (i:=1) (show (["tie","a","b","light"]:List Str).Nodup from by decide +kernel) rfl) (Cm (Av (i:=2) (show (["tie","a","b","light"]:List Str).Nodup from by decide +kernel) rfl) (Cm (Av (i:=3) (show (["tie","a","b","light"]:List Str).Nodup from by decide +kernel) rfl) (GM))))) (Cm (Av (i:=0) (show (["tie","a","b","light"]:List Str).Nodup from by decide +kernel) rfl) (GM))),Bz,Co (Ad (Ac (pv 1)) (Ad (Ac (pv 2)) (Ad (AN FH (AN BJ (Ac (pv 3)) (BP (Ac (pv 0)) (Al) (fun _ _=>rfl))) (Al)) (Ag))))⟩)) (Ag)))) (Am (A7 (i:=4) sc_net_lot.nd rfl (Aq c_paths_of hr Aw (Ad (Ac (pv 2)) (Ad (Ac (pv 3)) (Ag))))) (Am (A7 (i:=5) sc_net_lot.nd rfl (Dv DH rfl B.n_tuple Cs (Ad (BE (Nc:=["place","turns","paths"]) (cs:=[none,some 3,some 4]) rfl (CSc.ok ⟨rfl,by decide +kernel,by kernel_rfl,by decide +kernel,rfl,by kernel_rfl⟩) (Ec rfl B.n_range (Ad (Ac (pv 2)) (Ag))) (Cj rfl) (fun C D cells fp s₀ H₀ pins=>⟨Av (i:=0) (show (["place","turns","paths"]:List Str).Nodup from by decide +kernel) rfl,L6 (Bw (EU hr.units) (AN FH (Aq c_lit_along hr EK (Ad (Ac (pv 1)) (Ad (JK hr.units (Ac (pv 2)) (Ac (pv 0)) (fun _ _=>rfl)) (Ag)))) (Al)) (Al) (Bo _)),Ac (pv 0)⟩)) (Ag)))) (As (AI (NU (Bw (EU hr.units) (Aq c_net_switched hr Aw (Ad (Ac (pv 0)) (Ad (Ac (pv 5)) (Ag)))) (Ac (pv 1)) (Bo _)) (Ac (pv 5)) (Hs))))))))))
theorem Zcz {Gc:List D→HD→Out D} {FU:List D→HD→Out D} (c_need_switching:CaE P w K mg base "need_switching" 8 Gc) (c_row_switched:CaE P w K mg base "row_switched" 1 FU) (f:Addr) (cdv:Value) (A:Around) (outer:List Env) (s:Shared) (H:Hp) (E:XK) (hr:Room 8 (A.deeper (envOfC "switched" (defScope IS) s.heap.objs.size f cdv))):
 AU (AQ (AG P w K) P w K mg base ["board","switching","rows","columns"] "switched" (defScope IS) f cdv A outer s H E) E (defBody IS) (PZ Gc FU):=
 Am (DI (Aq c_need_switching hr Aw (Ad (Ac (pv 0)) (Ad (Ac (pv 1)) (Ag))))) (Am (GU (Ac (pv 1)) (GT (Dy rfl (Av (i:=2) (sc_switched.nd) rfl) (Av (i:=3) (sc_switched.nd) rfl)))) (As (AI (Dv DH rfl B.n_tuple Cs (Ad (BE (Nc:=["number","row","columns","rows"]) (cs:=[none,none,some 3,some 2]) rfl (CSc.ok ⟨rfl,by decide +kernel,by kernel_rfl,by decide +kernel,rfl,by kernel_rfl⟩) (Ml rfl B.n_enumerate (Ad (Ac (pv 0)) (Ag))) (JA rfl rfl) (fun C D cells fp s₀ H₀ pins=>⟨Dy rfl (Av (i:=0) (show (["number","row","columns","rows"]:List Str).Nodup from by decide +kernel) rfl) (Av (i:=1) (show (["number","row","columns","rows"]:List Str).Nodup from by decide +kernel) rfl),Bz,Aq c_row_switched hr EK (Ad (Ac (pv 1)) (Ad (Ac (pv 2)) (Ad (D8 Ka (Ac (pv 0)) (Ac (pv 3)) (by with_unfolding_all rfl)) (Ag))))⟩)) (Ag))))))
theorem ZcA {Gb:List D→HD→Out D} {FV:List D→HD→Out D} (c_column_counts:CaE P w K mg base "column_counts" 8 Gb) (c_counts_with_row:CaE P w K mg base "counts_with_row" 1 FV) (f:Addr) (cdv:Value) (A:Around) (outer:List Env) (s:Shared) (H:Hp) (E:XK) (hr:Room 8 (A.deeper (envOfC "lots_with_counts" (defScope IT) s.heap.objs.size f cdv))):
 AU (AQ (AG P w K) P w K mg base ["board","found","number"] "lots_with_counts" (defScope IT) f cdv A outer s H E) E (defBody IT) (P0 Gb FV):=
 Am (A7 (i:=1) sc_lots_with_counts.nd rfl (FE (Ad (Co (Ad (Co (Ag)) (Ad (Aq c_column_counts hr Aw (Ad (Ac (pv 0)) (Ag))) (Ag)))) (Ag)))) (Am (EG Ef rfl (RF rfl B.n_range (Ad (Al) (Ad (A8 Di rfl B.n_len Dm (Ad (Ac (pv 0)) (Ag))) (Ag)))) (FI (Av (i:=2) (sc_lots_with_counts.nd) rfl)) (As (A7 (i:=1) sc_lots_with_counts.nd rfl (AN BJ (Ac (pv 1)) (BE (Nc:=["lot","counts","number","board"]) (cs:=[none,none,some 2,some 0]) rfl (CSc.ok ⟨rfl,by decide +kernel,by kernel_rfl,by decide +kernel,rfl,by kernel_rfl⟩) (B3 (Ac (pv 1))) (JA rfl rfl) (fun C D cells fp s₀ H₀ pins=>⟨Dy rfl (Av (i:=0) (show (["lot","counts","number","board"]:List Str).Nodup from by decide +kernel) rfl) (Av (i:=1) (show (["lot","counts","number","board"]:List Str).Nodup from by decide +kernel) rfl),Bz,Co (Ad (AN BJ (Ac (pv 0)) (Co (Ad (Ac (pv 2)) (Ag)))) (Ad (Aq c_counts_with_row hr EK (Ad (Ac (pv 1)) (Ad (BP (Ac (pv 3)) (Ac (pv 2)) (fun _ _=>rfl)) (Ag)))) (Ag)))⟩)))))) (As (AI (Ac (pv 1)))))
theorem ZcB {A2:List D→HD→Out D} {CD:List D→HD→Out D} (c_need_net:CaE P w K mg base "need_net" 6 A2) (c_net_lot:CaE P w K mg base "net_lot" 8 CD) (f:Addr) (cdv:Value) (A:Around) (outer:List Env) (s:Shared) (H:Hp) (E:XK) (hr:Room 8 (A.deeper (envOfC "is_quiet" (defScope IU) s.heap.objs.size f cdv))):
 AU (AQ (AG P w K) P w K mg base ["net","many","ties"] "is_quiet" (defScope IU) f cdv A outer s H E) E (defBody IU) (P3 A2 CD):=
 Am (DI (Aq c_need_net hr Aw (Ad (Ac (pv 0)) (Ag)))) (Am (GU (Ac (pv 0)) (GT (Dy rfl (Av (i:=1) (sc_is_quiet.nd) rfl) (Av (i:=2) (sc_is_quiet.nd) rfl)))) (As (AI (D8 NX (Aq c_net_lot hr Aw (Ad (Ac (pv 0)) (Ad (Co (Ad (Ac (pv 1)) (Ad (Dv DH rfl B.n_tuple Cs (Ad (BE (Nc:=["a","b","light"]) (cs:=[none,none,none]) rfl (CSc.ok ⟨rfl,by decide +kernel,by kernel_rfl,by decide +kernel,rfl,by kernel_rfl⟩) (B3 (Ac (pv 2))) (ON rfl rfl rfl) (fun C D cells fp s₀ H₀ pins=>⟨GN rfl (Cm (Av (i:=0) (show (["a","b","light"]:List Str).Nodup from by decide +kernel) rfl) (Cm (Av (i:=1) (show (["a","b","light"]:List Str).Nodup from by decide +kernel) rfl) (Cm (Av (i:=2) (show (["a","b","light"]:List Str).Nodup from by decide +kernel) rfl) (GM)))),Bz,Co (Ad (Ac (pv 0)) (Ad (Ac (pv 1)) (Ad (Al) (Ag))))⟩)) (Ag))) (Ag)))) (Ag)))) (Hs) (Bo _)))))
theorem ZcC {DO:List D→HD→Out D} {FW:List D→HD→Out D} (c_lots_with_counts:CaE P w K mg base "lots_with_counts" 9 DO) (c_fewest_lit:CaE P w K mg base "fewest_lit" 1 FW) (f:Addr) (cdv:Value) (A:Around) (outer:List Env) (s:Shared) (H:Hp) (E:XK) (hr:Room 9 (A.deeper (envOfC "left_many" (defScope IV) s.heap.objs.size f cdv))):
 AU (AQ (AG P w K) P w K mg base ["board"] "left_many" (defScope IV) f cdv A outer s H E) E (defBody IV) (P4 DO FW):=
 As (AI (A8 (Sv rfl) rfl B.n_min MW (Ad (BE (Nc:=["lot","counts","board"]) (cs:=[none,none,some 0]) rfl (CSc.ok ⟨rfl,by decide +kernel,by kernel_rfl,by decide +kernel,rfl,by kernel_rfl⟩) (B3 (Aq c_lots_with_counts hr Aw (Ad (Ac (pv 0)) (Ag)))) (JA rfl rfl) (fun C D cells fp s₀ H₀ pins=>⟨Dy rfl (Av (i:=0) (show (["lot","counts","board"]:List Str).Nodup from by decide +kernel) rfl) (Av (i:=1) (show (["lot","counts","board"]:List Str).Nodup from by decide +kernel) rfl),Bz,Aq c_fewest_lit hr EK (Ad (Ac (pv 1)) (Ad (A8 Di rfl B.n_len Dm (Ad (Ac (pv 2)) (Ag))) (Ag)))⟩)) (Ag))))
theorem ZcD {Fj:List D→HD→Out D} {Fo:List D→HD→Out D} {DN:List D→HD→Out D} {B6:List D→HD→Out D} {CD:List D→HD→Out D} {De:List D→HD→Out D} {Do:List D→HD→Out D} {Fs:List D→HD→Out D} {Fq:List D→HD→Out D} {A0:List D→HD→Out D} {Fm:List D→HD→Out D} {Df:List D→HD→Out D} {Fu:List D→HD→Out D} {Ft:List D→HD→Out D} (c__law_box:CaE P w K mg base "_law_box" 2 Fj) (c__law_net:CaE P w K mg base "_law_net" 3 Fo) (c__law_lot:CaE P w K mg base "_law_lot" 2 DN) (c_net_switched:CaE P w K mg base "net_switched" 7 B6) (c_net_lot:CaE P w K mg base "net_lot" 8 CD) (c_net_left:CaE P w K mg base "net_left" 7 De) (c_is_quiet:CaE P w K mg base "is_quiet" 9 Do) (c_odd_ring:CaE P w K mg base "odd_ring" 7 Fs) (c_is_odd_ring:CaE P w K mg base "is_odd_ring" 7 Fq) (c__law_take:CaE P w K mg base "_law_take" 1 A0) (c__law_board:CaE P w K mg base "_law_board" 3 Fm) (c_net_of:CaE P w K mg base "net_of" 7 Df) (c_left_many:CaE P w K mg base "left_many" 10 Fu) (c_switched:CaE P w K mg base "switched" 9 Ft) (f:Addr) (cdv:Value) (A:Around) (outer:List Env) (s:Shared) (H:Hp) (E:XK) (hr:Room 10 (A.deeper (envOfC "law" (defScope s_law) s.heap.objs.size f cdv))):
 AU (AQ (AG P w K) P w K mg base ["_law_script","_law_k","_law_box_here","_law_net_here","_law_lot_here","_law_other","_law_found","_law_ring","_law_high","_law_wide","_law_board_here","_law_some","_law_places"] "law" (defScope s_law) f cdv A outer s H E) E (defBody s_law) (MZ Fj Fo DN B6 CD De Do Fs Fq A0 Fm Df Fu Ft):=
 Am (EG Ef rfl (Ec rfl B.n_range (Ad (A8 (Yg rfl) rfl B.n_max Zbx (Ad (Al) (Ad (A8 (RA rfl) rfl B.n_min MW (Ad (A8 Di rfl B.n_len Dm (Ad (Ac (pv 0)) (Ag))) (Ad (Al) (Ag)))) (Ag)))) (Ag))) (FI (Av (i:=1) (sc_law.nd) rfl)) (Am (A7 (i:=2) sc_law.nd rfl (Aq c__law_box hr Aw (Ad (Ac (pv 0)) (Ad (Ac (pv 1)) (Ag))))) (Am (A7 (i:=3) sc_law.nd rfl (Aq c__law_net hr Aw (Ad (Ac (pv 2)) (Ag)))) (Am (A7 (i:=4) sc_law.nd rfl (Aq c__law_lot hr Aw (Ad (Ac (pv 2)) (Ad (BP (Ac (pv 3)) (Al) (fun _ _=>rfl)) (Ag))))) (Am (A7 (i:=5) sc_law.nd rfl (Aq c_net_switched hr Aw (Ad (Ac (pv 3)) (Ad (Ac (pv 4)) (Ag))))) (Am (A7 (i:=6) sc_law.nd rfl (Aq c_net_lot hr Aw (Ad (Ac (pv 3)) (Ad (Ac (pv 5)) (Ag))))) (Am (BD (DW (D9 (Bw Rw (Ac (pv 6)) (Hs) (Bo _)) (D9 (Bw (DK hr.units) (Aq c_net_switched hr Aw (Ad (Ac (pv 3)) (Ad (Ac (pv 6)) (Ag)))) (Ac (pv 5)) (Bo _)) (ED (Bw (DK hr.units) (Aq c_net_switched hr Aw (Ad (Ac (pv 5)) (Ad (Ac (pv 4)) (Ag)))) (Ac (pv 3)) (Bo _)))))) (As (AI (Cn))) (BC)) (Am (BD (DW (D9 (Bw (DK hr.units) (Aq c_net_left hr Aw (Ad (Ac (pv 5)) (Ag))) (Aq c_net_left hr Aw (Ad (Ac (pv 3)) (Ag))) (Bo _)) (ED (Bw (DK hr.units) (Aq c_is_quiet hr Aw (Ad (Ac (pv 3)) (Ag))) (D8 (EU hr.units) (Aq c_net_left hr Aw (Ad (Ac (pv 3)) (Ag))) (Al) (Bo _)) (Bo _))))) (As (AI (Cn))) (BC)) (Am (A7 (i:=7) sc_law.nd rfl (Aq c_odd_ring hr Aw (Ad (Ac (pv 3)) (Ag)))) (Am (BD (DW (D9 (Bw (DK hr.units) (D8 Rw (Ac (pv 7)) (Hs) (Bo _)) (Aq c_is_quiet hr Aw (Ad (Ac (pv 3)) (Ag))) (Bo _)) (ED (Bw (DK hr.units) (Aq c_is_quiet hr Aw (Ad (Ac (pv 5)) (Ag))) (Aq c_is_quiet hr Aw (Ad (Ac (pv 3)) (Ag))) (Bo _))))) (As (AI (Cn))) (BC)) (Am (BD (DW (Rn (Bw NX (Ac (pv 7)) (Hs) (Bo _)) (Rm (Bw NX (Aq c_is_odd_ring hr Aw (Ad (Ac (pv 5)) (Ad (Ac (pv 7)) (Ag)))) (Cn) (Bo _))))) (As (AI (Cn))) (BC)) (Am (A7 (i:=8) sc_law.nd rfl (AN BJ (Al) (Aq c__law_take hr Aw (Ad (Ac (pv 2)) (Ad (Al) (Ag)))))) (Am (A7 (i:=9) sc_law.nd rfl (AN BJ (Al) (Aq c__law_take hr Aw (Ad (Ac (pv 2)) (Ad (AN GR (Al) (Ac (pv 8))) (Ag)))))) (Am (A7 (i:=10) sc_law.nd rfl (Aq c__law_board hr Aw (Ad (Ac (pv 2)) (Ad (Ac (pv 8)) (Ad (Ac (pv 9)) (Ag)))))) (Am (A7 (i:=11) sc_law.nd rfl (Co (Ad (Aq c__law_lot hr Aw (Ad (Ac (pv 2)) (Ad (Ac (pv 8)) (Ag)))) (Ad (Aq c__law_lot hr Aw (Ad (Ac (pv 2)) (Ad (Ac (pv 9)) (Ag)))) (Ag))))) (Am (A7 (i:=12) sc_law.nd rfl (AN BJ (BP (Ac (pv 11)) (Al) (fun _ _=>rfl)) (Dv DH rfl B.n_tuple Cs (Ad (BE (Nc:=["_law_place","_law_high"]) (cs:=[none,some 8]) rfl (CSc.ok ⟨rfl,by decide +kernel,by kernel_rfl,by decide +kernel,rfl,by kernel_rfl⟩) (B3 (BP (Ac (pv 11)) (Al) (fun _ _=>rfl))) (Cj rfl) (fun C D cells fp s₀ H₀ pins=>⟨Av (i:=0) (show (["_law_place","_law_high"]:List Str).Nodup from by decide +kernel) rfl,Bz,AN BJ (Ac (pv 1)) (Ac (pv 0))⟩)) (Ag))))) (Am (BD (Bw (DK hr.units) (A8 (HC rfl) rfl B.n_sum HP (Ad (BE (Nc:=["_law_tie"]) (cs:=[none]) rfl (CSc.ok ⟨rfl,by decide +kernel,by kernel_rfl,by decide +kernel,rfl,by kernel_rfl⟩) (B3 (BP (Aq c_net_of hr Aw (Ad (Ac (pv 10)) (Ag))) (Al) (fun _ _=>rfl))) (Cj rfl) (fun C D cells fp s₀ H₀ pins=>⟨Av (i:=0) (show (["_law_tie"]:List Str).Nodup from by decide +kernel) rfl,Bz,BP (Ac (pv 0)) (Al) (fun _ _=>rfl)⟩)) (Ag))) (A8 (HC rfl) rfl B.n_sum HP (Ad (BE (Nc:=["_law_row"]) (cs:=[none]) rfl (CSc.ok ⟨rfl,by decide +kernel,by kernel_rfl,by decide +kernel,rfl,by kernel_rfl⟩) (B3 (Ac (pv 10))) (Cj rfl) (fun C D cells fp s₀ H₀ pins=>⟨Av (i:=0) (show (["_law_row"]:List Str).Nodup from by decide +kernel) rfl,Bz,A8 (HC rfl) rfl B.n_sum HP (Ad (Ac (pv 0)) (Ag))⟩)) (Ag))) (Bo _)) (As (AI (Cn))) (BC)) (Am (BD (Bw (DK hr.units) (Aq c_net_left hr Aw (Ad (Aq c_net_of hr Aw (Ad (Ac (pv 10)) (Ag))) (Ag))) (Aq c_left_many hr Aw (Ad (Ac (pv 10)) (Ag))) (Bo _)) (As (AI (Cn))) (BC)) (As (BD (Bw (DK hr.units) (Aq c_net_switched hr Aw (Ad (Aq c_net_of hr Aw (Ad (Ac (pv 10)) (Ag))) (Ad (Ac (pv 12)) (Ag)))) (Aq c_net_of hr Aw (Ad (Aq c_switched hr Aw (Ad (Ac (pv 10)) (Ad (Ac (pv 11)) (Ag)))) (Ag))) (Bo _)) (As (AI (Cn))) (BC))))))))))))))))))))) (As (AI (Cn)))
noncomputable def Ct:List D→HD→Out D:=fun ds h=>if ds.length=1 then Ao 1 (Pc) ds h else .stuck
theorem ZcE {f:Addr} {fd:FuncData} (D:Dn K mg "is_whole" ["thing"] HQ f fd):CaE P w K mg base "is_whole" 1 Ct:=
 ⟨f,fd,_,Bf D.fn Zby (fun ds h e=>if_neg e) (fun ds h e=>if_pos e) (fun cdv A outer s H E hr=>ZbV B et f cdv A outer s H E hr),D.bd,D.mg,D.fn.kp⟩
noncomputable def CW:List D→HD→Out D:=fun ds h=>if ds.length=1 then Ao 1 (Pd) ds h else .stuck
theorem ZcF {t_MOST_LINES:Tok} (m_MOST_LINES:mg "MOST_LINES"=some (.int 8 t_MOST_LINES)) {f:Addr} {fd:FuncData} (D:Dn K mg "is_line_tuple" ["thing"] HU f fd):CaE P w K mg base "is_line_tuple" 1 CW:=
 ⟨f,fd,_,Bf D.fn Zbz (fun ds h e=>if_neg e) (fun ds h e=>if_pos e) (fun cdv A outer s H E hr=>ZbW B et m_MOST_LINES f cdv A outer s H E hr),D.bd,D.mg,D.fn.kp⟩
noncomputable def FU:List D→HD→Out D:=fun ds h=>if ds.length=3 then Ao 3 (Pe) ds h else .stuck
theorem ZcG {f:Addr} {fd:FuncData} (D:Dn K mg "row_switched" ["row","columns","is_turned"] HV f fd):CaE P w K mg base "row_switched" 1 FU:=
 ⟨f,fd,_,Bf D.fn ZbA (fun ds h e=>if_neg e) (fun ds h e=>if_pos e) (fun cdv A outer s H E hr=>ZbX B et f cdv A outer s H E hr),D.bd,D.mg,D.fn.kp⟩
noncomputable def FV:List D→HD→Out D:=fun ds h=>if ds.length=2 then Ao 2 (Pf) ds h else .stuck
theorem ZcH {f:Addr} {fd:FuncData} (D:Dn K mg "counts_with_row" ["counts","row"] HW f fd):CaE P w K mg base "counts_with_row" 1 FV:=
 ⟨f,fd,_,Bf D.fn ZbB (fun ds h e=>if_neg e) (fun ds h e=>if_pos e) (fun cdv A outer s H E hr=>ZbY B et f cdv A outer s H E hr),D.bd,D.mg,D.fn.kp⟩
noncomputable def FW:List D→HD→Out D:=fun ds h=>if ds.length=2 then Ao 2 (Pg) ds h else .stuck
theorem ZcI {f:Addr} {fd:FuncData} (D:Dn K mg "fewest_lit" ["counts","high"] HX f fd):CaE P w K mg base "fewest_lit" 1 FW:=
 ⟨f,fd,_,Bf D.fn ZbC (fun ds h e=>if_neg e) (fun ds h e=>if_pos e) (fun cdv A outer s H E hr=>ZbZ B et f cdv A outer s H E hr),D.bd,D.mg,D.fn.kp⟩
noncomputable def FX:List D→HD→Out D:=fun ds h=>if ds.length=2 then Ao 4 (Ph) ds h else .stuck
theorem ZcJ {f:Addr} {fd:FuncData} (D:Dn K mg "rising_rows" ["start","many"] HY f fd):CaE P w K mg base "rising_rows" 1 FX:=
 ⟨f,fd,_,Bf D.fn sc_rising_rows (fun ds h e=>if_neg e) (fun ds h e=>if_pos e) (fun cdv A outer s H E hr=>Zb0 B et f cdv A outer s H E hr),D.bd,D.mg,D.fn.kp⟩
noncomputable def B1:List D→HD→Out D:=fun ds h=>if ds.length=1 then Ao 5 (Pi) ds h else .stuck
theorem ZcK {f:Addr} {fd:FuncData} (D:Dn K mg "lights_of" ["ties"] HZ f fd):CaE P w K mg base "lights_of" 1 B1:=
 ⟨f,fd,_,Bf D.fn sc_lights_of (fun ds h e=>if_neg e) (fun ds h e=>if_pos e) (fun cdv A outer s H E hr=>Zb1 B et f cdv A outer s H E hr),D.bd,D.mg,D.fn.kp⟩
noncomputable def CY:List D→HD→Out D:=fun ds h=>if ds.length=2 then Ao 7 (Pj) ds h else .stuck
theorem ZcL {f:Addr} {fd:FuncData} (D:Dn K mg "paths_of" ["many","lights"] H0 f fd):CaE P w K mg base "paths_of" 1 CY:=
 ⟨f,fd,_,Bf D.fn sc_paths_of (fun ds h e=>if_neg e) (fun ds h e=>if_pos e) (fun cdv A outer s H E hr=>Zb2 B et f cdv A outer s H E hr),D.bd,D.mg,D.fn.kp⟩
noncomputable def BV:List D→HD→Out D:=fun ds h=>if ds.length=2 then Ao 2 (Pk) ds h else .stuck
theorem ZcM {f:Addr} {fd:FuncData} (D:Dn K mg "lit_along" ["lights","path"] Ia f fd):CaE P w K mg base "lit_along" 1 BV:=
 ⟨f,fd,_,Bf D.fn ZbD (fun ds h e=>if_neg e) (fun ds h e=>if_pos e) (fun cdv A outer s H E hr=>Zb3 B et f cdv A outer s H E hr),D.bd,D.mg,D.fn.kp⟩
noncomputable def Fi:List D→HD→Out D:=fun ds h=>if ds.length=1 then Ao 1 (Pl) ds h else .stuck
theorem ZcN {f:Addr} {fd:FuncData} (D:Dn K mg "pairs_of" ["net"] Ib f fd):CaE P w K mg base "pairs_of" 1 Fi:=
 ⟨f,fd,_,Bf D.fn ZbE (fun ds h e=>if_neg e) (fun ds h e=>if_pos e) (fun cdv A outer s H E hr=>Zb4 B et f cdv A outer s H E hr),D.bd,D.mg,D.fn.kp⟩
noncomputable def FY:List D→HD→Out D:=fun ds h=>if ds.length=2 then Ao 3 (Pm) ds h else .stuck
theorem ZcO {f:Addr} {fd:FuncData} (D:Dn K mg "ring_of" ["one","other"] Ic f fd):CaE P w K mg base "ring_of" 1 FY:=
 ⟨f,fd,_,Bf D.fn sc_ring_of (fun ds h e=>if_neg e) (fun ds h e=>if_pos e) (fun cdv A outer s H E hr=>Zb5 B et f cdv A outer s H E hr),D.bd,D.mg,D.fn.kp⟩
noncomputable def FZ:List D→HD→Out D:=fun ds h=>if ds.length=2 then Ao 2 (Pn) ds h else .stuck
theorem ZcP {f:Addr} {fd:FuncData} (D:Dn K mg "lit_by_sides" ["ties","sides"] Ie f fd):CaE P w K mg base "lit_by_sides" 1 FZ:=
 ⟨f,fd,_,Bf D.fn ZbF (fun ds h e=>if_neg e) (fun ds h e=>if_pos e) (fun cdv A outer s H E hr=>Zb6 B et f cdv A outer s H E hr),D.bd,D.mg,D.fn.kp⟩
noncomputable def F0:List D→HD→Out D:=fun ds h=>if ds.length=2 then Ao 2 (MX) ds h else .stuck
theorem ZcQ {f:Addr} {fd:FuncData} (D:Dn K mg "_law_cell" ["_law_script","_law_k"] Ig f fd):CaE P w K mg base "_law_cell" 1 F0:=
 ⟨f,fd,_,Bf D.fn ZbG (fun ds h e=>if_neg e) (fun ds h e=>if_pos e) (fun cdv A outer s H E hr=>Zb7 B et f cdv A outer s H E hr),D.bd,D.mg,D.fn.kp⟩
noncomputable def F4:List D→HD→Out D:=fun ds h=>if ds.length=2 then Ao 3 (Po) ds h else .stuck
theorem ZcR {f:Addr} {fd:FuncData} (D:Dn K mg "_law_mix" ["_law_cell_here","_law_k"] Ih f fd):CaE P w K mg base "_law_mix" 1 F4:=
 ⟨f,fd,_,Bf D.fn sc__law_mix (fun ds h e=>if_neg e) (fun ds h e=>if_pos e) (fun cdv A outer s H E hr=>Zb8 B et f cdv A outer s H E hr),D.bd,D.mg,D.fn.kp⟩
noncomputable def A0:List D→HD→Out D:=fun ds h=>if ds.length=2 then Ao 4 (Pp) ds h else .stuck
theorem ZcS {f:Addr} {fd:FuncData} (D:Dn K mg "_law_take" ["_law_box_here","_law_many"] Ii f fd):CaE P w K mg base "_law_take" 1 A0:=
 ⟨f,fd,_,Bf D.fn sc__law_take (fun ds h e=>if_neg e) (fun ds h e=>if_pos e) (fun cdv A outer s H E hr=>Zb9 B et f cdv A outer s H E hr),D.bd,D.mg,D.fn.kp⟩
noncomputable def BW:List D→HD→Out D:=fun ds h=>if ds.length=3 then Ao 3 (MY Ct) ds h else .stuck
theorem ZcT (c_is_whole:CaE P w K mg base "is_whole" 1 Ct) {f:Addr} {fd:FuncData} (D:Dn K mg "is_between" ["thing","least","most"] Ij f fd):CaE P w K mg base "is_between" 2 BW:=
 ⟨f,fd,_,Bf D.fn ZbH (fun ds h e=>if_neg e) (fun ds h e=>if_pos e) (fun cdv A outer s H E hr=>Zca B et c_is_whole f cdv A outer s H E hr),D.bd,D.mg,D.fn.kp⟩
noncomputable def BX:List D→HD→Out D:=fun ds h=>if ds.length=2 then Ao 4 (Pq Ct) ds h else .stuck
theorem ZcU (c_is_whole:CaE P w K mg base "is_whole" 1 Ct) {f:Addr} {fd:FuncData} (D:Dn K mg "is_lot" ["thing","size"] Ik f fd):CaE P w K mg base "is_lot" 2 BX:=
 ⟨f,fd,_,Bf D.fn sc_is_lot (fun ds h e=>if_neg e) (fun ds h e=>if_pos e) (fun cdv A outer s H E hr=>Zcb B et c_is_whole f cdv A outer s H E hr),D.bd,D.mg,D.fn.kp⟩
noncomputable def Fj:List D→HD→Out D:=fun ds h=>if ds.length=2 then Ao 5 (Pr F0 F4) ds h else .stuck
theorem ZcV (c__law_cell:CaE P w K mg base "_law_cell" 1 F0) (c__law_mix:CaE P w K mg base "_law_mix" 1 F4) {f:Addr} {fd:FuncData} (D:Dn K mg "_law_box" ["_law_script","_law_k"] Il f fd):CaE P w K mg base "_law_box" 2 Fj:=
 ⟨f,fd,_,Bf D.fn sc__law_box (fun ds h e=>if_neg e) (fun ds h e=>if_pos e) (fun cdv A outer s H E hr=>Zcc B et c__law_cell c__law_mix f cdv A outer s H E hr),D.bd,D.mg,D.fn.kp⟩
noncomputable def CZ:List D→HD→Out D:=fun ds h=>if ds.length=1 then Ao 4 (Pt A0) ds h else .stuck
theorem ZcW (c__law_take:CaE P w K mg base "_law_take" 1 A0) {f:Addr} {fd:FuncData} (D:Dn K mg "_law_wide_box" ["_law_box_here"] Im f fd):CaE P w K mg base "_law_wide_box" 2 CZ:=
 ⟨f,fd,_,Bf D.fn sc__law_wide_box (fun ds h e=>if_neg e) (fun ds h e=>if_pos e) (fun cdv A outer s H E hr=>Zcd B et c__law_take f cdv A outer s H E hr),D.bd,D.mg,D.fn.kp⟩
noncomputable def DN:List D→HD→Out D:=fun ds h=>if ds.length=2 then Ao 2 (Pv A0) ds h else .stuck
theorem ZcX (c__law_take:CaE P w K mg base "_law_take" 1 A0) {f:Addr} {fd:FuncData} (D:Dn K mg "_law_lot" ["_law_box_here","_law_size"] Io f fd):CaE P w K mg base "_law_lot" 2 DN:=
 ⟨f,fd,_,Bf D.fn ZbI (fun ds h e=>if_neg e) (fun ds h e=>if_pos e) (fun cdv A outer s H E hr=>Zce B et c__law_take f cdv A outer s H E hr),D.bd,D.mg,D.fn.kp⟩
noncomputable def Dc:List D→HD→Out D:=fun ds h=>if ds.length=1 then Ao 1 (Pw BW) ds h else .stuck
theorem ZcY (c_is_between:CaE P w K mg base "is_between" 2 BW) {f:Addr} {fd:FuncData} (D:Dn K mg "is_light" ["thing"] Ip f fd):CaE P w K mg base "is_light" 3 Dc:=
 ⟨f,fd,_,Bf D.fn ZbJ (fun ds h e=>if_neg e) (fun ds h e=>if_pos e) (fun cdv A outer s H E hr=>Zcf B et c_is_between f cdv A outer s H E hr),D.bd,D.mg,D.fn.kp⟩
noncomputable def Fm:List D→HD→Out D:=fun ds h=>if ds.length=3 then Ao 8 (Px A0 CZ) ds h else .stuck
theorem ZcZ (c__law_take:CaE P w K mg base "_law_take" 1 A0) (c__law_wide_box:CaE P w K mg base "_law_wide_box" 2 CZ) {f:Addr} {fd:FuncData} (D:Dn K mg "_law_board" ["_law_box_here","_law_high","_law_wide"] Iq f fd):CaE P w K mg base "_law_board" 3 Fm:=
 ⟨f,fd,_,Bf D.fn sc__law_board (fun ds h e=>if_neg e) (fun ds h e=>if_pos e) (fun cdv A outer s H E hr=>Zcg B et c__law_take c__law_wide_box f cdv A outer s H E hr),D.bd,D.mg,D.fn.kp⟩
noncomputable def Fo:List D→HD→Out D:=fun ds h=>if ds.length=1 then Ao 9 (Pz A0 CZ) ds h else .stuck
theorem Zc0 (c__law_take:CaE P w K mg base "_law_take" 1 A0) (c__law_wide_box:CaE P w K mg base "_law_wide_box" 2 CZ) {f:Addr} {fd:FuncData} (D:Dn K mg "_law_net" ["_law_box_here"] Ir f fd):CaE P w K mg base "_law_net" 3 Fo:=
 ⟨f,fd,_,Bf D.fn sc__law_net (fun ds h e=>if_neg e) (fun ds h e=>if_pos e) (fun cdv A outer s H E hr=>Zch B et c__law_take c__law_wide_box f cdv A outer s H E hr),D.bd,D.mg,D.fn.kp⟩
noncomputable def F5:List D→HD→Out D:=fun ds h=>if ds.length=1 then Ao 1 (PB CW Dc) ds h else .stuck
theorem Zc1 (c_is_line_tuple:CaE P w K mg base "is_line_tuple" 1 CW) (c_is_light:CaE P w K mg base "is_light" 3 Dc) {f:Addr} {fd:FuncData} (D:Dn K mg "is_row" ["thing"] Iu f fd):CaE P w K mg base "is_row" 4 F5:=
 ⟨f,fd,_,Bf D.fn ZbK (fun ds h e=>if_neg e) (fun ds h e=>if_pos e) (fun cdv A outer s H E hr=>Zci B et c_is_line_tuple c_is_light f cdv A outer s H E hr),D.bd,D.mg,D.fn.kp⟩
noncomputable def F6:List D→HD→Out D:=fun ds h=>if ds.length=2 then Ao 2 (PC BX Dc) ds h else .stuck
theorem Zc2 (c_is_lot:CaE P w K mg base "is_lot" 2 BX) (c_is_light:CaE P w K mg base "is_light" 3 Dc) {f:Addr} {fd:FuncData} (D:Dn K mg "is_tie" ["thing","many"] Iv f fd):CaE P w K mg base "is_tie" 4 F6:=
 ⟨f,fd,_,Bf D.fn ZbL (fun ds h e=>if_neg e) (fun ds h e=>if_pos e) (fun cdv A outer s H E hr=>Zcj B et c_is_lot c_is_light f cdv A outer s H E hr),D.bd,D.mg,D.fn.kp⟩
noncomputable def F7:List D→HD→Out D:=fun ds h=>if ds.length=1 then Ao 1 (PD CW F5) ds h else .stuck
theorem Zc3 (c_is_line_tuple:CaE P w K mg base "is_line_tuple" 1 CW) (c_is_row:CaE P w K mg base "is_row" 4 F5) {f:Addr} {fd:FuncData} (D:Dn K mg "is_board" ["thing"] Iw f fd):CaE P w K mg base "is_board" 5 F7:=
 ⟨f,fd,_,Bf D.fn ZbM (fun ds h e=>if_neg e) (fun ds h e=>if_pos e) (fun cdv A outer s H E hr=>Zck B et c_is_line_tuple c_is_row f cdv A outer s H E hr),D.bd,D.mg,D.fn.kp⟩
noncomputable def Fp:List D→HD→Out D:=fun ds h=>if ds.length=1 then Ao 3 (PF BW F6) ds h else .stuck
theorem Zc4 (c_is_between:CaE P w K mg base "is_between" 2 BW) (c_is_tie:CaE P w K mg base "is_tie" 4 F6) {t_MOST_PLACES:Tok} (m_MOST_PLACES:mg "MOST_PLACES"=some (.int 8 t_MOST_PLACES)) {f:Addr} {fd:FuncData} (D:Dn K mg "is_net" ["thing"] Iz f fd):CaE P w K mg base "is_net" 5 Fp:=
 ⟨f,fd,_,Bf D.fn sc_is_net (fun ds h e=>if_neg e) (fun ds h e=>if_pos e) (fun cdv A outer s H E hr=>Zcl B et c_is_between c_is_tie m_MOST_PLACES f cdv A outer s H E hr),D.bd,D.mg,D.fn.kp⟩
noncomputable def Bv:List D→HD→Out D:=fun ds h=>if ds.length=1 then Ao 1 (PH F7) ds h else .stuck
theorem Zc5 (c_is_board:CaE P w K mg base "is_board" 5 F7) {f:Addr} {fd:FuncData} (D:Dn K mg "need_board" ["thing"] IA f fd):CaE P w K mg base "need_board" 6 Bv:=
 ⟨f,fd,_,Bf D.fn ZbN (fun ds h e=>if_neg e) (fun ds h e=>if_pos e) (fun cdv A outer s H E hr=>Zcm B et c_is_board f cdv A outer s H E hr),D.bd,D.mg,D.fn.kp⟩
noncomputable def A2:List D→HD→Out D:=fun ds h=>if ds.length=1 then Ao 1 (PJ Fp) ds h else .stuck
theorem Zc6 (c_is_net:CaE P w K mg base "is_net" 5 Fp) {f:Addr} {fd:FuncData} (D:Dn K mg "need_net" ["thing"] IB f fd):CaE P w K mg base "need_net" 6 A2:=
 ⟨f,fd,_,Bf D.fn ZbO (fun ds h e=>if_neg e) (fun ds h e=>if_pos e) (fun cdv A outer s H E hr=>Zcn B et c_is_net f cdv A outer s H E hr),D.bd,D.mg,D.fn.kp⟩
noncomputable def F8:List D→HD→Out D:=fun ds h=>if ds.length=1 then Ao 1 (PK Bv) ds h else .stuck
theorem Zc7 (c_need_board:CaE P w K mg base "need_board" 6 Bv) {f:Addr} {fd:FuncData} (D:Dn K mg "row_counts" ["board"] IC f fd):CaE P w K mg base "row_counts" 7 F8:=
 ⟨f,fd,_,Bf D.fn ZbP (fun ds h e=>if_neg e) (fun ds h e=>if_pos e) (fun cdv A outer s H E hr=>Zco B et c_need_board f cdv A outer s H E hr),D.bd,D.mg,D.fn.kp⟩
noncomputable def F9:List D→HD→Out D:=fun ds h=>if ds.length=2 then Ao 2 (PL Bv BX) ds h else .stuck
theorem Zc8 (c_need_board:CaE P w K mg base "need_board" 6 Bv) (c_is_lot:CaE P w K mg base "is_lot" 2 BX) {f:Addr} {fd:FuncData} (D:Dn K mg "is_switching" ["board","thing"] ID f fd):CaE P w K mg base "is_switching" 7 F9:=
 ⟨f,fd,_,Bf D.fn ZbQ (fun ds h e=>if_neg e) (fun ds h e=>if_pos e) (fun cdv A outer s H E hr=>Zcp B et c_need_board c_is_lot f cdv A outer s H E hr),D.bd,D.mg,D.fn.kp⟩
noncomputable def Ga:List D→HD→Out D:=fun ds h=>if ds.length=1 then Ao 1 (PM Bv) ds h else .stuck
theorem Zc9 (c_need_board:CaE P w K mg base "need_board" 6 Bv) {f:Addr} {fd:FuncData} (D:Dn K mg "turned" ["board"] IE f fd):CaE P w K mg base "turned" 7 Ga:=
 ⟨f,fd,_,Bf D.fn ZbR (fun ds h e=>if_neg e) (fun ds h e=>if_pos e) (fun cdv A outer s H E hr=>Zcq B et c_need_board f cdv A outer s H E hr),D.bd,D.mg,D.fn.kp⟩
noncomputable def B6:List D→HD→Out D:=fun ds h=>if ds.length=2 then Ao 4 (PN A2 BX) ds h else .stuck
theorem Zda (c_need_net:CaE P w K mg base "need_net" 6 A2) (c_is_lot:CaE P w K mg base "is_lot" 2 BX) {f:Addr} {fd:FuncData} (D:Dn K mg "net_switched" ["net","lot"] IF f fd):CaE P w K mg base "net_switched" 7 B6:=
 ⟨f,fd,_,Bf D.fn sc_net_switched (fun ds h e=>if_neg e) (fun ds h e=>if_pos e) (fun cdv A outer s H E hr=>Zcr B et c_need_net c_is_lot f cdv A outer s H E hr),D.bd,D.mg,D.fn.kp⟩
noncomputable def Fq:List D→HD→Out D:=fun ds h=>if ds.length=2 then Ao 6 (PP A2 BW B1 BV) ds h else .stuck
theorem Zdb (c_need_net:CaE P w K mg base "need_net" 6 A2) (c_is_between:CaE P w K mg base "is_between" 2 BW) (c_lights_of:CaE P w K mg base "lights_of" 1 B1) (c_lit_along:CaE P w K mg base "lit_along" 1 BV) {f:Addr} {fd:FuncData} (D:Dn K mg "is_odd_ring" ["net","thing"] IG f fd):CaE P w K mg base "is_odd_ring" 7 Fq:=
 ⟨f,fd,_,Bf D.fn sc_is_odd_ring (fun ds h e=>if_neg e) (fun ds h e=>if_pos e) (fun cdv A outer s H E hr=>Zcs B et c_need_net c_is_between c_lights_of c_lit_along f cdv A outer s H E hr),D.bd,D.mg,D.fn.kp⟩
noncomputable def Fs:List D→HD→Out D:=fun ds h=>if ds.length=1 then Ao 8 (PQ A2 B1 CY BV FY) ds h else .stuck
theorem Zdc (c_need_net:CaE P w K mg base "need_net" 6 A2) (c_lights_of:CaE P w K mg base "lights_of" 1 B1) (c_paths_of:CaE P w K mg base "paths_of" 1 CY) (c_lit_along:CaE P w K mg base "lit_along" 1 BV) (c_ring_of:CaE P w K mg base "ring_of" 1 FY) {f:Addr} {fd:FuncData} (D:Dn K mg "odd_ring" ["net"] IH f fd):CaE P w K mg base "odd_ring" 7 Fs:=
 ⟨f,fd,_,Bf D.fn sc_odd_ring (fun ds h e=>if_neg e) (fun ds h e=>if_pos e) (fun cdv A outer s H E hr=>Zct B et c_need_net c_lights_of c_paths_of c_lit_along c_ring_of f cdv A outer s H E hr),D.bd,D.mg,D.fn.kp⟩
noncomputable def De:List D→HD→Out D:=fun ds h=>if ds.length=1 then Ao 3 (PR A2 FX FZ) ds h else .stuck
theorem Zdd (c_need_net:CaE P w K mg base "need_net" 6 A2) (c_rising_rows:CaE P w K mg base "rising_rows" 1 FX) (c_lit_by_sides:CaE P w K mg base "lit_by_sides" 1 FZ) {f:Addr} {fd:FuncData} (D:Dn K mg "net_left" ["net"] II f fd):CaE P w K mg base "net_left" 7 De:=
 ⟨f,fd,_,Bf D.fn sc_net_left (fun ds h e=>if_neg e) (fun ds h e=>if_pos e) (fun cdv A outer s H E hr=>Zcu B et c_need_net c_rising_rows c_lit_by_sides f cdv A outer s H E hr),D.bd,D.mg,D.fn.kp⟩
noncomputable def Df:List D→HD→Out D:=fun ds h=>if ds.length=1 then Ao 3 (PU Bv) ds h else .stuck
theorem Zde (c_need_board:CaE P w K mg base "need_board" 6 Bv) {t_MOST_PLACES:Tok} (m_MOST_PLACES:mg "MOST_PLACES"=some (.int 8 t_MOST_PLACES)) {f:Addr} {fd:FuncData} (D:Dn K mg "net_of" ["board"] IJ f fd):CaE P w K mg base "net_of" 7 Df:=
 ⟨f,fd,_,Bf D.fn sc_net_of (fun ds h e=>if_neg e) (fun ds h e=>if_pos e) (fun cdv A outer s H E hr=>Zcv B et c_need_board m_MOST_PLACES f cdv A outer s H E hr),D.bd,D.mg,D.fn.kp⟩
noncomputable def Gb:List D→HD→Out D:=fun ds h=>if ds.length=1 then Ao 1 (PV Ga F8) ds h else .stuck
theorem Zdf (c_turned:CaE P w K mg base "turned" 7 Ga) (c_row_counts:CaE P w K mg base "row_counts" 7 F8) {f:Addr} {fd:FuncData} (D:Dn K mg "column_counts" ["board"] IK f fd):CaE P w K mg base "column_counts" 8 Gb:=
 ⟨f,fd,_,Bf D.fn ZbS (fun ds h e=>if_neg e) (fun ds h e=>if_pos e) (fun cdv A outer s H E hr=>Zcw B et c_turned c_row_counts f cdv A outer s H E hr),D.bd,D.mg,D.fn.kp⟩
noncomputable def Gc:List D→HD→Out D:=fun ds h=>if ds.length=2 then Ao 2 (PX F9) ds h else .stuck
theorem Zdg (c_is_switching:CaE P w K mg base "is_switching" 7 F9) {f:Addr} {fd:FuncData} (D:Dn K mg "need_switching" ["board","thing"] IP f fd):CaE P w K mg base "need_switching" 8 Gc:=
 ⟨f,fd,_,Bf D.fn ZbT (fun ds h e=>if_neg e) (fun ds h e=>if_pos e) (fun cdv A outer s H E hr=>Zcx B et c_is_switching f cdv A outer s H E hr),D.bd,D.mg,D.fn.kp⟩
noncomputable def CD:List D→HD→Out D:=fun ds h=>if ds.length=2 then Ao 6 (PY A2 Fi B1 CY BV B6) ds h else .stuck
theorem Zdh (c_need_net:CaE P w K mg base "need_net" 6 A2) (c_pairs_of:CaE P w K mg base "pairs_of" 1 Fi) (c_lights_of:CaE P w K mg base "lights_of" 1 B1) (c_paths_of:CaE P w K mg base "paths_of" 1 CY) (c_lit_along:CaE P w K mg base "lit_along" 1 BV) (c_net_switched:CaE P w K mg base "net_switched" 7 B6) {f:Addr} {fd:FuncData} (D:Dn K mg "net_lot" ["one","other"] IQ f fd):CaE P w K mg base "net_lot" 8 CD:=
 ⟨f,fd,_,Bf D.fn sc_net_lot (fun ds h e=>if_neg e) (fun ds h e=>if_pos e) (fun cdv A outer s H E hr=>Zcy B et c_need_net c_pairs_of c_lights_of c_paths_of c_lit_along c_net_switched f cdv A outer s H E hr),D.bd,D.mg,D.fn.kp⟩
noncomputable def Ft:List D→HD→Out D:=fun ds h=>if ds.length=2 then Ao 4 (PZ Gc FU) ds h else .stuck
theorem Zdi (c_need_switching:CaE P w K mg base "need_switching" 8 Gc) (c_row_switched:CaE P w K mg base "row_switched" 1 FU) {f:Addr} {fd:FuncData} (D:Dn K mg "switched" ["board","switching"] IS f fd):CaE P w K mg base "switched" 9 Ft:=
 ⟨f,fd,_,Bf D.fn sc_switched (fun ds h e=>if_neg e) (fun ds h e=>if_pos e) (fun cdv A outer s H E hr=>Zcz B et c_need_switching c_row_switched f cdv A outer s H E hr),D.bd,D.mg,D.fn.kp⟩
noncomputable def DO:List D→HD→Out D:=fun ds h=>if ds.length=1 then Ao 3 (P0 Gb FV) ds h else .stuck
theorem Zdj (c_column_counts:CaE P w K mg base "column_counts" 8 Gb) (c_counts_with_row:CaE P w K mg base "counts_with_row" 1 FV) {f:Addr} {fd:FuncData} (D:Dn K mg "lots_with_counts" ["board"] IT f fd):CaE P w K mg base "lots_with_counts" 9 DO:=
 ⟨f,fd,_,Bf D.fn sc_lots_with_counts (fun ds h e=>if_neg e) (fun ds h e=>if_pos e) (fun cdv A outer s H E hr=>ZcA B et c_column_counts c_counts_with_row f cdv A outer s H E hr),D.bd,D.mg,D.fn.kp⟩
noncomputable def Do:List D→HD→Out D:=fun ds h=>if ds.length=1 then Ao 3 (P3 A2 CD) ds h else .stuck
theorem Zdk (c_need_net:CaE P w K mg base "need_net" 6 A2) (c_net_lot:CaE P w K mg base "net_lot" 8 CD) {f:Addr} {fd:FuncData} (D:Dn K mg "is_quiet" ["net"] IU f fd):CaE P w K mg base "is_quiet" 9 Do:=
 ⟨f,fd,_,Bf D.fn sc_is_quiet (fun ds h e=>if_neg e) (fun ds h e=>if_pos e) (fun cdv A outer s H E hr=>ZcB B et c_need_net c_net_lot f cdv A outer s H E hr),D.bd,D.mg,D.fn.kp⟩
noncomputable def Fu:List D→HD→Out D:=fun ds h=>if ds.length=1 then Ao 1 (P4 DO FW) ds h else .stuck
theorem Zdl (c_lots_with_counts:CaE P w K mg base "lots_with_counts" 9 DO) (c_fewest_lit:CaE P w K mg base "fewest_lit" 1 FW) {f:Addr} {fd:FuncData} (D:Dn K mg "left_many" ["board"] IV f fd):CaE P w K mg base "left_many" 10 Fu:=
 ⟨f,fd,_,Bf D.fn ZbU (fun ds h e=>if_neg e) (fun ds h e=>if_pos e) (fun cdv A outer s H E hr=>ZcC B et c_lots_with_counts c_fewest_lit f cdv A outer s H E hr),D.bd,D.mg,D.fn.kp⟩
noncomputable def F_law:List D→HD→Out D:=fun ds h=>if ds.length=1 then Ao 13 (MZ Fj Fo DN B6 CD De Do Fs Fq A0 Fm Df Fu Ft) ds h else .stuck
end
end LK
namespace LK
abbrev Bu:=Nat×List Nat
def Dg (A:List Bu) (e:Nat):Option (List Nat):=(A.find? fun x=>decide (x.1=e)).map (·.2)
def has (A:List Bu) (e:Nat):Bool:=A.any fun x=>decide (x.1=e)
def Hb (n:Nat) (adj:Nat→Nat→Bool) (e:Nat) (p:List Nat):List (List Nat):=((List.range n).filter (adj e)).map fun v=>p++[v]
theorem has_iff {A:List Bu} {e:Nat}:has A e=true↔∃p,(e,p)∈A:=by
 unfold has
 rw [qbC]
 constructor
 ·rintro ⟨⟨e',p⟩,hm,h⟩
  have:=of_decide_eq_true h
  simp only at this
  subst this
  exact ⟨p,hm⟩
 ·rintro ⟨p,hm⟩
  exact ⟨(e,p),hm,decide_eq_true rfl⟩
structure Forest (n:Nat) (adj:Nat→Nat→Bool) (A:List Bu):Prop where
 lt:∀e p,(e,p)∈A→e<n
 tr:∀e p,(e,p)∈A→p=[e]∨∃r q,(r,q)∈A∧adj r e=true∧p=q++[e]
 nd:∀e p,(e,p)∈A→p.Nodup
 pf:∀e p,(e,p)∈A→∀x∈p,∃q,(x,q)∈A∧q <+:p
 ky:(A.map (·.1)).Nodup
theorem Forest.one {n:Nat} {adj:Nat→Nat→Bool} {A:List Bu} (F:Forest n adj A) {e:Nat} {p q:List Nat} (h1:(e,p)∈A) (h2:(e,q)∈A):p=q:=by
 have key:∀(l:List Bu),(l.map (·.1)).Nodup→(e,p)∈l→(e,q)∈l→p=q:=fun l=>by
  induction l with
  |nil=>intro _ h;cases h
  |cons x l ih=>
   intro nd h1 h2
   rw [Br,qbJ] at nd
   rcases qa3.mp h1 with z1 |z1
   ·rcases qa3.mp h2 with z2 |z2
    ·rw [←z1] at z2;cases z2;rfl
    ·subst z1;exact absurd (qaJ.mpr ⟨_,z2,rfl⟩) nd.1
   ·rcases qa3.mp h2 with z2 |z2
    ·subst z2;exact absurd (qaJ.mpr ⟨_,z1,rfl⟩) nd.1
    ·exact ih nd.2 z1 z2
 exact key A F.ky h1 h2
theorem Forest.last {n:Nat} {adj:Nat→Nat→Bool} {A:List Bu} (F:Forest n adj A) {e:Nat} {p:List Nat} (h:(e,p)∈A):∃q,p=q++[e]:=by
 rcases F.tr e p h with rfl |⟨r,q,_,_,rfl⟩
 ·exact ⟨[],rfl⟩
 ·exact ⟨q,rfl⟩
theorem Forest.nil {n:Nat} {adj:Nat→Nat→Bool}:Forest n adj []:=⟨fun _ _ h=>(nomatch h),fun _ _ h=>(nomatch h),fun _ _ h=>(nomatch h),fun _ _ h=>(nomatch h),List.nodup_nil⟩
theorem Forest.add {n:Nat} {adj:Nat→Nat→Bool} {A:List Bu} (F:Forest n adj A) {e:Nat} {p:List Nat} (he:e<n) (hn:has A e=false) (hp:p=[e]∨∃r q,(r,q)∈A∧adj r e=true∧p=q++[e]):Forest n adj (A++[(e,p)]):=by
 have hno:∀q,(e,q)∉A:=fun q z=>by
  have:=has_iff.mpr ⟨q,z⟩
  rw [hn] at this
  cases this
 refine ⟨fun e' p' h=>?_,fun e' p' h=>?_,fun e' p' h=>?_,fun e' p' h x hx=>?_,?_⟩
 ·rcases qaH.mp h with z |z
  ·exact F.lt _ _ z
  ·rw [qa7] at z;cases z;exact he
 ·rcases qaH.mp h with z |z
  ·rcases F.tr _ _ z with w |⟨r,q,h1,h2,h3⟩
   ·exact .inl w
   ·exact .inr ⟨r,q,Cu _ h1,h2,h3⟩
  ·rw [qa7] at z
   cases z
   rcases hp with w |⟨r,q,h1,h2,h3⟩
   ·exact .inl w
   ·exact .inr ⟨r,q,Cu _ h1,h2,h3⟩
 ·rcases qaH.mp h with z |z
  ·exact F.nd _ _ z
  ·rw [qa7] at z
   cases z
   rcases hp with rfl |⟨r,q,h1,h2,rfl⟩
   ·simp
   ·rw [qbH]
    refine ⟨F.nd _ _ h1,by simp,fun a ha b hb=>?_⟩
    rw [qa7] at hb
    subst hb
    rintro rfl
    obtain ⟨q',hq,_⟩:=F.pf _ _ h1 _ ha
    exact hno _ hq
 ·rcases qaH.mp h with z |z
  ·obtain ⟨q,h1,h2⟩:=F.pf _ _ z x hx
   exact ⟨q,Cu _ h1,h2⟩
  ·rw [qa7] at z
   cases z
   rcases hp with rfl |⟨r,q,h1,h2,rfl⟩
   ·rw [qa7] at hx
    subst hx
    exact ⟨_,Bi _ (qa7.mpr rfl),AC _⟩
   ·rcases qaH.mp hx with y |y
    ·obtain ⟨q',h3,h4⟩:=F.pf _ _ h1 x y
     exact ⟨q',Cu _ h3,h4.trans (Gg _ _)⟩
    ·rw [qa7] at y
     subst y
     exact ⟨_,Bi _ (qa7.mpr rfl),AC _⟩
 ·rw [DR,qbH]
  refine ⟨F.ky,by simp,fun a ha b hb=>?_⟩
  simp at hb
  subst hb
  rintro rfl
  obtain ⟨⟨e',q⟩,h1,h2⟩:=qaJ.mp ha
  simp only at h2
  subst h2
  exact hno _ h1
def IW (n:Nat) (adj:Nat→Nat→Bool) (A:List Bu):Prop:=∀a pa,(a,pa)∈A→∀b,b<n→adj a b=true→∃pb,(b,pb)∈A∧pb.head?=pa.head?
structure Walk (n:Nat) (adj:Nat→Nat→Bool) (r:Nat) (O N:List Bu) (S:List (List Nat)):Prop where
 F:Forest n adj (O++N)
 ro:∀e p,(e,p)∈N→p.head?=some r
 nb:∀a pa,(a,pa)∈N→∀b,b<n→adj a b=true→(∃pb,(b,pb)∈O++N)∨∃q,q++[b]∈S
 st:∀w∈S,w=[r]∨∃a q v,(a,q)∈N∧adj a v=true∧v<n∧w=q++[v]
 at':(∃p,(r,p)∈O++N)∨[r]∈S
section
variable {n r:Nat} {adj:Nat→Nat→Bool} {O N:List Bu} {S:List (List Nat)}
theorem Walk.start (F:Forest n adj O):Walk n adj r O [] [[r]]:=⟨by rwa [E3],fun _ _ h=>(nomatch h),fun _ _ h=>(nomatch h),fun w hw=>.inl (qa7.mp hw),.inr (qa7.mpr rfl)⟩
theorem Walk.skip {q:List Nat} {e:Nat} (W:Walk n adj r O N (S++[q++[e]])) (h:has (O++N) e=true):Walk n adj r O N S:=by
 have hin:∀(b:Nat) (q':List Nat),q'++[b]∈S++[q++[e]]→(∃pb,(b,pb)∈O++N)∨q'++[b]∈S:=fun b q' z=>by
  rcases qaH.mp z with z |z
  ·exact .inr z
  ·rw [qa7] at z
   have:=(E2 z rfl).2
   cases this
   exact .inl (has_iff.mp h)
 refine ⟨W.F,W.ro,fun a pa ha b hb hab=>?_,fun w hw=>W.st w (Cu _ hw),?_⟩
 ·rcases W.nb a pa ha b hb hab with z |⟨q',z⟩
  ·exact .inl z
  ·rcases hin b q' z with y |y
   ·exact .inl y
   ·exact .inr ⟨q',y⟩
 ·rcases W.at' with z |z
  ·exact .inl z
  ·rcases hin r [] z with y |y
   ·exact .inl y
   ·exact .inr y
theorem Walk.take {q:List Nat} {e:Nat} (hr:r<n) (W:Walk n adj r O N (S++[q++[e]])) (h:has (O++N) e=false):e<n∧Walk n adj r O (N++[(e,q++[e])]) (S++Hb n adj e (q++[e])):=by
 have hw:=W.st (q++[e]) (Bi _ (qa7.mpr rfl))
 have hp:q++[e]=[e]∨∃a q',(a,q')∈O++N∧adj a e=true∧q++[e]=q'++[e]:=by
  rcases hw with z |⟨a,q',v,h1,h2,h3,h4⟩
  ·have:=(E2 (s₁:=q) (s₂:=[]) z rfl)
   rw [this.1]
   exact .inl rfl
  ·have:=E2 h4 rfl
   have e2:e=v:=by have:=this.2;cases this;rfl
   subst e2
   exact .inr ⟨a,q',Bi _ h1,h2,h4⟩
 have he:e<n:=by
  rcases hw with z |⟨a,q',v,h1,h2,h3,h4⟩
  ·have:=(E2 (s₁:=q) (s₂:=[]) z rfl).2
   cases this
   exact hr
  ·have:=(E2 h4 rfl).2
   cases this
   exact h3
 have hro:(q++[e]).head?=some r:=by
  rcases hw with z |⟨a,q',v,h1,h2,h3,h4⟩
  ·rw [z];rfl
  ·have hq:=W.ro _ _ h1
   rw [h4]
   cases q' with
   |nil=>cases hq
   |cons x xs=>exact hq
 refine ⟨he,?_,fun e' p h'=>?_,fun a pa ha b hb hab=>?_,fun w hw'=>?_,?_⟩
 ·rw [←CO]
  exact W.F.add he h hp
 ·rcases qaH.mp h' with z |z
  ·exact W.ro _ _ z
  ·rw [qa7] at z;cases z;exact hro
 ·rcases qaH.mp ha with z |z
  ·rcases W.nb a pa z b hb hab with ⟨pb,y⟩ |⟨q',y⟩
   ·exact .inl ⟨pb,by rw [←CO];exact Cu _ y⟩
   ·rcases qaH.mp y with y |y
    ·exact .inr ⟨q',Cu _ y⟩
    ·rw [qa7] at y
     have:=(E2 y rfl).2
     cases this
     exact .inl ⟨_,Bi _ (Bi _ (qa7.mpr rfl))⟩
  ·rw [qa7] at z
   cases z
   refine .inr ⟨q++[e],Bi _ ?_⟩
   unfold Hb
   exact qaJ.mpr ⟨b,qbO.mpr ⟨qb2.mpr hb,hab⟩,rfl⟩
 ·rcases qaH.mp hw' with z |z
  ·rcases W.st w (Cu _ z) with y |⟨a,q',v,h1,h2,h3,h4⟩
   ·exact .inl y
   ·exact .inr ⟨a,q',v,Cu _ h1,h2,h3,h4⟩
  ·unfold Hb at z
   obtain ⟨v,hv,rfl⟩:=qaJ.mp z
   have:=qbO.mp hv
   exact .inr ⟨e,q++[e],v,Bi _ (qa7.mpr rfl),this.2,qb2.mp this.1,rfl⟩
 ·rcases W.at' with ⟨p,z⟩ |z
  ·exact .inl ⟨p,by rw [←CO];exact Cu _ z⟩
  ·rcases qaH.mp z with z |z
   ·exact .inr (Cu _ z)
   ·rw [qa7] at z
    have:=(E2 (s₁:=([]:List Nat)) (s₂:=q) z rfl)
    have e2:r=e:=by have:=this.2;cases this;rfl
    subst e2
    exact .inl ⟨_,Bi _ (Bi _ (qa7.mpr rfl))⟩
theorem Walk.done (sy:∀a b,adj a b=adj b a) (C:IW n adj O) (W:Walk n adj r O N []):IW n adj (O++N)∧∃p,(r,p)∈O++N:=by
 refine ⟨fun a pa ha b hb hab=>?_,?_⟩
 ·rcases qaH.mp ha with z |z
  ·obtain ⟨pb,h1,h2⟩:=C a pa z b hb hab
   exact ⟨pb,Cu _ h1,h2⟩
  ·rcases W.nb a pa z b hb hab with ⟨pb,y⟩ |⟨q,y⟩
   ·rcases qaH.mp y with y |y
    ·obtain ⟨pa',h1,_⟩:=C b pb y a (W.F.lt _ _ ha) (by rw [sy];exact hab)
     have nd:=W.F.ky
     rw [DR,qbH] at nd
     exact absurd rfl (nd.2.2 a (qaJ.mpr ⟨_,h1,rfl⟩) a (qaJ.mpr ⟨_,z,rfl⟩))
    ·exact ⟨pb,Bi _ y,by rw [W.ro _ _ y,W.ro _ _ z]⟩
   ·cases y
 ·rcases W.at' with z |z
  ·exact z
  ·cases z
end
end LK
namespace LK
open PySem PySem.Spec PyProof.Rows L2 LS
theorem _root_.LS.Sm.len {h h':HD} (s:Sm h h'):h.length≤h'.length:=by
 cases e:h.length with
 |zero=>exact Ep _
 |succ n=>
  have hn:n<h.length:=by omega
  have:=s n h[n] (Bh hn)
  have:=(qa8.mp this).1
  omega
theorem sz {n:Nat} (hn:n≤8):(List.range n).length≤sizeLine:=by
 rw [Hl];unfold sizeLine;omega
theorem Zdm {ns:List Int} {k:Nat} (hb:∀i∈ns,Builtin.Int.intBits i≤2^20) (hk:k≤1000):∃c:Int,Builtin.Int.intBits c≤2^20∧∀h,Pu (F0 [.scr ns,.int (k:Nat)] h) h (.int c):=by
 by_cases hl:k<ns.length
 ·refine ⟨ns[k],hb _ (JT hl),fun h=>?_⟩
  change Wp (Ao 2 MX [.scr ns,.int (k:Nat)] h) _
  refine Eq.mpr (Ba) ?_
  have:(k:Int)<ns.length:=by omega
  simp [this]
  refine Ay (YQ (Bh hl)) ?_
  simp [Sm.refl]
 ·refine ⟨6151*(k:Int)+29,?_,fun h=>?_⟩
  ·rw [intBits_le_iff]
   have h1:(6151*(k:Int)+29).natAbs<2^30:=by omega
   exact Bp h1 (Lp (by decide) (by omega))
  ·change Wp (Ao 2 MX [.scr ns,.int (k:Nat)] h) _
   refine Eq.mpr (Ba) ?_
   have:¬(k:Int)<ns.length:=by omega
   simp [this]
   rw [Me (by decide) (by decide)]
   simp [Sm.refl]
def Uk (c:Int) (k:Nat):Int:=(((c+1)*40692+104729*(k:Int))*((c+1)*40692+104729*(k:Int))) % 2147483399+(k:Int)
theorem Ul {h:HD}:Jx [.int 24] h=.ok ((List.range 24).map fun k=>D.int ((k:Nat):Int),[]) h:=EI (n:=24) (by decide)
theorem Zdn {c:Int} {k:Nat} (hc:Builtin.Int.intBits c≤2^20) (hk:k≤1000):∃r:Int,∀h,Pu (F4 [.int c,.int (k:Nat)] h) h (.int r):=by
 refine ⟨Uk c k*(Uk c k+31) % 2147483563,fun h=>?_⟩
 change Wp (Ao 3 Po [.int c,.int (k:Nat)] h) _
 refine Eq.mpr (Ba) ?_
 have bX:Builtin.Int.intBits ((c+1)*40692+104729*(k:Int))≤16777216:=by
  have hk':Builtin.Int.intBits ((k:Nat):Int)≤10:=PySem.intBits_le_iff.mpr (by omega)
  have:=PySem.intBits_add_le (PySem.intBits_mul_le (PySem.intBits_add_le hc (show Builtin.Int.intBits 1≤1 by decide)) (show Builtin.Int.intBits 40692≤16 by decide)) (PySem.intBits_mul_le (show Builtin.Int.intBits 104729≤17 by decide) hk')
  exact B8 this (by decide)
 have h1:=Int.emod_nonneg (((c+1)*40692+104729*(k:Int))*((c+1)*40692+104729*(k:Int))) (show (2147483399:Int)≠0 by decide)
 have h2:=Int.emod_lt_of_pos (((c+1)*40692+104729*(k:Int))*((c+1)*40692+104729*(k:Int))) (show (0:Int)<2147483399 by decide)
 simp
 rw [Md (by decide) (by decide)]
 simp
 rw [Me (by decide) (by decide)]
 simp
 rw [YT bX bX]
 simp
 rw [FN (by decide)]
 simp
 rw [Me (by omega) (by omega)]
 simp
 rw [FN (by decide)]
 simp
 exact ⟨rfl,.refl _⟩
def BoxAt (h:HD) (b:Nat):Prop:=∃n:Int,h[b]?=some (.lst [.int n])
inductive Um (ns:List Int) (k:Nat) (c:Int) (h:HD) (xs:List Nat) (ρ:Ai) (h':HD):Prop where
 |mk (N:Int) (x:Option D) (f0:ρ=[some (.scr ns),some (.int (k:Nat)),some (.int c),some (.int N),x]) (f1:Sm h h') (f2:∀j∈xs,j<24):Um ns k c h xs ρ h'
theorem Zdo {ns:List Int} {k:Nat} {h:HD} {Q:D→HD→Prop} (hb:∀i∈ns,Builtin.Int.intBits i≤2^20) (hk:k≤1000) (q:∀l h',BoxAt h' l→h.length≤l→Sm h h'→Q (.loc l) h'):Wp (Fj [.scr ns,.int (k:Nat)] h) Q:=by
 change Wp (Ao 5 (Pr F0 F4) [.scr ns,.int (k:Nat)] h) _
 refine Eq.mpr (Ba) ?_
 obtain ⟨c,bc,pc⟩:=Zdm (k:=k) hb hk
 simp
 refine (pc h).wp fun h1 s1=>?_
 rw [FN (by decide)]
 simp
 by_cases hz:c % 2=0
 ·simp [hz]
  rw [YU (by decide) (by decide)]
  simp
  exact Dz (by simp) fun l h' s e el _=>q l h' ⟨_,e⟩ (by have:=s1.len;omega) (s1.trans s)
 ·simp [hz]
  refine EJ (src:=[]) (xs:=List.range 24) (fun i=>.int ((i:Nat):Int)) (Um ns k c h) ?_ (fun ys ρ h' _=>B2) ?_ ?_
  ·simp [Ul]
   exact ⟨_,_,rfl,s1,fun j hj=>qb2.mp hj⟩
  ·rintro x xs ρ h' ⟨N,y,rfl,sh,hx⟩
   refine ⟨_,rfl,?_⟩
   obtain ⟨m,pm⟩:=Zdn (k:=x) bc (by have:=hx x AZ;omega)
   simp
   rw [Md (by decide) (by decide)]
   simp
   refine (pm h').wp fun h2 s2=>?_
   simp [CA]
   exact ⟨_,_,rfl,sh.trans s2,fun j hj=>hx j (Bb _ hj)⟩
  ·rintro ρ h' ⟨N,y,rfl,sh,_⟩
   simp
   exact Dz (by simp) fun l h' s e el _=>q l h' ⟨_,e⟩ (by have:=sh.len;omega) (sh.trans s)
def Smx (b:Nat) (h h':HD):Prop:=∀(l:Nat) (c:Cell),l≠b→h[l]?=some c→h'[l]?=some c
theorem Smx.refl (b:Nat) (h:HD):Smx b h h:=fun _ _ _ e=>e
theorem Smx.trans {b:Nat} {h h1 h2:HD} (a:Smx b h h1) (c:Smx b h1 h2):Smx b h h2:=fun l x n e=>c l x n (a l x n e)
theorem IX {b:Nat} {h h':HD} (s:Sm h h'):Smx b h h':=fun l c _ e=>s l c e
theorem GC {b:Nat} {m:Int} {h:HD} {Q:D→HD→Prop} (hx:BoxAt h b) (h1:0<m) (h2:m<18446744073709551616) (q:∀d h',0≤d→d<m→BoxAt h' b→Smx b h h'→Q (.int d) h'):Wp (A0 [.loc b,.int m] h) Q:=by
 change Wp (Ao 4 Pp [.loc b,.int m] h) _
 refine Eq.mpr (Ba) ?_
 obtain ⟨N,e⟩:=hx
 simp
 rw [show (0:Int)=((0:Nat):Int) from rfl]
 refine Ay (Ko e (k:=0) rfl) ?_
 simp
 refine Ay (YV h1 h2) ?_
 simp
 rw [show (0:Int)=((0:Nat):Int) from rfl]
 refine Ay (YR e (by simp)) ?_
 simp
 have hl:b<h.length:=(qa8.mp e).1
 refine q _ _ (Int.emod_nonneg _ (by omega)) (Int.emod_lt_of_pos _ h1) ⟨_,by rw [D4 hl]⟩ fun l c ne el=>?_
 rw [CI (Ne.symm ne)]
 exact el
theorem BoxAt.sm {b:Nat} {h h':HD} (x:BoxAt h b) (s:Sm h h'):BoxAt h' b:=let ⟨n,e⟩:=x;⟨n,s _ _ e⟩
theorem BoxAt.smx {a b:Nat} {h h':HD} (x:BoxAt h b) (s:Smx a h h') (ne:b≠a):BoxAt h' b:=let ⟨n,e⟩:=x;⟨n,s _ _ ne e⟩
theorem BoxAt.new {b:Nat} {h:HD} {c:Cell} (x:BoxAt h b):BoxAt (h++[c]) b:=x.sm (.app _ _)
def Plain (h:HD):D→Prop
 |.int _=>True
 |.bl _=>True
 |.non=>True
 |.str _=>True
 |.tup _=>True
 |.loc l=>∃ds,h[l]?=some (.lst ds)
 |_=>False
theorem Plain.sm {h h':HD} {d:D} (p:Plain h d) (s:Sm h h'):Plain h' d:=by
 cases d with
 |loc l=>obtain ⟨ds,e⟩:=p;exact ⟨ds,s _ _ e⟩
 |_=>exact p
def BQ:D→List D
 |.tup ds=>ds
 |_=>[]
def Plain2 (h:HD) (d:D):Prop:=Plain h d∧∀x∈BQ d,Plain h x
def Plain3 (h:HD) (d:D):Prop:=Plain h d∧∀x∈BQ d,Plain2 h x
theorem Plain2.sm {h h':HD} {d:D} (p:Plain2 h d) (s:Sm h h'):Plain2 h' d:=⟨p.1.sm s,fun x hx=>(p.2 x hx).sm s⟩
theorem Plain3.sm {h h':HD} {d:D} (p:Plain3 h d) (s:Sm h h'):Plain3 h' d:=⟨p.1.sm s,fun x hx=>(p.2 x hx).sm s⟩
def Hc:D→Bool
 |.int i=>decide (0≤i)&&decide (i≤1)
 |_=>false
def DP:D→Bool
 |.tup ds=>decide (1≤ds.length)&&decide (ds.length≤8)
 |_=>false
def Ej (d:D):Bool:=DP d&&(BQ d).all Hc
def GD (d:D):Nat:=(BQ d).length
def Hd (d:D):Bool:=DP d&&(BQ d).all Ej&&(BQ d).all fun x=>GD x==GD ((BQ d).getD 0 .non)
theorem p_is_between_int {i a b:Int} {h:HD}:Pu (BW [.int i,.int a,.int b] h) h (.bl (decide (a≤i)&&decide (i≤b))):=by
 change Wp (Ao 3 (MY Ct) [.int i,.int a,.int b] h) _
 refine Eq.mpr (Ba) ?_
 have e:Ct [.int i] h=.ok (.bl true) h:=rfl
 simp [e]
 by_cases h1:a≤i<;>simp [h1,AB,Sm.refl]
theorem Uo {d:D} {a b:Int} {h:HD} (e:Ct [d] h=.ok (.bl false) h):Pu (BW [d,.int a,.int b] h) h (.bl false):=by
 change Wp (Ao 3 (MY Ct) [d,.int a,.int b] h) _
 refine Eq.mpr (Ba) ?_
 simp [e,Sm.refl]
def Fv:D→Bool
 |.int _=>true
 |_=>false
theorem P5 {d:D} {h:HD} (p:Plain h d):Ct [d] h=.ok (.bl (Fv d)) h:=by
 cases d with
 |loc l=>
  obtain ⟨ds,e⟩:=p
  have i1:DA (.loc l) (.ty "int") h=.ok (.bl false) h:=Zac e
  have w:Wp (Ao 1 Pc [.loc l] h) fun d h'=>d=.bl false∧h'=h:=by
   refine Eq.mpr Ba ?_
   simp [-Zab,i1]
  obtain ⟨a,h',e',rfl,rfl⟩:=Wp.ex w
  exact e'
 |tup ds=>rfl
 |int i=>rfl
 |bl b=>rfl
 |non=>rfl
 |str x=>rfl
 |_=>exact p.elim
theorem IY {d:D} (h:Fv d=true):∃i,d=.int i:=by cases d<;>first |exact ⟨_,rfl⟩ |cases h
theorem Up {d:D} {h:HD} (p:Plain h d):Pu (Dc [d] h) h (.bl (Hc d)):=by
 change Wp (Ao 1 (Pw BW) [d] h) _
 refine Eq.mpr Ba ?_
 simp
 cases hw:Fv d with
 |true=>
  obtain ⟨i,rfl⟩:=IY hw
  exact p_is_between_int.wp fun h' s=>⟨rfl,s⟩
 |false=>
  have e:=P5 p
  rw [hw] at e
  have e2:Hc d=false:=by cases d<;>first |rfl |cases hw
  exact (Uo e).wp fun h' s=>⟨by rw [e2],s⟩
def Fw:D→Bool
 |.tup _=>true
 |_=>false
theorem KN {d:D} {h:HD} (p:Plain h d):CV d (.ty "tuple") h=.ok (.bl (Fw d)) h:=by
 cases d with
 |loc l=>obtain ⟨ds,e⟩:=p;exact Zad e
 |tup ds=>rfl
 |int i=>rfl
 |bl b=>rfl
 |non=>rfl
 |str x=>rfl
 |_=>exact p.elim
theorem JL {d:D} (h:Fw d=true):∃ds,d=.tup ds:=by cases d<;>first |exact ⟨_,rfl⟩ |cases h
theorem Uq {d:D} {h:HD} (p:Plain h d):Pu (CW [d] h) h (.bl (DP d)):=by
 change Wp (Ao 1 Pd [d] h) _
 refine Eq.mpr Ba ?_
 cases hT:Fw d with
 |true=>
  obtain ⟨ds,rfl⟩:=JL hT
  have a1:(1:Int)≤ds.length↔1≤ds.length:=by omega
  have a2:(ds.length:Int)≤8↔ds.length≤8:=by omega
  by_cases h1:1≤ds.length
  ·by_cases h2:ds.length≤8
   ·simp [a1.mpr h1,a2.mpr h2,AB,Sm.refl,DP,h1,h2]
   ·have b2:¬(ds.length:Int)≤8:=by omega
    simp [a1.mpr h1,b2,AB,Sm.refl,DP,h1,h2]
  ·have b1:¬(1:Int)≤ds.length:=by omega
   simp [b1,AB,Sm.refl,DP,h1]
 |false=>
  have:DP d=false:=by cases d<;>first |rfl |cases hT
  simp [KN p,hT,this,Sm.refl]
theorem P6 {d:D} (h:DP d=true):∃ds,d=.tup ds∧1≤ds.length∧ds.length≤8:=by
 cases d with
 |tup ds=>exact ⟨ds,rfl,by simpa [DP] using h⟩
 |_=>cases h
theorem Zdp {d:D} {h:HD} (p:Plain2 h d):Pu (F5 [d] h) h (.bl (Ej d)):=by
 change Wp (Ao 1 (PB CW Dc) [d] h) _
 refine Eq.mpr (Ba) ?_
 simp
 refine (Uq p.1).wp fun h1 s1=>?_
 cases hl:DP d with
 |false=>simp [Ej,hl,s1]
 |true=>
  obtain ⟨ds,rfl,l1,l2⟩:=P6 hl
  simp
  refine Pu.wp (HH (src:=[]) (xs:=ds) (φ:=fun x=>x) Hc (fun x=>[some x]) (by rw [List.map_id'];exact Kq) (fun x _=>rfl) (fun x hx h' s'=>?_) (by unfold sizeLine;omega)) fun h2 s2=>?_
  ·simp [Pu]
   exact Up ((p.2 x hx).sm (s1.trans s'))
  ·simp [Ej,hl,BQ,s1.trans s2]
theorem Ur {d:D} {h:HD} (hl:DP d=true):BK d h=.ok (.int (GD d:Nat)) h:=by
 obtain ⟨ds,rfl,_,_⟩:=P6 hl
 simp [GD,BQ]
theorem Us {d:D} (h:Ej d=true):DP d=true:=by unfold Ej at h;exact (Bool.and_eq_true_iff.mp h).1
theorem Zdq {d:D} {h:HD} (p:Plain3 h d):Pu (F7 [d] h) h (.bl (Hd d)):=by
 change Wp (Ao 1 (PD CW F5) [d] h) _
 refine Eq.mpr (Ba) ?_
 simp
 refine (Uq p.1).wp fun h1 s1=>?_
 cases hl:DP d with
 |false=>simp [Hd,hl,s1]
 |true=>
  obtain ⟨ds,rfl,l1,l2⟩:=P6 hl
  simp
  refine Pu.wp (HH (src:=[]) (xs:=ds) (φ:=fun x=>x) Ej (fun x=>[some x]) (by rw [List.map_id'];exact Kq) (fun x _=>rfl) (fun x hx h' s'=>?_) (by unfold sizeLine;omega)) fun h2 s2=>?_
  ·simp [Pu]
   exact Zdp ((p.2 x hx).sm (s1.trans s'))
  ·cases ha:ds.all Ej with
   |false=>simp [Hd,hl,BQ,ha,s1.trans s2]
   |true=>
    simp
    have hr:∀x∈ds,Ej x=true:=fun x hx=>qaZ.mp ha x hx
    obtain ⟨d0,rest,rfl⟩:∃d0 rest,ds=d0::rest:=by
     cases ds with
     |nil=>simp at l1
     |cons a r=>exact ⟨a,r,rfl⟩
    refine Pu.wp (HH (src:=[]) (xs:=d0::rest) (φ:=fun x=>x) (fun x=>GD x==GD d0) (fun x=>[some x,some (.tup (d0::rest))]) (by rw [List.map_id'];exact Kq) (fun x _=>rfl) (fun x hx h' s'=>?_) (by unfold sizeLine;omega)) fun h3 s3=>?_
    ·simp [Pu]
     rw [Ur (Us (hr x hx))]
     simp
     rw [show (0:Int)=((0:Nat):Int) from rfl]
     refine Ay (ix_tup (k:=0) rfl) ?_
     simp
     rw [Ur (Us (hr d0 AZ))]
     simp [Sm.refl]
     rw [qaS]
     simp
     omega
    ·have:(d0::rest).all Ej=true:=ha
     simp only [Hd,hl,BQ,this,Bool.true_and]
     refine ⟨?_,(s1.trans s2).trans s3⟩
     simp
theorem Zdr {d:D} {h:HD} (p:Plain3 h d) (hb:Hd d=true):Pu (Bv [d] h) h .non:=by
 change Wp (Ao 1 (PH F7) [d] h) _
 refine Eq.mpr (Ba) ?_
 simp
 refine (Zdq p).wp fun h1 s1=>?_
 simp [hb,s1]
def lit (x:Bool):D:=.int (if x then 1 else 0)
def AF (w:Nat) (f:Nat→Bool):D:=.tup ((List.range w).map fun j=>lit (f j))
def bD (h w:Nat) (f:Nat→Nat→Bool):D:=.tup ((List.range h).map fun i=>AF w (f i))
section
variable {H W:Nat} {h:HD} {f:Nat→Nat→Bool} {r:Nat→Bool}
theorem Ut {x:Bool}:Hc (lit x)=true:=by cases x<;>rfl
theorem Zds:Plain2 h (AF W r):=⟨trivial,fun x hx=>by
 simp only [AF,BQ,qaJ] at hx
 obtain ⟨j,_,rfl⟩:=hx
 exact trivial⟩
theorem Zdt:Plain3 h (bD H W f):=⟨trivial,fun x hx=>by
 simp only [bD,BQ,qaJ] at hx
 obtain ⟨j,_,rfl⟩:=hx
 exact Zds⟩
theorem Uu {ds:List D} (h1:1≤ds.length) (h2:ds.length≤8):DP (.tup ds)=true:=by simp [DP,h1,h2]
theorem Zdu (hw:1≤W∧W≤8):Ej (AF W r)=true:=by
 unfold Ej
 rw [CP]
 refine ⟨Uu (by simp;omega) (by simp;omega),qaZ.mpr fun x hx=>?_⟩
 simp only [AF,BQ,qaJ] at hx
 obtain ⟨j,_,rfl⟩:=hx
 exact Ut
theorem Uv:GD (AF W r)=W:=by simp [GD,AF,BQ]
theorem Zdv (hh:1≤H∧H≤8) (hw:1≤W∧W≤8):Hd (bD H W f)=true:=by
 unfold Hd
 rw [CP,CP]
 refine ⟨⟨Uu (by simp;omega) (by simp;omega),qaZ.mpr fun x hx=>?_⟩,qaZ.mpr fun x hx=>?_⟩
 ·simp only [bD,BQ,qaJ] at hx
  obtain ⟨j,_,rfl⟩:=hx
  exact Zdu hw
 ·simp only [bD,BQ,qaJ] at hx ⊢
  obtain ⟨j,_,rfl⟩:=hx
  have:((List.range H).map fun i=>AF W (f i)).getD 0 .non=AF W (f 0):=by
   rw [Em,DG,List.getElem?_range (by omega)];rfl
  rw [this,Uv,Uv]
  simp
theorem M0 (hh:1≤H∧H≤8) (hw:1≤W∧W≤8):Pu (Bv [bD H W f] h) h .non:=Zdr Zdt (Zdv hh hw)
end
section
variable {h:HD}
variable {H W:Nat} {f:Nat→Nat→Bool} {r:Nat→Bool}
theorem Uw:BK (bD H W f) h=.ok (.int (H:Nat)) h:=by simp [bD]
theorem Zdw:BK (AF W r) h=.ok (.int (W:Nat)) h:=by simp [AF]
theorem Zdx (hk:1≤H):AE (bD H W f) (.int 0) h=.ok (AF W (f 0)) h:=Of (by omega)
def Ziv (h:HD) (H W:Nat) (x:D):Prop:=Plain2 h x∧(Ej x=false∨(1<H∧GD x≠W))
def Ziw (H W:Nat) (f:Nat→Nat→Bool) (A:Nat) (x:D):D:=.tup (((List.range H).map fun i=>AF W (f i)).take A++[x]++((List.range H).map fun i=>AF W (f i)).drop (A+1))
def NoB (h:HD) (d:D):Prop:=Plain3 h d∧Hd d=false
theorem NoB.sm {h':HD} {d:D} (n:NoB h d) (s:Sm h h'):NoB h' d:=⟨n.1.sm s,n.2⟩
end
theorem Plain.smx {b:Nat} {h h':HD} {d:D} (p:Plain h d) (s:Smx b h h') (x:BoxAt h' b):Plain h' d:=by
 cases d with
 |loc l=>
  obtain ⟨ds,e⟩:=p
  by_cases hl:l=b
  ·obtain ⟨n,e'⟩:=x
   exact ⟨_,hl ▸ e'⟩
  ·exact ⟨ds,s _ _ hl e⟩
 |_=>exact p
theorem Plain2.smx {b:Nat} {h h':HD} {d:D} (p:Plain2 h d) (s:Smx b h h') (x:BoxAt h' b):Plain2 h' d:=⟨p.1.smx s x,fun y hy=>(p.2 y hy).smx s x⟩
theorem Plain3.smx {b:Nat} {h h':HD} {d:D} (p:Plain3 h d) (s:Smx b h h') (x:BoxAt h' b):Plain3 h' d:=⟨p.1.smx s x,fun y hy=>(p.2 y hy).smx s x⟩
theorem NoB.smx {b:Nat} {h h':HD} {d:D} (n:NoB h d) (s:Smx b h h') (x:BoxAt h' b):NoB h' d:=⟨n.1.smx s x,n.2⟩
def TabAt (h:HD):Prop:=True
theorem TabAt.sm {h h':HD} (t:TabAt h) (s:Sm h h'):TabAt h':=trivial
theorem TabAt.smx {b:Nat} {h h':HD} (t:TabAt h) (s:Smx b h h') (hb:True):TabAt h':=trivial
theorem P7 {b:Nat} {m:Int} {h:HD} {Q:D→HD→Prop} (hx:BoxAt h b) (hb:True) (ht:TabAt h) (h1:0<m) (h2:m≤1000) (q:∀(d:Nat) h',(d:Int)<m→BoxAt h' b→TabAt h'→Smx b h h'→Q (.int (d:Nat)) h'):Wp (A0 [.loc b,.int m] h) Q:=
 GC hx (by omega) (by omega) fun d h' d0 d1 x s=>by
  obtain ⟨k,rfl⟩:∃k:Nat,d=(k:Int):=⟨d.toNat,by omega⟩
  exact q k h' (by omega) x (ht.smx s hb) s
theorem BoxAt.lt {b:Nat} {h:HD} (x:BoxAt h b):b<h.length:=let ⟨_,e⟩:=x;(qa8.mp e).1
@[simp] theorem Zix {ρ:Ai} {a b:D} {i j:Nat}:Fe [i,j] (.tup [a,b]) ρ=some ((ρ.set i (some a)).set j (some b)):=id rfl
theorem P8 {xs ys:List D} {h:HD} (hz:xs.length+ys.length≤1000):AV (.tup xs) (.tup ys) h=.ok (.tup (xs++ys)) h:=by
 simp only [AV]
 rw [if_pos (by unfold sizeLine;omega)]
theorem KO {P:D→Prop}:∀d∈([]:List D),P d:=fun d hd=>by cases hd
theorem all_cons {P:D→Prop} {a:D} {l:List D} (h:P a) (t:∀d∈l,P d):∀d∈a::l,P d:=fun d hd=>by
 rcases qa3.mp hd with rfl |hd
 ·exact h
 ·exact t d hd
theorem Zdy (P:D→Prop) {l o:Nat} {ds:List D} {h:HD} (e:h[l]?=some (.lst ds)) (ho:o<ds.length) (hp:∀d∈ds,P d):∃y,AE (.loc l) (.int (o:Nat)) h=.ok y h∧P y:=
 ⟨ds[o],Ko e (Bh ho),hp _ (JT ho)⟩
theorem Zdz {h:HD} {d:D} (p:Plain h d) (e:BQ d=[]):Plain3 h d:=⟨p,fun x hx=>by rw [e] at hx;cases hx⟩
theorem Smx.over {a b:Nat} {h h1 h2:HD} (s:Smx b h h1) (s2:Smx a h1 h2) (hl:h.length≤a):Smx b h h2:=fun l c n e=>s2 l c (by have:=(qa8.mp e).1;omega) (s l c n e)
theorem Smx.put {a b:Nat} {c:Cell} {h h1:HD} (s:Smx b h h1) (hl:h.length≤a):Smx b h (h1.set a c):=fun l x n e=>by
 rw [CI (by have:=(qa8.mp e).1;omega)]
 exact s l x n e
theorem Smx.new {b:Nat} {c:Cell} {h h1:HD} (s:Smx b h h1):Smx b h (h1++[c]):=s.trans (IX (.app _ _))
theorem Smx.len {b:Nat} {h h':HD} (s:Smx b h h') (hb:b<h'.length):h.length≤h'.length:=by
 cases e:h.length with
 |zero=>exact Ep _
 |succ n=>
  have hn:n<h.length:=by omega
  by_cases hz:n=b
  ·omega
  ·have:=s n h[n] hz (Bh hn)
   have:=(qa8.mp this).1
   omega
inductive Ux (b:Nat) (h1:HD) (xs:List Nat) (ρ:Ai) (h':HD):Prop where
 |mk (N M:Int) (x:Option D) (f0:ρ=[some (.loc b),some (.int N),some (.int M),x]) (f1:h'=h1):Ux b h1 xs ρ h'
theorem Uy {b:Nat} {h:HD} {Q:D→HD→Prop} (hx:BoxAt h b) (q:∀l h',BoxAt h' b→BoxAt h' l→l≠b→h.length≤l→Smx b h h'→Q (.loc l) h'):Wp (CZ [.loc b] h) Q:=by
 change Wp (Ao 4 (Pt A0) [.loc b] h) _
 refine Eq.mpr (Ba) ?_
 simp
 refine GC hx (by decide) (by decide) fun d h1 d0 d1 x1 s1=>?_
 refine EJ (src:=[]) (xs:=List.range 24) (fun i=>.int ((i:Nat):Int)) (Ux b h1) ?_ (fun ys ρ h' _=>B2) ?_ ?_
 ·simp [Ul]
  exact ⟨_,_,_,rfl,rfl⟩
 ·rintro x xs ρ h' ⟨N,M,y,rfl,rfl⟩
  refine ⟨_,rfl,?_⟩
  simp
  rw [Md (by decide) (by decide)]
  simp
  rw [FN (by decide)]
  simp
  rw [Md (by decide) (by decide)]
  simp [CA]
  exact ⟨_,_,_,rfl,rfl⟩
 ·rintro ρ h' ⟨N,M,y,rfl,rfl⟩
  simp
  refine Dz (by simp) fun l h2 s e el _=>?_
  exact q l h2 (x1.sm s) ⟨_,e⟩ (by have:=x1.lt;omega) (by have:=s1.len x1.lt;omega) (s1.trans (IX s))
theorem ZdA {W:Nat} {rows:List (Nat→Bool)} {H:Nat} (e:rows.length=H):D.tup (rows.map (AF W))=bD H W fun i=>rows.getD i fun _=>false:=by
 unfold bD
 congr 1
 apply Lw
 ·simp [e]
 ·intro i h1 h2
  simp at h1 h2
  simp [Em,Bh h1]
inductive Uz (b H W:Nat) (way dense:Int) (l2 l3:Nat) (h:HD) (xs:List Nat) (ρ:Ai) (h':HD):Prop where
 |mk (x:Option D) (rows:List (Nat→Bool)) (f0:ρ=[some (.loc b),some (.int (H:Nat)),some (.int (W:Nat)),some (.int way),some (.loc l2),some (.int dense),some (.loc l3),x]) (f1:BoxAt h' b) (f2:BoxAt h' l2) (f3:h'[l3]?=some (.lst (rows.map (AF W)))) (f4:rows.length+xs.length=H) (f5:Smx b h h'):Uz b H W way dense l2 l3 h xs ρ h'
inductive UA (b W l2 l3:Nat) (rows:List (Nat→Bool)) (h h':HD):Prop where
 |mk (f1:BoxAt h' b) (f2:BoxAt h' l2) (f3:h'[l3]?=some (.lst (rows.map (AF W)))) (f4:Smx b h h'):UA b W l2 l3 rows h h'
theorem ZdB {b H W:Nat} {h:HD} {Q:D→HD→Prop} (hx:BoxAt h b) (hh:1≤H∧H≤8) (hw:1≤W∧W≤8) (q:∀f h',BoxAt h' b→Smx b h h'→Q (bD H W f) h'):Wp (Fm [.loc b,.int (H:Nat),.int (W:Nat)] h) Q:=by
 change Wp (Ao 8 (Px A0 CZ) [.loc b,.int (H:Nat),.int (W:Nat)] h) _
 refine Eq.mpr (Ba) ?_
 simp [-An]
 refine GC hx (by decide) (by decide) fun way h1 d0 d1 x1 z1=>?_
 simp [-An,An (g:=Aj (AD 4 _) _)]
 refine Uy x1 fun l2 h2 x2 y2 n2 k2 z2=>?_
 have kl2:h.length≤l2:=by have:=z1.len x1.lt;omega
 refine Eq.mpr (An) ?_
 simp [-An]
 refine Dz (by simp) fun l h3 s3 e3 el3 _=>?_
 obtain ⟨dense,ed⟩:∃dense:Int,AE (.loc l) (.int way) h3=.ok (.int dense) h3:=by
  obtain ⟨w,rfl⟩:∃w:Nat,way=(w:Int):=⟨way.toNat,by omega⟩
  obtain ⟨y,ey,z,rfl⟩:=Zdy (fun y=>∃i,y=.int i) (o:=w) e3 (by simp;omega) <| all_cons ⟨_,rfl⟩ <| all_cons ⟨_,rfl⟩ <| all_cons ⟨_,rfl⟩ <| all_cons ⟨_,rfl⟩ <| all_cons ⟨_,rfl⟩ KO
  exact ⟨z,ey⟩
 refine Ay (ed) ?_
 rw [AW]
 refine Eq.mpr (An) ?_
 simp [-An]
 refine Dz (by simp) fun l3 h4 s4 e4 el4 _=>?_
 have x4:BoxAt h4 b:=(x2.sm s3).sm s4
 have y4:BoxAt h4 l2:=(y2.sm s3).sm s4
 have z4:Smx b h h4:=((z1.trans z2).trans (IX s3)).trans (IX s4)
 have kl3:h.length≤l3:=by have:=(z1.trans z2).len x2.lt;have:=s3.len;omega
 have n3:l3≠b:=by
  obtain ⟨n,e⟩:=x2.sm s3
  have:=(qa8.mp e).1
  omega
 have n4:l3≠l2:=by
  obtain ⟨n,e⟩:=y2.sm s3
  have:=(qa8.mp e).1
  omega
 refine Eq.mpr (An) ?_
 simp [-An]
 refine EJ (src:=[]) (xs:=List.range H) (fun i=>.int ((i:Nat):Int)) (Uz b H W way dense l2 l3 h) ?_ (fun ys ρ h' _=>B2) ?_ ?_
 ·simp [EI (show H≤1000 by omega)]
  exact ⟨_,[],rfl,x4,y4,e4,by simp,z4⟩
 ·rintro x xs ρ h' ⟨y,rows,rfl,x5,y5,e5,hl,z5⟩
  refine ⟨_,rfl,?_⟩
  simp [Km e5]
  refine Sg (src:=[]) (xs:=List.range W) (fun i=>.int ((i:Nat):Int)) (UA b W l2 l3 rows h) (fun _ b=>b=true) (fun i d=>∃r:Bool,d=lit r) (fun i=>[some (.int ((i:Nat):Int)),some (.loc l2),some (.int dense)]) ?_ (fun _ _=>B2) (fun h c x=>by obtain ⟨a1,a2,a3,a4⟩:=x;exact ⟨a1.new,a2.new,Sm.app _ _ _ _ a3,a4.new⟩) List.nodup_range (sz hw.2) (fun x _=>rfl) ?_ ?_
  ·simp [EI (show W≤1000 by omega)]
   exact ⟨x5,y5,e5,z5⟩
  ·intro x hx h i
   simp
   obtain ⟨a1,a2,a3,a4⟩:=i
   refine GC a2 (by decide) (by decide) fun d h1 d0 d1 x1 s1=>?_
   simp only [AW,R6,R5,YN,Gw,R7,Sb,YO]
   exact ⟨⟨a1.smx s1 (Ne.symm n2),x1,s1 _ _ n4 a3,a4.over s1 kl2⟩,by cases decide (d<dense)<;>simp [lit]⟩
  ·intro h6 g e x6 hr tr
   obtain ⟨x61,x62,x63,x64⟩:=x6
   have hr':∃r:Nat→Bool,∀x∈List.range W,e x=lit (r x):=by
    refine ⟨fun x=>if h:x∈List.range W then (hr x h (tr x h)).choose else false,fun x hx=>?_⟩
    simp only [dif_pos hx]
    exact (hr x hx (tr x hx)).choose_spec
   obtain ⟨r,er⟩:=hr'
   have ef:(List.range W).filter g=List.range W:=qcH.mpr tr
   have em:D.tup (((List.range W).filter g).map e)=AF W r:=by
    rw [ef];unfold AF;congr 1;exact CN er
   rw [em]
   simp [Oe x63 (show (rows.map (AF W)).length<sizeLine by simp;unfold sizeLine;omega),CA]
   have hl3:l3<h6.length:=(qa8.mp x63).1
   refine ⟨_,rows++[r],rfl,?_,?_,?_,?_,x64.put kl3⟩
   ·obtain ⟨n,e⟩:=x61
    exact ⟨n,by rw [CI n3];exact e⟩
   ·obtain ⟨n,e⟩:=x62
    exact ⟨n,by rw [CI n4];exact e⟩
   ·rw [D4 hl3]
    simp
   ·simp at hl ⊢
    omega
 ·rintro ρ h' ⟨y,rows,rfl,x5,y5,e5,hl,z5⟩
  simp at hl
  simp
  by_cases h3:way=3
  ·simp [h3]
   obtain ⟨r0,rest,rfl⟩:∃r0 rest,rows=r0::rest:=by
    cases rows with
    |nil=>simp at hl;omega
    |cons a r=>exact ⟨a,r,rfl⟩
   rw [show (0:Int)=((0:Nat):Int) from rfl]
   refine Ay (Ko e5 (k:=0) (a:=AF W r0) rfl) ?_
   simp
   refine Dz (by simp) fun l5 h5 s5 e6 _ _=>?_
   refine Ay (Zaa) ?_
   refine Ay (Zx e6 (by omega)) ?_
   refine Dz (by simp;unfold sizeLine;omega) fun l6 h6 s6 e7 _ _=>?_
   simp [Od e7]
   have:D.tup (List.replicate H (AF W r0))=bD H W fun _=>r0:=by
    unfold bD
    congr 1
    apply Lw
    ·simp
    ·intro i h1 h2;simp
   rw [this]
   exact q _ _ ((x5.sm s5).sm s6) ((z5.trans (IX s5)).trans (IX s6))
  ·simp [h3,Od e5]
   rw [ZdA hl]
   exact q _ _ x5 z5
theorem P9 {i:Int} {h:HD}:Ct [.int i] h=.ok (.bl true) h:=rfl
def Ek (n:Nat):Int→List D→Bool
 |_,[]=>true
 |last,.int i::ds=>decide (last<i∧i<(n:Int))&&Ek n i ds
 |_,_::_=>false
def El (n:Nat) (d:D):Bool:=match d with
 |.tup ds=>Ek n (-1) ds
 |_=>false
theorem Qa {n:Nat} {last:Int} {x:D} {xs:List D} (h:Fv x=false):Ek n last (x::xs)=false:=by
 cases x<;>first |rfl |(cases h)
inductive UB (ds:List D) (n:Nat) (h:HD) (xs:List D) (ρ:Ai) (h':HD):Prop where
 |mk (last:Int) (x:Option D) (f0:ρ=[some (.tup ds),some (.int (n:Nat)),some (.int last),x]) (f1:h'=h) (f2:Ek n last xs=Ek n (-1) ds) (f3:∀y∈xs,Plain h y):UB ds n h xs ρ h'
theorem UC {d:D} {n:Nat} {h:HD} (p:Plain2 h d):Pu (BX [d,.int (n:Nat)] h) h (.bl (El n d)):=by
 change Wp (Ao 4 (Pq Ct) [d,.int (n:Nat)] h) _
 refine Eq.mpr Ba ?_
 cases hT:Fw d with
 |true=>
  obtain ⟨ds,rfl⟩:=JL hT
  simp
  refine EJ (src:=[]) (xs:=ds) (fun x=>x) (UB ds n h) ?_ (fun ys ρ h' _=>B2) ?_ ?_
  ·simp
   exact ⟨-1,_,rfl,rfl,rfl,p.2⟩
  ·rintro x xs ρ h' ⟨last,y,rfl,rfl,e,pl⟩
   refine ⟨_,rfl,?_⟩
   have px:=pl x AZ
   cases hx:Fv x with
   |false=>
    simp [P5 px,hx,CA,Sm.refl]
    rw [Qa hx] at e
    simp [El,←e]
   |true=>
    obtain ⟨i,rfl⟩:=IY hx
    by_cases h1:last<i
    ·by_cases h2:i<(n:Int)
     ·simp [P9,h1,h2,AB,CA]
      exact ⟨i,_,rfl,rfl,by rw [←e];simp [Ek,h1,h2],fun y hy=>pl y (Bb _ hy)⟩
     ·simp [P9,h1,h2,AB,CA,Sm.refl]
      simp [El,←e,Ek,h1,h2]
    ·simp [P9,h1,AB,CA,Sm.refl]
     simp [El,←e,Ek,h1]
  ·rintro ρ h' ⟨last,y,rfl,rfl,e,_⟩
   simp [Sm.refl,El,←e,Ek]
 |false=>
  have e:El n d=false:=by cases d<;>first |rfl |cases hT
  simp [KN p.1,hT,e,Sm.refl]
def A1 (n:Nat) (p:Nat→Bool):D:=.tup (((List.range n).filter p).map fun i=>.int ((i:Nat):Int))
section
variable {n:Nat} {p:Nat→Bool} {h:HD}
theorem UD:∀{ks:List Nat} {last:Int},ks.Pairwise (·< ·)→(∀k∈ks,last<(k:Int)∧k<n)→Ek n last (ks.map fun i=>.int ((i:Nat):Int))=true
 |[],_,_,_=>rfl
 |k::ks,last,hp,hb=>by
  rw [List.pairwise_cons] at hp
  have h0:=hb k AZ
  rw [Br,Ek,UD hp.2 fun j hj=>⟨Int.ofNat_lt.mpr (hp.1 j hj),(hb j (Bb _ hj)).2⟩,decide_eq_true ⟨h0.1,Int.ofNat_lt.mpr h0.2⟩]
  rfl
theorem ZdC:El n (A1 n p)=true:=UD (List.Pairwise.filter _ qcQ) fun k hk=>⟨by omega,qb2.mp (qbO.mp hk).1⟩
theorem ZdD:Plain2 h (A1 n p):=⟨trivial,fun x hx=>by
 obtain ⟨k,_,rfl⟩:=qaJ.mp hx
 exact trivial⟩
theorem ZdE {k:Nat} (hk:k<n):((List.range n).filter p).contains k=p k:=by
 rw [qaS]
 simp [hk]
theorem M1 {neg:Bool} {k:Nat} (hk:k<n):E9 neg (.int (k:Nat)) (A1 n p) h=.ok (.bl (if neg then !p k else p k)) h:=by
 unfold A1
 rw [Sd,ZdE hk]
end
def EX (h w:Nat) (p q:Nat→Bool):D:=.tup [A1 h p,A1 w q]
def sw (f:Nat→Nat→Bool) (p q:Nat→Bool) (i j:Nat):Bool:=Bool.xor (f i j) (Bool.xor (p i) (q j))
theorem p_is_lot {n:Nat} {p:Nat→Bool} {h:HD}:Pu (BX [A1 n p,.int (n:Nat)] h) h (.bl true):=ZdC (n:=n) (p:=p) ▸ UC ZdD
section
variable {H W n:Nat} {h:HD} {f:Nat→Nat→Bool} {r p q p' q':Nat→Bool}
theorem ZdF (hh:1≤H∧H≤8) (hw:1≤W∧W≤8):Pu (F9 [bD H W f,EX H W p q] h) h (.bl true):=by
 change Wp (Ao 2 (PL Bv BX) [bD H W f,EX H W p q] h) _
 refine Eq.mpr (Ba) ?_
 simp
 refine (M0 hh hw).wp fun h1 s1=>?_
 simp [EX]
 simp [bD]
 refine p_is_lot.wp fun h2 s2=>?_
 simp
 refine Ay (Of (by omega)) ?_
 simp [AF]
 refine p_is_lot.wp fun h3 s3=>?_
 simp [(s1.trans s2).trans s3]
theorem ZdG (hh:1≤H∧H≤8) (hw:1≤W∧W≤8):Pu (Gc [bD H W f,EX H W p q] h) h .non:=by
 change Wp (Ao 2 (PX F9) [bD H W f,EX H W p q] h) _
 refine Eq.mpr (Ba) ?_
 simp
 refine (ZdF hh hw).wp fun h1 s1=>?_
 simp [s1]
theorem ZdH {b:Bool} (hw:W≤8):Pu (FU [AF W r,A1 W q,.bl b] h) h (AF W fun j=>Bool.xor (r j) (Bool.xor b (q j))):=by
 change Wp (Ao 3 Pe [AF W r,A1 W q,.bl b] h) _
 refine Eq.mpr (Ba) ?_
 simp
 refine Pu.wp (GZ (src:=[]) (xs:=List.range W) (φ:=fun j=>.tup [.int ((j:Nat):Int),lit (r j)]) (fun j=>lit (Bool.xor (r j) (Bool.xor b (q j)))) (fun j=>[some (.int ((j:Nat):Int)),some (lit (r j)),some (A1 W q),some (.bl b)]) ?_ (fun x _=>rfl) (fun x hx h' s'=>?_) (sz hw)) fun h2 s2=>?_
 ·simp [By,AF,Mq,Sm.refl,Bq]
 ·simp [Pu,M1 (show x<W by simpa using hx)]
  cases r x<;>cases b<;>cases q x<;>simp [lit,Sm.refl]
 ·exact ⟨rfl,s2⟩
theorem ZdI (hh:1≤H∧H≤8) (hw:1≤W∧W≤8):Pu (Ft [bD H W f,EX H W p q] h) h (bD H W (sw f p q)):=by
 change Wp (Ao 4 (PZ Gc FU) [bD H W f,EX H W p q] h) _
 refine Eq.mpr (Ba) ?_
 simp
 refine (ZdG hh hw).wp fun h1 s1=>?_
 simp [EX]
 refine Pu.wp (GZ (src:=[]) (xs:=List.range H) (φ:=fun i=>.tup [.int ((i:Nat):Int),AF W (f i)]) (fun i=>AF W fun j=>Bool.xor (f i j) (Bool.xor (p i) (q j))) (fun i=>[some (.int ((i:Nat):Int)),some (AF W (f i)),some (A1 W q),some (A1 H p)]) ?_ (fun x _=>rfl) (fun x hx h' s'=>?_) (sz hh.2)) fun h2 s2=>?_
 ·simp [By,bD,Mq,Sm.refl,Bq]
 ·simp [Pu,M1 (show x<H by simpa using hx)]
  exact ZdH hw.2
 ·exact ⟨rfl,s1.trans s2⟩
end
theorem Qb {b n:Nat} {h:HD} {Q:D→HD→Prop} (hx:BoxAt h b) (hn:n≤8) (q:∀p h',BoxAt h' b→Smx b h h'→Q (A1 n p) h'):Wp (DN [.loc b,.int (n:Nat)] h) Q:=by
 change Wp (Ao 2 (Pv A0) [.loc b,.int (n:Nat)] h) _
 refine Eq.mpr (Ba) ?_
 simp
 refine Sg (src:=[]) (xs:=List.range n) (fun i=>.int ((i:Nat):Int)) (fun h'=>BoxAt h' b∧Smx b h h') (fun _ _=>True) (fun i d=>d=.int ((i:Nat):Int)) (fun i=>[some (.int ((i:Nat):Int)),some (.loc b)]) ?_ (fun _ _=>B2) (fun h c x=>⟨x.1.new,x.2.new⟩) List.nodup_range (sz hn) (fun x _=>rfl) ?_ ?_
 ·simp [EI (show n≤1000 by omega),hx,Smx.refl]
 ·intro x hx h i
  simp
  refine GC i.1 (by decide) (by decide) fun d h1 d0 d1 x1 s1=>?_
  simp [x1,i.2.trans s1]
 ·intro h' g e x1 hr _
  have:((List.range n).filter g).map e=((List.range n).filter g).map fun i=>D.int ((i:Nat):Int):=CN fun x hx=>hr x (qbO.mp hx).1 (qbO.mp hx).2
  rw [this]
  exact q g h' x1.1 x1.2
theorem UE {xs:List D} {k:Nat} {h:HD}:D3 (.tup xs) none (some (k:Int)) h=.ok (.tup (xs.take k)) h:=by
 simp only [D3]
 unfold LS.cutD
 rw [HT.sIx_nat,HT.sIx_none,List.drop_zero,Nat.sub_zero]
 congr 2
 rcases Nat.le_total k xs.length with z |z
 ·rw [Nat.min_eq_left z]
 ·rw [Nat.min_eq_right z,Np z,Np (AK _)]
theorem UF {xs:List D} {k:Nat} {h:HD}:D3 (.tup xs) (some (k:Int)) none h=.ok (.tup (xs.drop k)) h:=by
 simp only [D3]
 unfold LS.cutD
 rw [HT.sIx_nat,HT.sIx_none]
 congr 2
 rcases Nat.le_total k xs.length with z |z
 ·rw [Nat.min_eq_left z,Np (by simp)]
 ·rw [Nat.min_eq_right z,Nat.sub_self,List.take_zero,List.drop_eq_nil_of_le z]
theorem M3 {xs:List D} {h:HD}:D3 (.tup xs) none (some 2) h=.ok (.tup (xs.take 2)) h:=UE (k:=2)
theorem ZdJ {xs:List D} {h:HD}:D3 (.tup xs) none (some 1) h=.ok (.tup (xs.take 1)) h:=UE (k:=1)
theorem ZdK {xs:List D} {h:HD}:D3 (.tup xs) (some 1) none h=.ok (.tup (xs.drop 1)) h:=UF (k:=1)
def Plain4 (h:HD) (d:D):Prop:=Plain h d∧∀x∈BQ d,Plain3 h x
theorem Plain4.sm {h h':HD} {d:D} (p:Plain4 h d) (s:Sm h h'):Plain4 h' d:=⟨p.1.sm s,fun x hx=>(p.2 x hx).sm s⟩
theorem Plain4.smx {b:Nat} {h h':HD} {d:D} (p:Plain4 h d) (s:Smx b h h') (x:BoxAt h' b):Plain4 h' d:=⟨p.1.smx s x,fun y hy=>(p.2 y hy).smx s x⟩
def Gd (a b:Int):D→Bool
 |.int i=>decide (a≤i)&&decide (i≤b)
 |_=>false
theorem UG {a b:Int} {d:D} (h:Fv d=false):Gd a b d=false:=by cases d<;>first |rfl |cases h
theorem ZdL {d:D} {a b:Int} {h:HD} (p:Plain h d):Pu (BW [d,.int a,.int b] h) h (.bl (Gd a b d)):=by
 cases hw:Fv d with
 |true=>
  obtain ⟨i,rfl⟩:=IY hw
  exact p_is_between_int
 |false=>
  have e:=P5 p
  rw [hw] at e
  rw [UG hw]
  exact Uo e
def DQ (n:Nat):D→Bool
 |.tup [a,b,c]=>El n (.tup [a,b])&&Hc c
 |_=>false
def Ge:D→List Int
 |.tup (.int a::.int b::_)=>[a,b]
 |_=>[]
theorem UH {n:Nat} {ds:List D} (h:ds.length≠3):DQ n (.tup ds)=false:=by
 match ds,h with
 |[],_=>rfl
 |[_],_=>rfl
 |[_,_],_=>rfl
 |_::_::_::_::_,_=>rfl
theorem UI {n:Nat} {d:D} (h:Fw d=false):DQ n d=false:=by cases d<;>first |rfl |cases h
theorem UJ {ds:List D} (h:ds.length=3):∃a b c,ds=[a,b,c]:=by
 match ds,h with
 |[a,b,c],_=>exact ⟨a,b,c,rfl⟩
theorem ZdM {d:D} {n:Nat} {h:HD} (p:Plain2 h d):Pu (F6 [d,.int (n:Nat)] h) h (.bl (DQ n d)):=by
 change Wp (Ao 2 (PC BX Dc) [d,.int (n:Nat)] h) _
 refine Eq.mpr Ba ?_
 cases hT:Fw d with
 |false=>simp [KN p.1,hT,UI hT,Sm.refl]
 |true=>
  obtain ⟨ds,rfl⟩:=JL hT
  by_cases h3:ds.length=3
  ·obtain ⟨a,b,c,rfl⟩:=UJ h3
   have pa:=p.2 a (by simp [BQ])
   have pb:=p.2 b (by simp [BQ])
   have pc:=p.2 c (by simp [BQ])
   simp
   refine Ay M3 ?_
   simp
   refine (UC (d:=.tup [a,b]) ⟨trivial,all_cons pa (all_cons pb KO)⟩).wp fun h1 s1=>?_
   cases hl:El n (.tup [a,b]) with
   |false=>simp [DQ,hl,s1]
   |true=>
    simp
    refine Ay (show AE (.tup [a,b,c]) (.int 2) h1=.ok c h1 from rfl) ?_
    simp
    refine (Up (pc.sm s1)).wp fun h2 s2=>?_
    simp [DQ,hl,s1.trans s2]
  ·have e3:¬((ds.length:Int)=3):=by omega
   simp [e3,UH h3,Sm.refl]
inductive UK (n:Nat) (t:D):Prop where
 |mk (a b c:Int) (f0:t=.tup [.int a,.int b,.int c]) (f1:0≤a) (f2:a<b) (f3:b<n) (f4:0≤c) (f5:c≤1):UK n t
theorem UL {n:Nat} {t:D} (h:DQ n t=true):UK n t:=by
 cases hT:Fw t with
 |false=>rw [UI hT] at h;cases h
 |true=>
  obtain ⟨ds,rfl⟩:=JL hT
  by_cases h3:ds.length=3
  ·obtain ⟨a,b,c,rfl⟩:=UJ h3
   rw [DQ,CP] at h
   obtain ⟨h1,h2⟩:=h
   cases ha:Fv a with
   |false=>rw [show El n (.tup [a,b])=false from Qa ha] at h1;cases h1
   |true=>
    obtain ⟨i,rfl⟩:=IY ha
    unfold El Ek at h1
    rw [CP,decide_eq_true_eq] at h1
    obtain ⟨h3,h4⟩:=h1
    cases hb:Fv b with
    |false=>rw [Qa hb] at h4;cases h4
    |true=>
     obtain ⟨j,rfl⟩:=IY hb
     unfold Ek at h4
     rw [CP,decide_eq_true_eq] at h4
     have h5:=h4.1
     cases hc:Fv c with
     |false=>rw [show Hc c=false by cases c<;>first |rfl |cases hc] at h2;cases h2
     |true=>
      obtain ⟨k,rfl⟩:=IY hc
      have h6:(decide (0≤k)&&decide (k≤1))=true:=h2
      rw [CP,decide_eq_true_eq,decide_eq_true_eq] at h6
      exact ⟨i,j,k,rfl,by omega,h5.1,h5.2,h6.1,h6.2⟩
  ·rw [UH h3] at h;cases h
def He:List D→Bool
 |x::y::r=>HT.lexLt (Ge x) (Ge y)&&He (y::r)
 |_=>true
theorem UM:∀{ts:List D},((ts.zip (ts.drop 1)).all fun p=>HT.lexLt (Ge p.1) (Ge p.2))=He ts
 |[]=>rfl
 |[_]=>rfl
 |x::y::r=>by
  have ih:=UM (ts:=y::r)
  rw [List.drop_succ_cons,List.drop_zero] at ih ⊢
  rw [Lq,Ji,ih]
  rfl
def ZdN:D→Nat
 |.int m=>m.toNat
 |_=>0
def ZdO (a b:D):Bool:=match b with
 |.tup ts=>Gd 1 8 a&&(ts.all (DQ (ZdN a))&&He ts)
 |_=>false
def ZdP:List D→Bool
 |[a,b]=>ZdO a b
 |_=>false
def IZ (d:D):Bool:=match d with
 |.tup ds=>ZdP ds
 |_=>false
theorem ZdQ {ds:List D} (h:ds.length≠2):IZ (.tup ds)=false:=by
 match ds,h with
 |[],_=>rfl
 |[_],_=>rfl
 |_::_::_::_,_=>rfl
theorem ZdR {d:D} (h:Fw d=false):IZ d=false:=by cases d<;>first |rfl |cases h
theorem ZdS {a b:D} (h:Gd 1 8 a=false):IZ (.tup [a,b])=false:=by
 cases b with
 |tup ts=>
  show (Gd 1 8 a&&_)=false
  rw [h,LD]
 |_=>rfl
theorem ZdT {a b:D} (h:Fw b=false):IZ (.tup [a,b])=false:=by cases b<;>first |rfl |cases h
theorem two_of {ds:List D} (h:ds.length=2):∃a b,ds=[a,b]:=by
 match ds,h with
 |[a,b],_=>exact ⟨a,b,rfl⟩
theorem ZdU {a:D} (h:Gd 1 8 a=true):∃n:Nat,a=.int (n:Nat)∧1≤n∧n≤8:=by
 cases hw:Fv a with
 |false=>rw [UG hw] at h;cases h
 |true=>
  obtain ⟨m,rfl⟩:=IY hw
  have h6:(decide (1≤m)&&decide (m≤8))=true:=h
  rw [CP,decide_eq_true_eq,decide_eq_true_eq] at h6
  exact ⟨m.toNat,by congr 1;omega,by omega,by omega⟩
theorem ZdV {f:List Int→List Int→Bool} {a b c d:Int} {h:HD}:Mx f (.tup [.int a,.int b]) (.tup [.int c,.int d]) h=.ok (.bl (f [a,b] [c,d])) h:=rfl
theorem ZdW {d:D} {h:HD} (p:Plain4 h d) (hz:∀x∈BQ d,(BQ x).length≤1000):Pu (Fp [d] h) h (.bl (IZ d)):=by
 change Wp (Ao 3 (PF BW F6) [d] h) _
 refine Eq.mpr Ba ?_
 cases hT:Fw d with
 |false=>simp [KN p.1,hT,ZdR hT,Sm.refl]
 |true=>
  obtain ⟨ds,rfl⟩:=JL hT
  by_cases h2:ds.length=2
  ·obtain ⟨a,b,rfl⟩:=two_of h2
   have pa:=p.2 a (by simp [BQ])
   have pb:=p.2 b (by simp [BQ])
   simp
   refine (ZdL pa.1).wp fun h1 s1=>?_
   cases hb:Gd 1 8 a with
   |false=>simp [ZdS hb,s1]
   |true=>
    obtain ⟨n,rfl,n1,n2⟩:=ZdU hb
    cases hU:Fw b with
    |false=>simp [KN (pb.1.sm s1),hU,ZdT hU,s1]
    |true=>
     obtain ⟨ts,rfl⟩:=JL hU
     have lz:ts.length≤1000:=hz (.tup ts) (by simp [BQ])
     have lz':ts.length≤sizeLine:=by unfold sizeLine;omega
     have en:IZ (.tup [.int (n:Nat),.tup ts])=(ts.all (DQ n)&&He ts):=by
      show (Gd 1 8 (.int (n:Nat))&&(ts.all (DQ (((n:Nat):Int)).toNat)&&He ts))=_
      rw [hb,JR,Bool.true_and]
     simp
     refine Pu.wp (HH (src:=[]) (xs:=ts) (φ:=fun x=>x) (DQ n) (fun x=>[some x,some (.int (n:Nat))]) (by rw [List.map_id'];exact ⟨rfl,.refl _,fun h2 s2=>B2⟩) (fun x _=>rfl) (fun x hx h' s'=>?_) lz') fun h2 s2=>?_
     ·simp [Pu]
      exact ZdM ((pb.2 x hx).sm (s1.trans s'))
     cases ha:ts.all (DQ n) with
     |false=>simp [en,ha,s1.trans s2]
     |true=>
      simp
      refine Pu.wp (HH (src:=[]) (xs:=ts.zip (ts.drop 1)) (φ:=fun p=>.tup [p.1,p.2]) (fun p=>HT.lexLt (Ge p.1) (Ge p.2)) (fun p=>[some p.1,some p.2]) ?_ (fun x _=>rfl) (fun x hx h' s'=>?_) (by rw [JU];exact B8 (Nat.min_le_left _ _) lz')) fun h3 s3=>?_
      ·simp [By]
       refine Ay ZdK ?_
       simp [-List.drop_one]
       refine Ay (show FQ [.tup ts,.tup (ts.drop 1)] h2=.ok ((ts.zip (ts.drop 1)).map fun p=>.tup [p.1,p.2],[]) h2 from ?_) ?_
       ·show Out.ok (CB ts (ts.drop 1),[]) h2=_
        congr 2
        unfold CB
        rw [List.zip,Lx]
       ·exact ⟨by rw [List.drop_one],.refl _,fun h2 s2=>B2⟩
      ·have m:=Ly (show (x.1,x.2)∈ts.zip (ts.drop 1) from hx)
       obtain ⟨a1,b1,c1,e1,_⟩:=UL (qaZ.mp ha _ m.1)
       obtain ⟨a2,b2,c2,e2,_⟩:=UL (qaZ.mp ha _ (List.mem_of_mem_drop m.2))
       simp [Pu]
       rw [e1,e2]
       refine Ay M3 ?_
       simp
       refine Ay M3 ?_
       simp
       refine Ay ZdV ?_
       exact ⟨rfl,.refl _⟩
      ·rw [UM,en,ha,Bool.true_and]
       exact ⟨rfl,(s1.trans s2).trans s3⟩
  ·have e2:¬((ds.length:Int)=2):=by omega
   simp [e2,ZdQ h2,Sm.refl]
theorem ZdX {n:Nat} {i j:Int}:El n (.tup [.int i,.int j])=(decide (-1<i∧i<(n:Int))&&decide (i<j∧j<(n:Int))):=by
 show (decide (-1<i∧i<(n:Int))&&(decide (i<j∧j<(n:Int))&&true))=_
 rw [Bool.and_true]
abbrev Ak:=Nat×Nat×Bool
def AL (t:Ak):D:=.tup [.int ((t.1:Nat):Int),.int ((t.2.1:Nat):Int),lit t.2.2]
def AX (n:Nat) (L:List Ak):D:=.tup [.int (n:Nat),.tup (L.map AL)]
def I0 (s t:Ak):Prop:=s.1<t.1∨(s.1=t.1∧s.2.1<t.2.1)
structure NetOk (n:Nat) (L:List Ak):Prop where
 n1:1≤n
 n8:n≤8
 ok:∀t∈L,t.1<t.2.1∧t.2.1<n
 so:L.Pairwise I0
 le:L.length≤100
theorem ZdY {s t:Ak} (h:I0 s t):HT.lexLt (Ge (AL s)) (Ge (AL t))=true:=by
 show HT.lexLt [((s.1:Nat):Int),((s.2.1:Nat):Int)] [((t.1:Nat):Int),((t.2.1:Nat):Int)]=true
 rw [HT.lexLt_cons]
 rcases h with h |⟨h1,h2⟩
 ·rw [if_neg (by omega)]
  exact decide_eq_true (by omega)
 ·rw [if_pos (by omega),HT.lexLt_cons,if_neg (by omega)]
  exact decide_eq_true (by omega)
theorem UN:∀{L:List Ak},L.Pairwise I0→He (L.map AL)=true
 |[],_=>rfl
 |[_],_=>rfl
 |s::t::r,h=>by
  rw [List.pairwise_cons] at h
  show (HT.lexLt (Ge (AL s)) (Ge (AL t))&&He ((t::r).map AL))=true
  rw [ZdY (h.1 t AZ),UN h.2]
  rfl
theorem ZdZ {n:Nat} {t:Ak} (h:t.1<t.2.1∧t.2.1<n):DQ n (AL t)=true:=by
 show (El n (.tup [.int ((t.1:Nat):Int),.int ((t.2.1:Nat):Int)])&&Hc (lit t.2.2))=true
 rw [ZdX,Ut,decide_eq_true (by omega),decide_eq_true (by omega)]
 rfl
theorem Zd0 {n:Nat} {L:List Ak} (k:NetOk n L):IZ (AX n L)=true:=by
 show (Gd 1 8 (.int (n:Nat))&&((L.map AL).all (DQ (((n:Nat):Int)).toNat)&&He (L.map AL)))=true
 rw [UN k.so,JR]
 have e1:Gd 1 8 (.int (n:Nat))=true:=by
  have:=k.n1;have:=k.n8
  show (decide ((1:Int)≤(n:Int))&&decide ((n:Int)≤8))=true
  rw [decide_eq_true (by omega),decide_eq_true (by omega)]
  rfl
 have e2:(L.map AL).all (DQ n)=true:=by
  rw [qaZ]
  intro d hd
  obtain ⟨t,ht,rfl⟩:=qaJ.mp hd
  exact ZdZ (k.ok t ht)
 rw [e1,e2]
 rfl
theorem Zd1 {t:Ak} {h:HD}:Plain2 h (AL t):=⟨trivial,all_cons trivial (all_cons trivial (all_cons trivial KO))⟩
theorem Zd2 {L:List Ak} {h:HD}:Plain3 h (.tup (L.map AL)):=⟨trivial,fun x hx=>by
 obtain ⟨t,_,rfl⟩:=qaJ.mp hx
 exact Zd1⟩
theorem Zd3 {n:Nat} {L:List Ak} {h:HD}:Plain4 h (AX n L):=⟨trivial,all_cons (Zdz trivial rfl) (all_cons Zd2 KO)⟩
theorem Zd4 {n:Nat} {L:List Ak} (k:NetOk n L):∀x∈BQ (AX n L),(BQ x).length≤1000:=all_cons (Ep _) (all_cons (by show (L.map AL).length≤1000;rw [Cb];have:=k.le;omega) KO)
theorem Zd5 {n:Nat} {L:List Ak} {h:HD} (k:NetOk n L):Pu (Fp [AX n L] h) h (.bl true):=Zd0 k ▸ ZdW Zd3 (Zd4 k)
theorem Ja {n:Nat} {L:List Ak} {h:HD} (k:NetOk n L):Pu (A2 [AX n L] h) h .non:=by
 change Wp (Ao 1 (PJ Fp) [AX n L] h) _
 refine Eq.mpr Ba ?_
 simp
 refine (Zd5 k).wp fun h1 s1=>?_
 simp [s1]
def AM (p:Nat→Bool) (t:Ak):Ak:=(t.1,t.2.1,Bool.xor t.2.2 (Bool.xor (p t.1) (p t.2.1)))
theorem Sm.put {h h':HD} {l:Nat} {c:Cell} (s:Sm h h') (hl:h.length≤l):Sm h (h'.set l c):=fun k d ek=>by
 have:=(qa8.mp ek).1
 rw [CI (by omega)]
 exact s k d ek
theorem Zd6 {cs:List (Option Nat)} {it:MI} {sg:MG} {f:ME} {ρ:Ai} {h:HD} {src:Bm} {xs:List Nat} {Q:D→HD→Prop} (φ:Nat→D) (I:HD→Prop) (R:Nat→D→Prop) (ρ1:Nat→Ai) (hi:Wp (it ρ h) fun x h'=>x=(xs.map φ,src)∧I h') (hs:∀h,I h→Bq src (xs.map φ) h)
 (hnew:∀h c,I h→I (h++[c])) (hd:xs.Nodup) (hn:xs.length≤sizeLine) (hg:∀x∈xs,sg (φ x) (Cp cs ρ)=some (ρ1 x)) (ht:∀x∈xs,∀h,I h→Wp (f (ρ1 x) h) fun y h2=>I h2∧R x y)
 (q:∀l h2 h' (e:Nat→D),I h2→I h'→(∀x∈xs,R x (e x))→h'[l]?=some (.lst (xs.map e))→l=h2.length→Q (.loc l) h'):Wp (AR cs it sg A4 f ρ h) Q:=by
 unfold AR
 rw [AB]
 refine Wp.mono hi fun x h1 z5_=>?_
 obtain ⟨ex,i1⟩:=z5_
 subst ex
 rw [if_pos (by simpa using hn),AB]
 refine Wp.mono (Oh φ I (fun _ b=>b=true) R ρ1 hs xs h1 hd i1 hg fun x hx h i=>⟨rfl,ht x hx h i⟩) fun ys h2 z6_=>?_
 obtain ⟨i2,g,e,ey,hr,tr⟩:=z6_
 subst ey
 rw [qcH.mpr tr]
 refine Dz (by simpa using hn) fun l h3 s3 e3 el eh=>?_
 exact q l h2 h3 e i2 (by rw [eh];exact hnew _ _ i2) (fun x hx=>hr x hx (tr x hx)) e3 el
theorem UO {a n:Nat} {h:HD} (ha:a≤1000) (hn:n≤1000):Ki [.int (a:Int),.int (n:Int)] h=.ok ((List.range (n - a)).map fun k=>D.int ((a:Int)+((k:Nat):Int)),[]) h:=by
 have:((-(2^62):Int)≤(a:Int)∧(a:Int)<2^62)∧(-(2^62):Int)≤(n:Int)∧(n:Int)<2^62:=by omega
 unfold Ki
 simp only
 rw [if_pos this]
 have e:((n:Int) - (a:Int)).toNat=n - a:=by omega
 rw [e]
 simp [GW]
theorem KP {n k x:Nat} {xs:List Nat} (h:(List.range n).drop k=x::xs):x=k∧k<n∧xs=(List.range n).drop (k+1):=by
 have hk:k<n:=by
  have:=congrArg List.length h
  simp at this
  omega
 rw [Ll (by simpa using hk)] at h
 simp at h
 exact ⟨h.1.symm,hk,h.2.symm⟩
theorem M4 {n k:Nat} (hk:k≤n) (h:(List.range n).drop k=[]):k=n:=by
 have:=congrArg List.length h
 simp at this
 omega
structure TiesTo (n k j:Nat) (L:List Ak):Prop where
 ok:∀t∈L,t.1<t.2.1∧t.2.1<n∧(t.1<k∨(t.1=k∧t.2.1<j))
 so:L.Pairwise I0
 le:L.length≤8*k+j
theorem TiesTo.skip {n k j:Nat} {L:List Ak} (x:TiesTo n k j L):TiesTo n k (j+1) L:=⟨fun t ht=>by have:=x.ok t ht;omega,x.so,by have:=x.le;omega⟩
theorem TiesTo.add {n k j:Nat} {c:Bool} {L:List Ak} (x:TiesTo n k j L) (h1:k<j) (h2:j<n):TiesTo n k (j+1) (L++[(k,j,c)]):=by
 refine ⟨fun t ht=>?_,?_,?_⟩
 ·rcases qaH.mp ht with ht |ht
  ·have:=x.ok t ht;omega
  ·rw [qa7.mp ht]
   exact ⟨h1,h2,.inr ⟨rfl,JS _⟩⟩
 ·rw [List.pairwise_append]
  refine ⟨x.so,List.pairwise_singleton _ _,fun s hs t ht=>?_⟩
  rw [qa7.mp ht]
  have:=x.ok s hs
  unfold I0
  show s.1<k∨(s.1=k∧s.2.1<j)
  omega
 ·rw [D5]
  have:=x.le
  simp
  omega
theorem TiesTo.next {n k j:Nat} {L:List Ak} (x:TiesTo n k j L) (hj:j≤8):TiesTo n (k+1) 0 L:=⟨fun t ht=>by have:=x.ok t ht;omega,x.so,by have:=x.le;omega⟩
theorem TiesTo.up {n k j:Nat} {L:List Ak} (x:TiesTo n k 0 L):TiesTo n k j L:=⟨fun t ht=>by have:=x.ok t ht;omega,x.so,by have:=x.le;omega⟩
inductive NtS (b l2 l4 l5:Nat) (zs:List Int) (h:HD) (L:List Ak) (h':HD):Prop where
 |mk (f3:BoxAt h' b) (f4:BoxAt h' l2) (f5:h'[l4]?=some (.lst (zs.map D.int))) (f6:h'[l5]?=some (.lst (L.map AL))) (f7:Smx b h h'):NtS b l2 l4 l5 zs h L h'
inductive UP (b n l2 l4 l5:Nat) (way:Int) (zs:List Int) (h:HD) (xs:List Nat) (ρ:Ai) (h':HD):Prop where
 |mk (k:Nat) (L:List Ak) (d6 d7 d8:Option D) (f0:xs=(List.range n).drop k) (f1:k≤n) (f2:ρ=[some (.loc b),some (.int (n:Nat)),some (.int way),some (.loc l2),some (.loc l4),some (.loc l5),d6,d7,d8]) (f3:NtS b l2 l4 l5 zs h L h') (f4:TiesTo n k 0 L):UP b n l2 l4 l5 way zs h xs ρ h'
inductive UQ (b n l2 l4 l5:Nat) (way:Int) (zs:List Int) (h:HD) (k:Nat) (xs:List Nat) (ρ:Ai) (h':HD):Prop where
 |mk (m:Nat) (L:List Ak) (d7 d8:Option D) (f0:xs=(List.range (n - (k+1))).drop m) (f1:m≤n - (k+1)) (f2:ρ=[some (.loc b),some (.int (n:Nat)),some (.int way),some (.loc l2),some (.loc l4),some (.loc l5),some (.int (k:Nat)),d7,d8]) (f3:NtS b l2 l4 l5 zs h L h') (f4:TiesTo n k (k+1+m) L):UQ b n l2 l4 l5 way zs h k xs ρ h'
structure Ap (b l2 l4 l5:Nat) (h:HD):Prop where
 a1:l2≠b
 a2:l4≠b
 a3:l5≠b
 a4:l4≠l2
 a5:l5≠l2
 a6:l5≠l4
 k2:h.length≤l2
 k5:h.length≤l5
theorem NtS.take {b l2 l4 l5:Nat} {zs:List Int} {h h1 h2:HD} {L:List Ak} (ap:Ap b l2 l4 l5 h) (x:NtS b l2 l4 l5 zs h L h1) (y:BoxAt h2 l2) (s:Smx l2 h1 h2):NtS b l2 l4 l5 zs h L h2:=by
 obtain ⟨a1,a2,a3,a4,a5⟩:=x
 exact ⟨a1.smx s (Ne.symm ap.a1),y,s _ _ ap.a4 a3,s _ _ ap.a5 a4,a5.over s ap.k2⟩
theorem NtS.put {b l2 l4 l5:Nat} {zs:List Int} {h h1:HD} {L:List Ak} {t:Ak} (ap:Ap b l2 l4 l5 h) (x:NtS b l2 l4 l5 zs h L h1):NtS b l2 l4 l5 zs h (L++[t]) (h1.set l5 (.lst (L.map AL++[AL t]))):=by
 obtain ⟨⟨n1,a1⟩,⟨n2,a2⟩,a3,a4,a5⟩:=x
 have lt:=(qa8.mp a4).1
 refine ⟨⟨n1,?_⟩,⟨n2,?_⟩,?_,?_,a5.put ap.k5⟩
 ·rw [CI ap.a3];exact a1
 ·rw [CI ap.a5];exact a2
 ·rw [CI ap.a6];exact a3
 ·rw [D4 lt,DR];rfl
theorem Zd7 {z:Int}:∃c:Bool,D.int (z % 2)=lit c:=by
 rcases Int.emod_two_eq z with e |e
 ·exact ⟨false,by rw [e];rfl⟩
 ·exact ⟨true,by rw [e];rfl⟩
theorem Zd8 {z:Int} (h1:0≤z) (h2:z<2):∃c:Bool,D.int z=lit c:=by
 rcases (show z=0∨z=1 by omega) with e |e
 ·exact ⟨false,by rw [e];rfl⟩
 ·exact ⟨true,by rw [e];rfl⟩
theorem Zd9 {b n l2 l4 l5 k j:Nat} {way:Int} {zs:List Int} {h h':HD} {L:List Ak} {d8:Option D} {Q:Fl×Ai→HD→Prop} (ap:Ap b l2 l4 l5 h) (x:NtS b l2 l4 l5 zs h L h') (t:TiesTo n k j L) (hz:zs.length=n) (hn:n≤8) (hk:k<j) (hj:j<n)
 (q:∀L' c h2,NtS b l2 l4 l5 zs h L' h2→TiesTo n k (j+1) L'→Q (.nx,[some (.loc b),some (.int (n:Nat)),some (.int way),some (.loc l2),some (.loc l4),some (.loc l5),some (.int (k:Nat)),some (.int ((j:Nat):Int)),some (lit c)]) h2):
 Wp ((Aj (AD 8 (Af A0 (Ab (Aa 3) (Ab (mC (.int 2)) (Ae))))) (Aj (A9 (AO (Ah Cq (Aa 2) (mC (.int 0)))) (AD 8 (Ah Dw (Ah AV (Ah AE (Aa 4) (Aa 6)) (Ah AE (Aa 4) (Aa 7))) (mC (.int 2)))) (Be)) (A9 (Gm (AO (Ah J7 (Af A0 (Ab (Aa 3) (Ab (mC (.int 3)) (Ae)))) (mC (.int 0)))) (Ce (AO (Ah BA (Aa 2) (mC (.int 1)))) (AO (FD GS Hw (Aa 6) (mC (.int 3)) (Aa 7))))) (Cv (HG (Aa 5) (BO (Ab (Aa 6) (Ab (Aa 7) (Ab (Aa 8) (Ae))))))) (Be)))) [some (.loc b),some (.int (n:Nat)),some (.int way),some (.loc l2),some (.loc l4),some (.loc l5),some (.int (k:Nat)),some (.int ((j:Nat):Int)),d8] h') Q:=by
 simp [-An]
 have y2:BoxAt h' l2:=by cases x;assumption
 refine GC y2 (by decide) (by decide) fun z h1 z0 z1 x1 s1=>?_
 have X1:=x.take ap x1 s1
 refine Eq.mpr An ?_
 refine Eq.mpr BZ ?_
 have two:∀(Q:Fl×Ai→HD→Prop),(∀c:Bool,Q (.nx,[some (.loc b),some (.int (n:Nat)),some (.int way),some (.loc l2),some (.loc l4),some (.loc l5),some (.int (k:Nat)),some (.int ((j:Nat):Int)),some (lit c)]) h1)→
  Wp ((A9 (AO (Ah Cq (Aa 2) (mC (.int 0)))) (AD 8 (Ah Dw (Ah AV (Ah AE (Aa 4) (Aa 6)) (Ah AE (Aa 4) (Aa 7))) (mC (.int 2)))) (Be)) [some (.loc b),some (.int (n:Nat)),some (.int way),some (.loc l2),some (.loc l4),some (.loc l5),some (.int (k:Nat)),some (.int ((j:Nat):Int)),some (.int z)] h1) Q:=by
  intro Q hQ
  by_cases hw:way=0
  ·subst hw
   have e4:h1[l4]?=some (.lst (zs.map D.int)):=by cases X1;assumption
   have i1:AE (.loc l4) (.int (k:Nat)) h1=.ok (.int (zs[k]'(by omega))) h1:=Ko e4 (by rw [DG,Bh (by omega)];rfl)
   have i2:AE (.loc l4) (.int ((j:Nat):Int)) h1=.ok (.int (zs[j]'(by omega))) h1:=Ko e4 (by rw [DG,Bh (by omega)];rfl)
   simp [i1,i2]
   refine Ay (FN (by decide)) ?_
   obtain ⟨c,ec⟩:=Zd7 (z:=zs[k]'(by omega)+zs[j]'(by omega))
   simp [ec]
   exact hQ c
  ·obtain ⟨c,ec⟩:=Zd8 z0 z1
   simp [hw,ec]
   exact hQ c
 refine two _ fun c=>?_
 refine Eq.mpr An ?_
 simp
 refine GC (by cases X1;assumption) (by decide) (by decide) fun w h2 w0 w1 x2 s2=>?_
 have X2:=X1.take ap x2 s2
 have e5:h2[l5]?=some (.lst (L.map AL)):=by cases X2;assumption
 have ll:(L.map AL).length<sizeLine:=by
  have:=t.le
  rw [Cb]
  unfold sizeLine
  omega
 have app:=q (L++[(k,j,c)]) c _ (X2.put ap) (t.add hk hj)
 have skp:=q L c h2 X2 t.skip
 have et:D.tup [.int (k:Nat),.int ((j:Nat):Int),lit c]=AL (k,j,c):=rfl
 by_cases hw:0<w
 ·by_cases hy:way=1
  ·by_cases h3:(k:Int)<3
   ·by_cases h4:(3:Int)≤(j:Int)
    ·simp [hw,hy,h3,h4,AB,Km e5]
     rw [et]
     refine Ay (Oe e5 ll) ?_
     simp
     rw [hy] at app
     exact app
    ·simp [hw,hy,h3,h4,AB]
     rw [hy] at skp
     exact skp
   ·simp [hw,hy,h3,AB]
    rw [hy] at skp
    exact skp
  ·simp [hw,hy,AB,Km e5]
   rw [et]
   refine Ay (Oe e5 ll) ?_
   simp
   exact app
 ·simp [hw]
  exact skp
inductive UR (b l2:Nat) (h h':HD):Prop where
 |mk (f1:BoxAt h' b) (f2:BoxAt h' l2) (f3:Smx b h h'):UR b l2 h h'
theorem Zea {b:Nat} {h:HD} {Q:D→HD→Prop} (hx:BoxAt h b) (hb:True) (ht:TabAt h) (q:∀n L h',NetOk n L→BoxAt h' b→TabAt h'→Smx b h h'→Q (AX n L) h'):Wp (Fo [.loc b] h) Q:=by
 change Wp (Ao 9 (Pz A0 CZ) [.loc b] h) _
 refine Eq.mpr Ba ?_
 simp [-An]
 refine P7 hx hb ht (by decide) (by decide) fun d1 h1 l1 x1 t1 s1=>?_
 try simp [-An]
 refine GC x1 (by decide) (by decide) fun way h2 w0 w1 x2 s2=>?_
 try simp [-An]
 obtain ⟨n,en,hn⟩:∃n:Nat,(1:Int)+(d1:Int)=(n:Int)∧1≤n∧n≤8:=⟨1+d1,by omega,by omega,by omega⟩
 rw [en]
 refine Eq.mpr An ?_
 simp [-An]
 refine Uy x2 fun l2 h3 x3 y3 n2 k2 z3=>?_
 have z03:=(s1.trans s2).trans z3
 have kl2:h.length≤l2:=by have:=(s1.trans s2).len x2.lt;omega
 refine Eq.mpr An ?_
 refine Eq.mpr BZ ?_
 refine Eq.mpr Ob ?_
 refine Zd6 (src:=[]) (xs:=List.range n) (fun i=>.int ((i:Nat):Int)) (UR b l2 h) (fun _ d=>∃z:Int,d=.int z) (fun i=>[some (.int ((i:Nat):Int)),some (.loc l2)]) ?_ (fun _ _=>B2) (fun h c x=>by obtain ⟨a1,a2,a3⟩:=x;exact ⟨a1.new,a2.new,a3.new⟩) List.nodup_range (sz hn.2) (fun x _=>rfl) ?_ fun l4 h4 h5 e i4 i5 hr e4 el4=>?_
 ·simp
  refine Ay (EI (by omega)) ?_
  exact ⟨rfl,x3,y3,z03⟩
 ·intro x hx h' i
  obtain ⟨a1,a2,a3⟩:=i
  simp
  refine GC a2 (by decide) (by decide) fun d h6 d0 d1 x6 s6=>?_
  exact ⟨⟨a1.smx s6 (Ne.symm n2),x6,a3.over s6 kl2⟩,d,rfl⟩
 obtain ⟨zs,lz,ez⟩:∃zs:List Int,zs.length=n∧(List.range n).map e=zs.map D.int:=by
  have hr':∃r:Nat→Int,∀x∈List.range n,e x=.int (r x):=⟨fun x=>if h:x∈List.range n then (hr x h).choose else 0,fun x hx=>by simp only [dif_pos hx];exact (hr x hx).choose_spec⟩
  obtain ⟨r,er⟩:=hr'
  exact ⟨(List.range n).map r,by simp,by rw [BS];exact CN er⟩
 rw [ez] at e4
 obtain ⟨a41,a42,a43⟩:=i4
 obtain ⟨a51,a52,a53⟩:=i5
 have n42:l4≠l2:=by have:=a42.lt;omega
 have n4b:l4≠b:=by have:=a41.lt;omega
 refine Eq.mpr An ?_
 simp [-An]
 refine Dz (by simp) fun l5 h6 s6 e6 el5 _=>?_
 have n5b:l5≠b:=by have:=a51.lt;omega
 have n52:l5≠l2:=by have:=a52.lt;omega
 have n54:l5≠l4:=by have:=(qa8.mp e4).1;omega
 have ap:Ap b l2 l4 l5 h:=⟨n2,n4b,n5b,n42,n52,n54,kl2,by have:=a53.len a51.lt;omega⟩
 refine Eq.mpr An ?_
 refine Eq.mpr BZ ?_
 refine EJ (src:=[]) (xs:=List.range n) (fun i=>.int ((i:Nat):Int)) (UP b n l2 l4 l5 way zs h) ?_ (fun ys ρ h' _=>B2) ?_ ?_
 ·simp
  refine Ay (EI (by omega)) ?_
  exact ⟨rfl,0,[],_,_,_,by simp,by omega,rfl,⟨a51.sm s6,a52.sm s6,s6 _ _ e4,e6,a53.trans (IX s6)⟩,⟨(fun t ht=>nomatch ht),List.Pairwise.nil,Ep _⟩⟩
 ·rintro x xs ρ h' ⟨k,L,d6,d7,d8,ex,hk,rfl,st,ti⟩
  obtain ⟨rfl,hk',rfl⟩:=KP ex.symm
  refine ⟨_,rfl,?_⟩
  refine EJ (src:=[]) (xs:=List.range (n - (x+1))) (fun i=>.int (((x+1:Nat):Int)+((i:Nat):Int))) (UQ b n l2 l4 l5 way zs h x) ?_ (fun ys ρ h' _=>B2) ?_ ?_
  ·simp
   refine Ay (UO (a:=x+1) (by omega) (by omega)) ?_
   exact ⟨by simp,0,L,_,_,by simp,by omega,rfl,st,ti.up⟩
  ·rintro y ys ρ h2 ⟨m,L',d7,d8,ey,hm,rfl,Cy,ti2⟩
   obtain ⟨rfl,hm',rfl⟩:=KP ey.symm
   refine ⟨_,rfl,?_⟩
   have ej:((x+1:Nat):Int)+((y:Nat):Int)=((x+1+y:Nat):Int):=by omega
   simp only [List.set_cons_succ,List.set_cons_zero]
   rw [ej]
   refine Zd9 ap Cy ti2 lz hn.2 (by omega) (by omega) fun L2 c h3 JO ti3=>?_
   simp only [CA]
   exact ⟨y+1,L2,_,_,rfl,by omega,rfl,JO,by rw [←Nat.add_assoc];exact ti3⟩
  ·rintro ρ h2 ⟨m,L',d7,d8,ey,hm,rfl,Cy,ti2⟩
   simp only [CA]
   exact ⟨x+1,L',_,_,_,rfl,by omega,rfl,Cy,ti2.next (by omega)⟩
 ·rintro ρ h' ⟨k,L,d6,d7,d8,ex,hk,rfl,st,ti⟩
  have:=M4 hk ex.symm
  subst this
  obtain ⟨b1,b2,b3,b4,b5⟩:=st
  simp [Od b4]
  refine q k L h' ⟨hn.1,hn.2,fun t ht=>by have:=ti.ok t ht;omega,ti.so,by have:=ti.le;omega⟩ b1 (ht.smx b5 hb) b5
theorem KQ:∀{n:Nat} {l:List Nat},l.Nodup→(∀x∈l,x<n)→l.length≤n
 |0,l,_,h=>by
  cases l with
  |nil=>exact AK _
  |cons x l=>exact absurd (h x AZ) (by omega)
 |n+1,l,nd,h=>by
  by_cases z:n∈l
  ·have h1:=KQ (n:=n) (nd.erase n) fun x hx=>by
    have:=(List.Nodup.mem_erase_iff nd).mp hx
    have:=h x this.2
    omega
   rw [List.length_erase_of_mem z] at h1
   omega
  ·exact Nat.le_succ_of_le (KQ (n:=n) nd fun x hx=>by
    have:=h x hx
    have:x≠n:=fun e=>z (e ▸ hx)
    omega)
theorem Forest.len {n:Nat} {adj:Nat→Nat→Bool} {A:List Bu} (F:Forest n adj A):A.length≤n:=by
 have:=KQ (n:=n) F.ky fun x hx=>by
  obtain ⟨⟨e,p⟩,hm,rfl⟩:=qaJ.mp hx
  exact F.lt _ _ hm
 simpa using this
theorem Forest.plen {n:Nat} {adj:Nat→Nat→Bool} {A:List Bu} (F:Forest n adj A) {e:Nat} {p:List Nat} (h:(e,p)∈A):p.length≤n:=KQ (F.nd _ _ h) fun x hx=>by
 obtain ⟨q,h1,_⟩:=F.pf _ _ h x hx
 exact F.lt _ _ h1
def AH (p:List Nat):D:=.tup (p.map fun i=>.int ((i:Nat):Int))
def B0 (A:List Bu):List (Kyd×D):=A.map fun x=>(Kyd.i ((x.1:Nat):Int),AH x.2)
theorem Zeb {A:List Bu} {e:Nat} {p:List Nat}:B0 (A++[(e,p)])=B0 A++[(Kyd.i ((e:Nat):Int),AH p)]:=by unfold B0;rw [DR];rfl
theorem Qc {A:List Bu}:Fg (B0 A)=true:=by
 unfold Fg B0
 rw [qaZ]
 intro p hp
 obtain ⟨x,_,rfl⟩:=qaJ.mp hp
 rfl
theorem US {A:List Bu} {e:Nat}:((B0 A).any fun p=>decide (p.1=.i ((e:Nat):Int)))=has A e:=by
 unfold B0 has
 rw [JV]
 congr 1
 funext x
 show decide (Kyd.i ((x.1:Nat):Int)=.i ((e:Nat):Int))=decide (x.1=e)
 rw [qaS,decide_eq_true_iff,decide_eq_true_iff]
 constructor
 ·intro z;injection z with z;omega
 ·intro z;rw [z]
section
variable {h:HD} {l:Nat} {fz:Bool} {A:List Bu} {e:Nat}
theorem Zec (el:h[l]?=some (.dic fz (B0 A))):DD true (.int ((e:Nat):Int)) (.loc l) h=.ok (.bl (!has A e)) h:=by
 simp only [DD,el]
 rw [if_pos Qc,←Zbc,US,Bool.true_xor]
theorem Zed {p:D} {F:HD→Out (Fl×Ai)} (el:h[l]?=some (.dic false (B0 A))) (hn:has A e=false) (hz:A.length≤1000):KH (.loc l) (.int ((e:Nat):Int)) p h F=F (h.set l (.dic false (B0 A++[(Kyd.i ((e:Nat):Int),p)]))):=by
 simp only [KH,el]
 rw [if_pos ⟨Qc,by unfold B0;rw [Cb];unfold sizeLine;omega⟩]
 unfold Ck
 rw [US,hn]
 rfl
theorem Zee {q:List Nat}:AE (AH (q++[e])) (.int (-1)) h=.ok (.int ((e:Nat):Int)) h:=by
 have e1:Ds ((q++[e]).map fun i=>D.int ((i:Nat):Int)) (-1)=some (.int ((e:Nat):Int)):=by
  unfold Ds D7
  simp
  rw [if_pos (by omega)]
  simp
  rw [show (-1+((q.length:Int)+1)).toNat=q.length by omega]
  simp
 simp only [AE,AH,BY,e1]
theorem Zef {ds:List D} (el:h[l]?=some (.lst ds)):EB (.loc l) h=.ok (!ds.isEmpty) h:=by simp only [EB,el]
theorem Zeg {ds:List D} {d:D} (el:h[l]?=some (.lst (ds++[d]))):KL (.loc l) h=.ok d (h.set l (.lst ds)):=by
 simp only [KL,el]
 simp
theorem Zeh {p:List Nat} {v:Nat} (hz:p.length≤1000):AV (AH p) (.tup [.int ((v:Nat):Int)]) h=.ok (AH (p++[v])) h:=by
 unfold AH
 simp only [AV]
 rw [if_pos (by simp;unfold sizeLine;omega),DR]
 rfl
end
structure LiAt (n:Nat) (adj:Nat→Nat→Bool) (ll:Nat) (h:HD):Prop where
 ex:∃fz kvs,h[ll]?=some (.dic fz kvs)∧Dl kvs=true∧∀a b,a<n→b<n→(Bn kvs (.t [((a:Nat):Int),((b:Nat):Int)])).isSome=adj a b
theorem LiAt.has {n ll a b:Nat} {adj:Nat→Nat→Bool} {h:HD} (x:LiAt n adj ll h) (ha:a<n) (hb:b<n):DD false (.tup [.int ((a:Nat):Int),.int ((b:Nat):Int)]) (.loc ll) h=.ok (.bl (adj a b)) h:=by
 obtain ⟨fz,kvs,e,h1,h2⟩:=x.ex
 simp only [DD,e,LS.keyT,Ha,Gi]
 rw [if_pos h1,h2 a b ha hb,LF]
theorem LiAt.sm {n ll:Nat} {adj:Nat→Nat→Bool} {h h':HD} (x:LiAt n adj ll h) (s:Sm h h'):LiAt n adj ll h':=let ⟨fz,kvs,e,r⟩:=x.ex;⟨⟨fz,kvs,s _ _ e,r⟩⟩
section
variable {n ll:Nat} {adj:Nat→Nat→Bool} {h:HD}
inductive UT (n ll ld lw r:Nat) (adj:Nat→Nat→Bool) (O:List Bu) (h:HD) (m:Nat) (ρ:Ai) (h':HD):Prop where
 |mk (N:List Bu) (S:List (List Nat)) (y5 y6:Option D) (er:ρ=[some (.int ((n:Nat):Int)),some (.loc ll),some (.loc ld),some (.int ((r:Nat):Int)),some (.loc lw),y5,y6]) (W:Walk n adj r O N S) (s:Sm h h') (ed:h'[ld]?=some (.dic false (B0 (O++N)))) (ew:h'[lw]?=some (.lst (S.map AH))) (em:m=(n - (O++N).length)*9+S.length) (hb:m≤100):UT n ll ld lw r adj O h m ρ h'
inductive UU (n ll ld:Nat) (adj:Nat→Nat→Bool) (h:HD) (xs:List Nat) (ρ:Ai) (h':HD):Prop where
 |mk (k:Nat) (O:List Bu) (y3 y4 y5 y6:Option D) (ex:xs=(List.range n).drop k) (hk:k≤n) (er:ρ=[some (.int ((n:Nat):Int)),some (.loc ll),some (.loc ld),y3,y4,y5,y6]) (F:Forest n adj O) (C:IW n adj O) (al:∀i,i<k→∃p,(i,p)∈O) (s:Sm h h') (ed:h'[ld]?=some (.dic false (B0 O))):UU n ll ld adj h xs ρ h'
theorem UV {Q:D→HD→Prop} (hn:n≤8) (sy:∀a b,adj a b=adj b a) (li:LiAt n adj ll h) (q:∀l h' A,Sm h h'→h'[l]?=some (.dic false (B0 A))→Forest n adj A→IW n adj A→(∀i,i<n→∃p,(i,p)∈A)→Q (.loc l) h'):Wp (CY [.int ((n:Nat):Int),.loc ll] h) Q:=by
 change Wp (Ao 7 Pj [.int ((n:Nat):Int),.loc ll] h) _
 refine Eq.mpr Ba ?_
 simp [-An]
 refine Eq.mpr An ?_
 refine Eq.mpr BZ ?_
 refine EJ (src:=[]) (xs:=List.range n) (fun i=>.int ((i:Nat):Int)) (UU n ll h.length adj h) ?_ (fun ys ρ h' _=>B2) ?_ ?_
 ·simp [EI (show n≤1000 by omega)]
  exact ⟨0,[],_,_,_,_,by simp,by omega,rfl,.nil,fun a pa ha=>(nomatch ha),fun i hi=>absurd hi (by omega),.app _ _,by simp [B0]⟩
 ·rintro r xs ρ h1 ⟨k,O,y3,y4,y5,y6,ex,hk,rfl,F,C,al,s1,ed1⟩
  obtain ⟨rfl,hr,rfl⟩:=KP ex.symm
  refine ⟨_,rfl,?_⟩
  refine Eq.mpr BZ ?_
  simp [-An]
  refine Dz (by simp) fun lw h2 s2 e2 elw _=>?_
  refine Eq.mpr An ?_
  have ld0:h.length≠lw:=fun z=>by
   have:=(qa8.mp ed1).1
   omega
  have lw0:h.length≤lw:=by have:=s1.len;omega
  refine ZA (UT n ll h.length lw r adj O h) _ ?_ ⟨[],[[r]],_,_,rfl,.start F,s1.trans s2,by rw [E3];exact s2 _ _ ed1,e2,rfl,by simp;omega⟩ ?_
  ·have:=F.len
   simp
   omega
  ·rintro m ρ h3 ⟨N,S,y5,y6,rfl,W,s3,ed3,ew3,rfl,hb⟩
   have li3:=li.sm s3
   simp
   refine Ay (Zef ew3) ?_
   rw [AW]
   rcases Ln S with rfl |⟨S',w,rfl⟩
   ·obtain ⟨C2,ar⟩:=W.done sy C
    simp [CA]
    exact ⟨r+1,O++N,_,_,_,_,rfl,by omega,rfl,W.F,C2,fun i hi=>by
     by_cases z:i=r
     ·subst z;exact ar
     ·obtain ⟨p,hp⟩:=al i (by omega)
      exact ⟨p,Cu _ hp⟩,s3,ed3⟩
   ·rw [Lo] at *
    obtain ⟨q0,e,rfl⟩:∃q0 e,w=q0++[e]:=by
     rcases W.st w (Bi _ (qa7.mpr rfl)) with z |⟨a,q',v,_,_,_,z⟩
     ·exact ⟨[],r,z⟩
     ·exact ⟨q',v,z⟩
    have lwl:=(qa8.mp ew3).1
    have ldl:=(qa8.mp ed3).1
    rw [DR] at ew3
    simp [Km ew3,-An]
    refine Ay (Zeg ew3) ?_
    rw [AW]
    have ed4:(h3.set lw (.lst (S'.map AH)))[h.length]?=some (.dic false (B0 (O++N))):=by rw [CI (Ne.symm ld0)];exact ed3
    have ew4:(h3.set lw (.lst (S'.map AH)))[lw]?=some (.lst (S'.map AH)):=D4 lwl
    have s4:Sm h (h3.set lw (.lst (S'.map AH))):=Sm.put s3 lw0
    generalize (h3.set lw (.lst (S'.map AH)))=h4 at *
    refine Ay Zee ?_
    rw [AW]
    refine Ay (Zec ed4) ?_
    rw [AW]
    cases hc:has (O++N) e with
    |true=>
     simp [CA]
     exact ⟨_,by first |omega |(simp;done) |(simp at hb ⊢;omega),N,S',_,_,rfl,W.skip hc,s4,ed4,ew4,rfl,by simp at hb ⊢;omega⟩
    |false=>
     obtain ⟨he,W'⟩:=W.take hr hc
     have fl:=W'.F.len
     have pl:=W'.F.plen (Bi _ (Bi _ (qa7.mpr rfl)))
     have al4:=W.F.len
     simp [-An]
     refine Ay (Zed ed4 hc (by omega)) ?_
     rw [AW]
     have ldl4:=(qa8.mp ed4).1
     have ed5:(h4.set h.length (.dic false (B0 (O++N)++[(Kyd.i ((e:Nat):Int),AH (q0++[e]))])))[h.length]?=some (.dic false (B0 (O++(N++[(e,q0++[e])])))):=by
      rw [D4 ldl4,←Zeb,CO]
     have ew5:(h4.set h.length (.dic false (B0 (O++N)++[(Kyd.i ((e:Nat):Int),AH (q0++[e]))])))[lw]?=some (.lst (S'.map AH)):=by rw [CI ld0];exact ew4
     have s5:Sm h (h4.set h.length (.dic false (B0 (O++N)++[(Kyd.i ((e:Nat):Int),AH (q0++[e]))]))):=Sm.put s4 (AK _)
     generalize (h4.set h.length (.dic false (B0 (O++N)++[(Kyd.i ((e:Nat):Int),AH (q0++[e]))])))=h5 at *
     refine Eq.mpr An ?_
     simp [Km ew5]
     refine FL (src:=[]) (xs:=List.range n) (φ:=fun v=>.int ((v:Nat):Int)) (adj e) (fun v=>AH (q0++[e]++[v])) (fun v=>[some (.int ((v:Nat):Int)),some (AH (q0++[e])),some (.int ((e:Nat):Int)),some (.loc ll)]) ?_ (by rw [Hl];unfold sizeLine;omega) (fun x _=>rfl) (fun x hx h' s'=>?_) (fun x hx _ h' s'=>?_) fun lc h6 s6 e6=>?_
     ·simp [EI (show n≤1000 by omega),Sm.refl,Bq]
     ·have hx:=qb2.mp hx
      have:=(li.sm (s5.trans s')).has he hx
      simp [Pu]
      refine Ay this ?_
      rw [AW]
      simp [Sm.refl]
     ·simp [Pu]
      refine Ay (Zeh (by omega)) ?_
      rw [AW]
      simp [Sm.refl]
     ·have ew6:=s6 _ _ ew5
      have lwl6:=(qa8.mp ew6).1
      have ef:((List.range n).filter (adj e)).map (fun v=>AH (q0++[e]++[v]))=(Hb n adj e (q0++[e])).map AH:=by
       unfold Hb
       rw [BS]
       rfl
      rw [ef] at e6
      have pz:(Hb n adj e (q0++[e])).length≤n:=by
       unfold Hb
       rw [Cb]
       have:=Hh (adj e) (List.range n)
       rwa [Hl] at this
      have sz:S'.length≤1000:=by simp at hb;omega
      refine Ay (ZaX ew6 e6 (by rw [Cb,Cb];unfold sizeLine;omega)) ?_
      rw [AW]
      simp only [CA]
      refine ⟨_,?_,N++[(e,q0++[e])],S'++Hb n adj e (q0++[e]),_,_,rfl,W',Sm.put (s5.trans s6) lw0,?_,?_,rfl,?_⟩
      ·simp at fl al4 ⊢
       omega
      ·rw [CI (Ne.symm ld0)]
       exact s6 _ _ ed5
      ·rw [D4 lwl6,DR]
      ·simp at fl al4 hb ⊢
       omega
 ·rintro ρ h1 ⟨k,O,y3,y4,y5,y6,ex,hk,rfl,F,C,al,s1,ed1⟩
  have:=M4 hk ex.symm
  subst this
  simp
  exact q _ h1 O s1 ed1 F C al
end
def mt (x y:Nat) (t:Ak):Bool:=decide (t.1=x∧t.2.1=y∨t.1=y∧t.2.1=x)
theorem UW {x y:Nat}:mt x y=mt y x:=by
 funext t
 unfold mt
 rw [qaS,decide_eq_true_iff,decide_eq_true_iff]
 exact Or.comm
def ad (L:List Ak) (x y:Nat):Bool:=L.any (mt x y)
def li (L:List Ak) (x y:Nat):Bool:=((L.reverse.find? (mt x y)).map (·.2.2)).getD false
theorem Qd {L:List Ak} (x y:Nat):ad L x y=ad L y x:=by unfold ad;rw [UW]
theorem UX {L:List Ak} (x y:Nat):li L x y=li L y x:=by unfold li;rw [UW]
theorem Qe {k k':Kyd} {v:D}:∀{acc:List (Kyd×D)},(acc.any fun p=>decide (p.1=k))=true→Bn (acc.map fun p=>if p.1=k then (p.1,v) else p) k'=if k=k' then some v else Bn acc k'
 |[],z=>by simp at z
 |x::acc,z=>by
  rw [Br]
  unfold Bn
  rw [D6,D6]
  by_cases e:x.1=k
  ·rw [if_pos e]
   by_cases e2:k=k'
   ·simp [e,e2]
   ·have e3:¬x.1=k':=fun y=>e2 (e ▸ y)
    simp only [e3,e2,decide_false,if_false]
    by_cases z2:(acc.any fun p=>decide (p.1=k))=true
    ·have:=Qe (k':=k') (v:=v) z2
     rw [if_neg e2] at this
     exact this
    ·have:(acc.map fun p=>if p.1=k then (p.1,v) else p)=acc:=by
      conv=>rhs;rw [←List.map_id acc]
      refine CN fun p hp=>?_
      rw [if_neg]
      ·rfl
      ·intro y
       exact z2 (qbC.mpr ⟨p,hp,decide_eq_true y⟩)
     rw [this]
  ·rw [if_neg e]
   by_cases e2:x.1=k'
   ·have:¬k=k':=fun y=>e (by rw [e2,y])
    simp [e2,this]
   ·simp only [e2,decide_false]
    have z2:(acc.any fun p=>decide (p.1=k))=true:=by
     rw [Jj] at z
     simpa [e] using z
    exact Qe z2
theorem UY {acc:List (Kyd×D)} {k k':Kyd} {v:D}:Bn (Ck acc k v) k'=if k=k' then some v else Bn acc k':=by
 unfold Ck
 by_cases z:(acc.any fun p=>decide (p.1=k))=true
 ·rw [if_pos z]
  exact Qe z
 ·rw [if_neg z]
  unfold Bn
  rw [List.find?_append]
  by_cases e2:k=k'
  ·subst e2
   have:acc.find? (fun p=>decide (p.1=k))=none:=qbV.mpr fun p hp y=>z (qbC.mpr ⟨p,hp,y⟩)
   rw [this]
   simp
  ·simp [e2]
def kT (x y:Nat):Kyd:=.t [((x:Nat):Int),((y:Nat):Int)]
theorem kT_inj {x y a b:Nat}:kT x y=kT a b↔x=a∧y=b:=by
 unfold kT
 constructor
 ·intro z
  injection z with z
  injection z with z1 z2
  injection z2 with z2
  exact ⟨by omega,by omega⟩
 ·rintro ⟨rfl,rfl⟩;rfl
def Gf (acc:List (Kyd×D)) (t:Ak):List (Kyd×D):=Ck (Ck acc (kT t.1 t.2.1) (lit t.2.2)) (kT t.2.1 t.1) (lit t.2.2)
def B7 (L:List Ak):List (Kyd×D):=L.foldl Gf []
theorem Zei {L:List Ak} {t:Ak}:B7 (L++[t])=Gf (B7 L) t:=by unfold B7;rw [List.foldl_append];rfl
theorem Zej {acc:List (Kyd×D)} {t:Ak} {x y:Nat}:Bn (Gf acc t) (kT x y)=if mt x y t=true then some (lit t.2.2) else Bn acc (kT x y):=by
 unfold Gf
 rw [UY,UY]
 unfold mt
 by_cases h1:t.2.1=x∧t.1=y
 ·rw [if_pos (kT_inj.mpr h1),if_pos (decide_eq_true (.inr ⟨h1.2,h1.1⟩))]
 ·rw [if_neg fun z=>h1 (kT_inj.mp z)]
  by_cases h2:t.1=x∧t.2.1=y
  ·rw [if_pos (kT_inj.mpr h2),if_pos (decide_eq_true (.inl h2))]
  ·rw [if_neg fun z=>h2 (kT_inj.mp z),if_neg]
   intro z
   rcases of_decide_eq_true z with w |w
   ·exact h2 w
   ·exact h1 ⟨w.2,w.1⟩
theorem UZ {x y:Nat}:∀{L:List Ak} {acc:List (Kyd×D)},Bn (L.foldl Gf acc) (kT x y)=(match L.reverse.find? (mt x y) with |some t=>some (lit t.2.2) |none=>Bn acc (kT x y))
 |[],acc=>rfl
 |t::L,acc=>by
  rw [List.foldl_cons,UZ,En,List.find?_append]
  cases h:L.reverse.find? (mt x y) with
  |some t'=>rfl
  |none=>
   simp only [Option.none_or,D6,List.find?_nil]
   rw [Zej]
   cases h2:mt x y t<;>simp
theorem Qf {L:List Ak} {x y:Nat}:Bn (B7 L) (kT x y)=if ad L x y=true then some (lit (li L x y)) else none:=by
 unfold B7
 rw [UZ]
 unfold ad li
 cases h:L.reverse.find? (mt x y) with
 |some t=>
  have:L.any (mt x y)=true:=qbC.mpr ⟨t,by have:=JP h;simpa using this,Jg h⟩
  rw [if_pos this]
  rfl
 |none=>
  have:¬L.any (mt x y)=true:=fun z=>by
   obtain ⟨t,ht,hm⟩:=qbC.mp z
   exact qbV.mp h t (by simpa using ht) hm
  rw [if_neg this]
  rfl
theorem Qg {acc:List (Kyd×D)} {ns:List Int} {v:D} (h:Dl acc=true):Dl (Ck acc (.t ns) v)=true:=by
 unfold Dl Ck at *
 rw [qaZ] at *
 split
 ·intro p hp
  obtain ⟨q,hq,rfl⟩:=qaJ.mp hp
  have:=h q hq
  split
  ·exact this
  ·exact this
 ·intro p hp
  rcases qaH.mp hp with z |z
  ·exact h p z
  ·rw [qa7] at z;subst z;rfl
theorem M5 {L:List Ak}:∀{acc:List (Kyd×D)},Dl acc=true→Dl (L.foldl Gf acc)=true:=by
 induction L with
 |nil=>intro acc h;exact h
 |cons t L ih=>intro acc h;exact ih (Qg (Qg h))
theorem Zek {L:List Ak}:(B7 L).length≤2*L.length:=by
 have key:∀(L:List Ak) (acc:List (Kyd×D)),(L.foldl Gf acc).length≤acc.length+2*L.length:=fun L=>by
  induction L with
  |nil=>intro acc;simp
  |cons t L ih=>
   intro acc
   have h1:=ih (Gf acc t)
   have h2:(Gf acc t).length≤acc.length+2:=by
    unfold Gf
    have a:=KG (kvs:=acc) (k:=kT t.1 t.2.1) (d:=lit t.2.2)
    have b:=KG (kvs:=Ck acc (kT t.1 t.2.1) (lit t.2.2)) (k:=kT t.2.1 t.1) (d:=lit t.2.2)
    omega
   simp
   omega
 have:=key L []
 simpa [B7] using this
theorem U0 {n ll:Nat} {L:List Ak} {h:HD} {fz:Bool} (e:h[ll]?=some (.dic fz (B7 L))):LiAt n (ad L) ll h:=⟨⟨fz,B7 L,e,M5 rfl,fun a b _ _=>by
 show (Bn (B7 L) (kT a b)).isSome=_
 rw [Qf]
 cases ad L a b<;>rfl⟩⟩
section
variable {h:HD} {x:D} {src:Bm} {L:List Ak}
theorem U1 {l:Nat} {kvs:List (Kyd×D)} {a b:Nat} {v:D} {F:HD→Out (Fl×Ai)} (e:h[l]?=some (.dic false kvs)) (ha:Dl kvs=true) (hz:kvs.length<sizeLine):KI (.loc l) (.tup [.int ((a:Nat):Int),.int ((b:Nat):Int)]) v h F=F (h.set l (.dic false (Ck kvs (kT a b) v))):=by
 simp only [KI,LS.keyT,Ha,Gi,e]
 rw [if_pos ⟨ha,hz⟩]
 rfl
inductive U2 (L:List Ak) (x:D) (ld:Nat) (h:HD) (xs:List Ak) (ρ:Ai) (h':HD):Prop where
 |mk (dn:List Ak) (y2 y3 y4:Option D) (ex:dn++xs=L) (er:ρ=[some x,some (.loc ld),y2,y3,y4]) (s:Sm h h') (ed:h'[ld]?=some (.dic false (B7 dn))):U2 L x ld h xs ρ h'
theorem Qh {Q:D→HD→Prop} (hz:L.length≤1000) (it:∀h',Sm h h'→Gr x h'=.ok (L.map AL,src) h') (so:∀h',Sm h h'→Bq src (L.map AL) h') (q:∀l h',Sm h h'→h'[l]?=some (.dic false (B7 L))→Q (.loc l) h'):Wp (B1 [x] h) Q:=by
 change Wp (Ao 5 Pi [x] h) _
 refine Eq.mpr Ba ?_
 simp [-An]
 refine Eq.mpr An ?_
 refine Eq.mpr BZ ?_
 refine EJ (src:=src) (xs:=L) AL (U2 L x h.length h) ?_ (fun ys ρ h' ⟨_,_,_,_,_,_,s,_⟩=>so h' s) ?_ ?_
 ·simp
  refine Ay (it _ (.app _ _)) ?_
  rw [AW]
  exact ⟨rfl,[],_,_,_,rfl,rfl,.app _ _,by simp [B7]⟩
 ·rintro t xs ρ h1 ⟨dn,y2,y3,y4,ex,rfl,s,ed⟩
  refine ⟨_,rfl,?_⟩
  have hl:dn.length≤L.length:=by rw [←ex];simp
  have ha:Dl (B7 dn)=true:=M5 rfl
  have hk:=Zek (L:=dn)
  have l1:=(qa8.mp ed).1
  simp [-An]
  refine Ay (U1 ed ha (by unfold sizeLine;omega)) ?_
  rw [AW]
  refine Eq.mpr An ?_
  simp
  have ed2:(h1.set h.length (.dic false (Ck (B7 dn) (kT t.1 t.2.1) (lit t.2.2))))[h.length]?=some (.dic false (Ck (B7 dn) (kT t.1 t.2.1) (lit t.2.2))):=D4 l1
  have hk2:=KG (kvs:=B7 dn) (k:=kT t.1 t.2.1) (d:=lit t.2.2)
  refine Ay (U1 ed2 (Qg ha) (by unfold sizeLine;omega)) ?_
  rw [AW]
  simp only [CA]
  refine ⟨dn++[t],_,_,_,by simpa using ex,rfl,Sm.put (Sm.put s (AK _)) (AK _),?_⟩
  rw [D4 (by simpa using l1),Zei]
  rfl
 ·rintro ρ h1 ⟨dn,y2,y3,y4,ex,rfl,s,ed⟩
  rw [E3] at ex
  subst ex
  simp
  exact q _ h1 s ed
def bi (b:Bool):Int:=if b then 1 else 0
def A3 (L:List Ak) (p:List Nat):Int:=((p.zip p.tail).map fun z=>bi (li L z.1 z.2)).sum
def CF (L:List Ak) (p:List Nat):Prop:=∀z∈p.zip p.tail,ad L z.1 z.2=true
theorem U3 {xs:List D}:D3 (.tup xs) (some 1) none h=.ok (.tup (xs.drop 1)) h:=by
 simp only [D3]
 unfold LS.cutD
 rw [show (1:Int)=((1:Nat):Int) from rfl,HT.sIx_nat,HT.sIx_none]
 cases xs with
 |nil=>rfl
 |cons a xs=>simp
theorem U4 {l:Nat} {fz:Bool} {p:List Nat} (e:h[l]?=some (.dic fz (B7 L))) (al:CF L p) (hz:p.length≤1000):Pu (BV [.loc l,AH p] h) h (.int (A3 L p)):=by
 change Wp (Ao 2 Pk [.loc l,AH p] h) _
 refine Eq.mpr Ba ?_
 simp
 refine Pu.wp (Kw (src:=[]) (xs:=p.zip p.tail) (φ:=fun z=>.tup [.int ((z.1:Nat):Int),.int ((z.2:Nat):Int)]) (fun z=>bi (li L z.1 z.2)) (fun z=>[some (.tup [.int ((z.1:Nat):Int),.int ((z.2:Nat):Int)]),some (.loc l)]) ?_ (fun x _=>rfl) (fun z hz h' s'=>?_) ?_) fun h2 s2=>?_
 ·simp [By,AH]
  refine Ay U3 ?_
  rw [AW]
  have ez:CB (p.map fun i=>D.int ((i:Nat):Int)) ((p.map fun i=>D.int ((i:Nat):Int)).drop 1)=(p.zip p.tail).map fun z=>.tup [.int ((z.1:Nat):Int),.int ((z.2:Nat):Int)]:=by
   unfold CB
   rw [←List.map_drop,List.drop_one,List.zipWith_map,List.zip,Lx]
  refine Ay (show FQ [.tup (p.map fun i=>D.int ((i:Nat):Int)),.tup ((p.map fun i=>D.int ((i:Nat):Int)).drop 1)] h=.ok (CB (p.map fun i=>D.int ((i:Nat):Int)) ((p.map fun i=>D.int ((i:Nat):Int)).drop 1),[]) h from rfl) ?_
  rw [AW,ez]
  exact ⟨rfl,.refl _,fun h' s'=>B2⟩
 ·have:=al z hz
  simp [Pu]
  have eg:Bn (B7 L) (.t [((z.1:Nat):Int),((z.2:Nat):Int)])=some (lit (li L z.1 z.2)):=by
   have:=Qf (L:=L) (x:=z.1) (y:=z.2)
   rw [al z hz,if_pos rfl] at this
   exact this
  have ek:LS.keyT (.tup [.int ((z.1:Nat):Int),.int ((z.2:Nat):Int)])=some [((z.1:Nat):Int),((z.2:Nat):Int)]:=rfl
  refine Ay (show DE (.loc l) (.tup [.int ((z.1:Nat):Int),.int ((z.2:Nat):Int)]) h'=.ok (lit (li L z.1 z.2)) h' from ?_) ?_
  ·simp only [DE,s' _ _ e,ek,eg]
   exact if_pos (show Dl (B7 L)=true from M5 rfl)
  ·rw [AW]
   exact ⟨rfl,.refl _⟩
 ·rw [JU]
  unfold sizeLine
  omega
 ·exact ⟨rfl,s2⟩
end
theorem KR {n:Nat} {L:List Ak} {p:Nat→Bool} {h:HD} (k:NetOk n L):Pu (B6 [AX n L,A1 n p] h) h (AX n (L.map (AM p))):=by
 change Wp (Ao 4 (PN A2 BX) [AX n L,A1 n p] h) _
 refine Eq.mpr Ba ?_
 simp
 refine (Ja k).wp fun h1 s1=>?_
 simp [AX]
 refine p_is_lot.wp fun h2 s2=>?_
 simp
 refine Pu.wp (Sa (src:=[]) (xs:=L) (φ:=AL) (fun t=>AL (AM p t)) (fun t=>[some (.int ((t.1:Nat):Int)),some (.int ((t.2.1:Nat):Int)),some (lit t.2.2),some (A1 n p)]) ⟨rfl,.refl _,fun h2 s2=>B2⟩ (by have:=k.le;unfold sizeLine;omega) (fun x _=>rfl) (fun t ht h' s'=>?_)) fun h3 s3=>?_
 ·have hk:=k.ok t ht
  simp [Pu,M1 (show t.1<n by omega),M1 hk.2]
  have key:∀a b c:Bool,Bool.xor a (Bool.xor b c)=if b=c then a else !a:=by decide
  by_cases hq:p t.1=p t.2.1
  ·simp [hq,Sm.refl,AL,AM]
  ·have k2:∀a:Bool,(1:Int) - (if a=true then 1 else 0)=if (!a)=true then 1 else 0:=by decide
   have k3:Bool.xor t.2.2 (Bool.xor (p t.1) (p t.2.1))=!t.2.2:=by rw [key,if_neg hq]
   simp [hq,Sm.refl,AL,AM,lit,k2,k3]
 ·exact ⟨rfl,(s1.trans s2).trans s3⟩
theorem U5:∀xs ys:List Int,PyData.eqvAll (xs.map fun i=>.int i) (ys.map fun i=>.int i)=decide (xs=ys)
 |[],[]=>rfl
 |[],_::_=>rfl
 |_::_,[]=>rfl
 |x::xs,y::ys=>by
  rw [Br,Br,PyData.eqvAll,U5 xs ys,qaS]
  simp [PyData.eqv]
theorem Qi:∀xs ys:List (List Int),PyData.eqvAll (xs.map fun r=>.tuple (r.map fun i=>.int i)) (ys.map fun r=>.tuple (r.map fun i=>.int i))=decide (xs=ys)
 |[],[]=>rfl
 |[],_::_=>rfl
 |_::_,[]=>rfl
 |x::xs,y::ys=>by
  rw [Br,Br,PyData.eqvAll,Qi xs ys,PyData.eqv,U5,qaS]
  simp
def Fx (t:Ak):List Int:=[((t.1:Nat):Int),((t.2.1:Nat):Int),bi t.2.2]
theorem Zel {a b:Bool} (h:bi a=bi b):a=b:=by cases a<;>cases b<;>first |rfl |cases h
theorem Zem {s t:Ak} (e:Fx s=Fx t):s=t:=by
 obtain ⟨a,b,c⟩:=s
 obtain ⟨a',b',c'⟩:=t
 simp [Fx] at e
 obtain ⟨e1,e2,e3⟩:=e
 rw [Int.ofNat.inj e1,Int.ofNat.inj e2,Zel e3]
theorem M6 {n:Nat} {L:List Ak}:Py (AX n L) (.tuple [.int ((n:Nat):Int),.tuple (L.map fun t=>.tuple ((Fx t).map fun i=>.int i))]):=
 (YW (n:=2) (pyn_int.mono (by decide)) (Mf (n:=1) (e:=AL) fun t _=>Mf (n:=0) (xs:=Fx t) (e:=D.int) (g:=PyData.int) fun _ _=>pyn_int)).py (by decide)
section
variable {n n':Nat} {L L':List Ak} {h:HD}
theorem U6:PyData.eqv (.tuple [.int ((n:Nat):Int),.tuple (L.map fun t=>.tuple ((Fx t).map fun i=>.int i))]) (.tuple [.int ((n':Nat):Int),.tuple (L'.map fun t=>.tuple ((Fx t).map fun i=>.int i))])=decide (n=n'∧L=L'):=by
 have er:=Qi (L.map Fx) (L'.map Fx)
 rw [BS,BS] at er
 have ev:PyData.eqvAll (L.map fun t=>PyData.tuple ((Fx t).map fun i=>.int i)) (L'.map fun t=>PyData.tuple ((Fx t).map fun i=>.int i))=decide (L=L'):=by
  refine Eq.trans er ?_
  rw [qaS,decide_eq_true_iff,decide_eq_true_iff]
  exact ⟨fun z=>(List.map_inj_right fun _ _ e=>Zem e).mp z,fun z=>by rw [z]⟩
 rw [PyData.eqv,PyData.eqvAll,PyData.eqvAll,PyData.eqvAll,PyData.eqv,PyData.eqv,ev,qaS,decide_eq_true_iff]
 simp
 exact fun _=>⟨fun z=>by omega,fun z=>by omega⟩
theorem Zen:Cq (AX n L) (AX n' L') h=.ok (.bl (decide (n=n'∧L=L'))) h:=by
 have:=YL (h:=h) (M6 (n:=n) (L:=L)) (M6 (n:=n') (L:=L'))
 rw [U6] at this
 exact this
theorem Qj:BA (AX n L) (AX n' L') h=.ok (.bl (!decide (n=n'∧L=L'))) h:=by
 have:=YM (h:=h) (M6 (n:=n) (L:=L)) (M6 (n:=n') (L:=L'))
 rw [U6] at this
 exact this
end
theorem NetOk.sw {n:Nat} {L:List Ak} {p:Nat→Bool} (k:NetOk n L):NetOk n (L.map (AM p)):=⟨k.n1,k.n8,fun t ht=>by
 obtain ⟨s,hs,rfl⟩:=qaJ.mp ht
 exact k.ok s hs,by
 rw [Hk]
 exact k.so.imp fun h=>h,by rw [Cb];exact k.le⟩
def Jb (t:Ak):D:=.tup [.int ((t.1:Nat):Int),.int ((t.2.1:Nat):Int)]
def Cw (t:Ak):List Int:=[((t.1:Nat):Int),((t.2.1:Nat):Int)]
section
variable {n:Nat} {L L':List Ak} {h:HD}
theorem U7 {Q:D→HD→Prop} (le:L.length≤1000) (q:∀l h',Sm h h'→h'[l]?=some (.lst (L.map Jb))→Q (.loc l) h'):Wp (Fi [AX n L] h) Q:=by
 change Wp (Ao 1 Pl [AX n L] h) _
 refine Eq.mpr Ba ?_
 simp
 refine FL (src:=[]) (xs:=L) (φ:=AL) (fun _=>true) Jb (fun t=>[some (AL t)]) ?_ (by unfold sizeLine;omega) (fun x _=>rfl) (fun x _ h' s'=>(.ok:Pu (.ok true h') h' true)) (fun t _ _ h' s'=>?_) fun l h' s' e'=>?_
 ·simp [AX]
  exact ⟨.refl _,fun h' s'=>B2⟩
 ·simp [Pu,AL]
  refine Ay M3 ?_
  rw [AW]
  exact ⟨rfl,.refl _⟩
 ·rw [DY] at e'
  exact q l h' s' e'
theorem Zeo {l k:Nat} (e1:h[l]?=some (.lst (L.map Jb))) (e2:h[k]?=some (.lst (L'.map Jb))):BA (.loc l) (.loc k) h=.ok (.bl (!decide (L.map Cw=L'.map Cw))) h:=by
 have py:∀t,PyN 1 (Jb t) (.tuple ((Cw t).map fun i=>.int i)):=fun t=>Mf (n:=0) (xs:=Cw t) (e:=D.int) (g:=PyData.int) fun _ _=>pyn_int
 have a:∀(j:Nat) (zs:List Ak),h[j]?=some (.lst (zs.map Jb))→A6 h 8 (.loc j)=some (.list (zs.map fun x=>.tuple ((Cw x).map fun i=>.int i))):=fun j zs e=>by
  have:Bk ((zs.map Jb).map (A6 h 7))=some (zs.map fun x=>.tuple ((Cw x).map fun i=>.int i)):=by
   rw [BS]
   exact FM fun x hx'=>JD ((py x).rd 7 (by omega))
  simp only [A6,e,this,Gi]
 have sh:∀zs:List Ak,SeqAt.shaped (.list (zs.map fun x=>PyData.tuple ((Cw x).map fun i=>.int i)))=true:=fun zs=>by
  unfold SeqAt.shaped
  have l0:(PyData.list (zs.map fun x=>PyData.tuple ((Cw x).map fun i=>.int i))).canLay0=true:=by
   rw [PyData.canLay0];exact Oi fun x h=>(py x).ly
  have d0:(PyData.list (zs.map fun x=>PyData.tuple ((Cw x).map fun i=>.int i))).depth≤1+1:=by
   rw [PyData.depth]
   exact Nat.succ_le_succ (Oj fun x h=>(py x).dp)
  rw [l0]
  simp
  omega
 change EE (.loc l) (.loc k) h=_
 simp only [EE,Gq,a l L e1,a k L' e2]
 rw [if_pos ⟨sh L,sh L'⟩,PyData.eqv]
 have er:=Qi (L.map Cw) (L'.map Cw)
 rw [BS,BS] at er
 have ev:PyData.eqvAll (L.map fun x=>PyData.tuple ((Cw x).map fun i=>.int i)) (L'.map fun x=>PyData.tuple ((Cw x).map fun i=>.int i))=decide (L.map Cw=L'.map Cw):=er
 rw [ev]
end
def CL (L L':List Ak):List Ak:=(L.zip L').map fun z=>(z.1.1,z.1.2.1,Bool.xor z.1.2.2 z.2.2.2)
def par (T:List Ak) (A:List Bu) (i:Nat):Bool:=decide (A3 T ((Dg A i).getD []) % 2=1)
theorem KS {n:Nat} {adj:Nat→Nat→Bool} {A:List Bu} (F:Forest n adj A) {e:Nat} {p:List Nat} (h:(e,p)∈A):Dg A e=some p:=by
 unfold Dg
 cases hf:A.find? fun x=>decide (x.1=e) with
 |none=>exact absurd (decide_eq_true (show (e,p).1=e from rfl)) (qbV.mp hf _ h)
 |some x=>
  have h0:decide (x.1=e)=true:=Jg (p:=fun x:Bu=>decide (x.1=e)) hf
  have h1:=of_decide_eq_true h0
  have h2:=JP hf
  obtain ⟨e',p'⟩:=x
  simp only at h1
  subst h1
  rw [F.one h h2]
  rfl
theorem Zep {A:List Bu} {e:Nat}:Bn (B0 A) (.i ((e:Nat):Int))=(Dg A e).map AH:=by
 unfold Bn B0 Dg
 rw [List.find?_map,Option.map_map,Option.map_map]
 have:((fun p:Kyd×D=>decide (p.1=Kyd.i ((e:Nat):Int)))∘fun x:Bu=>(Kyd.i ((x.1:Nat):Int),AH x.2))=fun x:Bu=>decide (x.1=e):=by
  funext x
  show decide (Kyd.i ((x.1:Nat):Int)=.i ((e:Nat):Int))=decide (x.1=e)
  rw [qaS,decide_eq_true_iff,decide_eq_true_iff]
  exact ⟨fun z=>by injection z with z;omega,fun z=>by rw [z]⟩
 rw [this]
 rfl
theorem U8 {p:List Nat} {e:Nat}:∀{q:List Nat},q≠[]→(q++[e]).zip (q++[e]).tail=q.zip q.tail++[(q.getLastD 0,e)]
 |[],h=>absurd rfl h
 |[a],_=>rfl
 |a::b::q,_=>by
  have:=U8 (p:=p) (e:=e) (q:=b::q) (by simp)
  show (a,b)::((b::q++[e]).zip (b::q++[e]).tail)=_
  rw [this]
  rfl
theorem JM {n:Nat} {L:List Ak} {A:List Bu} (F:Forest n (ad L) A):∀(m:Nat) (e:Nat) (p:List Nat),p.length≤m→(e,p)∈A→CF L p
 |0,e,p,hm,h=>by
  obtain ⟨q,rfl⟩:=F.last h
  simp at hm
 |m+1,e,p,hm,h=>by
  rcases F.tr e p h with rfl |⟨r,q,h1,h2,rfl⟩
  ·intro z hz;cases hz
  ·have ih:=JM F m r q (by simp at hm;omega) h1
   obtain ⟨q',rfl⟩:=F.last h1
   intro z hz
   rw [U8 (p:=[]) (by simp)] at hz
   rcases qaH.mp hz with w |w
   ·exact ih z w
   ·rw [qa7] at w
    subst w
    simpa using h2
section
variable {n:Nat} {L L':List Ak} {h:HD}
theorem Qk {l:Nat} {fz:Bool} {A:List Bu} {adj:Nat→Nat→Bool} {e:Nat} {p:List Nat} (F:Forest n adj A) (hp:(e,p)∈A) (el:h[l]?=some (.dic fz (B0 A))):DE (.loc l) (.int ((e:Nat):Int)) h=.ok (AH p) h:=by
 have eg:Bn (B0 A) (.i ((e:Nat):Int))=some (AH p):=by rw [Zep,KS F hp];rfl
 simp only [DE,el,eg]
 exact if_pos Qc
theorem Zeq {a b:Bool} {Q:D→HD→Prop} (q:Q (lit (Bool.xor a b)) h):Wp (AV (lit a) (lit b) h) fun x h1=>Wp (Dw x (.int 2) h1) Q:=by
 have key:∀a b:Bool,((if a then 1 else 0:Int)+(if b then 1 else 0)) % 2=if Bool.xor a b then 1 else 0:=by decide
 refine Ay (show AV (lit a) (lit b) h=.ok (.int ((if a then 1 else 0)+(if b then 1 else 0))) h from rfl) ?_
 rw [AW]
 refine Ay (FN (by decide)) ?_
 rw [AW,key]
 exact q
theorem Ql {lt lp:Nat} {T:List Ak} {A:List Bu} {i:Nat} {f1 f2:Bool} {Q:D→HD→Prop} (n8:n≤8) (F:Forest n (ad T) A) (et:h[lt]?=some (.dic f1 (B7 T))) (ep:h[lp]?=some (.dic f2 (B0 A))) (hi:∃p,(i,p)∈A) (q:∀h',Sm h h'→Q (.int (A3 T ((Dg A i).getD []))) h'):
 Wp (DE (.loc lp) (.int ((i:Nat):Int)) h) fun d h1=>Wp (BV [.loc lt,d] h1) Q:=by
 obtain ⟨p,hp⟩:=hi
 refine Ay (Qk F hp ep) ?_
 rw [AW]
 have hl:=F.plen hp
 refine (U4 et (JM F _ i p (AK _) hp) (by omega)).wp fun h1 s1=>?_
 have:=q h1 s1
 rw [KS F hp] at this
 exact this
theorem U9 {Q:D→HD→Prop} (k:NetOk n L) (k':NetOk n L') (pr:L.map Cw=L'.map Cw)
 (q:∀A h',Sm h h'→Forest n (ad (CL L L')) A→IW n (ad (CL L L')) A→(∀i,i<n→∃p,(i,p)∈A)→Q (if L.map (AM (par (CL L L') A))=L' then A1 n (par (CL L L') A) else .non) h'):Wp (CD [AX n L,AX n L'] h) Q:=by
 have kl:=k.le
 have kl':=k'.le
 have k8:=k.n8
 change Wp (Ao 6 (PY A2 Fi B1 CY BV B6) [AX n L,AX n L'] h) _
 refine Eq.mpr Ba ?_
 simp [-An]
 refine (Ja k).wp fun h1 s1=>?_
 refine Eq.mpr An ?_
 simp [-An]
 refine (Ja k').wp fun h2 s2=>?_
 refine Eq.mpr An ?_
 have ix0:∀h (L:List Ak),AE (AX n L) (.int 0) h=.ok (.int ((n:Nat):Int)) h:=fun h L=>rfl
 have ix1:∀h (L:List Ak),AE (AX n L) (.int 1) h=.ok (.tup (L.map AL)) h:=fun h L=>rfl
 simp [-An,ix0]
 refine Eq.mpr An ?_
 simp [-An,ix0]
 refine U7 (by omega) fun l3 h3 s3 e3=>?_
 refine U7 (by omega) fun l4 h4 s4 e4=>?_
 refine Ay (Zeo (s4 _ _ e3) e4) ?_
 rw [AW,decide_eq_true pr]
 simp [-An]
 refine Eq.mpr An ?_
 simp [-An]
 refine FL (src:=[]) (xs:=L.zip L') (φ:=fun z=>.tup [AL z.1,AL z.2]) (fun _=>true) (fun z=>AL (z.1.1,z.1.2.1,Bool.xor z.1.2.2 z.2.2.2)) (fun z=>[some (AL z.2),some (.int ((z.1.1:Nat):Int)),some (.int ((z.1.2.1:Nat):Int)),some (lit z.1.2.2)]) ?_ (by rw [JU];unfold sizeLine;omega) (fun x _=>rfl) (fun x _ h' s'=>(.ok:Pu (.ok true h') h' true)) (fun z _ _ h' s'=>?_) fun l5 h5 s5 e5=>?_
 ·simp [ix1]
  refine Ay (show FQ [.tup (L.map AL),.tup (L'.map AL)] h4=.ok (CB (L.map AL) (L'.map AL),[]) h4 from rfl) ?_
  rw [AW]
  have ez:CB (L.map AL) (L'.map AL)=(L.zip L').map fun z=>.tup [AL z.1,AL z.2]:=by
   unfold CB
   rw [List.zipWith_map,List.zip,Lx]
  rw [ez]
  exact ⟨rfl,.refl _,fun h' s'=>B2⟩
 ·have i2:AE (AL z.2) (.int 2) h'=.ok (lit z.2.2.2) h':=rfl
  simp [Pu,i2]
  exact Zeq ⟨rfl,.refl _⟩
 rw [DY] at e5
 have e5:h5[l5]?=some (.lst ((CL L L').map AL)):=by rw [e5];unfold CL;rw [BS];rfl
 refine Qh (L:=CL L L') (src:=[(l5,(CL L L').map AL)]) (by unfold CL;rw [Cb,JU];omega) (fun h' s'=>Kv (s' _ _ e5)) (fun h' s'=>Kh (s' _ _ e5)) fun l6 h6 s6 e6=>?_
 refine Eq.mpr An ?_
 simp [-An]
 refine UV (n:=n) (adj:=ad (CL L L')) k8 Qd (U0 e6) fun l7 h7 A s7 e7 F C al=>?_
 refine Eq.mpr An ?_
 refine Eq.mpr BZ ?_
 refine Eq.mpr Ob ?_
 have e67:=s7 _ _ e6
 refine Pu.wp (R9 (src:=[]) (xs:=List.range n) (φ:=fun i=>.int ((i:Nat):Int)) (par (CL L L') A) (fun i=>.int ((i:Nat):Int)) (fun i=>[some (.int ((i:Nat):Int)),some (.loc l6),some (.loc l7)]) ?_ (by rw [Hl];unfold sizeLine;omega) (fun x _=>rfl) (fun x hx h' s'=>?_) (fun x hx _ h' s'=>?_)) fun h8 s8=>?_
 ·simp [EI (show n≤1000 by omega),Sm.refl,Bq]
 ·have hx:=qb2.mp hx
  simp only [Pu,YI,R7,R6,R5,GX,GY,Gw,YH,AW]
  refine Ql k8 F (s' _ _ e67) (s' _ _ e7) (al x hx) fun h9 s9=>?_
  refine Ay (FN (by decide)) ?_
  rw [AW]
  refine Ay OI ?_
  rw [AW]
  exact ⟨rfl,s9⟩
 ·simp [Pu,Sm.refl]
 refine Eq.mpr An ?_
 simp
 refine (KR (p:=par (CL L L') A) k).wp fun h9 s9=>?_
 refine Ay Zen ?_
 rw [AW]
 have S:Sm h h9:=(((((((s1.trans s2).trans s3).trans s4).trans s5).trans s6).trans s7).trans s8).trans s9
 have:=q A h9 S F C al
 by_cases z:L.map (AM (par (CL L L') A))=L'
 ·rw [if_pos z] at this
  simp [z]
  exact this
 ·rw [if_neg z] at this
  simp [z]
  exact this
end
theorem EY {L:List Ak} {a b:Nat} {r:List Nat}:A3 L (a::b::r)=bi (li L a b)+A3 L (b::r):=rfl
theorem Zer {x:Bool}:bi x % 2=bi x:=by cases x<;>rfl
theorem Zes {x y:Bool}:(bi x+bi y) % 2=bi (Bool.xor x y):=by cases x<;>cases y<;>rfl
theorem Va {x:Bool}:decide (bi x=1)=x:=by cases x<;>rfl
theorem JN {L:List Ak} {a b:Nat} {r:List Nat} (h:CF L (a::b::r)):ad L a b=true∧CF L (b::r):=⟨h (a,b) AZ,fun z hz=>h z (Bb _ hz)⟩
theorem KU {L:List Ak} {S:Nat→Bool} (hS:∀x y,ad L x y=true→li L x y=Bool.xor (S x) (S y)):∀(r:List Nat) (a:Nat),CF L (a::r)→A3 L (a::r) % 2=bi (Bool.xor (S a) (S ((a::r).getLastD 0)))
 |[],a,_=>by
  show (0:Int) % 2=bi (Bool.xor (S a) (S a))
  rw [Jk]
  rfl
 |b::r,a,h=>by
  obtain ⟨h1,h2⟩:=JN h
  rw [EY,hS a b h1]
  have ih:=KU hS r b h2
  have e:(b::r).getLastD 0=(a::b::r).getLastD 0:=rfl
  rw [e] at ih
  rw [Int.add_emod,ih,Zer,Zes]
  congr 1
  generalize S ((a::b::r).getLastD 0)=x
  cases S a<;>cases S b<;>cases x<;>rfl
theorem M7 {T:List Ak} {S:Nat→Bool} (h:∀t∈T,t.2.2=Bool.xor (S t.1) (S t.2.1)) {x y:Nat} (ha:ad T x y=true):li T x y=Bool.xor (S x) (S y):=by
 unfold li
 cases hf:T.reverse.find? (mt x y) with
 |none=>
  obtain ⟨t,ht,hm⟩:=qbC.mp ha
  exact absurd hm (qbV.mp hf t (by simpa using ht))
 |some t=>
  have ht:t∈T:=by have:=JP hf;simpa using this
  have hm:mt x y t=true:=Jg hf
  show t.2.2=_
  rw [h t ht]
  rcases of_decide_eq_true hm with ⟨h1,h2⟩ |⟨h1,h2⟩
  ·rw [h1,h2]
  ·rw [h1,h2,Bool.xor_comm]
section
variable {n:Nat} {L:List Ak} {S:Nat→Bool} {A:List Bu}
theorem Zet:CL L (L.map (AM S))=L.map fun t=>(t.1,t.2.1,Bool.xor (S t.1) (S t.2.1)):=by
 unfold CL
 induction L with
 |nil=>rfl
 |cons t L ih=>
  rw [Br,Lq,Br,Br,ih]
  congr 1
  show (t.1,t.2.1,Bool.xor t.2.2 (Bool.xor t.2.2 (Bool.xor (S t.1) (S t.2.1))))=_
  rw [←Bool.xor_assoc,Jk,LF]
theorem Zeu {g:Ak→Bool} {x y:Nat}:ad (L.map fun t=>(t.1,t.2.1,g t)) x y=ad L x y:=by
 unfold ad
 rw [JV]
 rfl
theorem M8 {t:Ak} (ht:t∈L):ad L t.1 t.2.1=true:=qbC.mpr ⟨t,ht,decide_eq_true (.inl ⟨rfl,rfl⟩)⟩
theorem Vb (k:NetOk n L) (F:Forest n (ad (CL L (L.map (AM S)))) A) (C:IW n (ad (CL L (L.map (AM S)))) A) (al:∀i,i<n→∃p,(i,p)∈A):L.map (AM (par (CL L (L.map (AM S))) A))=L.map (AM S):=by
 rw [Zet] at *
 have hS:∀t∈L.map (fun t:Ak=>((t.1,t.2.1,Bool.xor (S t.1) (S t.2.1)):Ak)),t.2.2=Bool.xor (S t.1) (S t.2.1):=fun t ht=>by
  obtain ⟨s,_,rfl⟩:=qaJ.mp ht
  rfl
 generalize eT:L.map (fun t:Ak=>((t.1,t.2.1,Bool.xor (S t.1) (S t.2.1)):Ak))=T at *
 have pot:∀i,i<n→∃p,(i,p)∈A∧par T A i=Bool.xor (S (p.headD 0)) (S i):=fun i hi=>by
  obtain ⟨p,hp⟩:=al i hi
  refine ⟨p,hp,?_⟩
  obtain ⟨q,rfl⟩:=F.last hp
  have al':=JM F _ i _ (AK _) hp
  unfold par
  rw [KS F hp]
  show decide (A3 T (q++[i]) % 2=1)=_
  cases q with
  |nil=>
   rw [GJ] at al' ⊢
   rw [KU (S:=S) (fun x y=>M7 hS) [] i al',Va]
   rfl
  |cons a r=>
   rw [show a::r++[i]=a::(r++[i]) from rfl] at al' ⊢
   rw [KU (S:=S) (fun x y=>M7 hS) (r++[i]) a al',Va]
   have el:(a::(r++[i])).getLastD 0=i:=by
    rw [←List.cons_append,Nr]
   rw [el]
   rfl
 refine CN fun t ht=>?_
 obtain ⟨o1,o2⟩:=k.ok t ht
 obtain ⟨p1,m1,e1⟩:=pot t.1 (by omega)
 obtain ⟨p2,m2,e2⟩:=pot t.2.1 o2
 have had:ad T t.1 t.2.1=true:=by rw [←eT,Zeu];exact M8 ht
 obtain ⟨p2',m2',hd⟩:=C t.1 p1 m1 t.2.1 o2 had
 have:=F.one m2 m2'
 subst this
 have hh:p2.headD 0=p1.headD 0:=by rw [Lm,Lm,hd]
 unfold AM
 rw [e1,e2,hh]
 generalize S (p1.headD 0)=x
 cases t.2.2<;>cases S t.1<;>cases S t.2.1<;>cases x<;>rfl
def Hf (L:List Ak):List Ak:=L.map fun t=>(t.1,t.2.1,false)
def Dp (L:List Ak):Prop:=∃S,L.map (AM S)=Hf L
theorem Zev {g:Ak→Bool}:L.map Cw=(L.map fun t=>((t.1,t.2.1,g t):Ak)).map Cw:=by rw [BS];rfl
theorem Zew:L.map Cw=(L.map (AM S)).map Cw:=by rw [BS];rfl
theorem Zex (k:NetOk n L):NetOk n (Hf L):=⟨k.n1,k.n8,fun t ht=>by
 obtain ⟨s,hs,rfl⟩:=qaJ.mp ht
 exact k.ok s hs,by
 unfold Hf
 rw [Hk]
 exact k.so.imp fun h=>h,by unfold Hf;rw [Cb];exact k.le⟩
open Classical in
theorem M9 {h:HD} {Q:D→HD→Prop} (k:NetOk n L) (q:∀h',Sm h h'→Q (.bl (decide (Dp L))) h'):Wp (Do [AX n L] h) Q:=by
 change Wp (Ao 3 (P3 A2 CD) [AX n L] h) _
 refine Eq.mpr Ba ?_
 simp
 refine (Ja k).wp fun h1 s1=>?_
 have kl:=k.le
 simp [AX]
 refine Pu.wp (GZ (src:=[]) (xs:=L) (φ:=AL) (fun t=>AL (t.1,t.2.1,false)) (fun t=>[some (.int ((t.1:Nat):Int)),some (.int ((t.2.1:Nat):Int)),some (lit t.2.2)]) (Og rfl) (fun x _=>rfl) (fun t _ h' s'=>?_) (by unfold sizeLine;omega)) fun h2 s2=>?_
 ·simp [Pu,AL,lit,Sm.refl]
 have ed:D.tup [.int (n:Nat),.tup (L.map fun t=>AL (t.1,t.2.1,false))]=AX n (Hf L):=by unfold AX Hf;rw [BS];rfl
 refine Eq.mpr (congrArg (fun d=>Wp (CD [AX n L,d] h2) _) ed) ?_
 refine U9 k (Zex k) Zev fun A h3 s3 F C al=>?_
 have S3:=(s1.trans s2).trans s3
 by_cases z:L.map (AM (par (CL L (Hf L)) A))=Hf L
 ·rw [if_pos z]
  have:=q h3 S3
  rw [decide_eq_true (show Dp L from ⟨_,z⟩)] at this
  simp [A1,Eb,J9]
  exact this
 ·have nq:¬Dp L:=fun ⟨S,hS⟩=>by
   rw [←hS] at F C z
   exact z (Vb k F C al)
  rw [if_neg z]
  have:=q h3 S3
  rw [decide_eq_false nq] at this
  simp [Eb,J9]
  exact this
end
def CM:List Nat→List Nat→List Nat
 |a::p,b::q=>if a=b then a::CM p q else []
 |_,_=>[]
theorem Qm:∀{p q:List Nat},CM p q <+:p
 |[],q=>by unfold CM;exact LC
 |a::p,[]=>by unfold CM;exact LC
 |a::p,b::q=>by
  unfold CM
  split
  ·exact (List.prefix_cons_inj a).mpr Qm
  ·exact LC
theorem Qn:∀{p q:List Nat},CM p q=CM q p
 |[],[]=>rfl
 |[],_::_=>rfl
 |_::_,[]=>rfl
 |a::p,b::q=>by
  unfold CM
  by_cases e:a=b
  ·subst e;rw [if_pos rfl,if_pos rfl,Qn]
  ·rw [if_neg e,if_neg (Ne.symm e)]
theorem Vc:∀{r p q:List Nat},r <+:p→r <+:q→r <+:CM p q
 |[],_,_,_,_=>LC
 |x::r,p,q,h1,h2=>by
  obtain ⟨p',rfl⟩:=h1
  obtain ⟨q',rfl⟩:=h2
  show x::r <+:CM (x::(r++p')) (x::(r++q'))
  unfold CM
  rw [if_pos rfl]
  exact (List.prefix_cons_inj x).mpr (Vc (Gg _ _) (Gg _ _))
structure Vd (p q c p' q':List Nat):Prop where
 ep:p=c++p'
 eq:q=c++q'
 d1:∀x∈p',x∉q
 d2:∀x∈q',x∉p
 ne:c≠[]
theorem Zey {n:Nat} {adj:Nat→Nat→Bool} {A:List Bu} (F:Forest n adj A) {a b:Nat} {p q:List Nat} (ha:(a,p)∈A) (hb:(b,q)∈A) (hh:p.head?=q.head?):∃c p' q',Vd p q c p' q':=by
 obtain ⟨p',ep⟩:=Qm (p:=p) (q:=q)
 have l2:CM p q <+:q:=by rw [Qn];exact Qm
 obtain ⟨q',eq⟩:=l2
 have key:∀(a b:Nat) (p q p':List Nat),(a,p)∈A→(b,q)∈A→CM p q++p'=p→∀x∈p',x∉q:=fun a b p q p' ha hb ep x hx hq=>by
  obtain ⟨r,h1,h2⟩:=F.pf a p ha x (by rw [←ep];exact Bi _ hx)
  obtain ⟨r',h3,h4⟩:=F.pf b q hb x hq
  have:=F.one h1 h3
  subst this
  have h5:=Vc h2 h4
  obtain ⟨s,es⟩:=F.last h1
  have xc:x∈CM p q:=h5.subset (by rw [es];simp)
  have nd:=F.nd a p ha
  rw [←ep,qbH] at nd
  exact nd.2.2 x xc x hx rfl
 refine ⟨CM p q,p',q',ep.symm,eq.symm,key a b p q p' ha hb ep,?_,?_⟩
 ·have:=key b a q p q' hb ha (by rw [Qn];exact eq)
  exact this
 ·obtain ⟨s,rfl⟩:=F.last ha
  obtain ⟨t,rfl⟩:=F.last hb
  cases s with
  |nil=>
   cases t with
   |nil=>simp at hh;subst hh;simp [CM]
   |cons y t=>simp at hh;subst hh;simp [CM]
  |cons x s=>
   cases t with
   |nil=>simp at hh;subst hh;simp [CM]
   |cons y t=>simp at hh;subst hh;simp [CM]
theorem Zez {p q c p' q':List Nat} (K:Vd p q c p' q'):(p.filter fun x=>q.contains x)=c:=by
 have h1:c.filter (fun x=>q.contains x)=c:=qcH.mpr fun x hx=>by
  rw [K.eq]
  simp [hx]
 have h2:p'.filter (fun x=>q.contains x)=[]:=List.filter_eq_nil_iff.mpr fun x hx=>by
  have:=K.d1 x hx
  simpa using this
 have e:=K.ep
 rw [e,Lr,h1,h2,E3]
theorem Jc {L:List Ak} {a:Nat}:A3 L [a]=0:=rfl
theorem KV {L:List Ak}:∀{r s:List Nat} {m:Nat},A3 L (r++m::s)=A3 L (r++[m])+A3 L (m::s)
 |[],s,m=>by rw [GJ,GJ,Jc];omega
 |[a],s,m=>by
  show A3 L (a::m::s)=A3 L (a::[m])+A3 L (m::s)
  rw [EY,EY,Jc]
  omega
 |a::b::r,s,m=>by
  have ih:=KV (L:=L) (r:=b::r) (s:=s) (m:=m)
  show A3 L (a::b::(r++m::s))=A3 L (a::b::(r++[m]))+_
  rw [EY,EY]
  have e1:b::r++m::s=b::(r++m::s):=rfl
  have e2:b::r++[m]=b::(r++[m]):=rfl
  rw [e1,e2] at ih
  rw [ih]
  omega
theorem Ve {L:List Ak}:∀{p:List Nat},A3 L p.reverse=A3 L p
 |[]=>rfl
 |[a]=>rfl
 |a::b::r=>by
  rw [En,En,CO]
  show A3 L (r.reverse++b::[a])=_
  rw [KV,EY]
  have ih:=Ve (L:=L) (p:=b::r)
  rw [En] at ih
  rw [ih,EY,Jc,UX]
  omega
theorem along_app {L:List Ak}:∀{r s:List Nat} {m:Nat},CF L (r++m::s)↔CF L (r++[m])∧CF L (m::s)
 |[],s,m=>⟨fun h=>⟨fun z hz=>(nomatch hz),h⟩,fun h=>h.2⟩
 |[a],s,m=>by
  show CF L (a::m::s)↔CF L (a::[m])∧CF L (m::s)
  constructor
  ·intro h
   obtain ⟨h1,h2⟩:=JN h
   exact ⟨fun z hz=>by
    have:z=(a,m):=by simpa using hz
    rw [this];exact h1,h2⟩
  ·rintro ⟨h1,h2⟩ z hz
   rcases qa3.mp hz with rfl |hz
   ·exact h1 (a,m) AZ
   ·exact h2 z hz
 |a::b::r,s,m=>by
  have ih:=along_app (L:=L) (r:=b::r) (s:=s) (m:=m)
  show CF L (a::b::(r++m::s))↔CF L (a::b::(r++[m]))∧CF L (m::s)
  constructor
  ·intro h
   obtain ⟨h1,h2⟩:=JN h
   obtain ⟨h3,h4⟩:=ih.mp h2
   exact ⟨fun z hz=>by
    rcases qa3.mp hz with rfl |hz
    ·exact h1
    ·exact h3 z hz,h4⟩
  ·rintro ⟨h1,h2⟩
   obtain ⟨h3,h4⟩:=JN h1
   have:=ih.mpr ⟨h4,h2⟩
   intro z hz
   rcases qa3.mp hz with rfl |hz
   ·exact h3
   ·exact this z hz
theorem Vf {L:List Ak}:∀{p:List Nat},CF L p→CF L p.reverse
 |[],h=>h
 |[a],h=>h
 |a::b::r,h=>by
  obtain ⟨h1,h2⟩:=JN h
  have ih:=Vf h2
  rw [En] at ih
  rw [En,En,CO]
  exact along_app.mpr ⟨ih,fun z hz=>by
   have:z=(b,a):=by simpa using hz
   rw [this,Qd]
   exact h1⟩
structure Ring (n:Nat) (L:List Ak) (R:List Nat):Prop where
 len:3≤R.length
 lt:∀x∈R,x<n
 nd:R.Nodup
 al:CF L (R++R.take 1)
 od:A3 L (R++R.take 1) % 2=1
def KW (p q:List Nat):List Nat:=p.drop ((p.filter fun x=>q.contains x).length - 1)++(q.drop (p.filter fun x=>q.contains x).length).reverse
theorem ZeA {n:Nat} {L:List Ak} {A:List Bu} (F:Forest n (ad L) A) {a b:Nat} {p q:List Nat} (ha:(a,p)∈A) (hb:(b,q)∈A) (hh:p.head?=q.head?) (hab:ad L a b=true) (nab:a≠b) (ho:(A3 L p+bi (li L a b)+A3 L q) % 2=1):1≤(p.filter fun x=>q.contains x).length∧Ring n L (KW p q):=by
 obtain ⟨c,p',q',K⟩:=Zey F ha hb hh
 have ef:=Zez K
 obtain ⟨c0,m,rfl⟩:∃c0 m,c=c0++[m]:=by
  rcases Ln c with z |⟨c0,m,z⟩
  ·exact absurd z K.ne
  ·exact ⟨c0,m,by rw [z,Lo]⟩
 refine ⟨by rw [ef];simp,?_⟩
 have ep:=K.ep
 have eq:=K.eq
 have er:KW p q=m::p'++q'.reverse:=by
  unfold KW
  rw [ef,ep,eq]
  simp
 have lp:p.length≤n:=F.plen ha
 have ndp:=F.nd a p ha
 have ndq:=F.nd b q hb
 have ap:=JM F _ a p (AK _) ha
 have aq:=JM F _ b q (AK _) hb
 have ap':CF L (m::p'):=by rw [ep,CO] at ap;exact (along_app.mp ap).2
 have aq':CF L (m::q'):=by rw [eq,CO] at aq;exact (along_app.mp aq).2
 have sp:A3 L p=A3 L (c0++[m])+A3 L (m::p'):=by rw [ep,CO];exact KV
 have sq:A3 L q=A3 L (c0++[m])+A3 L (m::q'):=by rw [eq,CO];exact KV
 obtain ⟨sa,ea⟩:=F.last ha
 obtain ⟨sb,eb⟩:=F.last hb
 obtain ⟨u,hu⟩:∃u,m::p'=u++[a]:=by
  rcases Ln p' with z |⟨p0,x,z⟩
  ·rw [ep,z,E3] at ea
   have:=E2 ea rfl
   have e2:m=a:=by have:=this.2;cases this;rfl
   exact ⟨[],by rw [z,e2];rfl⟩
  ·rw [Lo] at z
   rw [ep,z,←CO] at ea
   have:=E2 ea rfl
   have e2:x=a:=by have:=this.2;cases this;rfl
   exact ⟨m::p0,by rw [z,e2];rfl⟩
 obtain ⟨v,hv⟩:∃v,m::q'=v++[b]:=by
  rcases Ln q' with z |⟨p0,x,z⟩
  ·rw [eq,z,E3] at eb
   have:=E2 eb rfl
   have e2:m=b:=by have:=this.2;cases this;rfl
   exact ⟨[],by rw [z,e2];rfl⟩
  ·rw [Lo] at z
   rw [eq,z,←CO] at eb
   have:=E2 eb rfl
   have e2:x=b:=by have:=this.2;cases this;rfl
   exact ⟨m::p0,by rw [z,e2];rfl⟩
 have way:m::p'++q'.reverse++[m]=u++a::(b::v.reverse):=by
  have e1:q'.reverse++[m]=b::v.reverse:=by
   have:(m::q').reverse=(v++[b]).reverse:=by rw [hv]
   rw [En,List.reverse_append] at this
   exact this
  rw [CO,e1,hu,CO]
  rfl
 have rv:b::v.reverse=(v++[b]).reverse:=by rw [List.reverse_append];rfl
 have tk:(m::p'++q'.reverse).take 1=[m]:=rfl
 have so:A3 L (u++a::(b::v.reverse))=A3 L (m::p')+(bi (li L a b)+A3 L (m::q')):=by
  rw [KV,EY,←hu,rv,Ve,←hv]
 have od:A3 L (u++a::(b::v.reverse)) % 2=1:=by rw [so];omega
 rw [er]
 refine ⟨?_,fun x hx=>?_,?_,?_,?_⟩
 ·-- not two
  by_cases z:3≤(m::p'++q'.reverse).length
  ·exact z
  ·exfalso
   simp at z
   have lu:u.length=p'.length:=by have:=congrArg List.length hu;simp at this;omega
   have lv:v.length=q'.length:=by have:=congrArg List.length hv;simp at this;omega
   cases p' with
   |nil=>
    cases q' with
    |nil=>
     have e1:m=a:=by cases u with
      |nil=>simpa using hu
      |cons x u=>simp at lu
     have e2:m=b:=by cases v with
      |nil=>simpa using hv
      |cons x v=>simp at lv
     exact nab (e1.symm.trans e2)
    |cons y q'=>
     cases q' with
     |cons y2 q'=>simp at z;omega
     |nil=>
      have e1:m=a:=by cases u with
       |nil=>simpa using hu
       |cons x u=>simp at lu
      have e2:y=b:=by
       have:=congrArg (fun l=>l.getLastD 0) hv
       simpa using this
      rw [so,Jc,EY,Jc,e1,e2] at od
      omega
   |cons x p'=>
    cases p' with
    |cons x2 p'=>simp at z;omega
    |nil=>
     cases q' with
     |cons y q'=>simp at z;omega
     |nil=>
      have e1:x=a:=by
       have:=congrArg (fun l=>l.getLastD 0) hu
       simpa using this
      have e2:m=b:=by cases v with
       |nil=>simpa using hv
       |cons x v=>simp at lv
      rw [so,Jc,EY,Jc,e1,e2,UX] at od
      omega
 ·have lt:∀y∈p,y<n:=fun y hy=>by
   obtain ⟨r,h1,_⟩:=F.pf a p ha y hy
   exact F.lt _ _ h1
  have lt2:∀y∈q,y<n:=fun y hy=>by
   obtain ⟨r,h1,_⟩:=F.pf b q hb y hy
   exact F.lt _ _ h1
  rcases qaH.mp hx with y |y
  ·refine lt x ?_
   rw [ep]
   rcases qa3.mp y with rfl |y
   ·simp
   ·exact Bi _ y
  ·refine lt2 x ?_
   rw [eq]
   exact Bi _ (List.mem_reverse.mp y)
 ·rw [ep,CO] at ndp
  rw [eq,CO] at ndq
  have n1:(m::p').Nodup:=(qbH.mp ndp).2.1
  have n2:(m::q').Nodup:=(qbH.mp ndq).2.1
  rw [qbH]
  refine ⟨n1,?_,fun x hx y hy=>?_⟩
  ·exact List.pairwise_reverse.mpr ((qbJ.mp n2).2.imp fun h=>Ne.symm h)
  ·rintro rfl
   have hy:=List.mem_reverse.mp hy
   refine K.d2 x hy ?_
   rw [ep]
   rcases qa3.mp hx with rfl |hx
   ·simp
   ·exact Bi _ hx
 ·rw [tk,way]
  refine along_app.mpr ⟨by rw [←hu];exact ap',?_⟩
  intro z hz
  rcases qa3.mp hz with rfl |hz
  ·exact hab
  ·have:=Vf aq'
   rw [hv,←rv] at this
   exact this z hz
 ·rw [tk,way]
  exact od
section
variable {n:Nat} {L:List Ak} {h:HD} {p q:List Nat}
theorem ZeB {f:ME} {ρ:Ai} {h:HD} {Q:D→HD→Prop}:Wp (MB f ρ h) Q=Wp (f ρ h) fun x h1=>Wp (Mz x h1) Q:=by unfold MB;rw [AB]
theorem Vg {k:Nat}:D3 (AH p) (some (k:Int)) none h=.ok (AH (p.drop k)) h:=by
 unfold AH
 rw [UF,List.map_drop]
theorem Vh (hz:p.length+q.length≤1000):AV (AH p) (AH q) h=.ok (AH (p++q)) h:=by
 unfold AH
 rw [P8 (by simpa using hz),DR]
theorem ZeC:Mz (AH p) h=.ok (AH p.reverse) h:=by
 unfold AH
 rw [List.map_reverse]
 rfl
theorem ZeD (hs:1≤(p.filter fun x=>q.contains x).length) (lp:p.length≤100) (lq:q.length≤100):Pu (FY [AH p,AH q] h) h (AH (KW p q)):=by
 change Wp (Ao 3 Pm [AH p,AH q] h) _
 refine Eq.mpr Ba ?_
 simp
 refine FL (src:=[]) (xs:=p) (φ:=fun i=>.int ((i:Nat):Int)) (fun x=>q.contains x) (fun i=>.int ((i:Nat):Int)) (fun i=>[some (.int ((i:Nat):Int)),some (AH q)]) ?_ (by unfold sizeLine;omega) (fun x _=>rfl) (fun x _ h' s'=>?_) (fun x _ _ h' s'=>?_) fun l h1 s1 e1=>?_
 ·simp [AH]
  exact ⟨.refl _,fun h' s'=>B2⟩
 ·have:=Sd (neg:=false) (k:=x) (ks:=q) (h:=h')
  simp [Pu,AH,this,Sm.refl]
 ·simp [Pu,Sm.refl]
 ·refine Ay (Zw e1) ?_
  rw [AW,Cb]
  unfold KW
  generalize (p.filter fun x=>q.contains x).length=c at *
  simp
  rw [show ((c:Nat):Int) - 1=((c - 1:Nat):Int) by omega]
  refine Ay Vg ?_
  rw [AW]
  refine Eq.mpr ZeB ?_
  simp
  refine Ay Vg ?_
  rw [AW]
  refine Ay ZeC ?_
  rw [AW]
  refine Ay (Vh (by simp;omega)) ?_
  rw [AW]
  exact ⟨rfl,s1⟩
theorem Vi {α:Type} {R:α→α→Prop}:∀{L:List α},L.Pairwise R→∀s∈L,∀t∈L,s=t∨R s t∨R t s
 |[],_,s,hs,_,_=>nomatch hs
 |x::L,pw,s,hs,t,ht=>by
  rw [List.pairwise_cons] at pw
  rcases qa3.mp hs with z1 |z1
  ·rcases qa3.mp ht with z2 |z2
   ·exact .inl (z1.trans z2.symm)
   ·rw [z1];exact .inr (.inl (pw.1 t z2))
  ·rcases qa3.mp ht with z2 |z2
   ·rw [z2];exact .inr (.inr (pw.1 s z1))
   ·exact Vi pw.2 s z1 t z2
theorem ZeE (k:NetOk n L) {t:Ak} (ht:t∈L):li L t.1 t.2.1=t.2.2:=by
 unfold li
 cases hf:L.reverse.find? (mt t.1 t.2.1) with
 |none=>exact absurd (decide_eq_true (.inl ⟨rfl,rfl⟩)) (qbV.mp hf t (by simpa using ht))
 |some s=>
  have hs:s∈L:=by have:=JP hf;simpa using this
  have hm:mt t.1 t.2.1 s=true:=Jg hf
  have o1:=k.ok s hs
  have o2:=k.ok t ht
  have e:s.1=t.1∧s.2.1=t.2.1:=by
   rcases of_decide_eq_true hm with w |⟨w1,w2⟩
   ·exact w
   ·omega
  rcases Vi k.so s hs t ht with rfl |w |w
  ·rfl
  ·unfold I0 at w;omega
  ·unfold I0 at w;omega
theorem ZeF {A:List Bu} (k:NetOk n L) (F:Forest n (ad L) A) (C:IW n (ad L) A) (qu:Dp L) {t:Ak} (ht:t∈L) {p q:List Nat} (hp:(t.1,p)∈A) (hq:(t.2.1,q)∈A):(A3 L p+bi t.2.2+A3 L q) % 2=0:=by
 obtain ⟨S,hS⟩:=qu
 have all:∀t∈L,t.2.2=Bool.xor (S t.1) (S t.2.1):=fun t ht=>by
  have:=(List.map_inj_left (f:=AM S) (g:=fun t:Ak=>((t.1,t.2.1,false):Ak)) (l:=L)).mp hS t ht
  have e:Bool.xor t.2.2 (Bool.xor (S t.1) (S t.2.1))=false:=congrArg (fun t:Ak=>t.2.2) this
  revert e
  cases t.2.2<;>cases S t.1<;>cases S t.2.1<;>simp
 have pot:∀i p,(i,p)∈A→A3 L p % 2=bi (Bool.xor (S (p.headD 0)) (S i)):=fun i p hp=>by
  have al':=JM F _ i _ (AK _) hp
  obtain ⟨r,rfl⟩:=F.last hp
  cases r with
  |nil=>
   rw [GJ] at al' ⊢
   exact KU (S:=S) (fun x y=>M7 all) [] i al'
  |cons a r=>
   rw [show a::r++[i]=a::(r++[i]) from rfl] at al' ⊢
   rw [KU (S:=S) (fun x y=>M7 all) (r++[i]) a al']
   have el:(a::(r++[i])).getLastD 0=i:=by rw [←List.cons_append,Nr]
   rw [el]
   rfl
 have e1:=pot _ _ hp
 have e2:=pot _ _ hq
 obtain ⟨q',hq',hd⟩:=C _ _ hp t.2.1 (k.ok t ht).2 (M8 ht)
 have:=F.one hq hq'
 subst this
 have hh:q.headD 0=p.headD 0:=by rw [Lm,Lm,hd]
 rw [hh] at e2
 rw [all t ht]
 have key:∀x y z:Bool,(bi (Bool.xor x y)+bi (Bool.xor y z)+bi (Bool.xor x z)) % 2=0:=by decide
 have:=key (S (p.headD 0)) (S t.1) (S t.2.1)
 omega
theorem ZeG {A:List Bu} (k:NetOk n L) (F:Forest n (ad L) A) (al:∀i,i<n→∃p,(i,p)∈A) (h:∀t∈L,(A3 L ((Dg A t.1).getD [])+bi t.2.2+A3 L ((Dg A t.2.1).getD [])) % 2≠1):Dp L:=by
 refine ⟨par L A,CN fun t ht=>?_⟩
 have:=h t ht
 unfold AM par
 generalize A3 L ((Dg A t.1).getD [])=x at *
 generalize A3 L ((Dg A t.2.1).getD [])=y at *
 have hx:x % 2=0∨x % 2=1:=by omega
 have hy:y % 2=0∨y % 2=1:=by omega
 obtain ⟨a,b,c⟩:=t
 simp only at *
 congr 2
 cases c<;>rcases hx with hx |hx<;>rcases hy with hy |hy<;>simp [hx,hy]<;>(unfold bi at this;simp at this;omega)
inductive Vj (n:Nat) (L:List Ak) (A:List Bu) (l3 l4:Nat) (h:HD) (xs:List Ak) (ρ:Ai) (h':HD):Prop where
 |mk (dn:List Ak) (y5 y6 y7:Option D) (ex:dn++xs=L) (er:ρ=[some (AX n L),some (.int ((n:Nat):Int)),some (.tup (L.map AL)),some (.loc l3),some (.loc l4),y5,y6,y7]) (s:Sm h h') (e3:h'[l3]?=some (.dic false (B7 L))) (e4:h'[l4]?=some (.dic false (B0 A))) (ev:∀t∈dn,(A3 L ((Dg A t.1).getD [])+bi t.2.2+A3 L ((Dg A t.2.1).getD [])) % 2≠1):Vj n L A l3 l4 h xs ρ h'
theorem ZeH {a b:Int}:AV (.int a) (.int b) h=.ok (.int (a+b)) h:=rfl
theorem ZeI {Q:D→HD→Prop} (k:NetOk n L) (q1:∀R h',Sm h h'→Ring n L R→¬Dp L→Q (AH R) h') (q2:∀h',Sm h h'→Dp L→Q .non h'):Wp (Fs [AX n L] h) Q:=by
 have kl:=k.le
 have k8:=k.n8
 change Wp (Ao 8 (PQ A2 B1 CY BV FY) [AX n L] h) _
 refine Eq.mpr Ba ?_
 simp [-An]
 refine (Ja k).wp fun h1 s1=>?_
 refine Eq.mpr An ?_
 simp [-An,AX]
 refine Eq.mpr An ?_
 simp [-An]
 refine Qh (L:=L) (src:=[]) (by omega) (fun h' s'=>rfl) (fun h' s'=>B2) fun l3 h3 s3 e3=>?_
 refine Eq.mpr An ?_
 simp [-An]
 refine UV (n:=n) (adj:=ad L) k8 Qd (U0 e3) fun l4 h4 A s4 e4 F C al=>?_
 refine Eq.mpr An ?_
 refine Eq.mpr BZ ?_
 refine EJ (src:=[]) (xs:=L) AL (Vj n L A l3 l4 h) ?_ (fun ys ρ h' _=>B2) ?_ ?_
 ·simp
  exact ⟨[],_,_,_,rfl,rfl,(s1.trans s3).trans s4,s4 _ _ e3,e4,fun t ht=>(nomatch ht)⟩
 ·rintro t xs ρ h5 ⟨dn,y5,y6,y7,ex,rfl,s5,e3',e4',ev⟩
  refine ⟨_,rfl,?_⟩
  have ht:t∈L:=by rw [←ex];simp
  obtain ⟨o1,o2⟩:=k.ok t ht
  simp
  refine Ql k8 F e3' e4' (al t.1 (by omega)) fun h6 s6=>?_
  refine Ay (show AV (.int (A3 L ((Dg A t.1).getD []))) (lit t.2.2) h6=.ok (.int (A3 L ((Dg A t.1).getD [])+bi t.2.2)) h6 from rfl) ?_
  rw [AW]
  refine Ql k8 F (s6 _ _ e3') (s6 _ _ e4') (al t.2.1 o2) fun h7 s7=>?_
  refine Ay ZeH ?_
  rw [AW]
  refine Ay (FN (by decide)) ?_
  rw [AW]
  refine Ay OI ?_
  rw [AW]
  have s57:=s6.trans s7
  by_cases z:(A3 L ((Dg A t.1).getD [])+bi t.2.2+A3 L ((Dg A t.2.1).getD [])) % 2=1
  ·obtain ⟨p,hp⟩:=al t.1 (by omega)
   obtain ⟨q,hq⟩:=al t.2.1 o2
   simp [z,CA]
   refine Ay (Qk F hp (s57 _ _ e4')) ?_
   rw [AW]
   refine Ay (Qk F hq (s57 _ _ e4')) ?_
   rw [AW]
   rw [KS F hp,KS F hq] at z
   simp only [Option.getD_some] at z
   obtain ⟨q',hq',hd⟩:=C _ _ hp t.2.1 o2 (M8 ht)
   have:=F.one hq hq'
   subst this
   have nq:¬Dp L:=fun qu=>by
    have:=ZeF k F C qu ht hp hq
    omega
   obtain ⟨r1,r2⟩:=ZeA F hp hq hd.symm (M8 ht) (by omega) (by rw [ZeE k ht];exact z)
   have lp:=F.plen hp
   have lq:=F.plen hq
   refine (ZeD r1 (by omega) (by omega)).wp fun h8 s8=>?_
   exact q1 _ h8 ((s5.trans s57).trans s8) r2 nq
  ·have z':((A3 L ((Dg A t.1).getD [])+bi t.2.2+A3 L ((Dg A t.2.1).getD [])) % 2==1)=false:=by simpa using z
   rw [z']
   simp [CA]
   exact ⟨dn++[t],_,_,_,by simpa using ex,rfl,s5.trans s57,s57 _ _ e3',s57 _ _ e4',fun s hs=>by
    rcases qaH.mp hs with w |w
    ·exact ev s w
    ·rw [qa7] at w;subst w;exact z⟩
 ·rintro ρ h5 ⟨dn,y5,y6,y7,ex,rfl,s5,e3',e4',ev⟩
  rw [E3] at ex
  subst ex
  simp
  exact q2 h5 s5 (ZeG k F al ev)
end
section
variable {n:Nat} {L:List Ak} {h:HD} {R:List Nat} {S:Nat→Bool}
theorem ZeJ {x:Nat}:Kz (AH R) (.int ((x:Nat):Int)) h=.ok (.int ((R.countP fun y=>decide (y=x):Nat):Int)) h:=by
 have e:Bk ((R.map fun i=>D.int ((i:Nat):Int)).map CT)=some (R.map fun i=>V.int ((i:Nat):Int)):=by
  rw [BS]
  exact FM (f:=CT∘fun i=>D.int ((i:Nat):Int)) (fun x _=>rfl)
 show (Out.ok (AH R) h).bind (fun _ _=>Gy (AH R) (.int ((x:Nat):Int)) h)=_
 rw [Out.bind_ok]
 simp only [Gy,AH,BY,CT,e]
 congr 3
 unfold JG
 rw [List.countP_map]
 congr 1
 funext y
 show Ew (.int ((y:Nat):Int)) (.int ((x:Nat):Int))=decide (y=x)
 rw [qaS,decide_eq_true_iff]
 simp [Ew]
 omega
theorem ZeK (nd:R.Nodup) {x:Nat}:(R.countP fun y=>decide (y=x))≤1:=by
 induction R with
 |nil=>simp
 |cons a R ih=>
  rw [qbJ] at nd
  rw [List.countP_cons]
  have:=ih nd.2
  by_cases e:a=x
  ·subst e
   have z:(R.countP fun y=>decide (y=a))=0:=by
    rw [List.countP_eq_zero]
    intro y hy
    have:y≠a:=fun e=>nd.1 (e ▸ hy)
    simpa using this
   rw [z]
   simp
  ·simp [e]
   exact this
theorem ZeL:D3 (AH R) none (some 1) h=.ok (AH (R.take 1)) h:=by
 unfold AH
 rw [ZdJ,List.map_take]
theorem ZeM (k:NetOk n L) (r:Ring n L R):Pu (Fq [AX n L,AH R] h) h (.bl true):=by
 have kl:=k.le
 have k8:=k.n8
 have k1:=k.n1
 have rl:=r.len
 have rz:R.length≤n:=KQ r.nd r.lt
 change Wp (Ao 6 (PP A2 BW B1 BV) [AX n L,AH R] h) _
 refine Eq.mpr Ba ?_
 simp [-An]
 refine (Ja k).wp fun h1 s1=>?_
 refine Eq.mpr An ?_
 simp [-An,AX]
 refine Eq.mpr An ?_
 have ln:∀h,BK (AH R) h=.ok (.int ((R.length:Nat):Int)) h:=fun h=>by simp [AH]
 have hlt:¬(R.length:Int)<3:=by omega
 have it:∀h,CV (AH R) (.ty "tuple") h=.ok (.bl true) h:=fun h=>rfl
 simp [-An,it,ln,hlt]
 refine Eq.mpr An ?_
 simp [-An]
 refine Pu.wp (HH (src:=[]) (xs:=R) (φ:=fun i=>.int ((i:Nat):Int)) (fun _=>true) (fun i=>[some (.int ((i:Nat):Int)),some (.int ((n:Nat):Int))]) (Og rfl) (fun x _=>rfl) (fun x hx h' s'=>?_) (by unfold sizeLine;omega)) fun h2 s2=>?_
 ·have:=r.lt x hx
  simp [Pu]
  refine p_is_between_int.wp fun h3 s3=>?_
  rw [decide_eq_true (show (0:Int)≤(x:Int) by omega),decide_eq_true (show (x:Int)≤(n:Int) - 1 by omega)]
  exact ⟨rfl,s3⟩
 simp [-An]
 refine Eq.mpr An ?_
 simp [-An]
 refine Pu.wp (ZE (src:=[]) (xs:=R) (φ:=fun i=>.int ((i:Nat):Int)) (fun _=>false) (fun i=>[some (.int ((i:Nat):Int)),some (AH R)]) (Og rfl) (fun x _=>rfl) (fun x hx h' s'=>?_) (by unfold sizeLine;omega)) fun h3 s3=>?_
 ·have c1:=ZeK r.nd (x:=x)
  have ic:∀h,Mw (AH R) h=.ok (AH R) h:=fun h=>rfl
  simp [Pu,ic]
  refine Ay ZeJ ?_
  rw [AW]
  have:¬(1:Int)<((R.countP fun y=>decide (y=x):Nat):Int):=by omega
  simp [this,Sm.refl]
 have af:(R.any fun _=>false)=false:=by simp
 simp [-An,af]
 refine Eq.mpr An ?_
 simp [-An]
 refine Qh (L:=L) (src:=[]) (by omega) (fun h' s'=>rfl) (fun h' s'=>B2) fun l4 h4 s4 e4=>?_
 refine Eq.mpr An ?_
 simp [-An]
 refine Ay ZeL ?_
 rw [AW]
 refine Ay (Vh (by simp;omega)) ?_
 rw [AW]
 refine Eq.mpr An ?_
 have al:=r.al
 have od:=r.od
 have wz:(R++R.take 1).length≤1000:=by simp;omega
 generalize R++R.take 1=w at *
 simp [-An]
 refine Pu.wp (HH (src:=[]) (xs:=w.zip w.tail) (φ:=fun z=>.tup [.int ((z.1:Nat):Int),.int ((z.2:Nat):Int)]) (fun _=>true) (fun z=>[some (.tup [.int ((z.1:Nat):Int),.int ((z.2:Nat):Int)]),some (.loc l4)]) ?_ (fun x _=>rfl) (fun z hz h' s'=>?_) (by rw [JU];unfold sizeLine;omega)) fun h5 s5=>?_
 ·simp [By,AH]
  refine Ay U3 ?_
  rw [AW]
  have ez:CB (w.map fun i=>D.int ((i:Nat):Int)) ((w.map fun i=>D.int ((i:Nat):Int)).drop 1)=(w.zip w.tail).map fun z=>.tup [.int ((z.1:Nat):Int),.int ((z.2:Nat):Int)]:=by
   unfold CB
   rw [←List.map_drop,List.drop_one,List.zipWith_map,List.zip,Lx]
  refine Ay (show FQ [.tup (w.map fun i=>D.int ((i:Nat):Int)),.tup ((w.map fun i=>D.int ((i:Nat):Int)).drop 1)] h4=.ok (CB (w.map fun i=>D.int ((i:Nat):Int)) ((w.map fun i=>D.int ((i:Nat):Int)).drop 1),[]) h4 from rfl) ?_
  rw [AW,ez]
  exact ⟨rfl,.refl _,fun h' s'=>B2⟩
 ·simp [Pu]
  have eg:(Bn (B7 L) (.t [((z.1:Nat):Int),((z.2:Nat):Int)])).isSome=true:=by
   have:=Qf (L:=L) (x:=z.1) (y:=z.2)
   rw [al z hz,if_pos rfl] at this
   show (Bn (B7 L) (kT z.1 z.2)).isSome=true
   rw [this]
   rfl
  refine Ay (show DD false (.tup [.int ((z.1:Nat):Int),.int ((z.2:Nat):Int)]) (.loc l4) h'=.ok (.bl true) h' from ?_) ?_
  ·simp only [DD,s' _ _ e4,LS.keyT,Ha,Gi]
   rw [if_pos (show Dl (B7 L)=true from M5 rfl),eg]
   rfl
  ·rw [AW]
   exact ⟨rfl,.refl _⟩
 have at':((w.zip w.tail).all fun _=>true)=true:=by simp
 simp [-An,at']
 refine Eq.mpr An ?_
 simp
 refine (U4 (s5 _ _ e4) al wz).wp fun h6 s6=>?_
 refine Ay (FN (by decide)) ?_
 rw [AW,od]
 simp
 exact ((((s1.trans s2).trans s3).trans s4).trans s5).trans s6
theorem ZeN {x y:Nat}:ad (L.map (AM S)) x y=ad L x y:=by
 unfold ad
 rw [JV]
 rfl
theorem ZeO {x y:Nat} (ha:ad L x y=true):li (L.map (AM S)) x y=Bool.xor (li L x y) (Bool.xor (S x) (S y)):=by
 unfold li
 rw [←List.map_reverse,List.find?_map]
 have e:(mt x y∘AM S)=mt x y:=rfl
 rw [e]
 cases hf:L.reverse.find? (mt x y) with
 |none=>
  obtain ⟨t,ht,hm⟩:=qbC.mp ha
  exact absurd hm (qbV.mp hf t (by simpa using ht))
 |some t=>
  have hm:mt x y t=true:=Jg hf
  show Bool.xor t.2.2 (Bool.xor (S t.1) (S t.2.1))=Bool.xor t.2.2 (Bool.xor (S x) (S y))
  rcases of_decide_eq_true hm with ⟨h1,h2⟩ |⟨h1,h2⟩
  ·rw [h1,h2]
  ·rw [h1,h2,Bool.xor_comm (S y)]
theorem Vk:∀(r:List Nat) (a:Nat),CF L (a::r)→A3 (L.map (AM S)) (a::r) % 2=(A3 L (a::r)+bi (Bool.xor (S a) (S ((a::r).getLastD 0)))) % 2
 |[],a,_=>by
  show (0:Int) % 2=(0+bi (Bool.xor (S a) (S a))) % 2
  rw [Jk]
  rfl
 |b::r,a,h=>by
  obtain ⟨h1,h2⟩:=JN h
  have ih:=Vk r b h2
  have e:(b::r).getLastD 0=(a::b::r).getLastD 0:=rfl
  rw [e] at ih
  rw [EY,EY,ZeO h1]
  generalize S ((a::b::r).getLastD 0)=x at *
  generalize A3 (L.map (AM S)) (b::r)=u at *
  generalize A3 L (b::r)=v at *
  have key:∀l sa sb x:Bool,(bi (Bool.xor l (Bool.xor sa sb))+bi (Bool.xor sb x)) % 2=(bi l+bi (Bool.xor sa x)) % 2:=by decide
  have:=key (li L a b) (S a) (S b) x
  omega
theorem Ring.sw (r:Ring n L R):Ring n (L.map (AM S)) R:=by
 refine ⟨r.len,r.lt,r.nd,fun z hz=>by rw [ZeN];exact r.al z hz,?_⟩
 have al:=r.al
 have od:=r.od
 have rl:=r.len
 cases R with
 |nil=>simp at rl
 |cons m R=>
  have e1:m::R++(m::R).take 1=m::(R++[m]):=rfl
  rw [e1] at al od ⊢
  rw [Vk _ _ al]
  have el:(m::(R++[m])).getLastD 0=m:=by rw [←List.cons_append,Nr]
  rw [el,Jk]
  show (_+0) % 2=1
  rw [Int.add_zero]
  exact od
end
def RR:Nat→List (Nat→Bool)
 |0=>[fun _=>false]
 |k+1=>(RR k).flatMap fun r=>[r,ext (k+1) r]
theorem Qo:∀{k:Nat} {r:Nat→Bool},r∈RR k→∀i,i=0∨k<i→r i=false
 |0,r,h,i,_=>by
  rw [RR,qa7] at h
  rw [h]
 |k+1,r,h,i,hi=>by
  rw [RR,qcV] at h
  obtain ⟨r',hr,h⟩:=h
  have:=Qo hr i (by omega)
  simp only [qa3,Ca,or_false] at h
  rcases h with rfl |rfl
  ·exact this
  ·unfold ext
   rw [if_neg (by omega)]
   exact this
theorem Vl (r:Nat→Bool) (h0:r 0=false):∀k,∃r'∈RR k,∀i,i≤k→r' i=r i
 |0=>⟨_,List.mem_singleton_self _,fun i hi=>by
  obtain rfl:i=0:=by omega
  exact h0.symm⟩
 |k+1=>by
  obtain ⟨r',hr,he⟩:=Vl r h0 k
  cases e:r (k+1) with
  |false=>
   refine ⟨r',qcV.mpr ⟨r',hr,by simp⟩,fun i hi=>?_⟩
   by_cases z:i=k+1
   ·subst z;rw [e];exact Qo hr _ (by omega)
   ·exact he i (by omega)
  |true=>
   refine ⟨ext (k+1) r',qcV.mpr ⟨r',hr,by simp⟩,fun i hi=>?_⟩
   unfold ext
   by_cases z:i=k+1
   ·subst z;rw [if_pos rfl,e]
   ·rw [if_neg z];exact he i (by omega)
theorem Na:∀k,(RR k).length=2^k
 |0=>rfl
 |k+1=>by
  have:∀l:List (Nat→Bool),(l.flatMap fun r=>[r,ext (k+1) r]).length=2*l.length:=fun l=>by
   induction l with
   |nil=>rfl
   |cons a l ih=>rw [GI,D5,ih];simp;omega
  rw [RR,this,Na k,Nat.pow_succ]
  omega
theorem Nb {n:Nat} (hn:n≤1000):n≤sizeLine:=by unfold sizeLine;omega
def RiI (k:Nat) (h:HD) (xs:List Nat) (ρ:Ai) (h':HD):Prop:=∃(j l:Nat) (y:Option D),xs=(List.range k).drop j∧j≤k∧ρ=[some (.tup [.int 0]),some (.int (k:Nat)),some (.loc l),y]∧Sm h h'∧h'[l]?=some (.lst ((RR j).map (AF (j+1))))
theorem ZeP {n:Nat} {r:Nat→Bool} {b:Bool} {h:HD} (hn:n≤100) (h0:r n=false):AV (AF n r) (.tup [lit b]) h=.ok (AF (n+1) (if b then ext n r else r)) h:=by
 unfold AF
 rw [P8 (by simp;omega),Jh,DR]
 congr 3
 ·refine CN fun i hi=>?_
  have:=qb2.mp hi
  cases b
  ·rfl
  ·simp [ext,show ¬i=n by omega]
 ·cases b
  ·simp [h0]
  ·simp [ext]
theorem ZeQ {k:Nat} {h:HD} {Q:D→HD→Prop} (hk:k≤7) (q:∀l h',Sm h h'→h'[l]?=some (.lst ((RR k).map (AF (k+1))))→Q (.loc l) h'):Wp (FX [.tup [.int 0],.int (k:Nat)] h) Q:=by
 change Wp (Ao 4 Ph [.tup [.int 0],.int (k:Nat)] h) _
 refine Eq.mpr Ba ?_
 simp [-An]
 refine Dz (by simp) fun l h1 s1 e1 _ _=>?_
 refine Eq.mpr An ?_
 refine Eq.mpr BZ ?_
 refine EJ (src:=[]) (xs:=List.range k) (fun i=>.int ((i:Nat):Int)) (RiI k h) ?_ (fun ys ρ h' _=>B2) ?_ ?_
 ·simp [EI (show k≤1000 by omega)]
  exact ⟨0,l,_,by simp,by omega,rfl,s1,e1⟩
 ·rintro x xs ρ h2 ⟨j,l2,y,ex,hj,rfl,s2,e2⟩
  obtain ⟨rfl,hk',rfl⟩:=KP ex.symm
  refine ⟨_,rfl,?_⟩
  refine Eq.mpr Ob ?_
  have hfl:((RR x).flatMap fun r=>[false,true].map fun b=>AF (x+1+1) (if b then ext (x+1) r else r))=(RR (x+1)).map (AF (x+1+1)):=by
   rw [RR,List.map_flatMap]
   rfl
  refine Tf (src:=[(l2,(RR x).map (AF (x+1)))]) (xs:=RR x) (φ:=AF (x+1)) (fun _=>true) (fun r=>[false,true].map fun b=>AF (x+1+1) (if b then ext (x+1) r else r)) (fun r=>[some (AF (x+1) r),none]) ?_ (fun r _=>rfl) (fun r _ h' s'=>(.ok:Pu (.ok true h') h' true)) (fun r hr _ h' acc s' z=>?_) ?_ fun l3 h3 s3 e3=>?_
  ·simp [By,Kv e2]
   exact ⟨.refl _,fun h' s'=>Kh (s' _ _ e2)⟩
  ·refine Te (src:=[]) (xs:=[false,true]) (φ:=lit) _ (fun b=>[some (AF (x+1) r),some (lit b)]) ?_ (fun b _=>rfl) (fun b _ h' s'=>?_) z
   ·simp [By,Sm.refl,Bq,lit]
   ·simp [Pu,ZeP (show x+1≤100 by omega) (Qo hr (x+1) (by omega))]
    exact .refl _
  ·rw [DY,hfl,Cb,Na]
   exact Nb (B8 (Lp (n:=2) (by decide) (show x+1≤7 by omega)) (by decide))
  ·rw [DY,hfl] at e3
   exact ⟨x+1,l3,_,rfl,by omega,rfl,s2.trans s3,e3⟩
 ·rintro ρ h2 ⟨j,l2,y,ex,hj,rfl,s2,e2⟩
  have:j=k:=M4 hj ex.symm
  subst this
  simp
  exact q _ _ s2 e2
def tv (p:Nat→Bool) (t:Ak):Int:=if (AM p t).2.2 then 1 else 0
def nl (p:Nat→Bool) (L:List Ak):Int:=(L.map (tv p)).sum
def KY (n:Nat) (L:List Ak):Prop:=∀t∈L,t.1<t.2.1∧t.2.1<n
theorem Qp {n:Nat} {L:List Ak} {p q:Nat→Bool} (ok:KY n L) (h:∀i,i<n→p i=q i):nl p L=nl q L:=by
 unfold nl
 refine G5 fun t ht=>?_
 have:=ok t ht
 unfold tv AM
 rw [h t.1 (by omega),h t.2.1 (by omega)]
theorem ZeR {L:List Ak} {p:Nat→Bool}:nl (fun i=>!p i) L=nl p L:=by
 unfold nl
 refine G5 fun t _=>?_
 have e:AM (fun i=>!p i) t=AM p t:=by
  unfold AM
  have:(Bool.xor (!p t.1) (!p t.2.1))=Bool.xor (p t.1) (p t.2.1):=by cases p t.1<;>cases p t.2.1<;>rfl
  simp only [this]
 unfold tv
 rw [e]
theorem Qq {k:Nat}:RR k≠[]:=fun e=>by
 have:=Na k
 rw [e] at this
 have h2:0<2^k:=Nat.pow_pos (by decide)
 simp at this
 omega
theorem ZeS {n:Nat} {L:List Ak} (hn:1≤n) (ok:KY n L):EN ((RR (n - 1)).map fun p=>nl p L)=EN ((LL 0 n).map fun p=>nl p L):=by
 apply LA
 ·obtain ⟨R,hR,e⟩:=qaJ.mp (Ks (ns:=(LL 0 n).map fun p=>nl p L) (by simp [OC]))
  rw [←e]
  have key:∀R:Nat→Bool,R 0=false→EN ((RR (n - 1)).map fun p=>nl p L)≤nl R L:=fun R h0=>by
   obtain ⟨r,hr,he⟩:=Vl R h0 (n - 1)
   rw [←Qp ok fun i hi=>he i (by omega)]
   exact Kt (qaJ.mpr ⟨r,hr,rfl⟩)
  cases h0:R 0 with
  |false=>exact key R h0
  |true=>
   have:=key (fun i=>!R i) (by simp [h0])
   rwa [ZeR] at this
 ·obtain ⟨r,hr,e⟩:=qaJ.mp (Ks (ns:=(RR (n - 1)).map fun p=>nl p L) (by simp [Qq]))
  rw [←e]
  obtain ⟨R,hR,he⟩:=Mt (s:=0) r n
  rw [←Qp ok fun i hi=>he i (by omega) (by omega)]
  exact Kt (qaJ.mpr ⟨R,hR,rfl⟩)
theorem ZeT {c a b:Bool}:((if c then (1:Int) else 0)+(if a then 1 else 0)+(if b then 1 else 0)) % 2=if Bool.xor c (Bool.xor a b) then 1 else 0:=by cases c<;>cases a<;>cases b<;>rfl
section
variable {n:Nat} {L:List Ak} {h:HD}
theorem ZeU {r:Nat→Bool} (ok:KY n L) (le:L.length≤1000):Pu (FZ [.tup (L.map AL),AF n r] h) h (.int (nl r L)):=by
 change Wp (Ao 2 Pn [.tup (L.map AL),AF n r] h) _
 refine Eq.mpr Ba ?_
 simp
 refine Pu.wp (Kw (src:=[]) (xs:=L) (φ:=AL) (tv r) (fun t=>[some (.int ((t.1:Nat):Int)),some (.int ((t.2.1:Nat):Int)),some (lit t.2.2),some (AF n r)]) ?_ (fun x _=>rfl) (fun t ht h' s'=>?_) (Nb le)) fun h2 s2=>?_
 ·simp [By,Sm.refl,Bq]
 ·have:=ok t ht
  have i1:∀{h:HD},AE (AF n r) (.int ((t.1:Nat):Int)) h=.ok (lit (r t.1)) h:=Kn (by omega)
  have i2:∀{h:HD},AE (AF n r) (.int ((t.2.1:Nat):Int)) h=.ok (lit (r t.2.1)) h:=Kn (by omega)
  simp [Pu,i1,i2]
  refine Ay (show AV (lit t.2.2) (lit (r t.1)) h'=.ok (.int ((if t.2.2 then 1 else 0)+(if r t.1 then 1 else 0))) h' from rfl) ?_
  rw [AW]
  refine Ay (show AV (.int ((if t.2.2 then 1 else 0)+(if r t.1 then 1 else 0))) (lit (r t.2.1)) h'=.ok (.int ((if t.2.2 then 1 else 0)+(if r t.1 then 1 else 0)+(if r t.2.1 then 1 else 0))) h' from rfl) ?_
  rw [AW]
  refine Ay (FN (by decide)) ?_
  rw [AW,ZeT]
  exact ⟨rfl,.refl _⟩
 ·exact ⟨rfl,s2⟩
theorem ZeV (n1:1≤n) (n8:n≤8) (ok:KY n L) (le:L.length≤1000) (hn:Pu (A2 [AX n L] h) h .non):Pu (De [AX n L] h) h (.int (EN ((RR (n - 1)).map fun p=>nl p L))):=by
 change Wp (Ao 3 (PR A2 FX FZ) [AX n L] h) _
 refine Eq.mpr Ba ?_
 simp [-An]
 refine hn.wp fun h1 s1=>?_
 refine Eq.mpr An ?_
 simp [-An]
 unfold AX
 refine Eq.mpr YG ?_
 refine Eq.mpr An ?_
 simp
 obtain ⟨d,h2,e2,l,rfl,s2,f2⟩:=(ZeQ (k:=n - 1) (h:=h1) (Q:=fun d h'=>∃l,d=.loc l∧Sm h1 h'∧h'[l]?=some (.lst ((RR (n - 1)).map (AF (n - 1+1))))) (by omega) fun l h' s e=>⟨l,rfl,s,e⟩).ex
 rw [show n - 1+1=n by omega] at f2
 have hl:(RR (n - 1)).length≤128:=by
  rw [Na]
  exact B8 (Lp (n:=2) (by decide) (show n - 1≤7 by omega)) (by decide)
 refine Pu.wp (SC (src:=[(l,(RR (n - 1)).map (AF n))]) (xs:=RR (n - 1)) (φ:=AF n) (fun p=>nl p L) (fun r=>[some (AF n r),some (.tup (L.map AL))]) ?_ (fun x _=>rfl) (fun r _ h' s'=>?_) (Nb (by omega)) Qq) fun h3 s3=>?_
 ·simp [By]
  rw [show (n:Int) - 1=((n - 1:Nat):Int) by omega]
  refine Ay e2 ?_
  rw [AW,Kv f2]
  exact ⟨rfl,s2,fun h' s'=>Kh (s' _ _ f2)⟩
 ·simp [Pu]
  exact ZeU ok le
 ·exact ⟨rfl,s1.trans s3⟩
end
section
variable {n:Nat} {L:List Ak} {S:Nat→Bool} {h:HD}
def NL (n:Nat) (L:List Ak):Int:=EN ((RR (n - 1)).map fun p=>nl p L)
theorem NetOk.tok (k:NetOk n L):KY n L:=k.ok
theorem Nd (k:NetOk n L):Pu (De [AX n L] h) h (.int (NL n L)):=ZeV k.n1 k.n8 k.ok (by have:=k.le;omega) (Ja k)
theorem Vm {p:Nat→Bool}:nl p (L.map (AM S))=nl (fun i=>Bool.xor (p i) (S i)) L:=by
 unfold nl
 rw [BS]
 refine G5 fun t _=>?_
 show tv p (AM S t)=tv (fun i=>Bool.xor (p i) (S i)) t
 have key:∀c a1 a2 b1 b2:Bool,Bool.xor (Bool.xor c (Bool.xor b1 b2)) (Bool.xor a1 a2)=Bool.xor c (Bool.xor (Bool.xor a1 b1) (Bool.xor a2 b2)):=by decide
 show (if Bool.xor (Bool.xor t.2.2 (Bool.xor (S t.1) (S t.2.1))) (Bool.xor (p t.1) (p t.2.1))=true then (1:Int) else 0)=if Bool.xor t.2.2 (Bool.xor (Bool.xor (p t.1) (S t.1)) (Bool.xor (p t.2.1) (S t.2.1)))=true then 1 else 0
 rw [key]
theorem Nf (k:NetOk n L) (p:Nat→Bool):NL n L≤nl p L:=by
 unfold NL
 rw [ZeS k.n1 k.tok]
 obtain ⟨R,hR,he⟩:=Mt (s:=0) p n
 rw [←Qp k.tok fun i hi=>he i (by omega) (by omega)]
 exact Kt (qaJ.mpr ⟨R,hR,rfl⟩)
theorem KZ:∃p,NL n L=nl p L:=by
 obtain ⟨r,_,e⟩:=qaJ.mp (Ks (ns:=(RR (n - 1)).map fun p=>nl p L) (by simp [Qq]))
 exact ⟨r,e.symm⟩
theorem Vn (k:NetOk n L):NL n (L.map (AM S))=NL n L:=by
 apply LA
 ·obtain ⟨p,e⟩:=KZ (n:=n) (L:=L)
  rw [e]
  have:=Nf (k.sw (p:=S)) (fun i=>Bool.xor (p i) (S i))
  rw [Vm] at this
  have e2:(fun i=>Bool.xor (Bool.xor (p i) (S i)) (S i))=p:=by
   funext i
   rw [Bool.xor_assoc,Jk,Bool.xor_false]
  rwa [e2] at this
 ·obtain ⟨p,e⟩:=KZ (n:=n) (L:=L.map (AM S))
  rw [e,Vm]
  exact Nf k _
theorem Vo {p:Nat→Bool} {t:Ak}:0≤tv p t:=by unfold tv;split<;>decide
theorem Qr {p:Nat→Bool}:∀{L:List Ak},0≤nl p L
 |[]=>Int.le_refl _
 |t::L=>by
  have:=Qr (p:=p) (L:=L)
  have h2:=Vo (p:=p) (t:=t)
  unfold nl at *
  rw [Br,Ho]
  omega
theorem nl_zero {p:Nat→Bool}:∀{L:List Ak},nl p L=0↔∀t∈L,(AM p t).2.2=false
 |[]=>⟨fun _ t ht=>(nomatch ht),fun _=>rfl⟩
 |t::L=>by
  have e:nl p (t::L)=tv p t+nl p L:=by unfold nl;rw [Br,Ho]
  have h1:=Qr (p:=p) (L:=L)
  have h2:=Vo (p:=p) (t:=t)
  have ih:=nl_zero (p:=p) (L:=L)
  rw [e]
  constructor
  ·intro z s hs
   have z1:tv p t=0:=by omega
   have z2:nl p L=0:=by omega
   rcases qa3.mp hs with rfl |hs
   ·unfold tv at z1
    cases hb:(AM p s).2.2 with
    |false=>rfl
    |true=>rw [hb] at z1;cases z1
   ·exact ih.mp z2 s hs
  ·intro z
   have z1:tv p t=0:=by unfold tv;rw [z t AZ];rfl
   have z2:=ih.mpr fun s hs=>z s (Bb _ hs)
   omega
theorem Qs (k:NetOk n L):NL n L=0↔Dp L:=by
 constructor
 ·intro z
  obtain ⟨p,e⟩:=KZ (n:=n) (L:=L)
  rw [e] at z
  refine ⟨p,CN fun t ht=>?_⟩
  have:=nl_zero.mp z t ht
  show ((t.1,t.2.1,(AM p t).2.2):Ak)=_
  rw [this]
 ·rintro ⟨S,hS⟩
  have h1:=Nf k S
  have h2:nl S L=0:=nl_zero.mpr fun t ht=>by
   have:=(List.map_inj_left (f:=AM S) (g:=fun t:Ak=>((t.1,t.2.1,false):Ak)) (l:=L)).mp hS t ht
   exact congrArg (fun t:Ak=>t.2.2) this
  obtain ⟨p,e⟩:=KZ (n:=n) (L:=L)
  have h3:=Qr (p:=p) (L:=L)
  omega
theorem ZeW (k:NetOk n L):Dp (L.map (AM S))↔Dp L:=by rw [←Qs k,←Qs k.sw,Vn k]
end
theorem Ng {n:Nat} (h:n≤1000):n≤sizeLine:=by unfold sizeLine;omega
section
variable {H W:Nat} {h:HD} {f:Nat→Nat→Bool} {r p:Nat→Bool}
theorem ZeX (hh:1≤H∧H≤8) (hw:1≤W∧W≤8):Pu (Ga [bD H W f] h) h (bD W H fun i j=>f j i):=by
 change Wp (Ao 1 (PM Bv) [bD H W f] h) _
 refine Eq.mpr Ba ?_
 simp
 refine (M0 hh hw).wp fun h1 s1=>?_
 refine Pu.wp (GZ (src:=[]) (xs:=List.range W) (φ:=fun j=>.int ((j:Nat):Int)) (fun j=>AF H fun i=>f i j) (fun j=>[some (.int ((j:Nat):Int)),some (bD H W f)]) ?_ (fun x _=>rfl) (fun x hx h' s'=>?_) (sz hw.2)) fun h2 s2=>?_
 ·simp [By,bD,Of (show 0<H by omega)]
  simp [AF]
  rw [EI (by omega)]
  simp [Sm.refl,Bq]
 ·simp [Pu]
  refine (GZ (src:=[]) (xs:=List.range H) (φ:=fun i=>AF W (f i)) (fun i=>lit (f i x)) (fun i=>[some (AF W (f i)),some (.int ((x:Nat):Int))]) ?_ (fun x _=>rfl) (fun y hy h' s'=>?_) (sz hh.2))
  ·simp [By,bD,Sm.refl,Bq]
  ·simp [Pu,AF]
   rw [Kn (by simpa using hx)]
   simp [Sm.refl]
 ·exact ⟨rfl,s1.trans s2⟩
theorem Vp:CU (AF W r) h=.ok (.int (B5 W r)) h:=YS
theorem ZeY (hh:1≤H∧H≤8) (hw:1≤W∧W≤8):Pu (F8 [bD H W f] h) h (.tup ((List.range H).map fun i=>.int (B5 W (f i)))):=by
 change Wp (Ao 1 (PK Bv) [bD H W f] h) _
 refine Eq.mpr Ba ?_
 simp
 refine (M0 hh hw).wp fun h1 s1=>?_
 refine Pu.wp (GZ (src:=[]) (xs:=List.range H) (φ:=fun i=>AF W (f i)) (fun i=>.int (B5 W (f i))) (fun i=>[some (AF W (f i))]) Kq (fun x _=>rfl) (fun x hx h' s'=>?_) (sz hh.2)) fun h2 s2=>?_
 ·simp [Pu,Vp,Sm.refl]
 ·exact ⟨rfl,s1.trans s2⟩
theorem ZeZ (hh:1≤H∧H≤8) (hw:1≤W∧W≤8):Pu (Gb [bD H W f] h) h (.tup ((List.range W).map fun j=>.int (B5 H fun i=>f i j))):=by
 change Wp (Ao 1 (PV Ga F8) [bD H W f] h) _
 refine Eq.mpr Ba ?_
 simp
 refine (ZeX hh hw).wp fun h1 s1=>?_
 refine (ZeY hw hh).wp fun h2 s2=>?_
 simp [s1.trans s2]
end
def Dh (W:Nat) (c:Nat→Int):D:=.tup ((List.range W).map fun j=>.int (c j))
theorem Vq {W:Nat} {c c':Nat→Int} (h:∀j,j<W→c j=c' j):Dh W c=Dh W c':=by
 unfold Dh
 congr 1
 exact CN fun j hj=>by rw [h j (by simpa using hj)]
theorem Ze0 {W:Nat} {c:Nat→Int} {r:Nat→Bool} {h:HD} (hw:W≤8):Pu (FV [Dh W c,AF W r] h) h (Dh W fun j=>c j+1 - 2*(if r j then 1 else 0)):=by
 change Wp (Ao 2 Pf [Dh W c,AF W r] h) _
 refine Eq.mpr Ba ?_
 simp
 refine Pu.wp (GZ (src:=[]) (xs:=List.range W) (φ:=fun j=>.tup [.int (c j),lit (r j)]) (fun j=>.int (c j+1 - 2*(if r j then 1 else 0))) (fun j=>[some (.int (c j)),some (lit (r j))]) ?_ (fun x _=>rfl) (fun x hx h' s'=>?_) (sz hw)) fun h2 s2=>?_
 ·simp [By,Dh,AF]
  refine Ay (Zs (e:=fun j=>.int (c j)) (e':=fun j=>lit (r j)) SA SA) ?_
  simp [Sm.refl,Bq]
 ·simp [Pu,lit]
  rw [Me (by decide) (by decide)]
  simp [Sm.refl]
 ·exact ⟨rfl,s2⟩
theorem Ze1 {n m:Nat} {r r':Nat→Bool} (hm:m<n) (h:∀i,i≠m→r' i=r i) (hn:r' m=!r m):B5 n r'=B5 n r+1 - 2*(if r m then 1 else 0):=by
 have s1:∀k (r:Nat→Bool),B5 (k+1) r=B5 k r+if r k then 1 else 0:=fun k r=>by
  unfold B5
  rw [Jh,DR,Lz]
  simp
 have key:∀k:Nat,(k≤m→B5 k r'=B5 k r)∧(m<k→B5 k r'=B5 k r+1 - 2*(if r m then 1 else 0)):=fun k=>by
  induction k with
  |zero=>exact ⟨fun _=>rfl,fun z=>by omega⟩
  |succ k ih=>
   rw [s1,s1]
   refine ⟨fun hk=>?_,fun hk=>?_⟩
   ·rw [ih.1 (by omega),h k (by omega)]
   ·by_cases hz:k=m
    ·subst hz
     rw [ih.1 (by omega),hn]
     cases r k<;>simp<;>omega
    ·rw [ih.2 (by omega),h k hz]
     omega
 exact (key n).2 hm
theorem Ze2 {H n:Nat} {f:Nat→Nat→Bool} {R:Nat→Bool} {j:Nat} (hn:n<H) (h0:R n=false):cc H f (ext n R) j=cc H f R j+1 - 2*(if f n j then 1 else 0):=by
 unfold cc
 rw [Ze1 (r:=fun i=>Bool.xor (f i j) (R i)) hn (fun i hi=>by simp [ext,hi]) (by simp [ext,h0])]
 simp [h0]
theorem Ze3 {W H:Nat} {c:Nat→Int} {h:HD} (hw:W≤8):Pu (FW [Dh W c,.int (H:Nat)] h) h (.int (G6 W H c)):=by
 change Wp (Ao 2 Pg [Dh W c,.int (H:Nat)] h) _
 rw [Ba]
 simp
 refine Pu.wp (Kw (src:=[]) (xs:=List.range W) (φ:=fun j=>.int (c j)) (fun j=>if (H:Int) - c j<c j then (H:Int) - c j else c j) (fun j=>[some (.int (c j)),some (.int (H:Nat))]) Kq (fun x _=>rfl) (fun x hx h' s'=>?_) (sz hw)) fun h2 s2=>?_
 ·simp [Pu,Sm.refl]
 ·exact ⟨rfl,s2⟩
theorem Ze4 {n:Nat} {R:Nat→Bool}:A1 (n+1) (ext n R)=.tup (((List.range n).filter R).map (fun i=>D.int ((i:Nat):Int))++[.int ((n:Nat):Int)]):=by
 unfold A1
 rw [Jh,Lr]
 have e1:(List.range n).filter (ext n R)=(List.range n).filter R:=Ls fun i hi=>by
  have:i<n:=by simpa using hi
  simp [ext,show i≠n by omega]
 have e2:[n].filter (ext n R)=[n]:=by simp [ext]
 rw [e1,e2]
 simp
theorem Ze5 {n:Nat} {R:Nat→Bool} (h:R n=false):A1 (n+1) R=A1 n R:=by
 unfold A1
 rw [Jh,Lr]
 simp [h]
theorem Qt {k:Nat} (hk:k≤7):(LL 1 k).length≤128:=by
 rw [OB]
 exact Lp (n:=2) (by decide) hk
def Fy (H W k:Nat) (f:Nat→Nat→Bool):List D:=(LL 1 k).map fun R=>.tup [A1 (k+1) R,Dh W (cc H f R)]
def LwI (H W:Nat) (f:Nat→Nat→Bool) (h:HD) (xs:List Nat) (ρ:Ai) (h':HD):Prop:=∃(k l:Nat) (x:Option D),xs=(List.range (H - 1)).drop k∧k≤H - 1∧ρ=[some (bD H W f),some (.loc l),x]∧Sm h h'∧h'[l]?=some (.lst (Fy H W k f))
theorem Ze6 {n k:Nat} {e:Nat→D} {i:Int} {h:HD} (hi:i=(k:Int)) (hk:k<n):AE (.tup ((List.range n).map e)) (.int i) h=.ok (e k) h:=by
 subst hi;exact Kn hk
theorem Ze7 {H W:Nat} {f:Nat→Nat→Bool} {h:HD} (hh:1≤H∧H≤8) (hw:1≤W∧W≤8):∃l h1,DO [bD H W f] h=.ok (.loc l) h1∧Sm h h1∧h1[l]?=some (.lst (Fy H W (H - 1) f)):=by
 suffices hs:Wp (DO [bD H W f] h) (fun d h1=>∃l,d=.loc l∧Sm h h1∧h1[l]?=some (.lst (Fy H W (H - 1) f))) by
  obtain ⟨d,h1,e,l,rfl,q⟩:=hs.ex
  exact ⟨l,h1,e,q⟩
 change Wp (Ao 3 (P0 Gb FV) [bD H W f] h) _
 rw [Ba]
 simp [-An]
 refine (ZeZ hh hw).wp fun h1 s1=>?_
 refine Dz (by simp) fun l h2 s2 e2 _ _=>?_
 rw [An]
 simp [-An]
 refine EJ (src:=[]) (xs:=List.range (H - 1)) (fun k=>.int (1+(k:Int))) (LwI H W f h) ?_ (fun ys ρ h' _=>B2) ?_ ?_
 ·have eH:BK (bD H W f) h2=.ok (.int ((H:Nat):Int)) h2:=by simp [bD]
  simp [eH]
  rw [show (1:Int)=((1:Nat):Int) from rfl,UO (by omega) (by omega)]
  simp
  refine ⟨0,l,none,by simp,by omega,rfl,s1.trans s2,?_⟩
  rw [e2]
  simp [Fy,LL,A1]
  exact Vq (W:=W) fun j _=>Ms fun i _=>by simp
 ·rintro x xs ρ h' ⟨k,l',y,ex,hk,rfl,s',e'⟩
  obtain ⟨rfl,hk',rfl⟩:=KP ex.symm
  refine ⟨_,rfl,?_⟩
  simp
  refine FL (src:=[(l',Fy H W x f)]) (xs:=LL 1 x) (φ:=fun R=>.tup [A1 (x+1) R,Dh W (cc H f R)]) (fun _=>true) (fun R=>.tup [A1 (x+1+1) (ext (1+x) R),Dh W (cc H f (ext (1+x) R))]) (fun R=>[some (A1 (x+1) R),some (Dh W (cc H f R)),some (.int (1+(x:Int))),some (bD H W f)]) ?_ (Ng (B8 (Qt (by omega)) (by decide))) (fun R _=>rfl) (fun R _ h2 s2=>(.ok:Pu (.ok true h2) h2 true)) (fun R hR _ h2 s2=>?_) fun l3 h3 s3 e3=>?_
  ·simp [Kv e',Fy]
   exact ⟨.refl _,fun h2 s2=>Kh (s2 _ _ e')⟩
  ·have h0:R (1+x)=false:=JF hR _ (by omega)
   simp [Pu]
   unfold A1
   rw [Zv (Ng (by
    have:=Hh R (List.range (x+1))
    simp at this ⊢
    omega))]
   simp
   unfold bD
   rw [Ze6 (k:=1+x) (by omega) (by omega)]
   simp
   refine (Ze0 hw.2).wp fun h3 s3=>?_
   simp [s3]
   refine ⟨?_,Vq fun j _=>(Ze2 (by omega) h0).symm⟩
   have e1:A1 (x+1+1) (ext (1+x) R)=A1 (x+1+1) (ext (x+1) R):=by rw [Nat.add_comm 1 x]
   have e2:=e1.trans (Ze4 (n:=x+1) (R:=R))
   unfold A1 at e2
   have e3:=D.tup.inj e2
   rw [e3,show (1+(x:Int))=(((x+1:Nat)):Int) from by omega]
  ·rw [DY] at e3
   rw [Zu (s3 _ _ e') e3]
   have hlen:=Qt (k:=x) (by omega)
   refine Dz (Ng (by simp [Fy];omega)) fun l4 h4 s4 e4 _ _=>?_
   simp only [CA]
   refine ⟨x+1,l4,_,rfl,by omega,rfl,s'.trans (s3.trans s4),?_⟩
   rw [e4]
   have ea:Fy H W x f=(LL 1 x).map fun R=>.tup [A1 (x+1+1) R,Dh W (cc H f R)]:=CN fun R hR=>by rw [Ze5 (n:=x+1) (JF hR _ (by omega))]
   rw [ea]
   show _=some (Cell.lst ((LL 1 (x+1)).map fun R=>.tup [A1 (x+1+1) R,Dh W (cc H f R)]))
   rw [LL,DR,BS]
   rfl
 ·rintro ρ h' ⟨k,l',y,ex,hk,rfl,s',e'⟩
  have:k=H - 1:=M4 hk ex.symm
  subst this
  simp
  exact ⟨s',e'⟩
section
variable {H W:Nat} {h:HD} {f:Nat→Nat→Bool} {r p:Nat→Bool}
theorem Ze8 {ρ:Ai} {l:Nat} {h1:HD} (e:DO [bD H W f] h=.ok (.loc l) h1) (s:Sm h h1) (el:h1[l]?=some (.lst (Fy H W (H - 1) f))):
 By (Bx (Af DO (Ab (Aa 0) Ae)) (some (bD H W f)::ρ) h) h ((LL 1 (H - 1)).map fun R=>.tup [A1 (H - 1+1) R,Dh W (cc H f R)]) [(l,Fy H W (H - 1) f)]:=by
 have:Bx (Af DO (Ab (Aa 0) Ae)) (some (bD H W f)::ρ) h=(DO [bD H W f] h).bind Gr:=rfl
 rw [this]
 exact Zy e s el
theorem LLs (hh:1≤H∧H≤8):(LL 1 (H - 1)).length≤sizeLine:=Ng (B8 (Qt (by omega)) (by decide))
theorem Ze9 (hh:1≤H∧H≤8) (hw:1≤W∧W≤8):Pu (Fu [bD H W f] h) h (.int (HK H W f)):=by
 change Wp (Ao 1 (P4 DO FW) [bD H W f] h) _
 rw [Ba]
 simp
 obtain ⟨l,h1,e,s1,el⟩:=Ze7 (f:=f) (h:=h) hh hw
 refine Pu.wp (SC (src:=[(l,Fy H W (H - 1) f)]) (xs:=LL 1 (H - 1)) (φ:=fun R=>.tup [A1 (H - 1+1) R,Dh W (cc H f R)]) (fun R=>G6 W H (cc H f R)) (fun R=>[some (A1 (H - 1+1) R),some (Dh W (cc H f R)),some (bD H W f)]) (Ze8 e s1 el) (fun R _=>rfl) (fun R hR h' s'=>?_) (LLs hh) OC) fun h2 s2=>?_
 ·simp [Pu,Uw]
  exact Ze3 hw.2
 ·exact ⟨rfl,s2⟩
end
def K0 (H W:Nat) (f:Nat→Nat→Bool) (i:Nat):List D:=(List.range W).map fun j=>.tup [.int ((i:Nat):Int),.int ((H:Int)+((j:Nat):Int)),lit (f i j)]
def GE (H W k:Nat) (f:Nat→Nat→Bool):List D:=(List.range k).flatMap (K0 H W f)
theorem Zfa {H W k:Nat} {f:Nat→Nat→Bool}:GE H W (k+1) f=GE H W k f++K0 H W f k:=by
 unfold GE
 rw [Jh,List.flatMap_append,GI,List.flatMap_nil,E3]
theorem Vr {H W:Nat} {f:Nat→Nat→Bool}:∀k,(GE H W k f).length=k*W
 |0=>by simp [GE]
 |k+1=>by
  rw [Zfa,D5,Vr k,Nat.succ_mul]
  simp [K0]
section
variable {H W:Nat} {h:HD} {f:Nat→Nat→Bool}
theorem Zfb (hh:1≤H∧H≤8) (hw:1≤W∧W≤8) (hz:H+W≤8):Pu (Df [bD H W f] h) h (.tup [.int ((H:Int)+(W:Int)),.tup (GE H W H f)]):=by
 change Wp (Ao 3 (PU Bv) [bD H W f] h) _
 refine Eq.mpr Ba ?_
 simp [-An]
 refine (M0 hh hw).wp fun h1 s1=>?_
 refine Eq.mpr An ?_
 have e8:¬(H:Int)+(W:Int)>8:=by omega
 simp [Uw,Zdx hh.1,Zdw,e8]
 have hl:H*W≤64:=Nat.mul_le_mul hh.2 hw.2
 refine Pu.wp (ZaG (src:=[]) (xs:=List.range H) (φ:=fun i=>.tup [.int ((i:Nat):Int),AF W (f i)]) (K0 H W f) (fun i=>[some (.int ((i:Nat):Int)),some (AF W (f i)),none,none,some (.int (H:Nat))]) ?_ (fun x _=>rfl) (fun x hx h3 acc s3 z=>?_) ?_) fun h4 s4=>?_
 ·simp [By,bD,Mq,Sm.refl,Bq]
 ·refine Te (src:=[]) (xs:=List.range W) (φ:=fun j=>.tup [.int ((j:Nat):Int),lit (f x j)]) _ (fun j=>[some (.int ((x:Nat):Int)),some (AF W (f x)),some (.int ((j:Nat):Int)),some (lit (f x j)),some (.int (H:Nat))]) ?_ (fun y _=>rfl) (fun y hy h5 s5=>?_) z
  ·simp [By,AF,Mq,Sm.refl,Bq]
  ·simp [Pu,Sm.refl]
 ·have:=Vr (H:=H) (W:=W) (f:=f) H
  exact Nb (by unfold GE at this;omega)
 ·exact ⟨rfl,s1.trans s4⟩
end
theorem fm_congr {α β:Type} {F G:α→List β}:∀{l:List α},(∀x∈l,F x=G x)→l.flatMap F=l.flatMap G
 |[],_=>rfl
 |x::l,h=>by rw [GI,GI,h x AZ,fm_congr fun y hy=>h y (Bb _ hy)]
def CG (H W:Nat) (f:Nat→Nat→Bool):List Ak:=(List.range H).flatMap fun i=>(List.range W).map fun j=>(i,H+j,f i j)
section
variable {H W:Nat} {h:HD} {f:Nat→Nat→Bool} {p q:Nat→Bool}
theorem Zfc:D.tup [.int ((H:Int)+(W:Int)),.tup (GE H W H f)]=AX (H+W) (CG H W f):=by
 unfold AX CG GE K0
 rw [List.map_flatMap]
 congr 3
 congr 1
 refine fm_congr fun i _=>?_
 rw [BS]
 refine CN fun j _=>?_
 show D.tup [.int ((i:Nat):Int),.int ((H:Int)+((j:Nat):Int)),lit (f i j)]=D.tup [.int ((i:Nat):Int),.int ((H+j:Nat):Int),lit (f i j)]
 rw [show ((H+j:Nat):Int)=(H:Int)+(j:Int) by omega]
theorem Nh (hh:1≤H∧H≤8) (hw:1≤W∧W≤8) (hz:H+W≤8):Pu (Df [bD H W f] h) h (AX (H+W) (CG H W f)):=Zfc ▸ Zfb hh hw hz
theorem Zfd {t:Ak} (ht:t∈CG H W f):∃i j,i<H∧j<W∧t=(i,H+j,f i j):=by
 unfold CG at ht
 simp only [qcV,qaJ,qb2] at ht
 obtain ⟨i,hi,j,hj,rfl⟩:=ht
 exact ⟨i,j,hi,hj,rfl⟩
theorem Vs {α β:Type} {F:α→List β} {k:Nat}:∀{l:List α},(∀x∈l,(F x).length≤k)→(l.flatMap F).length≤l.length*k
 |[],_=>by simp
 |x::l,h=>by
  rw [GI,D5,FA,Nat.succ_mul]
  have:=h x AZ
  have:=Vs (l:=l) fun y hy=>h y (Bb _ hy)
  omega
theorem Ni (hh:1≤H) (hw:1≤W) (hz:H+W≤8):NetOk (H+W) (CG H W f):=by
 refine ⟨by omega,hz,fun t ht=>?_,?_,?_⟩
 ·obtain ⟨i,j,hi,hj,rfl⟩:=Zfd ht
  show i<H+j∧H+j<H+W
  omega
 ·unfold CG
  rw [List.pairwise_flatMap]
  refine ⟨fun i _=>?_,qcQ.imp fun {i i'} hi x hx y hy=>?_⟩
  ·rw [Hk]
   refine qcQ.imp ?_
   intro j j' hj
   exact .inr ⟨rfl,by show H+j<H+j';omega⟩
  ·obtain ⟨j,_,rfl⟩:=qaJ.mp hx
   obtain ⟨j',_,rfl⟩:=qaJ.mp hy
   exact .inl hi
 ·have:=Vs (F:=fun i=>(List.range W).map fun j=>((i,H+j,f i j):Ak)) (k:=8) (l:=List.range H) fun i _=>by simp;omega
  rw [Hl] at this
  unfold CG
  omega
theorem Qu {α β:Type} {F:α→List β} {g:β→Int}:∀{l:List α},((l.flatMap F).map g).sum=(l.map fun x=>((F x).map g).sum).sum
 |[]=>rfl
 |x::l=>by rw [GI,DR,Lz,Br,Ho,Qu]
theorem Zfe:((CG H W f).map fun t=>bi t.2.2).sum=((List.range H).map fun i=>B5 W (f i)).sum:=by
 unfold CG
 rw [Qu]
 congr 1
 refine CN fun i _=>?_
 rw [BS]
 rfl
theorem Vt:nl p (CG H W f)=TT H W f p fun j=>p (H+j):=by
 rw [←ZH]
 unfold nl CG
 rw [Qu]
 congr 1
 refine CN fun i _=>?_
 rw [BS]
 rfl
theorem Zff (hh:1≤H) (hw:1≤W) (hz:H+W≤8):NL (H+W) (CG H W f)=HK H W f:=by
 apply LA
 ·obtain ⟨R,C,e⟩:=ZO (H:=H) (W:=W) f
  rw [←e]
  have:=Nf (Ni (f:=f) hh hw hz) fun i=>if i<H then R i else C (i - H)
  rw [Vt] at this
  rw [SG (R:=R) (C:=C) (R':=fun i=>if i<H then R i else C (i - H)) (C':=fun j=>if H+j<H then R (H+j) else C (H+j - H)) (fun i hi=>by rw [if_pos hi]) (fun j _=>by rw [if_neg (by omega),Nm])]
  exact this
 ·obtain ⟨p,e⟩:=KZ (n:=H+W) (L:=CG H W f)
  rw [e,Vt]
  exact ZN hh _ _
def EZ (H:Nat) (p q:Nat→Bool):Nat→Bool:=fun i=>if i<H then p i else q (i - H)
theorem Zfg:A1 (H+W) (EZ H p q)=.tup ((((List.range H).filter p).map fun i=>D.int ((i:Nat):Int))++((List.range W).filter q).map fun j=>D.int ((H:Int)+((j:Nat):Int))):=by
 unfold A1
 rw [List.range_add,Lr,DR]
 congr 2
 ·congr 1
  exact Ls fun i hi=>by unfold EZ;rw [if_pos (qb2.mp hi)]
 ·rw [List.filter_map,BS]
  have e:(EZ H p q∘fun x=>H+x)=q:=by
   funext j
   show EZ H p q (H+j)=q j
   unfold EZ
   rw [if_neg (by omega),Nm]
  rw [e]
  refine CN fun j _=>?_
  show D.int ((H+j:Nat):Int)=_
  rw [show ((H+j:Nat):Int)=(H:Int)+(j:Int) by omega]
theorem Zfh:(CG H W f).map (AM (EZ H p q))=CG H W (sw f p q):=by
 unfold CG
 rw [List.map_flatMap]
 refine fm_congr fun i hi=>?_
 rw [BS]
 refine CN fun j _=>?_
 show ((i,H+j,Bool.xor (f i j) (Bool.xor (EZ H p q i) (EZ H p q (H+j)))):Ak)=(i,H+j,sw f p q i j)
 unfold EZ sw
 rw [if_pos (qb2.mp hi),if_neg (by omega),Nm]
end
@[irreducible] noncomputable def K1:MS:=AD 2 (Af Fj (Ab (Aa 0) (Ab (Aa 1) (Ae))))
@[irreducible] noncomputable def K2:MS:=AD 3 (Af Fo (Ab (Aa 2) (Ae)))
@[irreducible] noncomputable def K3:MS:=AD 4 (Af DN (Ab (Aa 2) (Ab (Ah AE (Aa 3) (mC (.int 0))) (Ae))))
@[irreducible] noncomputable def K4:MS:=AD 5 (Af B6 (Ab (Aa 3) (Ab (Aa 4) (Ae))))
@[irreducible] noncomputable def K5:MS:=AD 6 (Af CD (Ab (Aa 3) (Ab (Aa 5) (Ae))))
@[irreducible] noncomputable def K6:MS:=A9 (Ce (AO (Ah Gp (Aa 6) (mC .non))) (Ce (AO (Ah BA (Af B6 (Ab (Aa 3) (Ab (Aa 6) (Ae)))) (Aa 5))) (AO (Ah BA (Af B6 (Ab (Aa 5) (Ab (Aa 4) (Ae)))) (Aa 3))))) (Ax (mC (.bl false))) (Be)
@[irreducible] noncomputable def K7:MS:=A9 (Ce (AO (Ah BA (Af De (Ab (Aa 5) (Ae))) (Af De (Ab (Aa 3) (Ae))))) (AO (Ah BA (Af Do (Ab (Aa 3) (Ae))) (Ah Cq (Af De (Ab (Aa 3) (Ae))) (mC (.int 0)))))) (Ax (mC (.bl false))) (Be)
@[irreducible] noncomputable def K8:MS:=AD 7 (Af Fs (Ab (Aa 3) (Ae)))
@[irreducible] noncomputable def K9:MS:=A9 (Ce (AO (Ah BA (Ah Gp (Aa 7) (mC .non)) (Af Do (Ab (Aa 3) (Ae))))) (AO (Ah BA (Af Do (Ab (Aa 5) (Ae))) (Af Do (Ab (Aa 3) (Ae)))))) (Ax (mC (.bl false))) (Be)
@[irreducible] noncomputable def La:MS:=A9 (Gm (AO (Ah Eb (Aa 7) (mC .non))) (AO (Ah Eb (Af Fq (Ab (Aa 5) (Ab (Aa 7) (Ae)))) (mC (.bl true))))) (Ax (mC (.bl false))) (Be)
@[irreducible] noncomputable def Lb:MS:=AD 8 (Ah AV (mC (.int 1)) (Af A0 (Ab (Aa 2) (Ab (mC (.int 7)) (Ae)))))
@[irreducible] noncomputable def Lc:MS:=AD 9 (Ah AV (mC (.int 1)) (Af A0 (Ab (Aa 2) (Ab (Ah FG (mC (.int 8)) (Aa 8)) (Ae)))))
@[irreducible] noncomputable def Ld:MS:=AD 10 (Af Fm (Ab (Aa 2) (Ab (Aa 8) (Ab (Aa 9) (Ae)))))
@[irreducible] noncomputable def Le:MS:=AD 11 (BO (Ab (Af DN (Ab (Aa 2) (Ab (Aa 8) (Ae)))) (Ab (Af DN (Ab (Aa 2) (Ab (Aa 9) (Ae)))) (Ae))))
@[irreducible] noncomputable def Lf:MS:=AD 12 (Ah AV (Ah AE (Aa 11) (mC (.int 0))) (Af (Au BL) (Ab (AR [none,some 8] (Bx (Ah AE (Aa 11) (mC (.int 1)))) (Bd 0) (A4) (Ah AV (Aa 1) (Aa 0))) (Ae))))
@[irreducible] noncomputable def Lg:MS:=A9 (AO (Ah BA (Af (Au CU) (Ab (AR [none] (Bx (Ah AE (Af Df (Ab (Aa 10) (Ae))) (mC (.int 1)))) (Bd 0) (A4) (Ah AE (Aa 0) (mC (.int 2)))) (Ae))) (Af (Au CU) (Ab (AR [none] (Bx (Aa 10)) (Bd 0) (A4) (Af (Au CU) (Ab (Aa 0) (Ae)))) (Ae))))) (Ax (mC (.bl false))) (Be)
@[irreducible] noncomputable def Lh:MS:=A9 (AO (Ah BA (Af De (Ab (Af Df (Ab (Aa 10) (Ae))) (Ae))) (Af Fu (Ab (Aa 10) (Ae))))) (Ax (mC (.bl false))) (Be)
@[irreducible] noncomputable def Li:MS:=A9 (AO (Ah BA (Af B6 (Ab (Af Df (Ab (Aa 10) (Ae))) (Ab (Aa 12) (Ae)))) (Af Df (Ab (Af Ft (Ab (Aa 10) (Ab (Aa 11) (Ae)))) (Ae))))) (Ax (mC (.bl false))) (Be)
def CH (ns:List Int) (k b n:Nat) (L L':List Ak) (S:Nat→Bool) (c6 c7 c8 c9 c10 c11 c12:Option D):Ai:=[some (.scr ns),some (.int (k:Nat)),some (.loc b),some (AX n L),some (A1 n S),some (AX n L'),c6,c7,c8,c9,c10,c11,c12]
section
variable {ns:List Int} {k b n:Nat} {h:HD} {L:List Ak} {S:Nat→Bool} {c2 c3 c4 c5 c6 c7 c8 c9 c10 c11 c12:Option D} {Q:Fl×Ai→HD→Prop}
theorem st0 (hb:∀i∈ns,Builtin.Int.intBits i≤2^20) (hk:k≤1000) (q:∀b h',BoxAt h' b→Q (.nx,[some (.scr ns),some (.int (k:Nat)),some (.loc b),c3,c4,c5,c6,c7,c8,c9,c10,c11,c12]) h'):Wp (K1 [some (.scr ns),some (.int (k:Nat)),c2,c3,c4,c5,c6,c7,c8,c9,c10,c11,c12] h) Q:=by
 unfold K1
 simp
 exact Zdo hb hk fun b h1 x1 lb s1=>q b h1 x1
theorem Lj (bx:BoxAt h b) (q:∀n L h',NetOk n L→BoxAt h' b→Q (.nx,[some (.scr ns),some (.int (k:Nat)),some (.loc b),some (AX n L),c4,c5,c6,c7,c8,c9,c10,c11,c12]) h'):Wp (K2 [some (.scr ns),some (.int (k:Nat)),some (.loc b),c3,c4,c5,c6,c7,c8,c9,c10,c11,c12] h) Q:=by
 unfold K2
 simp
 exact Zea bx trivial trivial fun n L h1 ok x1 _ _=>q n L h1 ok x1
theorem Cy (ok:NetOk n L) (bx:BoxAt h b) (q:∀S h',BoxAt h' b→Q (.nx,[some (.scr ns),some (.int (k:Nat)),some (.loc b),some (AX n L),some (A1 n S),c5,c6,c7,c8,c9,c10,c11,c12]) h'):Wp (K3 [some (.scr ns),some (.int (k:Nat)),some (.loc b),some (AX n L),c4,c5,c6,c7,c8,c9,c10,c11,c12] h) Q:=by
 have ix0:∀h,AE (AX n L) (.int 0) h=.ok (.int ((n:Nat):Int)) h:=fun h=>rfl
 unfold K3
 simp [ix0]
 exact Qb bx ok.n8 fun S h1 x1 s1=>q S h1 x1
theorem JO (ok:NetOk n L) (q:∀h',Sm h h'→Q (.nx,CH ns k b n L (L.map (AM S)) S c6 c7 c8 c9 c10 c11 c12) h'):Wp (K4 [some (.scr ns),some (.int (k:Nat)),some (.loc b),some (AX n L),some (A1 n S),c5,c6,c7,c8,c9,c10,c11,c12] h) Q:=by
 unfold K4
 simp
 exact (KR ok).wp fun h1 s1=>q h1 s1
theorem Nj (ok:NetOk n L) (q:∀P h',Sm h h'→L.map (AM P)=L.map (AM S)→Q (.nx,CH ns k b n L (L.map (AM S)) S (some (A1 n P)) c7 c8 c9 c10 c11 c12) h'):Wp (K5 (CH ns k b n L (L.map (AM S)) S c6 c7 c8 c9 c10 c11 c12) h) Q:=by
 unfold K5
 simp [CH]
 refine U9 ok ok.sw Zew fun A h1 s1 F C al=>?_
 have e:=Vb ok F C al
 rw [if_pos e]
 exact q _ h1 s1 e
theorem Zfi:(L.map (AM S)).map (AM S)=L:=by
 rw [BS]
 conv=>rhs;rw [←List.map_id L]
 refine CN fun t _=>?_
 show ((t.1,t.2.1,Bool.xor (Bool.xor t.2.2 (Bool.xor (S t.1) (S t.2.1))) (Bool.xor (S t.1) (S t.2.1))):Ak)=t
 rw [Bool.xor_assoc,Jk,Bool.xor_false]
theorem Fz {P:Nat→Bool} (ok:NetOk n L) (e:L.map (AM P)=L.map (AM S)) (q:∀h',Sm h h'→Q (.nx,CH ns k b n L (L.map (AM S)) S (some (A1 n P)) c7 c8 c9 c10 c11 c12) h'):Wp (K6 (CH ns k b n L (L.map (AM S)) S (some (A1 n P)) c7 c8 c9 c10 c11 c12) h) Q:=by
 have nn:∀h,Gp (A1 n P) .non h=.ok (.bl false) h:=fun h=>rfl
 unfold K6
 simp [CH,nn]
 refine (KR ok).wp fun h1 s1=>?_
 refine Ay Qj ?_
 rw [AW,e]
 simp
 refine (KR ok.sw).wp fun h2 s2=>?_
 refine Ay Qj ?_
 rw [AW,Zfi]
 simp
 exact q h2 (s1.trans s2)
open Classical in
theorem st6 (ok:NetOk n L) (q:∀h',Sm h h'→Q (.nx,CH ns k b n L (L.map (AM S)) S c6 c7 c8 c9 c10 c11 c12) h'):Wp (K7 (CH ns k b n L (L.map (AM S)) S c6 c7 c8 c9 c10 c11 c12) h) Q:=by
 unfold K7
 simp [CH]
 refine (Nd ok.sw).wp fun h1 s1=>?_
 refine (Nd ok).wp fun h2 s2=>?_
 rw [Vn ok]
 simp
 refine M9 ok fun h3 s3=>?_
 refine (Nd ok).wp fun h4 s4=>?_
 refine Ay OI ?_
 rw [AW]
 have e:(NL n L==0)=decide (Dp L):=by
  rw [qaS,decide_eq_true_iff,←Qs ok]
  simp
 rw [e]
 simp
 exact q h4 (((s1.trans s2).trans s3).trans s4)
def Qv (n:Nat) (L:List Ak) (d:D):Prop:=(∃R,Ring n L R∧¬Dp L∧d=AH R)∨Dp L∧d=.non
theorem GF (ok:NetOk n L) (q:∀d h',Sm h h'→Qv n L d→Q (.nx,CH ns k b n L (L.map (AM S)) S c6 (some d) c8 c9 c10 c11 c12) h'):Wp (K8 (CH ns k b n L (L.map (AM S)) S c6 c7 c8 c9 c10 c11 c12) h) Q:=by
 unfold K8
 simp [CH]
 exact ZeI ok (fun R h1 s1 r nq=>q _ h1 s1 (.inl ⟨R,r,nq,rfl⟩)) fun h1 s1 qu=>q _ h1 s1 (.inr ⟨qu,rfl⟩)
open Classical in
theorem st8 {d:D} (ok:NetOk n L) (rd:Qv n L d) (q:∀h',Sm h h'→Q (.nx,CH ns k b n L (L.map (AM S)) S c6 (some d) c8 c9 c10 c11 c12) h'):Wp (K9 (CH ns k b n L (L.map (AM S)) S c6 (some d) c8 c9 c10 c11 c12) h) Q:=by
 have en:∀h,Gp d .non h=.ok (.bl (decide (Dp L))) h:=fun h=>by
  rcases rd with ⟨R,_,nq,rfl⟩ |⟨qu,rfl⟩
  ·rw [decide_eq_false nq];rfl
  ·rw [decide_eq_true qu];rfl
 have es:decide (Dp (L.map (AM S)))=decide (Dp L):=by
  rw [qaS,decide_eq_true_iff,decide_eq_true_iff]
  exact ZeW ok
 unfold K9
 simp [CH,en]
 refine M9 ok fun h1 s1=>?_
 simp
 refine M9 ok.sw fun h2 s2=>?_
 refine M9 ok fun h3 s3=>?_
 rw [es]
 simp
 exact q h3 ((s1.trans s2).trans s3)
theorem st9 {d:D} (ok:NetOk n L) (rd:Qv n L d) (q:∀h',Sm h h'→Q (.nx,CH ns k b n L (L.map (AM S)) S c6 (some d) c8 c9 c10 c11 c12) h'):Wp (La (CH ns k b n L (L.map (AM S)) S c6 (some d) c8 c9 c10 c11 c12) h) Q:=by
 unfold La
 rcases rd with ⟨R,r,nq,rfl⟩ |⟨qu,rfl⟩
 ·have en:∀h,Eb (AH R) .non h=.ok (.bl true) h:=fun h=>rfl
  simp [CH,en]
  refine (ZeM ok.sw r.sw).wp fun h1 s1=>?_
  have e2:∀h,Eb (.bl true) (.bl true) h=.ok (.bl false) h:=fun h=>rfl
  simp [e2]
  exact q h1 s1
 ·have en:∀h,Eb .non .non h=.ok (.bl false) h:=fun h=>rfl
  simp [CH,en]
  exact q h (.refl _)
theorem Zfj (bx:BoxAt h b) (q:∀H h',(1≤H∧H≤7)→BoxAt h' b→Q (.nx,[some (.scr ns),some (.int (k:Nat)),some (.loc b),c3,c4,c5,c6,c7,some (.int ((H:Nat):Int)),c9,c10,c11,c12]) h'):Wp (Lb [some (.scr ns),some (.int (k:Nat)),some (.loc b),c3,c4,c5,c6,c7,c8,c9,c10,c11,c12] h) Q:=by
 unfold Lb
 simp
 refine P7 bx trivial trivial (by decide) (by decide) fun d h1 l1 x1 _ s1=>?_
 simp
 have:=q (1+d) h1 (by omega) x1
 rwa [show ((1+d:Nat):Int)=1+(d:Int) by omega] at this
theorem Zfk {H:Nat} (hH:1≤H∧H≤7) (bx:BoxAt h b) (q:∀W h',1≤W→H+W≤8→BoxAt h' b→Q (.nx,[some (.scr ns),some (.int (k:Nat)),some (.loc b),c3,c4,c5,c6,c7,some (.int ((H:Nat):Int)),some (.int ((W:Nat):Int)),c10,c11,c12]) h'):Wp (Lc [some (.scr ns),some (.int (k:Nat)),some (.loc b),c3,c4,c5,c6,c7,some (.int ((H:Nat):Int)),c9,c10,c11,c12] h) Q:=by
 unfold Lc
 simp
 refine P7 bx trivial trivial (by omega) (by omega) fun d h1 l1 x1 _ s1=>?_
 simp
 have:=q (1+d) h1 (by omega) (by omega) x1
 rwa [show ((1+d:Nat):Int)=1+(d:Int) by omega] at this
theorem Zfl {H W:Nat} (hh:1≤H∧H≤8) (hw:1≤W∧W≤8) (bx:BoxAt h b) (q:∀f h',BoxAt h' b→Q (.nx,[some (.scr ns),some (.int (k:Nat)),some (.loc b),c3,c4,c5,c6,c7,some (.int ((H:Nat):Int)),some (.int ((W:Nat):Int)),some (bD H W f),c11,c12]) h'):Wp (Ld [some (.scr ns),some (.int (k:Nat)),some (.loc b),c3,c4,c5,c6,c7,some (.int ((H:Nat):Int)),some (.int ((W:Nat):Int)),c10,c11,c12] h) Q:=by
 unfold Ld
 simp
 exact ZdB bx hh hw fun f h1 x1 s1=>q f h1 x1
theorem Zfm {H W:Nat} (hh:1≤H∧H≤8) (hw:1≤W∧W≤8) (bx:BoxAt h b) (q:∀p q' h',Q (.nx,[some (.scr ns),some (.int (k:Nat)),some (.loc b),c3,c4,c5,c6,c7,some (.int ((H:Nat):Int)),some (.int ((W:Nat):Int)),c10,some (EX H W p q'),c12]) h'):Wp (Le [some (.scr ns),some (.int (k:Nat)),some (.loc b),c3,c4,c5,c6,c7,some (.int ((H:Nat):Int)),some (.int ((W:Nat):Int)),c10,c11,c12] h) Q:=by
 unfold Le
 simp
 refine Qb bx hh.2 fun p h1 x1 s1=>?_
 refine Qb x1 hw.2 fun q' h2 x2 s2=>?_
 exact q p q' h2
end
def E1 (ns:List Int) (k H W:Nat) (f:Nat→Nat→Bool) (p q:Nat→Bool) (c2 c3 c4 c5 c6 c7 c12:Option D):Ai:=[some (.scr ns),some (.int (k:Nat)),c2,c3,c4,c5,c6,c7,some (.int ((H:Nat):Int)),some (.int ((W:Nat):Int)),some (bD H W f),some (EX H W p q),c12]
section
variable {ns:List Int} {k H W:Nat} {h:HD} {f:Nat→Nat→Bool} {p q':Nat→Bool} {c2 c3 c4 c5 c6 c7 c12:Option D} {Q:Fl×Ai→HD→Prop}
theorem Zfn (hh:1≤H∧H≤8) (hw:1≤W∧W≤8) (q:∀h',Q (.nx,E1 ns k H W f p q' c2 c3 c4 c5 c6 c7 (some (A1 (H+W) (EZ H p q')))) h'):Wp (Lf (E1 ns k H W f p q' c2 c3 c4 c5 c6 c7 c12) h) Q:=by
 have i0:∀h,AE (EX H W p q') (.int 0) h=.ok (A1 H p) h:=fun h=>rfl
 have i1:∀h,AE (EX H W p q') (.int 1) h=.ok (A1 W q') h:=fun h=>rfl
 unfold Lf
 simp [E1,i0]
 refine Pu.wp (GZ (src:=[]) (xs:=(List.range W).filter q') (φ:=fun j=>.int ((j:Nat):Int)) (fun j=>.int ((H:Int)+((j:Nat):Int))) (fun j=>[some (.int ((j:Nat):Int)),some (.int ((H:Nat):Int))]) ?_ (fun x _=>rfl) (fun x _ h' s'=>?_) ?_) fun h1 s1=>?_
 ·simp [By,i1,A1,Sm.refl,Bq]
 ·simp [Pu,Sm.refl]
 ·have:=Hh q' (List.range W)
  rw [Hl] at this
  unfold sizeLine
  omega
 ·have a1:=Hh p (List.range H)
  have a2:=Hh q' (List.range W)
  rw [Hl] at a1 a2
  have:=q h1
  rw [Zfg] at this
  unfold A1
  refine Ay (P8 (by rw [Cb,Cb];omega)) ?_
  rw [AW]
  exact this
theorem Zfo (hh:1≤H∧H≤8) (hw:1≤W∧W≤8) (hz:H+W≤8) (q:∀h',Q (.nx,E1 ns k H W f p q' c2 c3 c4 c5 c6 c7 c12) h'):Wp (Lg (E1 ns k H W f p q' c2 c3 c4 c5 c6 c7 c12) h) Q:=by
 have ix1:∀h,AE (AX (H+W) (CG H W f)) (.int 1) h=.ok (.tup ((CG H W f).map AL)) h:=fun h=>rfl
 have kl:=(Ni (f:=f) hh.1 hw.1 hz).le
 unfold Lg
 simp [E1]
 refine Pu.wp (Kw (src:=[]) (xs:=CG H W f) (φ:=AL) (fun t=>bi t.2.2) (fun t=>[some (AL t)]) ?_ (fun x _=>rfl) (fun t _ h' s'=>?_) (by unfold sizeLine;omega)) fun h1 s1=>?_
 ·simp [By]
  refine (Nh hh hw hz).wp fun h2 s2=>?_
  simp [ix1]
  exact ⟨s2,fun h' s'=>B2⟩
 ·have i2:AE (AL t) (.int 2) h'=.ok (lit t.2.2) h':=rfl
  simp [Pu,i2]
  exact ⟨rfl,.refl _⟩
 ·refine Pu.wp (Kw (src:=[]) (xs:=List.range H) (φ:=fun i=>AF W (f i)) (fun i=>B5 W (f i)) (fun i=>[some (AF W (f i))]) ?_ (fun x _=>rfl) (fun i _ h' s'=>?_) (sz hh.2)) fun h2 s2=>?_
  ·simp [By,bD,Sm.refl,Bq]
  ·simp [Pu]
   refine Ay Vp ?_
   rw [AW]
   exact ⟨rfl,.refl _⟩
  ·rw [Zfe]
   simp
   exact q h2
theorem Zfp (hh:1≤H∧H≤8) (hw:1≤W∧W≤8) (hz:H+W≤8) (q:∀h',Q (.nx,E1 ns k H W f p q' c2 c3 c4 c5 c6 c7 c12) h'):Wp (Lh (E1 ns k H W f p q' c2 c3 c4 c5 c6 c7 c12) h) Q:=by
 unfold Lh
 simp [E1]
 refine (Nh hh hw hz).wp fun h1 s1=>?_
 refine (Nd (Ni hh.1 hw.1 hz)).wp fun h2 s2=>?_
 refine (Ze9 hh hw).wp fun h3 s3=>?_
 rw [Zff hh.1 hw.1 hz]
 simp
 exact q h3
theorem Zfq (hh:1≤H∧H≤8) (hw:1≤W∧W≤8) (hz:H+W≤8) (q:∀h',Q (.nx,E1 ns k H W f p q' c2 c3 c4 c5 c6 c7 (some (A1 (H+W) (EZ H p q')))) h'):Wp (Li (E1 ns k H W f p q' c2 c3 c4 c5 c6 c7 (some (A1 (H+W) (EZ H p q')))) h) Q:=by
 unfold Li
 simp [E1]
 refine (Nh hh hw hz).wp fun h1 s1=>?_
 refine (KR (Ni hh.1 hw.1 hz)).wp fun h2 s2=>?_
 refine (ZdI hh hw).wp fun h3 s3=>?_
 refine (Nh hh hw hz).wp fun h4 s4=>?_
 refine Ay Qj ?_
 rw [AW,Zfh]
 simp
 exact q h4
end
section
variable {ns:List Int} {h:HD} {c2 c3 c4 c5 c6 c7 c8 c9 c10 c11 c12:Option D}
theorem Zfr {QB:Fl×Ai→HD→Prop} {x:Nat} (hb:∀i∈ns,Builtin.Int.intBits i≤2^20) (hk:x≤1000) (q:∀b2 b3 b4 b5 b6 b7 b8 b9 b10 b11 b12 h',QB (.nx,[some (.scr ns),some (.int (x:Nat)),b2,b3,b4,b5,b6,b7,b8,b9,b10,b11,b12]) h'):
 Wp (Aj K1 (Aj K2 (Aj K3 (Aj K4 (Aj K5 (Aj K6 (Aj K7 (Aj K8 (Aj K9 (Aj La (Aj Lb (Aj Lc (Aj Ld (Aj Le (Aj Lf (Aj Lg (Aj Lh Li)))))))))))))))) [some (.scr ns),some (.int (x:Nat)),c2,c3,c4,c5,c6,c7,c8,c9,c10,c11,c12] h) QB:=by
 rw [BZ]
 refine st0 hb hk fun b h0 x0=>?_
 rw [An,BZ]
 refine Lj x0 fun n L h1 ok x1=>?_
 rw [An,BZ]
 refine Cy ok x1 fun S h2 x2=>?_
 rw [An,BZ]
 refine JO ok fun h3 s3=>?_
 rw [An,BZ]
 refine Nj ok fun P h4 s4 e4=>?_
 rw [An,BZ]
 refine Fz ok e4 fun h5 s5=>?_
 rw [An,BZ]
 refine st6 ok fun h6 s6=>?_
 rw [An,BZ]
 refine GF ok fun d h7 s7 rd=>?_
 rw [An,BZ]
 refine st8 ok rd fun h8 s8=>?_
 rw [An,BZ]
 refine st9 ok rd fun h9 s9=>?_
 rw [An,BZ]
 have x9:=x2.sm ((((((s3.trans s4).trans s5).trans s6).trans s7).trans s8).trans s9)
 refine Zfj x9 fun H h10 hH x10=>?_
 rw [An,BZ]
 refine Zfk hH x10 fun W h11 w1 hz x11=>?_
 rw [An,BZ]
 have hh:1≤H∧H≤8:=by omega
 have hw:1≤W∧W≤8:=by omega
 refine Zfl hh hw x11 fun f h12 x12=>?_
 rw [An,BZ]
 refine Zfm hh hw x12 fun p q' h13=>?_
 rw [An,BZ]
 refine Zfn hh hw fun h14=>?_
 rw [An,BZ]
 refine Zfo hh hw hz fun h15=>?_
 rw [An,BZ]
 refine Zfp hh hw hz fun h16=>?_
 rw [An]
 exact Zfq hh hw hz fun h17=>q _ _ _ _ _ _ _ _ _ _ _ h17
end
def IL (ns:List Int) (xs:List Nat) (ρ:Ai) (h':HD):Prop:=∃d1 d2 d3 d4 d5 d6 d7 d8 d9 d10 d11 d12,ρ=[some (.scr ns),d1,d2,d3,d4,d5,d6,d7,d8,d9,d10,d11,d12]∧∀k∈xs,k≤1000
theorem Zfs:MZ Fj Fo DN B6 CD De Do Fs Fq A0 Fm Df Fu Ft=Aj (Dx (Dj (Ab (Af (Cg Kc) (Ab (mC (.int 1)) (Ab (Af (Cg Ju) (Ab (Af (Au BK) (Ab (Aa 0) (Ae))) (Ab (mC (.int 4)) (Ae)))) (Ae)))) (Ae))) (Bd 1) (Aj K1 (Aj K2 (Aj K3 (Aj K4 (Aj K5 (Aj K6 (Aj K7 (Aj K8 (Aj K9 (Aj La (Aj Lb (Aj Lc (Aj Ld (Aj Le (Aj Lf (Aj Lg (Aj Lh (Li))))))))))))))))))) (Ax (mC (.bl true))):=by
 unfold K1 K2 K3 K4 K5 K6 K7 K8 K9 La Lb Lc Ld Le Lf Lg Lh Li
 rfl
theorem law_true (ns:List Int) (hl:ns.length≤63) (hb:∀i∈ns,Builtin.Int.intBits i≤2^20):∃h',F_law [.scr ns] []=.ok (.bl true) h':=by
 have main:Wp (F_law [.scr ns] []) fun d _=>d=.bl true:=by
  change Wp (Ao 13 (MZ Fj Fo DN B6 CD De Do Fs Fq A0 Fm Df Fu Ft) [.scr ns] []) _
  rw [Zfs,Ba,BZ]
  obtain ⟨n,en,hn⟩:∃n:Nat,(if (if (4:Int)<(ns.length:Int) then (4:Int) else (ns.length:Int))>1 then (if (4:Int)<(ns.length:Int) then (4:Int) else (ns.length:Int)) else 1)=(n:Int)∧n≤99:=by
   have h0:0≤(if (if (4:Int)<(ns.length:Int) then (4:Int) else (ns.length:Int))>1 then (if (4:Int)<(ns.length:Int) then (4:Int) else (ns.length:Int)) else 1)∧(if (if (4:Int)<(ns.length:Int) then (4:Int) else (ns.length:Int))>1 then (if (4:Int)<(ns.length:Int) then (4:Int) else (ns.length:Int)) else 1)≤99:=by
    constructor<;>(split<;>split<;>omega)
   generalize (if (if (4:Int)<(ns.length:Int) then (4:Int) else (ns.length:Int))>1 then (if (4:Int)<(ns.length:Int) then (4:Int) else (ns.length:Int)) else 1)=E at h0
   exact ⟨E.toNat,by omega,by omega⟩
  refine EJ (src:=[]) (xs:=List.range n) (fun i=>.int ((i:Nat):Int)) (IL ns) ?_ (fun ys ρ h' _=>B2) ?_ ?_
  ·simp
   rw [en,EI (by omega)]
   exact ⟨rfl,_,_,_,_,_,_,_,_,_,_,_,_,rfl,fun k hk=>by have:=qb2.mp hk;omega⟩
  ·rintro x xs ρ h' ⟨d1,d2,d3,d4,d5,d6,d7,d8,d9,d10,d11,d12,rfl,hx⟩
   refine ⟨_,rfl,?_⟩
   exact Zfr hb (hx x AZ) fun _ _ _ _ _ _ _ _ _ _ _ h2=>
    ⟨_,_,_,_,_,_,_,_,_,_,_,_,rfl,fun k hk=>hx k (Bb _ hk)⟩
  ·rintro ρ h' ⟨d1,d2,d3,d4,d5,d6,d7,d8,d9,d10,d11,d12,rfl,hx⟩
   simp
 obtain ⟨a,h',e,rfl⟩:=Wp.ex main
 exact ⟨h',e⟩
end LK
set_option maxHeartbeats 0
namespace LK
open PySem PySem.Spec PyProof.Rows L2 LS
def Qw:Tp.Want:=⟨[(("is_whole":Str),HQ),(("is_line_tuple":Str),HU),(("row_switched":Str),HV),(("counts_with_row":Str),HW),(("fewest_lit":Str),HX),(("rising_rows":Str),HY),(("lights_of":Str),HZ),(("paths_of":Str),H0),(("lit_along":Str),Ia),(("pairs_of":Str),Ib),(("ring_of":Str),Ic),(("lit_by_sides":Str),Ie),(("_law_cell":Str),Ig),(("_law_mix":Str),Ih),(("_law_take":Str),Ii),(("is_between":Str),Ij),(("is_lot":Str),Ik),(("_law_box":Str),Il),(("_law_wide_box":Str),Im),(("_law_lot":Str),Io),(("is_light":Str),Ip),(("_law_board":Str),Iq),(("_law_net":Str),Ir),(("is_row":Str),Iu),(("is_tie":Str),Iv),(("is_board":Str),Iw),(("is_net":Str),Iz),(("need_board":Str),IA),(("need_net":Str),IB),(("row_counts":Str),IC),(("is_switching":Str),ID),(("turned":Str),IE),(("net_switched":Str),IF),(("is_odd_ring":Str),IG),(("odd_ring":Str),IH),(("net_left":Str),II),(("net_of":Str),IJ),(("column_counts":Str),IK),(("need_switching":Str),IP),(("net_lot":Str),IQ),(("switched":Str),IS),(("lots_with_counts":Str),IT),(("is_quiet":Str),IU),(("left_many":Str),IV),(("law":Str),s_law)],[(("MOST_LINES":Str),(8:Int)),(("MOST_PLACES":Str),(8:Int))],["all","any","bool","divmod","enumerate","int","isinstance","len","max","min","range","sum","tuple","zip"]⟩
theorem all_mk {l:PySem.W.OpenLaw} {w:World} {K:PySem.W.Frag} {h:Heap} {mg:Str→Option Value} {fa:Addr} (HS:Tp.Has0 Qw K) (X:K.In h) (G:h.Ns mainGlobals mg) (hfa:mg "law"=some (.ref fa)):
 ∃fd:FuncData,(∀(s:Shared) (v:Value),BindsTo s fd ⟨[v],[]⟩ [("_law_script",v)])∧∀base:Heap,K.In base→base.Ns mainGlobals mg→Ky mg base→FnOk l.prog w K mg base (AG l.prog w K) 11 fa fd ["_law_script"] (G1 K F_law):=by
 obtain ⟨fs,cs,bs,et⟩:=HS
 obtain ⟨_,_,_,_,_,_,_,_,_,_,a0,l0,c0,k0⟩:=fs 0 "is_whole" HQ rfl
 obtain ⟨_,_,_,_,_,_,_,_,_,_,a1,l1,c1,k1⟩:=fs 1 "is_line_tuple" HU rfl
 obtain ⟨_,_,_,_,_,_,_,_,_,_,a2,l2,c2,k2⟩:=fs 2 "row_switched" HV rfl
 obtain ⟨_,_,_,_,_,_,_,_,_,_,a3,l3,c3,k3⟩:=fs 3 "counts_with_row" HW rfl
 obtain ⟨_,_,_,_,_,_,_,_,_,_,a4,l4,c4,k4⟩:=fs 4 "fewest_lit" HX rfl
 obtain ⟨_,_,_,_,_,_,_,_,_,_,a5,l5,c5,k5⟩:=fs 5 "rising_rows" HY rfl
 obtain ⟨_,_,_,_,_,_,_,_,_,_,a6,l6,c6,k6⟩:=fs 6 "lights_of" HZ rfl
 obtain ⟨_,_,_,_,_,_,_,_,_,_,a7,l7,c7,k7⟩:=fs 7 "paths_of" H0 rfl
 obtain ⟨_,_,_,_,_,_,_,_,_,_,a8,l8,c8,k8⟩:=fs 8 "lit_along" Ia rfl
 obtain ⟨_,_,_,_,_,_,_,_,_,_,a9,l9,c9,k9⟩:=fs 9 "pairs_of" Ib rfl
 obtain ⟨_,_,_,_,_,_,_,_,_,_,a10,l10,c10,k10⟩:=fs 10 "ring_of" Ic rfl
 obtain ⟨_,_,_,_,_,_,_,_,_,_,a11,l11,c11,k11⟩:=fs 11 "lit_by_sides" Ie rfl
 obtain ⟨_,_,_,_,_,_,_,_,_,_,a12,l12,c12,k12⟩:=fs 12 "_law_cell" Ig rfl
 obtain ⟨_,_,_,_,_,_,_,_,_,_,a13,l13,c13,k13⟩:=fs 13 "_law_mix" Ih rfl
 obtain ⟨_,_,_,_,_,_,_,_,_,_,a14,l14,c14,k14⟩:=fs 14 "_law_take" Ii rfl
 obtain ⟨_,_,_,_,_,_,_,_,_,_,a15,l15,c15,k15⟩:=fs 15 "is_between" Ij rfl
 obtain ⟨_,_,_,_,_,_,_,_,_,_,a16,l16,c16,k16⟩:=fs 16 "is_lot" Ik rfl
 obtain ⟨_,_,_,_,_,_,_,_,_,_,a17,l17,c17,k17⟩:=fs 17 "_law_box" Il rfl
 obtain ⟨_,_,_,_,_,_,_,_,_,_,a18,l18,c18,k18⟩:=fs 18 "_law_wide_box" Im rfl
 obtain ⟨_,_,_,_,_,_,_,_,_,_,a19,l19,c19,k19⟩:=fs 19 "_law_lot" Io rfl
 obtain ⟨_,_,_,_,_,_,_,_,_,_,a20,l20,c20,k20⟩:=fs 20 "is_light" Ip rfl
 obtain ⟨_,_,_,_,_,_,_,_,_,_,a21,l21,c21,k21⟩:=fs 21 "_law_board" Iq rfl
 obtain ⟨_,_,_,_,_,_,_,_,_,_,a22,l22,c22,k22⟩:=fs 22 "_law_net" Ir rfl
 obtain ⟨_,_,_,_,_,_,_,_,_,_,a23,l23,c23,k23⟩:=fs 23 "is_row" Iu rfl
 obtain ⟨_,_,_,_,_,_,_,_,_,_,a24,l24,c24,k24⟩:=fs 24 "is_tie" Iv rfl
 obtain ⟨_,_,_,_,_,_,_,_,_,_,a25,l25,c25,k25⟩:=fs 25 "is_board" Iw rfl
 obtain ⟨_,_,_,_,_,_,_,_,_,_,a26,l26,c26,k26⟩:=fs 26 "is_net" Iz rfl
 obtain ⟨_,_,_,_,_,_,_,_,_,_,a27,l27,c27,k27⟩:=fs 27 "need_board" IA rfl
 obtain ⟨_,_,_,_,_,_,_,_,_,_,a28,l28,c28,k28⟩:=fs 28 "need_net" IB rfl
 obtain ⟨_,_,_,_,_,_,_,_,_,_,a29,l29,c29,k29⟩:=fs 29 "row_counts" IC rfl
 obtain ⟨_,_,_,_,_,_,_,_,_,_,a30,l30,c30,k30⟩:=fs 30 "is_switching" ID rfl
 obtain ⟨_,_,_,_,_,_,_,_,_,_,a31,l31,c31,k31⟩:=fs 31 "turned" IE rfl
 obtain ⟨_,_,_,_,_,_,_,_,_,_,a32,l32,c32,k32⟩:=fs 32 "net_switched" IF rfl
 obtain ⟨_,_,_,_,_,_,_,_,_,_,a33,l33,c33,k33⟩:=fs 33 "is_odd_ring" IG rfl
 obtain ⟨_,_,_,_,_,_,_,_,_,_,a34,l34,c34,k34⟩:=fs 34 "odd_ring" IH rfl
 obtain ⟨_,_,_,_,_,_,_,_,_,_,a35,l35,c35,k35⟩:=fs 35 "net_left" II rfl
 obtain ⟨_,_,_,_,_,_,_,_,_,_,a36,l36,c36,k36⟩:=fs 36 "net_of" IJ rfl
 obtain ⟨_,_,_,_,_,_,_,_,_,_,a37,l37,c37,k37⟩:=fs 37 "column_counts" IK rfl
 obtain ⟨_,_,_,_,_,_,_,_,_,_,a38,l38,c38,k38⟩:=fs 38 "need_switching" IP rfl
 obtain ⟨_,_,_,_,_,_,_,_,_,_,a39,l39,c39,k39⟩:=fs 39 "net_lot" IQ rfl
 obtain ⟨_,_,_,_,_,_,_,_,_,_,a40,l40,c40,k40⟩:=fs 40 "switched" IS rfl
 obtain ⟨_,_,_,_,_,_,_,_,_,_,a41,l41,c41,k41⟩:=fs 41 "lots_with_counts" IT rfl
 obtain ⟨_,_,_,_,_,_,_,_,_,_,a42,l42,c42,k42⟩:=fs 42 "is_quiet" IU rfl
 obtain ⟨_,_,_,_,_,_,_,_,_,_,a43,l43,c43,k43⟩:=fs 43 "left_many" IV rfl
 obtain ⟨f_law,_,an_law,_,_,kV_law,dc_law,pm_law,cd_law,ct_law,a_law,l_law,c_law,k_law⟩:=fs 44 "law" s_law rfl
 have e:=hfa.symm.trans (PySem.W.mg_of X G a_law)
 cases e
 have B:Bl mg:=⟨PySem.W.mg_none_of X G (bs 0 "all" rfl),PySem.W.mg_none_of X G (bs 1 "any" rfl),PySem.W.mg_none_of X G (bs 2 "bool" rfl),PySem.W.mg_none_of X G (bs 3 "divmod" rfl),PySem.W.mg_none_of X G (bs 4 "enumerate" rfl),PySem.W.mg_none_of X G (bs 5 "int" rfl),PySem.W.mg_none_of X G (bs 6 "isinstance" rfl),PySem.W.mg_none_of X G (bs 7 "len" rfl),PySem.W.mg_none_of X G (bs 8 "max" rfl),PySem.W.mg_none_of X G (bs 9 "min" rfl),PySem.W.mg_none_of X G (bs 10 "range" rfl),PySem.W.mg_none_of X G (bs 11 "sum" rfl),PySem.W.mg_none_of X G (bs 12 "tuple" rfl),PySem.W.mg_none_of X G (bs 13 "zip" rfl)⟩
 obtain ⟨t_MOST_LINES,v_MOST_LINES⟩:=cs 0 "MOST_LINES" 8 rfl
 have M_MOST_LINES:=PySem.W.mg_of X G v_MOST_LINES
 obtain ⟨t_MOST_PLACES,v_MOST_PLACES⟩:=cs 1 "MOST_PLACES" 8 rfl
 have M_MOST_PLACES:=PySem.W.mg_of X G v_MOST_PLACES
 refine ⟨PySem.W.fnOf "law" "law" (defArgs s_law) (defBody s_law) (defScope s_law) .none kV_law dc_law pm_law an_law cd_law ct_law,fun s v=>.of_eq rfl,fun base _ _ hbm=>?_⟩
 have C0:=ZcE (P:=l.prog) (w:=w) (base:=base) B et (Cr X G l0 c0 k0 a0 fun _ _ _ _ _ _ _=>rfl)
 have C1:=ZcF (P:=l.prog) (w:=w) (base:=base) B et M_MOST_LINES (Cr X G l1 c1 k1 a1 fun _ _ _ _ _ _ _=>rfl)
 have C2:=ZcG (P:=l.prog) (w:=w) (base:=base) B et (OJ X G l2 c2 k2 a2 fun _ _ _ _ _ _ _ _ _=>rfl)
 have C3:=ZcH (P:=l.prog) (w:=w) (base:=base) B et (CC X G l3 c3 k3 a3 fun _ _ _ _ _ _ _ _=>rfl)
 have C4:=ZcI (P:=l.prog) (w:=w) (base:=base) B et (CC X G l4 c4 k4 a4 fun _ _ _ _ _ _ _ _=>rfl)
 have C5:=ZcJ (P:=l.prog) (w:=w) (base:=base) B et (CC X G l5 c5 k5 a5 fun _ _ _ _ _ _ _ _=>rfl)
 have C6:=ZcK (P:=l.prog) (w:=w) (base:=base) B et (Cr X G l6 c6 k6 a6 fun _ _ _ _ _ _ _=>rfl)
 have C7:=ZcL (P:=l.prog) (w:=w) (base:=base) B et (CC X G l7 c7 k7 a7 fun _ _ _ _ _ _ _ _=>rfl)
 have C8:=ZcM (P:=l.prog) (w:=w) (base:=base) B et (CC X G l8 c8 k8 a8 fun _ _ _ _ _ _ _ _=>rfl)
 have C9:=ZcN (P:=l.prog) (w:=w) (base:=base) B et (Cr X G l9 c9 k9 a9 fun _ _ _ _ _ _ _=>rfl)
 have C10:=ZcO (P:=l.prog) (w:=w) (base:=base) B et (CC X G l10 c10 k10 a10 fun _ _ _ _ _ _ _ _=>rfl)
 have C11:=ZcP (P:=l.prog) (w:=w) (base:=base) B et (CC X G l11 c11 k11 a11 fun _ _ _ _ _ _ _ _=>rfl)
 have C12:=ZcQ (P:=l.prog) (w:=w) (base:=base) B et (CC X G l12 c12 k12 a12 fun _ _ _ _ _ _ _ _=>rfl)
 have C13:=ZcR (P:=l.prog) (w:=w) (base:=base) B et (CC X G l13 c13 k13 a13 fun _ _ _ _ _ _ _ _=>rfl)
 have C14:=ZcS (P:=l.prog) (w:=w) (base:=base) B et (CC X G l14 c14 k14 a14 fun _ _ _ _ _ _ _ _=>rfl)
 have C15:=ZcT (P:=l.prog) (w:=w) (base:=base) B et C0 (OJ X G l15 c15 k15 a15 fun _ _ _ _ _ _ _ _ _=>rfl)
 have C16:=ZcU (P:=l.prog) (w:=w) (base:=base) B et C0 (CC X G l16 c16 k16 a16 fun _ _ _ _ _ _ _ _=>rfl)
 have C17:=ZcV (P:=l.prog) (w:=w) (base:=base) B et C12 C13 (CC X G l17 c17 k17 a17 fun _ _ _ _ _ _ _ _=>rfl)
 have C18:=ZcW (P:=l.prog) (w:=w) (base:=base) B et C14 (Cr X G l18 c18 k18 a18 fun _ _ _ _ _ _ _=>rfl)
 have C19:=ZcX (P:=l.prog) (w:=w) (base:=base) B et C14 (CC X G l19 c19 k19 a19 fun _ _ _ _ _ _ _ _=>rfl)
 have C20:=ZcY (P:=l.prog) (w:=w) (base:=base) B et C15 (Cr X G l20 c20 k20 a20 fun _ _ _ _ _ _ _=>rfl)
 have C21:=ZcZ (P:=l.prog) (w:=w) (base:=base) B et C14 C18 (OJ X G l21 c21 k21 a21 fun _ _ _ _ _ _ _ _ _=>rfl)
 have C22:=Zc0 (P:=l.prog) (w:=w) (base:=base) B et C14 C18 (Cr X G l22 c22 k22 a22 fun _ _ _ _ _ _ _=>rfl)
 have C23:=Zc1 (P:=l.prog) (w:=w) (base:=base) B et C1 C20 (Cr X G l23 c23 k23 a23 fun _ _ _ _ _ _ _=>rfl)
 have C24:=Zc2 (P:=l.prog) (w:=w) (base:=base) B et C16 C20 (CC X G l24 c24 k24 a24 fun _ _ _ _ _ _ _ _=>rfl)
 have C25:=Zc3 (P:=l.prog) (w:=w) (base:=base) B et C1 C23 (Cr X G l25 c25 k25 a25 fun _ _ _ _ _ _ _=>rfl)
 have C26:=Zc4 (P:=l.prog) (w:=w) (base:=base) B et C15 C24 M_MOST_PLACES (Cr X G l26 c26 k26 a26 fun _ _ _ _ _ _ _=>rfl)
 have C27:=Zc5 (P:=l.prog) (w:=w) (base:=base) B et C25 (Cr X G l27 c27 k27 a27 fun _ _ _ _ _ _ _=>rfl)
 have C28:=Zc6 (P:=l.prog) (w:=w) (base:=base) B et C26 (Cr X G l28 c28 k28 a28 fun _ _ _ _ _ _ _=>rfl)
 have C29:=Zc7 (P:=l.prog) (w:=w) (base:=base) B et C27 (Cr X G l29 c29 k29 a29 fun _ _ _ _ _ _ _=>rfl)
 have C30:=Zc8 (P:=l.prog) (w:=w) (base:=base) B et C27 C16 (CC X G l30 c30 k30 a30 fun _ _ _ _ _ _ _ _=>rfl)
 have C31:=Zc9 (P:=l.prog) (w:=w) (base:=base) B et C27 (Cr X G l31 c31 k31 a31 fun _ _ _ _ _ _ _=>rfl)
 have C32:=Zda (P:=l.prog) (w:=w) (base:=base) B et C28 C16 (CC X G l32 c32 k32 a32 fun _ _ _ _ _ _ _ _=>rfl)
 have C33:=Zdb (P:=l.prog) (w:=w) (base:=base) B et C28 C15 C6 C8 (CC X G l33 c33 k33 a33 fun _ _ _ _ _ _ _ _=>rfl)
 have C34:=Zdc (P:=l.prog) (w:=w) (base:=base) B et C28 C6 C7 C8 C10 (Cr X G l34 c34 k34 a34 fun _ _ _ _ _ _ _=>rfl)
 have C35:=Zdd (P:=l.prog) (w:=w) (base:=base) B et C28 C5 C11 (Cr X G l35 c35 k35 a35 fun _ _ _ _ _ _ _=>rfl)
 have C36:=Zde (P:=l.prog) (w:=w) (base:=base) B et C27 M_MOST_PLACES (Cr X G l36 c36 k36 a36 fun _ _ _ _ _ _ _=>rfl)
 have C37:=Zdf (P:=l.prog) (w:=w) (base:=base) B et C31 C29 (Cr X G l37 c37 k37 a37 fun _ _ _ _ _ _ _=>rfl)
 have C38:=Zdg (P:=l.prog) (w:=w) (base:=base) B et C30 (CC X G l38 c38 k38 a38 fun _ _ _ _ _ _ _ _=>rfl)
 have C39:=Zdh (P:=l.prog) (w:=w) (base:=base) B et C28 C9 C6 C7 C8 C32 (CC X G l39 c39 k39 a39 fun _ _ _ _ _ _ _ _=>rfl)
 have C40:=Zdi (P:=l.prog) (w:=w) (base:=base) B et C38 C2 (CC X G l40 c40 k40 a40 fun _ _ _ _ _ _ _ _=>rfl)
 have C41:=Zdj (P:=l.prog) (w:=w) (base:=base) B et C37 C3 (Cr X G l41 c41 k41 a41 fun _ _ _ _ _ _ _=>rfl)
 have C42:=Zdk (P:=l.prog) (w:=w) (base:=base) B et C28 C39 (Cr X G l42 c42 k42 a42 fun _ _ _ _ _ _ _=>rfl)
 have C43:=Zdl (P:=l.prog) (w:=w) (base:=base) B et C41 C4 (Cr X G l43 c43 k43 a43 fun _ _ _ _ _ _ _=>rfl)
 exact Bf (Cr X G l_law c_law k_law a_law fun _ _ _ _ _ _ _=>rfl).fn sc_law (fun ds h e=>if_neg e) (fun ds h e=>if_pos e) (fun cdv A outer s H E hr=>ZcD B et C17 C22 C19 C32 C39 C35 C42 C34 C33 C14 C21 C36 C43 C40 _ cdv A outer s H E hr)
end LK
namespace LK
open PySem PySem.W
abbrev top_q:Program:=view PySem.Challenge.pw_lineswitch_k75_whole_nets [58]
abbrev top_loose:List Str:=(PySem.Challenge.pw_lineswitch_k75_whole_nets.main.scope.names.map (·.1)).filter fun x=>!(x=="law")
set_option maxHeartbeats 0 in
theorem top_left:LeftO PySem.Challenge.pw_lineswitch_k75_whole_nets top_q top_loose (fun _=>true) (Tp.obs0 Qw) (fun _=>Tp.val0 Qw) 1000000:=
 Tp.left_of (n:=60) (by kernel_rfl) (fun s=>by kernel_rfl) (fun w=>by kernel_rfl) (fun w os=>by
  rw [PySem.W.Fast.te10156331382660048174,PySem.W.Fast.te11892475500146522536,PySem.W.Fast.te14364793385576792824,PySem.W.Fast.te10110043849684766642,PySem.W.Fast.te6613529449190102663,PySem.W.Fast.te4187177175401517315,PySem.W.Fast.te5923862056798008813]
  kernel_rfl)
end LK
open PySem PySem.W PyProof.Rows
set_option maxRecDepth 100000 in
set_option maxHeartbeats 0 in
theorem PySem.Challenge.cw_lineswitch_k75_whole_nets_holds : PySem.Challenge.rw_lineswitch_k75_whole_nets.Holds := by
 w_on;o_law
 refine PySem.W.holds_open (q:=LK.top_q) (loose:=LK.top_loose) (d:=⟨"law",L2.defArgs LK.s_law,L2.defBody LK.s_law,L2.defScope LK.s_law,_⟩) (kwd:=[]) (Xt:=fun _=>true) (XP:=fun _ _=>True) (N:=1000000) LK.top_left Tp.says0_of Tp.Says0.keeps (fun _ _=>trivial) (fun _ _ _ _ _=>trivial) (by rfl) (by kernel_rfl) (by kernel_rfl) (fun s _=>recFacts_nil (by rfl)) (by rfl) (by assumption) (by kernel_rfl) ⟨rfl,rfl,rfl,rfl,rfl,by decide +kernel⟩ ?hw ?hc
 case hw=>w_witness2
 case hc=>exact LS.walk_hd0 (n:=63) (k:=11) (x:="_law_script") (F:=LK.F_law) rfl (by decide) rfl ⟨rfl,by decide,by decide,rfl⟩ (fun w K mg fa h HS X G hfa=>LK.all_mk HS X G hfa) LK.law_true
