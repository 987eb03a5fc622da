import PyProof.Rows.All
import Wide.All
import OpenK.AllK
import Wide.FinOn
import Lean
import PyProof.EqAt
import PyProof.EqKinds
import PyProof.TupleCall
import PyProof.ExcBaseAll.ValueError
import PyProof.ZipIter
import KE.KIsAll
import KE.KTryMore
import PyProof.ExcArgsOwn
import PyProof.ExcAttrAll.ValueError
import KE.KLam
import KE.KNestM
import PyProof.NsDelKeeps
import PyProof.Rows.CatchPack
import PyProof.ReprRoads
import PyProof.Rows.FStr
import PyProof.ListRange
import PyProof.CollectIter
import KE.KRevSl
import PyProof.ExcInit
import PyProof.ExcClass2
import PyProof.InstStore
import PyProof.InstStoreFacts
import PyProof.InstLoad
import OpenK.KMore
import PyProof.Rows.StrKeys3
import PyProof.DictItemsLoops
import PyProof.DictTable
import PyProof.MeetsDictList
import PyProof.DictStraight
import PyProof.DictUpdate
import PyProof.AttrMissHeap
import PyProof.ListNew
import KE.KDictOf
import PySem.Challenge.RW_lineswitch_k73_odd_rings
set_option Elab.async false
set_option linter.all false
set_option maxRecDepth 100000
abbrev AG:=@PySem.Heap.get?_push_of_some
abbrev AQ:=@List.getElem?_eq_getElem
abbrev AB:=@List.prefix_refl
abbrev qa3:=@List.getElem?_eq_some_iff
abbrev qa4:=@List.mem_singleton
abbrev qa5:=@List.mem_cons
abbrev Ax:=@Nat.le_refl
abbrev AW:=@Nat.lt_of_lt_of_le
abbrev AZ:=@List.mem_cons_self
abbrev A6:=@List.mem_cons_of_mem
abbrev AX:=@List.size_toArray
abbrev AF:=@PySem.Heap.lt_size
abbrev Be:=@List.mem_append_right
abbrev Bi:=@PySem.Heap.get?_push_size
abbrev Bp:=@List.getElem?_set_ne
abbrev Bf:=@Bool.false_ne_true
abbrev qaG:=@List.mem_append
abbrev BR:=@List.getElem?_set_self
abbrev Bc:=@List.length_map
abbrev BS:=@Bool.and_eq_true
abbrev Cj:=@List.mem_append_left
abbrev qaL:=@List.mem_map
abbrev B8:=@List.getElem?_map
abbrev Bt:=@Nat.ne_of_lt
abbrev qaO:=@List.all_eq_true
abbrev BE:=@List.map_cons
abbrev Cf:=@List.append_assoc
abbrev Bu:=@Nat.zero_le
abbrev B9:=@List.append_nil
abbrev qaT:=@Option.map_eq_some_iff
abbrev qaU:=@Bool.eq_iff_iff
abbrev BU:=@Nat.le_trans
abbrev CH:=@Bool.false_eq_true
abbrev Co:=@List.find?_cons
abbrev Ca:=@Nat.ne_of_gt
abbrev Cw:=@List.map_append
abbrev CY:=@List.length_append
abbrev CZ:=@List.reverse_cons
abbrev CI:=@PySem.Heap.size_push
abbrev Fb:=@List.getD_eq_getElem?_getD
abbrev qb4:=@List.any_eq_true
abbrev Dc:=@List.not_mem_nil
abbrev Fc:=@List.getElem?_append_left
abbrev Cy:=@List.map_map
abbrev CO:=@Nat.lt_irrefl
abbrev Do:=@Option.map_some
abbrev DF:=@List.length_cons
abbrev DG:=@List.append_inj'
abbrev ED:=@List.map_congr_left
abbrev EF:=@List.prefix_append
abbrev Fd:=@List.mem_of_getElem?
abbrev DY:=@List.getElem_mem
abbrev Fe:=@List.mem_of_mem_take
abbrev Ff:=@List.filterMap_cons
abbrev GD:=@List.mem_of_find?_eq_some
abbrev EG:=@List.cons_append
abbrev EH:=@Nat.le_add_right
abbrev qbL:=@List.find?_eq_none
abbrev qbM:=@List.nodup_append
abbrev qbN:=@List.nodup_cons
abbrev FT:=@List.replicate_succ
abbrev GE:=@List.take_of_length_le
abbrev Hv:=@List.getElem?_append_right
abbrev qbR:=@List.mem_range
abbrev Fg:=@List.length_nil
abbrev Fh:=@List.nil_append
abbrev FU:=@List.lookup_cons
abbrev EI:=@Nat.le_of_lt
abbrev FV:=@List.find?_some
abbrev Hw:=@List.length_filter_le
abbrev Hx:=@List.eq_nil_or_concat
abbrev Hz:=@List.concat_eq_append
abbrev GF:=@List.flatten_cons
abbrev GG:=@Nat.lt_succ_of_lt
abbrev GH:=@List.pairwise_map
abbrev HA:=@List.mem_of_mem_drop
abbrev qc4:=@Option.isSome_iff_exists
abbrev qc5:=@List.mem_reverse
abbrev HB:=@List.getElem_of_mem
abbrev FW:=@List.all_cons
abbrev qc8:=@List.mem_filter
abbrev GI:=@List.foldl_cons
abbrev HC:=@Int.toNat_natCast
abbrev GJ:=@Bool.false_and
abbrev HE:=@List.length_take
abbrev HF:=@Nat.le_of_not_lt
abbrev HG:=@Nat.lt_succ_self
abbrev GK:=@List.any_cons
abbrev Jl:=@List.getElem?_range
abbrev HH:=@List.of_mem_zip
abbrev Lf:=@List.drop_eq_getElem_cons
abbrev HI:=@List.forIn_cons
abbrev GL:=@List.map_nil
abbrev qcL:=@List.pairwise_cons
abbrev HJ:=@List.forIn_nil
abbrev Lg:=@List.getElem?_replicate
abbrev Jm:=@List.find?_append
abbrev Lh:=@PySem.Heap.get?_update_other
abbrev qcQ:=@List.filter_eq_nil_iff
abbrev Jn:=@Nat.succ_le_succ
abbrev Li:=@PySem.Heap.get?_update_self
abbrev Jo:=@List.nil_prefix
abbrev Jp:=@Bool.false_xor
namespace L2
open PySem PySem.Spec PyProof.Rows
abbrev Up:=Sum Int Str
inductive V where
 |non |bl (b:Bool) |int (i:Int) |str (x:Str) |byt (b:Array UInt8) |flt (b:UInt64) |ref (a:Addr) |ty (n:String)
 deriving DecidableEq
def RelV:V→Value→Prop
 |.non,u=>u=Value.none
 |.bl b,u=>u=Value.bool b
 |.int i,u=>∃t,u=Value.int i t
 |.str x,u=>∃t,u=Value.str x t
 |.byt b,u=>∃t,u=Value.bytes b t
 |.flt b,u=>∃t,u=Value.float b t
 |.ref a,u=>u=Value.ref a
 |.ty n,u=>u=Value.type n
abbrev Vals:List V→List Value→Prop:=Paired RelV
theorem Vals.length {xs:List V} {us:List Value} (r:Vals xs us):xs.length=us.length:=Paired.length r
theorem Vals.get:∀{xs:List V} {us:List Value} {i:Nat} {x:V},Vals xs us→xs[i]?=some x→∃u,us[i]?=some u∧RelV x u
 |_,_,_,_,.nil,e=>by simp at e
 |_,_,0,_,.cons r _,e=>by simp at e;subst e;exact ⟨_,rfl,r⟩
 |_,_,i+1,x,.cons _ t,e=>by
  obtain ⟨u,h1,h2⟩:=Vals.get (i:=i) (x:=x) t (by simpa using e)
  exact ⟨u,by simpa using h1,h2⟩
theorem Vals.set {x:V} {u:Value} (r:RelV x u):∀{xs:List V} {us:List Value} (i:Nat),Vals xs us→Vals (xs.set i x) (us.set i u)
 |_,_,_,.nil=>.nil
 |_,_,0,.cons _ t=>.cons r t
 |_,_,i+1,.cons q t=>.cons q (Vals.set r i t)
theorem Vals.append:∀{xs ys:List V} {us ws:List Value},Vals xs us→Vals ys ws→Vals (xs++ys) (us++ws)
 |_,_,_,_,.nil,s=>s
 |_,_,_,_,.cons r t,s=>.cons r (Vals.append t s)
theorem Vals.take:∀{xs:List V} {us:List Value} (n:Nat),Vals xs us→Vals (xs.take n) (us.take n)
 |_,_,0,_=>.nil
 |_,_,_+1,.nil=>.nil
 |_,_,n+1,.cons r t=>.cons r (Vals.take n t)
theorem Vals.drop:∀{xs:List V} {us:List Value} (n:Nat),Vals xs us→Vals (xs.drop n) (us.drop n)
 |_,_,0,r=>r
 |_,_,_+1,.nil=>.nil
 |_,_,n+1,.cons _ t=>Vals.drop n t
def Uq:Option V→Option Value→Prop
 |some v,some u=>RelV v u
 |none,none=>True
 |_,_=>False
def kV:Up→V
 |.inl i=>.int i
 |.inr x=>.str x
inductive HO where
 |lst (xs:List V)
 |tup (xs:List V)
 |own (x:Addr)
 |xd (fs:List (Str×V))
 |frz (o:Obj) (u:HO)
 |tbl (ps:Array Value)
 |ext (φ:Heap→Prop)
 |mex (φ:Heap→Prop)
 |dct (φ:Heap→Prop)
abbrev Hp:=Addr→Option HO
def Ao (H:Hp) (a:Addr) (o:HO):Hp:=fun b=>if b=a then some o else H b
theorem BL {H:Hp} {a:Addr} {o:HO}:Ao H a o a=some o:=by unfold Ao;rw [if_pos rfl]
theorem Av {H:Hp} {a b:Addr} {o:HO} (h:b≠a):Ao H a o b=H b:=by unfold Ao;rw [if_neg h]
theorem Bz {H:Hp} {a b:Addr} {o:HO} (h:H a=some o) (h':H b=none):a≠b:=by
 intro e;subst e;rw [h] at h';cases h'
section
variable (P:Program) (w:World)
inductive NY (h:Heap) (a:Addr) (xs:List V):Prop where
 |mk (f1:xs.length≤sizeLine) (its:List Value) (n:Nat) (f2:Vals xs its) (f3:h.get? a=some {cls:=.type "list",data:=.seq its.toArray n}):NY h a xs
def NoDict (h:Heap) (a:Addr):Prop:=∀o,h.get? a=some o→o.dict=none
inductive Jq (h:Heap) (a:Addr) (xs:List V):Prop where
 |mk (f1:xs.length≤sizeLine) (its:List Value) (f2:Vals xs its) (f3:IsTup h a its.toArray) (f4:NoDict h a):Jq h a xs
theorem NoDict.new {h:Heap} {o:Obj} (hd:o.dict=none:=by rfl) (hf:o.isFreed=false:=by rfl):NoDict (h.push o) h.objs.size:=fun u e=>by
 rw [Bi _ hf] at e
 cases e
 exact hd
def ObjOk (P:Program) (w:World) (H:Hp) (h:Heap) (a:Addr):HO→Prop
 |.lst xs=>NY h a xs
 |.tup xs=>Jq h a xs
 |.own _=>∃o,h.get? a=some o
 |.xd fs=>∃mA,h.Ns1 a mA∧∀f,Uq (fs.lookup f) (mA f)
 |.frz o u=>h.get? a=some o∧ObjOk P w H h a u
 |.tbl ps=>h.get? a=some {cls:=.none,data:=.fields ps}
 |.ext φ=>φ h∧(∃o,h.get? a=some o)∧∀h1 h2:Heap,φ h1→(∀o,h1.get? a=some o→h2.get? a=some o)→φ h2
 |.mex φ=>φ h∧(∃o,h.get? a=some o)∧∀h1 h2:Heap,φ h1→(∀o,h1.get? a=some o→h2.get? a=some o)→φ h2
 |.dct φ=>φ h∧(∃o,h.get? a=some o)∧∀h1 h2:Heap,φ h1→(∀o,h1.get? a=some o→h2.get? a=some o)→φ h2
def HOk (H:Hp) (h:Heap):Prop:=∀a o,H a=some o→ObjOk P w H h a o
end
section
variable {P:Program} {w:World} {H H':Hp} {h h':Heap} {a:Addr} {o:HO}
theorem ObjOk.lt (x:ObjOk P w H h a o):a<h.objs.size:=by
 cases o with
 |lst xs=>obtain ⟨_,_,_,_,e⟩:=x;exact AF e
 |tup xs=>obtain ⟨_,_,_,p,_⟩:=x;exact p.lt
 |own y=>obtain ⟨_,e⟩:=x;exact AF e
 |xd fs=>obtain ⟨_,⟨_,_,_,e,_⟩,_⟩:=x;exact AF e
 |frz ob u=>obtain ⟨e,_⟩:=x;exact AF e
 |tbl ps=>exact AF (show h.get? a=some _ from x)
 |ext φ=>obtain ⟨_,⟨_,e⟩,_⟩:=x;exact AF e
 |mex φ=>obtain ⟨_,⟨_,e⟩,_⟩:=x;exact AF e
 |dct φ=>obtain ⟨_,⟨_,e⟩,_⟩:=x;exact AF e
theorem ObjOk.stay (x:ObjOk P w H h a o) (k:∀b u,(b=a∨H b=some (.own a))→h.get? b=some u→h'.get? b=some u)
 (ho:∀b,H b=some (.own a)→H' b=some (.own a)) (ht:∀b xs,H b=some (.tup xs)→H' b=some (.tup xs)):ObjOk P w H' h' a o:=by
 induction o with
 |lst xs=>obtain ⟨z,its,n,r,e⟩:=x;exact ⟨z,its,n,r,k _ _ (.inl rfl) e⟩
 |tup xs=>obtain ⟨z,its,r,⟨ob,e,c⟩,nd⟩:=x;exact ⟨z,its,r,⟨ob,k _ _ (.inl rfl) e,c⟩,fun o e2=>by rw [k _ _ (.inl rfl) e] at e2;cases e2;exact nd _ e⟩
 |own y=>obtain ⟨ob,e⟩:=x;exact ⟨ob,k _ _ (.inl rfl) e⟩
 |xd fs=>obtain ⟨mA,⟨od,es,ep,e,c⟩,r⟩:=x;exact ⟨mA,⟨od,es,ep,k _ _ (.inl rfl) e,c⟩,r⟩
 |frz ob u ih=>obtain ⟨e,q⟩:=x;exact ⟨k _ _ (.inl rfl) e,ih q⟩
 |tbl ps=>
  have e:h.get? a=some {cls:=.none,data:=.fields ps}:=x
  show h'.get? a=some {cls:=.none,data:=.fields ps}
  exact k a _ (.inl rfl) e
 |ext φ=>obtain ⟨p,⟨o,e⟩,st⟩:=x;exact ⟨st _ _ p fun o q=>k _ _ (.inl rfl) q,⟨o,k _ _ (.inl rfl) e⟩,st⟩
 |mex φ=>obtain ⟨p,⟨o,e⟩,st⟩:=x;exact ⟨st _ _ p fun o q=>k _ _ (.inl rfl) q,⟨o,k _ _ (.inl rfl) e⟩,st⟩
 |dct φ=>obtain ⟨p,⟨o,e⟩,st⟩:=x;exact ⟨st _ _ p fun o q=>k _ _ (.inl rfl) q,⟨o,k _ _ (.inl rfl) e⟩,st⟩
theorem HOk.lt (x:HOk P w H h) (e:H a=some o):a<h.objs.size:=(x a o e).lt
theorem HOk.fresh (x:HOk P w H h) (e:h.objs.size≤a):H a=none:=by
 cases q:H a with
 |none=>rfl
 |some u=>exact absurd (AW (x.lt q) e) (CO _)
theorem HOk.kept (x:HOk P w H h) (k:∀b u,h.get? b=some u→h'.get? b=some u):HOk P w H h':=fun a o e=>
 (x a o e).stay (fun b u _ q=>k b u q) (fun _ q=>q) fun _ _ q=>q
theorem HOk.laid (x:HOk P w H h) (k:∀b u,h.get? b=some u→h'.get? b=some u) (hp:h.objs.size≤a) (new:ObjOk P w (Ao H a o) h' a o):HOk P w (Ao H a o) h':=fun b u e=>by
 have hn:=x.fresh hp
 by_cases hb:b=a
 ·subst hb;rw [BL] at e;cases e;exact new
 ·rw [Av hb] at e
  exact (x b u e).stay (fun c v _ q=>k c v q) (fun c q=>by rw [Av (Bz q hn)];exact q) fun c xs q=>by rw [Av (Bz q hn)];exact q
end
def Rd (H:Hp) (a:Addr) (u:HO):Prop:=H a=some u∨∃o,H a=some (.frz o u)
theorem Rd.ok {P:Program} {w:World} {H:Hp} {h:Heap} {a:Addr} {u:HO} (r:Rd H a u) (x:HOk P w H h):ObjOk P w H h a u:=by
 rcases r with r |⟨o,r⟩
 ·exact x a u r
 ·obtain ⟨_,q⟩:=x a _ r
  exact q
def Jr:Option HO→Prop
 |some (.lst _)=>True
 |some (.ext _)=>True
 |some (.mex _)=>True
 |some (.dct _)=>True
 |_=>False
section
variable {P:Program} {w:World} {H:Hp} {h h':Heap} {x e:Addr} {o':HO}
theorem HOk.write (ok:HOk P w H h) (mu:Jr (H x)) (he:e=x∨H e=some (.own x)) (k:∀b u,b≠e→h.get? b=some u→h'.get? b=some u) (heo:∃u,h'.get? e=some u)
 (new:ObjOk P w (Ao H x o') h' x o'):HOk P w (Ao H x o') h':=fun b u q=>by
 have nown:∀c y,H c=some (.own y)→c≠x:=fun c y r z=>by subst z;rw [r] at mu;exact mu
 have ntup:∀c xs,H c=some (.tup xs)→c≠x:=fun c xs r z=>by subst z;rw [r] at mu;exact mu
 by_cases hb:b=x
 ·subst hb;rw [BL] at q;cases q;exact new
 ·rw [Av hb] at q
  by_cases hbe:b=e
  ·have q':H b=some (.own x):=by
    rcases he with z |z
    ·exact absurd (hbe.trans z) hb
    ·rw [hbe];exact z
   rw [q] at q';cases q'
   obtain ⟨v,hv⟩:=heo
   exact ⟨v,by rw [hbe];exact hv⟩
  ·refine (ok b u q).stay (fun c v hc r=>k c v ?_ r) (fun c r=>by rw [Av (nown c b r)];exact r) fun c xs r=>by rw [Av (ntup c xs r)];exact r
   rcases hc with rfl |hc
   ·exact hbe
   ·rintro rfl
    rcases he with z |z
    ·exact nown c b hc z
    ·rw [hc] at z;cases z;exact hb rfl
end
structure Un (fs ex:List Addr) (H H':Hp) (h h':Heap):Prop where
 keep:∀b o,h.get? b=some o→H b=none→b∉fs→b∉ex→h'.get? b=some o
 slot:∀b o,h.get? b=some o→H b=none→b∈fs→b∉ex→∃sl,h'.get? b=some {o with slots:=sl}
 free:∀b o,h.get? b=some o→H b=none→b∉ex→H' b=none
 there:∀b o,h.get? b=some o→b∉ex→∃o',h'.get? b=some o'
 tups:∀b xs,H b=some (.tup xs)→H' b=some (.tup xs)
 frzs:∀b o u,H b=some (.frz o u)→H' b=some (.frz o u)
 tbls:∀b ps,H b=some (.tbl ps)→∃more,H' b=some (.tbl (ps++more))
section
variable {fs fs' ex ex':List Addr} {H H1 H2:Hp} {h h1 h2 h':Heap} {a x e:Addr} {o:HO}
theorem Un.any (u:Un fs ex H H1 h h1) {b:Addr} {ob:Obj} (q:h.get? b=some ob) (n:H b=none) (hx:b∉ex):∃sl,h1.get? b=some {ob with slots:=sl}:=by
 by_cases hb:b∈fs
 ·exact u.slot b ob q n hb hx
 ·exact ⟨ob.slots,u.keep b ob q n hb hx⟩
theorem Un.kept (k:∀b u,h.get? b=some u→h'.get? b=some u):Un fs ex H H h h':=
 ⟨fun b ob q _ _ _=>k b ob q,fun b ob q _ _ _=>⟨ob.slots,k b ob q⟩,fun _ _ _ n _=>n,fun b ob q _=>⟨ob,k b ob q⟩,fun _ _ q=>q,fun _ _ _ q=>q,fun _ ps q=>⟨#[],by rw [q];simp⟩⟩
theorem Un.refl:Un fs ex H H h h:=Un.kept fun _ _ q=>q
theorem Un.laid (k:∀b u,h.get? b=some u→h'.get? b=some u) (hp:h.objs.size≤a) (hn:H a=none):Un fs ex H (Ao H a o) h h' where
 keep:=fun b u q _ _ _=>k b u q
 slot:=fun b u q _ _ _=>⟨u.slots,k b u q⟩
 free:=fun b u q n _=>by rw [Av (Bt (AW (AF q) hp))];exact n
 there:=fun b u q _=>⟨u,k b u q⟩
 tups:=fun b xs q=>by rw [Av (Bz q hn)];exact q
 frzs:=fun b u xs q=>by rw [Av (Bz q hn)];exact q
 tbls:=fun b ps q=>⟨#[],by rw [Av (Bz q hn),q];simp⟩
theorem Un.write (mu:Jr (H x)) (he:e=x∨H e=some (.own x)) (k:∀b u,b≠e→h.get? b=some u→h'.get? b=some u) (heo:∃u,h'.get? e=some u):Un fs ex H (Ao H x o) h h':=by
 have hx:∀b,H b=none→b≠x:=fun b n z=>by subst z;rw [n] at mu;exact mu
 have hb:∀b,H b=none→b≠e:=fun b n z=>by
  subst z
  rcases he with r |r
  ·exact hx b n r
  ·rw [n] at r;cases r
 have hm:∀b u,H b=some u→¬Jr (some u)→b≠x:=fun b u q nm z=>by subst z;rw [q] at mu;exact nm mu
 refine ⟨fun b u q n _ _=>k b u (hb b n) q,fun b u q n _ _=>⟨u.slots,k b u (hb b n) q⟩,fun b u q n _=>by rw [Av (hx b n)];exact n,fun b u q _=>?_,
  fun b xs q=>by rw [Av (hm b _ q fun z=>z)];exact q,fun b u xs q=>by rw [Av (hm b _ q fun z=>z)];exact q,fun b ps q=>⟨#[],by rw [Av (hm b _ q fun z=>z),q];simp⟩⟩
 by_cases hbe:b=e
 ·subst hbe;exact heo
 ·exact ⟨u,k b u hbe q⟩
end
def Js (h:Heap) (H:Hp):List Addr:=(List.range h.objs.size).filter fun a=>(H a).isSome
def DZ (h:Heap) (H:Hp):Heap:=PySem.W.hideAll h (Js h H)
theorem Ur (h:Heap) (H:Hp):(DZ h H).objs.size=h.objs.size:=PySem.W.hideAll_size _ _
theorem Us {h:Heap} {H:Hp} {b:Addr} {o:Obj} (e:h.get? b=some o) (n:H b=none):(DZ h H).get? b=some o:=
 PySem.W.hideAll_get _ e fun hm=>by
  have q:(H b).isSome=true:=(qc8.mp hm).2
  rw [n] at q;simp at q
theorem Ut {h:Heap} {H:Hp} {b:Addr} {o:Obj} (e:(DZ h H).get? b=some o):h.get? b=some o∧H b=none:=by
 have e':h.get? b=some o:=PySem.W.of_hideAll (Js h H) e
 refine ⟨e',?_⟩
 cases q:H b with
 |none=>rfl
 |some x=>
  have hm:b∈Js h H:=qc8.mpr ⟨qbR.mpr (AF e'),by simp [q]⟩
  have z:(DZ h H).get? b=none:=PySem.W.hideAll_none (Js h H) hm
  rw [z] at e;cases e
def Uu (g h:Heap) (L:Addr):List (Addr×Obj):=(List.range h.objs.size).filterMap fun a=>if a=L∨(g.get? a).isSome=true then none else (h.get? a).map fun o=>(a,o)
def rest (g h:Heap) (L d:Addr):List (Addr×Obj):=(Uu g h L).filter fun p=>decide (p.1≠d)
structure Mod (K:PySem.W.Frag) (mg:Str→Option Value) (base:Heap):Prop where
 kin:K.In base
 glob:base.Ns mainGlobals mg
 blt:∃mb,base.Ns builtinsNs mb∧∀x:Str,x≠"__name__"→mb x=bootBuiltins x
 nolimit:base.NoLimit
structure Cx where
 prog:Program
 w:World
 K:PySem.W.Frag
 mg:Str→Option Value
 base:Heap
 A:Around
 N:List Str
 s₀:Shared
 H₀:Hp
 env:Env
 outer:List Env
 stack:List Env
 ex:List Addr
 fn:Str→Bool
 calm:Bool
 pn:List (Addr×Obj)
 xe:Value→Shared→Prop
def frs (l:List Env):List Addr:=l.filterMap (·.frame)
abbrev Cx.fs (X:Cx):List Addr:=frs X.outer
def HK (sc:Scope) (x:Str):Prop:=sc.names.lookup x=some .local∨sc.names.lookup x=some .cell∨sc.names.lookup x=some .free
def FX (sc:Scope) (x:Str):Prop:=sc.names.lookup x=some .local∨sc.names.lookup x=some .cell
def NZ (env:Env) (h:Heap) (m:Str→Option Value) (x:Str) (u:Value):Prop:=
 (env.kindOf x=some .local∧m x=some u)∨((env.kindOf x=some .cell∨env.kindOf x=some .free)∧∃c,env.cells.lookup x=some c∧h.IsCell c (some u))
structure Cx.Ok (X:Cx):Prop where
 mod:Mod X.K X.mg X.base
 kind:X.env.scope.kind=.function
 glob:X.env.globals=mainGlobals
 blt:X.env.builtins=builtinsNs
 above:X.s₀.heap.objs.size≤X.env.locals
 inj:∀x y c,X.env.cells.lookup x=some c→X.env.cells.lookup y=some c→x=y
 has:∀x,(X.env.kindOf x=some .cell∨X.env.kindOf x=some .free)→∃c,X.env.cells.lookup x=some c
 cab:∀x c,X.fn x=true→X.env.cells.lookup x=some c→X.s₀.heap.objs.size≤c
 hd:X.calm=true→X.A.handled=none
 frames:X.A.frames=some X.stack
 stk:X.stack=X.outer∨(X.stack=X.env::X.outer∧X.env.frame=some X.env.locals)
 exf:∀b∈X.ex,b≠X.env.locals∧∀x c,X.env.cells.lookup x=some c→c≠b
 bs:∀b o,X.base.get? b=some o→X.s₀.heap.get? b=some o∧X.H₀ b=none
 bsz:X.base.objs.size≤X.s₀.heap.objs.size
 noex:∀b o,X.base.get? b=some o→b∉X.ex
 exfs:∀b∈X.ex,b∉X.fs
 funs:X.s₀.heap.FunFrames X.base X.outer
 frf:∀b∈X.fs,X.H₀ b=none
structure Inv (X:Cx) (pins:List (Addr×Obj)) (σ:List (Option V)) (H:Hp) (s:Shared):Prop where
 ok:X.Ok
 os:s.os=X.s₀.os
 bare:AllBare s.gens
 base:Un X.fs X.ex X.H₀ H X.s₀.heap s.heap
 loc:∃m,s.heap.Ns X.env.locals m∧∀(i:Nat) (x:Str) (v:V),X.N[i]?=some x→σ[i]?=some (some v)→HK X.env.scope x→∃u,RelV v u∧NZ X.env s.heap m x u
 cell:∀x c,X.env.cells.lookup x=some c→∃v,s.heap.IsCell c v
 free:H X.env.locals=none
 freeC:∀x c,X.env.cells.lookup x=some c→H c=none
 pin:∀p∈X.pn++pins,s.heap.get? p.1=some p.2∧H p.1=none∧p.1≠X.env.locals∧p.1∉X.fs∧∀v,p.2.data≠.cell v
 hok:HOk X.prog X.w H s.heap
 len:σ.length=X.N.length
section
variable {X:Cx} {pins:List (Addr×Obj)} {σ:List (Option V)} {H H':Hp} {s:Shared} {h':Heap}
theorem Cx.Ok.nofr (ok:X.Ok) {b:Addr} {o:Obj} (e:X.base.get? b=some o):b∉X.fs:=fun hb=>by
 have:=(ok.funs.mem hb).1
 rw [e] at this;cases this
theorem Inv.bs (I:Inv X pins σ H s):∀b o,X.base.get? b=some o→s.heap.get? b=some o∧H b=none:=fun b o e=>
 ⟨I.base.keep b o (I.ok.bs b o e).1 (I.ok.bs b o e).2 (I.ok.nofr e) (I.ok.noex b o e),I.base.free b o (I.ok.bs b o e).1 (I.ok.bs b o e).2 (I.ok.noex b o e)⟩
theorem Inv.bk (I:Inv X pins σ H s):∀b o,X.base.get? b=some o→s.heap.get? b=some o:=fun b o e=>(I.bs b o e).1
theorem Inv.mod (I:Inv X pins σ H s):Mod X.K X.mg X.base:=I.ok.mod
theorem Inv.kIn (I:Inv X pins σ H s):X.K.In s.heap:=I.ok.mod.kin.keeps I.bk
theorem Inv.nolimit (I:Inv X pins σ H s):s.heap.NoLimit:=I.ok.mod.nolimit.keeps I.bk
theorem Inv.lt (I:Inv X pins σ H s):X.env.locals<s.heap.objs.size:=let ⟨_,hn,_⟩:=I.loc;hn.lt
theorem Inv.sz (I:Inv X pins σ H s):X.s₀.heap.objs.size≤s.heap.objs.size:=BU I.ok.above (EI I.lt)
theorem Inv.nofs (I:Inv X pins σ H s) {a:Addr} (h:s.heap.objs.size≤a):a∉X.fs:=fun hb=>by
 obtain ⟨_,o,ho,_⟩:=I.ok.funs.mem hb
 exact absurd (AW (AF ho) (BU I.sz h)) (CO _)
theorem Inv.cne (I:Inv X pins σ H s):∀x c,X.env.cells.lookup x=some c→c≠X.env.locals:=fun x c e z=>by
 obtain ⟨v,o,ho,hd⟩:=I.cell x c e
 obtain ⟨m,⟨o',es,ep,ho',hd',_⟩,_⟩:=I.loc
 rw [z,ho'] at ho;cases ho;rw [hd'] at hd;cases hd
theorem Inv.funs (I:Inv X pins σ H s):s.heap.FunFrames X.base X.outer:=by
 have all:∀(l:List Env),(∀b∈frs l,b∈X.fs)→X.s₀.heap.FunFrames X.base l→s.heap.FunFrames X.base l:=by
  intro l
  induction l with
  |nil=>intro _ _;trivial
  |cons env r ih=>
   intro hs hl
   obtain ⟨hk,⟨L,o,hf,hn,ho,hd⟩,hr⟩:=hl
   have hL:L∈X.fs:=hs L (by unfold frs;rw [Ff,hf];exact AZ)
   obtain ⟨sl,e⟩:=I.base.slot L o ho (I.ok.frf L hL) hL fun z=>I.ok.exfs L z hL
   exact ⟨hk,⟨L,_,hf,hn,e,hd⟩,ih (fun b hb=>hs b (by unfold frs;rw [Ff,hf];exact A6 _ hb)) hr⟩
 exact all X.outer (fun _ hb=>hb) I.ok.funs
theorem Inv.stack (I:Inv X pins σ H s):s.heap.FunFrames X.base X.stack:=by
 rcases I.ok.stk with e |⟨e,hf⟩
 ·rw [e];exact I.funs
 ·rw [e]
  obtain ⟨m,hn,_⟩:=I.loc
  refine .cons (by rw [I.ok.kind];decide) hf hn ?_ I.funs
  exact Heap.get?_none_of_le (BU I.ok.bsz I.ok.above)
theorem Inv.stkSub (I:Inv X pins σ H s):∀b∈frs X.stack,b∈X.env.locals::X.fs:=fun b hb=>by
 rcases I.ok.stk with e |⟨e,hf⟩
 ·rw [e] at hb;exact A6 _ hb
 ·rw [e] at hb
  unfold frs at hb
  rw [Ff,hf] at hb
  exact hb
theorem Inv.stkFree (I:Inv X pins σ H s):∀b∈frs X.stack,H b=none:=fun b hb=>by
 rcases qa5.mp (I.stkSub b hb) with e |hb
 ·rw [e];exact I.free
 ·obtain ⟨_,o,ho,_⟩:=I.ok.funs.mem hb
  exact I.base.free b o ho (I.ok.frf b hb) fun z=>I.ok.exfs b z hb
theorem Inv.step {g':Array GenState} {t':Nat} {d':Drawn} {ch:List Addr} (I:Inv X pins σ H s)
 (hch:∀b∈ch,(b∈X.ex∨X.s₀.heap.objs.size≤b)∧b≠X.env.locals∧(∀x c,X.env.cells.lookup x=some c→c≠b)∧∀p∈X.pn++pins,p.1≠b)
 (keep:∀b o,b≠X.env.locals→b∉X.fs→b∉ch→s.heap.get? b=some o→H b=none→h'.get? b=some o)
 (slot:∀b o,b≠X.env.locals→b∈X.fs→b∉ch→s.heap.get? b=some o→H b=none→∃sl,h'.get? b=some {o with slots:=sl}) (free:∀b o,b∉ch→s.heap.get? b=some o→H b=none→H' b=none)
 (there:∀b o,b∉ch→s.heap.get? b=some o→∃o',h'.get? b=some o')
 (tups:∀b xs,H b=some (.tup xs)→H' b=some (.tup xs)) (frzs:∀b o u,H b=some (.frz o u)→H' b=some (.frz o u)) (tbls:∀b ps,H b=some (.tbl ps)→∃more,H' b=some (.tbl (ps++more)))
 (ns:∀m,s.heap.Ns X.env.locals m→h'.Ns X.env.locals m) (hok:HOk X.prog X.w H' h') (hg:AllBare g'):
 Inv X pins σ H' {s with heap:=h',gens:=g',drawn:=d',toks:=t'}:=by
 have neL:∀b o,X.s₀.heap.get? b=some o→b≠X.env.locals:=fun b o e=>Bt (AW (AF e) I.ok.above)
 have neC:∀b o,X.s₀.heap.get? b=some o→b∉X.ex→b∉ch:=fun b o e hx hb=>by
  rcases (hch b hb).1 with z |z
  ·exact hx z
  ·exact absurd (AW (AF e) z) (CO _)
 have cellK:∀x c,X.env.cells.lookup x=some c→∀v,s.heap.IsCell c v→h'.IsCell c v:=fun x c e v z1_=>by
  obtain ⟨o,ho,hd⟩:=z1_
  have nch:c∉ch:=fun z=>(hch c z).2.2.1 x c e rfl
  by_cases hc:c∈X.fs
  ·obtain ⟨sl,q⟩:=slot c o (I.cne x c e) hc nch ho (I.freeC x c e)
   exact ⟨_,q,hd⟩
  ·exact ⟨o,keep c o (I.cne x c e) hc nch ho (I.freeC x c e),hd⟩
 refine ⟨I.ok,I.os,hg,⟨fun b o e n hb hx=>?_,fun b o e n hb hx=>?_,fun b o e n hx=>?_,fun b o e hx=>?_,fun b xs e=>tups b xs (I.base.tups b xs e),fun b o xs e=>frzs b o xs (I.base.frzs b o xs e),fun b ps e=>?_⟩,?_,fun x c e=>?_,?_,fun x c e=>?_,fun p hp=>?_,hok,I.len⟩
 ·exact keep b o (neL b o e) hb (neC b o e hx) (I.base.keep b o e n hb hx) (I.base.free b o e n hx)
 ·obtain ⟨sl,e1⟩:=I.base.slot b o e n hb hx
  obtain ⟨sl',e2⟩:=slot b _ (neL b o e) hb (neC b o e hx) e1 (I.base.free b o e n hx)
  exact ⟨sl',e2⟩
 ·obtain ⟨o',e1⟩:=I.base.there b o e hx
  exact free b o' (neC b o e hx) e1 (I.base.free b o e n hx)
 ·obtain ⟨o',e1⟩:=I.base.there b o e hx
  exact there b o' (neC b o e hx) e1
 ·obtain ⟨m1,e1⟩:=I.base.tbls b ps e
  obtain ⟨m2,e2⟩:=tbls b _ e1
  exact ⟨m1++m2,by rw [e2,Array.append_assoc]⟩
 ·obtain ⟨m,hn,hl⟩:=I.loc
  refine ⟨m,ns m hn,fun i x v e1 e2 e3=>?_⟩
  obtain ⟨u,r,l⟩:=hl i x v e1 e2 e3
  refine ⟨u,r,?_⟩
  rcases l with l |⟨k,c,e,z⟩
  ·exact .inl l
  ·exact .inr ⟨k,c,e,cellK x c e _ z⟩
 ·obtain ⟨v,z⟩:=I.cell x c e
  exact ⟨v,cellK x c e v z⟩
 ·obtain ⟨m,⟨o,_,_,ho,_⟩,_⟩:=I.loc
  exact free _ o (fun z=>(hch _ z).2.1 rfl) ho I.free
 ·obtain ⟨v,o,ho,hd⟩:=I.cell x c e
  exact free c o (fun z=>(hch c z).2.2.1 x c e rfl) ho (I.freeC x c e)
 ·obtain ⟨e,n,ne,nf,d⟩:=I.pin p hp
  have nch:p.1∉ch:=fun z=>(hch p.1 z).2.2.2 p hp rfl
  exact ⟨keep p.1 p.2 ne nf nch e n,free p.1 p.2 nch e n,ne,nf,d⟩
theorem Inv.un {t':Nat} (I:Inv X pins σ H s) (u:Un X.fs [] H H' s.heap h') (hok:HOk X.prog X.w H' h'):Inv X pins σ H' {s with heap:=h',toks:=t'}:=by
 obtain ⟨m,⟨o,es,ep,ho,r⟩,_⟩:=id I.loc
 obtain ⟨sl,hL⟩:=u.any ho I.free (by simp)
 exact I.step (g':=s.gens) (d':=s.drawn) (ch:=[]) (fun _ z=>nomatch z) (fun b o _ hb _ e n=>u.keep b o e n hb (by simp)) (fun b o _ hb _ e n=>u.slot b o e n hb (by simp)) (fun b o _ e n=>u.free b o e n (by simp)) (fun b o _ e=>u.there b o e (by simp)) u.tups u.frzs u.tbls (fun m' hm=>by
  obtain ⟨o',es',ep',ho',r'⟩:=hm
  rw [ho] at ho';cases ho'
  exact ⟨_,es',ep',hL,r'⟩) hok I.bare
theorem Inv.call {g':Array GenState} {t':Nat} {d':Drawn} {ch:List Addr} (I:Inv X pins σ H s) (u:Un (frs X.stack) ch H H' s.heap h') (hok:HOk X.prog X.w H' h') (hg:AllBare g')
 (hch:∀b∈ch,(b∈X.ex∨X.s₀.heap.objs.size≤b)∧b≠X.env.locals∧(∀x c,X.env.cells.lookup x=some c→c≠b)∧∀p∈X.pn++pins,p.1≠b):
 Inv X pins σ H' {s with heap:=h',gens:=g',drawn:=d',toks:=t'}:=by
 obtain ⟨m,⟨o,es,ep,ho,r⟩,_⟩:=id I.loc
 obtain ⟨sl,hL⟩:=u.any ho I.free fun z=>(hch _ z).2.1 rfl
 exact I.step (ch:=ch) hch (fun b o hL hb hc e n=>u.keep b o e n (fun z=>(qa5.mp (I.stkSub b z)).elim hL hb) hc) (fun b o _ _ hc e n=>u.any e n hc) (fun b o hc e n=>u.free b o e n hc) (fun b o hc e=>u.there b o e hc) u.tups u.frzs u.tbls (fun m' hm=>by
  obtain ⟨o',es',ep',ho',r'⟩:=hm
  rw [ho] at ho';cases ho'
  exact ⟨_,es',ep',hL,r'⟩) hok hg
theorem Inv.turned {t':Nat} {it:Addr} (I:Inv X pins σ H s) (k:∀b o,b≠it→s.heap.get? b=some o→h'.get? b=some o) (hn:H it=none) (hL:it≠X.env.locals)
 (h1:it∈X.ex∨X.s₀.heap.objs.size≤it) (h2:∀x c,X.env.cells.lookup x=some c→c≠it) (h3:∀p∈X.pn++pins,p.1≠it):Inv X pins σ H {s with heap:=h',toks:=t'}:=by
 have nit:∀b u,H b=some u→b≠it:=fun b u e z=>by rw [z,hn] at e;cases e
 refine I.step (g':=s.gens) (d':=s.drawn) (ch:=[it]) (fun b hb=>?_) (fun b o _ _ hc e _=>k b o (fun z=>hc (by simp [z])) e) (fun b o _ _ hc e _=>⟨o.slots,k b o (fun z=>hc (by simp [z])) e⟩) (fun _ _ _ _ n=>n)
  (fun b o hc e=>⟨o,k b o (fun z=>hc (by simp [z])) e⟩) (fun _ _ e=>e) (fun _ _ _ e=>e) (fun b ps e=>⟨#[],by rw [e];simp⟩) (fun m hm=>?_) (fun b u e=>?_) I.bare
 ·have e:b=it:=by simpa using hb
  subst e
  exact ⟨h1,hL,h2,h3⟩
 ·obtain ⟨o,es,ep,ho,r⟩:=hm
  exact ⟨o,es,ep,k _ o (Ne.symm hL) ho,r⟩
 ·refine (I.hok b u e).stay (fun c v hc q=>k c v ?_ q) (fun _ q=>q) fun _ _ q=>q
  rcases hc with z |z
  ·rw [z];exact nit b u e
  ·exact nit c _ z
theorem Inv.tok (I:Inv X pins σ H s) (t:Nat):Inv X pins σ H {s with toks:=t}:=I.un (h':=s.heap) (t':=t) Un.refl I.hok
theorem Inv.kept {t':Nat} (I:Inv X pins σ H s) (k:∀b u,s.heap.get? b=some u→h'.get? b=some u):Inv X pins σ H {s with heap:=h',toks:=t'}:=I.un (Un.kept k) (I.hok.kept k)
theorem Inv.laid {a:Addr} {o:HO} {t':Nat} (I:Inv X pins σ H s) (k:∀b u,s.heap.get? b=some u→h'.get? b=some u) (hp:s.heap.objs.size≤a) (new:ObjOk X.prog X.w (Ao H a o) h' a o):
 Inv X pins σ (Ao H a o) {s with heap:=h',toks:=t'}:=I.un (Un.laid k hp (I.hok.fresh hp)) (I.hok.laid k hp new)
theorem Inv.write {x e:Addr} {o:HO} {t':Nat} (I:Inv X pins σ H s) (mu:Jr (H x)) (he:e=x∨H e=some (.own x)) (k:∀b u,b≠e→s.heap.get? b=some u→h'.get? b=some u) (heo:∃u,h'.get? e=some u)
 (new:ObjOk X.prog X.w (Ao H x o) h' x o):Inv X pins σ (Ao H x o) {s with heap:=h',toks:=t'}:=I.un (Un.write mu he k heo) (I.hok.write mu he k heo new)
theorem Inv.weak {σ':List (Option V)} (I:Inv X pins σ H s) (hl:σ'.length=σ.length) (w:∀(i:Nat) v,σ'[i]?=some (some v)→σ[i]?=some (some v)):Inv X pins σ' H s:=
 ⟨I.ok,I.os,I.bare,I.base,let ⟨m,hn,hl'⟩:=I.loc;⟨m,hn,fun i x v e1 e2 e3=>hl' i x v e1 (w i v e2) e3⟩,I.cell,I.free,I.freeC,I.pin,I.hok,hl.trans I.len⟩
theorem Inv.pins_of {pins':List (Addr×Obj)} (I:Inv X pins σ H s) (h:∀p∈pins',s.heap.get? p.1=some p.2∧H p.1=none∧p.1≠X.env.locals∧p.1∉X.fs∧∀v,p.2.data≠.cell v):Inv X pins' σ H s:=
 ⟨I.ok,I.os,I.bare,I.base,I.loc,I.cell,I.free,I.freeC,fun p hp=>(qaG.mp hp).elim (fun z=>I.pin p (Cj _ z)) (h p),I.hok,I.len⟩
theorem Lj {N:List Str} (hN:N.Nodup) {i j:Nat} {x:Str} (a:N[i]?=some x) (b:N[j]?=some x):i=j:=by
 obtain ⟨h1,e1⟩:=qa3.mp a
 obtain ⟨h2,e2⟩:=qa3.mp b
 exact (List.getElem_inj hN).mp (e1.trans e2.symm)
theorem Jt {M:Model} {A:Around} {E:Value→Shared→Prop} {i:Nat} {x:Str} {v:V} {u:Value} {Q:Unit→Shared→Prop} (I:Inv X pins σ H s) (hN:X.N.Nodup) (hi:X.N[i]?=some x) (hx:FX X.env.scope x) (r:RelV v u)
 (h:∀s',Inv X pins (σ.set i (some v)) H s'→(∃a,Heap.SameBut a s.heap s'.heap∧(a=X.env.locals∨X.env.cells.lookup x=some a))→Q () s') (hf:X.fn x=true∨X.env.scope.names.lookup x=some .local:=by first |exact .inl rfl |exact .inr rfl |assumption):wpAny M A (storeName X.env x u) Q E s:=by
 obtain ⟨m,hn,hl⟩:=id I.loc
 have hcls:(X.env.scope.kind==.class||(X.env.scope.kind==.module&&X.env.locals != X.env.globals))=false:=by rw [I.ok.kind];rfl
 have hiσ:i < σ.length:=by rw [I.len];exact (qa3.mp hi).1
 have cne:=I.cne
 have tracked:∀{a:Addr} {h':Heap},(∃o,s.heap.get? a=some o∧H a=none)→Heap.SameBut a s.heap h'→HOk X.prog X.w H h':=fun {a h'} ha hs b ob e=>by
  obtain ⟨_,_,hfree⟩:=ha
  refine (I.hok b ob e).stay (fun c w' hc q=>(hs.2 c ?_).trans q) (fun _ q=>q) fun _ _ q=>q
  rintro rfl
  rcases hc with rfl |hc
  ·rw [hfree] at e;cases e
  ·rw [hfree] at hc;cases hc
 rcases hx with hk |hk
 ·refine wpAny_storeName_local hk hn (fun h' hn' hs=>?_) hcls
  obtain ⟨oL,_,_,hoL,_⟩:=id hn
  refine h _ ⟨I.ok,I.os,I.bare,⟨fun b o e n hb hx=>?_,fun b o e n hb hx=>?_,I.base.free,fun b o e hx=>?_,I.base.tups,I.base.frzs,I.base.tbls⟩,⟨_,hn',fun j y v' e1 e2 e3=>?_⟩,fun y c e=>?_,I.free,I.freeC,fun p hp=>?_,tracked ⟨oL,hoL,I.free⟩ hs,by simpa using I.len⟩ ⟨_,hs,.inl rfl⟩
  ·exact (hs.2 b (Bt (AW (AF e) I.ok.above))).trans (I.base.keep b o e n hb hx)
  ·obtain ⟨sl,e1⟩:=I.base.slot b o e n hb hx
   exact ⟨sl,(hs.2 b (Bt (AW (AF e) I.ok.above))).trans e1⟩
  ·obtain ⟨o',e1⟩:=I.base.there b o e hx
   exact ⟨o',(hs.2 b (Bt (AW (AF e) I.ok.above))).trans e1⟩
  ·by_cases hj:j=i
   ·subst hj
    rw [hi] at e1;cases e1
    rw [BR hiσ] at e2
    cases e2
    exact ⟨u,r,.inl ⟨hk,by simp⟩⟩
   ·rw [Bp (Ne.symm hj)] at e2
    obtain ⟨u',r',q⟩:=hl j y v' e1 e2 e3
    refine ⟨u',r',?_⟩
    rcases q with ⟨k,e⟩ |⟨k,c,e,z⟩
    ·refine .inl ⟨k,?_⟩
     have:y≠x:=fun e=>hj (Lj hN e1 (e ▸ hi))
     simp [this,e]
    ·exact .inr ⟨k,c,e,z.sameBut hs (cne y c e)⟩
  ·obtain ⟨w',z⟩:=I.cell y c e
   exact ⟨w',z.sameBut hs (cne y c e)⟩
  ·obtain ⟨e,n,ne,nf,d⟩:=I.pin p hp
   exact ⟨(hs.2 p.1 ne).trans e,n,ne,nf,d⟩
 ·have hfn:X.fn x=true:=by
   rcases hf with z |z
   ·exact z
   ·rw [z] at hk;cases hk
  obtain ⟨c,hc⟩:=I.ok.has x (.inl hk)
  obtain ⟨w',z⟩:=I.cell x c hc
  refine wpAny_storeName_cell I.ok.kind hk hc z (fun h' hc' hs=>?_)
  obtain ⟨oc,hoc,hocd⟩:=id z
  refine h {s with heap:=h'} ⟨I.ok,I.os,I.bare,⟨fun b o e n hb hx=>?_,fun b o e n hb hx=>?_,I.base.free,fun b o e hx=>?_,I.base.tups,I.base.frzs,I.base.tbls⟩,⟨m,hn.sameBut hs (Ne.symm (cne x c hc)),fun j y v' e1 e2 e3=>?_⟩,fun y c' e=>?_,I.free,I.freeC,fun p hp=>?_,tracked ⟨oc,hoc,I.freeC x c hc⟩ hs,by simpa using I.len⟩ ⟨c,hs,.inr hc⟩
  ·exact (hs.2 b (Bt (AW (AF e) (I.ok.cab x c hfn hc)))).trans (I.base.keep b o e n hb hx)
  ·obtain ⟨sl,e1⟩:=I.base.slot b o e n hb hx
   exact ⟨sl,(hs.2 b (Bt (AW (AF e) (I.ok.cab x c hfn hc)))).trans e1⟩
  ·obtain ⟨o',e1⟩:=I.base.there b o e hx
   exact ⟨o',(hs.2 b (Bt (AW (AF e) (I.ok.cab x c hfn hc)))).trans e1⟩
  ·by_cases hj:j=i
   ·subst hj
    rw [hi] at e1;cases e1
    rw [BR hiσ] at e2
    cases e2
    exact ⟨u,r,.inr ⟨.inl hk,c,hc,hc'⟩⟩
   ·rw [Bp (Ne.symm hj)] at e2
    obtain ⟨u',r',q⟩:=hl j y v' e1 e2 e3
    refine ⟨u',r',?_⟩
    rcases q with q |⟨k,c',e,z'⟩
    ·exact .inl q
    ·refine .inr ⟨k,c',e,z'.sameBut hs ?_⟩
     rintro rfl
     exact hj (Lj hN e1 (I.ok.inj _ _ _ e hc ▸ hi))
  ·by_cases hcc:c'=c
   ·subst hcc;exact ⟨_,hc'⟩
   ·obtain ⟨w2,z2⟩:=I.cell y c' e
    exact ⟨w2,z2.sameBut hs hcc⟩
  ·obtain ⟨e,n,ne,nf,d⟩:=I.pin p hp
   refine ⟨(hs.2 p.1 ?_).trans e,n,ne,nf,d⟩
   intro q
   rw [q,hoc] at e
   have q':oc=p.2:=Option.some.inj e
   exact d w' (by rw [←q'];exact hocd)
theorem Ju {M:Model} {A:Around} {E:Value→Shared→Prop} {i:Nat} {x:Str} {v:V} {u:Value} {Q:Unit→Shared→Prop} (I:Inv X pins σ H s) (hN:X.N.Nodup) (hi:X.N[i]?=some x) (hx:FX X.env.scope x) (r:RelV v u)
 (h:∀s',Inv X pins (σ.set i (some v)) H s'→Q () s') (hf:X.fn x=true∨X.env.scope.names.lookup x=some .local:=by first |exact .inl rfl |exact .inr rfl |assumption):wpAny M A (storeName X.env x u) Q E s:=
 Jt I hN hi hx r (fun s' I' _=>h s' I') hf
theorem Inv.call' {s':Shared} {ch:List Addr} (I:Inv X pins σ H s) (ho:s'.os=s.os) (u:Un (frs X.stack) ch H H' s.heap s'.heap) (hok:HOk X.prog X.w H' s'.heap) (hg:AllBare s'.gens)
 (hch:∀b∈ch,(b∈X.ex∨X.s₀.heap.objs.size≤b)∧b≠X.env.locals∧(∀x c,X.env.cells.lookup x=some c→c≠b)∧∀p∈X.pn++pins,p.1≠b):Inv X pins σ H' s':=by
 obtain ⟨h',g',d',t',o'⟩:=s'
 have e:o'=s.os:=ho
 subst e
 exact I.call (g':=g') (t':=t') (d':=d') u hok hg hch
end
abbrev XK:=Value→Option Addr→Hp→Prop
abbrev St:=List (Option V)
abbrev VK:=V→Hp→Prop
abbrev TE:=St→Hp→VK→Prop
abbrev TT:=St→Hp→(Bool→Hp→Prop)→Prop
abbrev TA:=St→Hp→(List V→Hp→Prop)→Prop
structure Dp where
 nx:St→Hp→Prop
 rt:VK
 bk:St→Hp→Prop:=fun _ _=>False
 ct:St→Hp→Prop:=fun _ _=>False
abbrev TS:=Dp→St→Hp→Prop
inductive EP (X:Cx) (pins:List (Addr×Obj)) (σ:St) (Q:VK) (u:Value) (s':Shared):Prop where
 |mk (v:V) (H':Hp) (i:Inv X pins σ H' s') (r:RelV v u) (q:Q v H'):EP X pins σ Q u s'
inductive TP (X:Cx) (pins:List (Addr×Obj)) (σ:St) (Q:Bool→Hp→Prop) (b:Bool) (s':Shared):Prop where
 |mk (H':Hp) (i:Inv X pins σ H' s') (q:Q b H'):TP X pins σ Q b s'
inductive AP (X:Cx) (pins:List (Addr×Obj)) (σ:St) (Q:List V→Hp→Prop) (us:List Value) (s':Shared):Prop where
 |mk (vs:List V) (H':Hp) (i:Inv X pins σ H' s') (r:Vals vs us) (q:Q vs H'):AP X pins σ Q us s'
inductive SN (X:Cx) (pins:List (Addr×Obj)) (q:St→Hp→Prop) (s':Shared):Prop where
 |mk (σ':St) (H':Hp) (i:Inv X pins σ' H' s') (p:q σ' H'):SN X pins q s'
inductive SR (X:Cx) (pins:List (Addr×Obj)) (q:V→Hp→Prop) (u:Value) (s':Shared):Prop where
 |mk (v:V) (σ':St) (H':Hp) (i:Inv X pins σ' H' s') (r:RelV v u) (p:q v H'):SR X pins q u s'
def SP (X:Cx) (pins:List (Addr×Obj)) (D:Dp) (f:Flow) (s':Shared):Prop:=
 match f with
 |.next=>SN X pins D.nx s'
 |.brk=>SN X pins D.bk s'
 |.cont=>SN X pins D.ct s'
 |.ret u=>SR X pins D.rt u s'
def PE (X:Cx) (e:Expr) (t:TE):Prop:=
 ∀(pins:List (Addr×Obj)) (s:Shared) (σ:St) (H:Hp) (Q:VK),Inv X pins σ H s→t σ H Q→wpAny (model X.prog X.w) X.A (eval e X.env) (EP X pins σ Q) X.xe s
def PT (X:Cx) (e:Expr) (t:TT):Prop:=
 ∀(pins:List (Addr×Obj)) (s:Shared) (σ:St) (H:Hp) (Q:Bool→Hp→Prop),Inv X pins σ H s→t σ H Q→wpAny (model X.prog X.w) X.A (isTrue e X.env (eval e X.env)) (TP X pins σ Q) X.xe s
def PW (X:Cx) (e:Expr) (t:TT):Prop:=
 ∀(En:Sem Value) (pins:List (Addr×Obj)) (s:Shared) (σ:St) (H:Hp) (Q:Bool→Hp→Prop),Inv X pins σ H s→t σ H Q→wpAny (model X.prog X.w) X.A (isTrue e X.env En) (TP X pins σ Q) X.xe s
theorem PW.pt {X:Cx} {e:Expr} {t:TT} (h:PW X e t):PT X e t:=h _
def PA (X:Cx) (es:List Expr) (t:TA):Prop:=
 ∀(pos:Pos) (pins:List (Addr×Obj)) (s:Shared) (σ:St) (H:Hp) (Q:List V→Hp→Prop),Inv X pins σ H s→t σ H Q→wpAny (model X.prog X.w) X.A (spliced (backTo pos (starEach es X.env))) (AP X pins σ Q) X.xe s
def PS (X:Cx) (st:Stmt) (t:TS):Prop:=
 ∀(pins:List (Addr×Obj)) (s:Shared) (σ:St) (H:Hp) (D:Dp),Inv X pins σ H s→t D σ H→wpAny (model X.prog X.w) X.A (exec st X.env) (SP X pins D) X.xe s
def CP (X:Cx) (st:List Stmt) (t:TS):Prop:=
 ∀(pins:List (Addr×Obj)) (s:Shared) (σ:St) (H:Hp) (D:Dp),Inv X pins σ H s→t D σ H→wpAny (model X.prog X.w) X.A (execs st X.env) (SP X pins D) X.xe s
theorem Ay {α:Type} {t:Sem α} {Q Q':α→Shared→Prop} {M:Model} {A:Around} {E:Value→Shared→Prop} {s:Shared} (h:wpAny M A t Q E s) (hQ:∀a s,Q a s→Q' a s):wpAny M A t Q' E s:=wpAny_mono h hQ fun _ _ x=>x
section
variable {X:Cx}
def Lk (i:Nat):TE:=fun σ H Q=>∃v,σ[i]?=some (some v)∧Q v H
def tC (v:V):TE:=fun _ H Q=>Q v H
theorem Jv {i:Nat} {x:Str} {pos:Pos} (hN:X.N[i]?=some x) (hv:HK X.env.scope x) (hd:(x==("__debug__":Str))=false:=by decide) (hcd:(x==("__classdict__":Str))=false:=by decide):PE X (.Name x pos) (Lk i):=by
 intro pins s σ H Q I h
 obtain ⟨v,e,h⟩:=h
 obtain ⟨m,hn,hl⟩:=I.loc
 obtain ⟨u,r,l⟩:=hl i x v hN e hv
 have fin:EP X pins σ Q u s:=⟨v,H,I,r,h⟩
 rcases l with ⟨hk,hm⟩ |⟨hk,c,hc,hcell⟩
 ·exact wpAny_Name (wpAny_loadName_local I.ok.kind hk hn hm fin) hd
 ·rcases hk with hk |hk
  ·exact wpAny_Name (wpAny_loadName_cell I.ok.kind hk hc hcell fin) hd
  ·exact wpAny_Name (wpAny_loadName_free I.ok.kind hk hc hcell fin hcd) hd
theorem N0 {i j pos}:PE X (.Constant (.int i) j pos) (tC (.int i)):=fun _ _ _ H _ I h=>wpAny_Constant_int ⟨.int i,H,I.tok _,⟨_,rfl⟩,h⟩
theorem Uv {b j pos}:PE X (.Constant (.bool b) j pos) (tC (.bl b)):=fun _ _ _ H _ I h=>Constant_bool ⟨.bl b,H,I,rfl,h⟩
theorem Uw {j pos}:PE X (.Constant .none j pos) (tC .non):=fun _ _ _ H _ I h=>Constant_none ⟨.non,H,I,rfl,h⟩
theorem Ux {x j pos}:PE X (.Constant (.str x) j pos) (tC (.str x)):=fun _ _ _ H _ I h=>Calls.Constant_str ⟨.str x,H,I.tok _,⟨_,rfl⟩,h⟩
def Gl (X:Cx) (x:Str):Prop:=X.env.kindOf x=some .globalImplicit
theorem GM {E:Value→Shared→Prop} {pins:List (Addr×Obj)} {s:Shared} {σ:St} {H:Hp} {x:Str} {u:Value} {pos:Pos} {Q:Value→Shared→Prop} (I:Inv X pins σ H s) (hg:Gl X x) (hm:X.mg x=some u) (h:Q u s)
 (hd:(x==("__debug__":Str))=false:=by decide):wpAny (model X.prog X.w) X.A (eval (.Name x pos) X.env) Q E s:=
 Calls.Name_function_global I.ok.kind hg (Calls.loadGlobal_global (by rw [I.ok.glob];exact I.mod.glob.keeps I.bk) hm h) hd
theorem FY {E:Value→Shared→Prop} {pins:List (Addr×Obj)} {s:Shared} {σ:St} {H:Hp} {x:Str} {u:Value} {pos:Pos} {Q:Value→Shared→Prop} (I:Inv X pins σ H s) (hg:Gl X x) (hm:X.mg x=none) (hv:bootBuiltins x=some u) (h:Q u s)
 (hn:x≠"__name__":=by decide) (hd:(x==("__debug__":Str))=false:=by decide):wpAny (model X.prog X.w) X.A (eval (.Name x pos) X.env) Q E s:=by
 obtain ⟨mb,h1,h2⟩:=I.mod.blt
 exact Calls.Name_function_global I.ok.kind hg (Calls.loadGlobal_builtin (by rw [I.ok.glob];exact I.mod.glob.keeps I.bk) hm (by rw [I.ok.blt];exact h1.keeps I.bk) ((h2 x hn).trans hv) h) hd
theorem Uy {x:Str} {v:V} {u:Value} {pos:Pos} (hg:Gl X x) (hm:X.mg x=some u) (r:RelV v u) (hd:(x==("__debug__":Str))=false:=by decide):PE X (.Name x pos) (tC v):=
 fun _ _ _ H _ I h=>GM I hg hm ⟨v,H,I,r,h⟩ hd
theorem Uz {x:Str} {v:V} {u:Value} {pos:Pos} (hg:Gl X x) (hm:X.mg x=none) (hv:bootBuiltins x=some u) (r:RelV v u) (hn:x≠"__name__":=by decide) (hd:(x==("__debug__":Str))=false:=by decide):PE X (.Name x pos) (tC v):=
 fun _ _ _ H _ I h=>FY I hg hm hv ⟨v,H,I,r,h⟩ hn hd
variable {a b:Expr} {ta tb:TE} {pos:Pos}
variable {tA tB':TT} {rest:List Expr}
def UA (t u:TT):TT:=fun σ H Q=>t σ H fun c H1=>if c=true then u σ H1 Q else Q false H1
def UB (t u:TT):TT:=fun σ H Q=>t σ H fun c H1=>if c=true then Q true H1 else u σ H1 Q
def UC (t:TT):TT:=fun σ H Q=>t σ H fun c H1=>Q (!c) H1
theorem UD (ha:PT X a tA):PW X (.BoolOp .And [a] pos) tA:=by
 intro wh pins s σ H Q I h
 refine isTrue_and (Ay (ha pins s σ H Q I h) fun c s1 e=>?_)
 cases c with
 |true=>exact isTrue_and_nil e
 |false=>exact e
theorem UE (ha:PT X a tA):PW X (.BoolOp .Or [a] pos) tA:=by
 intro wh pins s σ H Q I h
 refine isTrue_or (Ay (ha pins s σ H Q I h) fun c s1 e=>?_)
 cases c with
 |false=>exact isTrue_or_nil e
 |true=>exact e
theorem UF (ha:PT X a tA) (hb:PW X (.BoolOp .And (b::rest) pos) tB'):PW X (.BoolOp .And (a::b::rest) pos) (UA tA tB'):=by
 intro wh pins s σ H Q I h
 refine isTrue_and (Ay (ha pins s σ H _ I h) fun c s1 z8_=>?_)
 obtain ⟨H1,I1,q1⟩:=z8_
 cases c with
 |true=>exact hb wh pins s1 σ H1 Q I1 q1
 |false=>exact ⟨H1,I1,q1⟩
theorem UG (ha:PT X a tA) (hb:PW X (.BoolOp .Or (b::rest) pos) tB'):PW X (.BoolOp .Or (a::b::rest) pos) (UB tA tB'):=by
 intro wh pins s σ H Q I h
 refine isTrue_or (Ay (ha pins s σ H _ I h) fun c s1 z9_=>?_)
 obtain ⟨H1,I1,q1⟩:=z9_
 cases c with
 |true=>exact ⟨H1,I1,q1⟩
 |false=>exact hb wh pins s1 σ H1 Q I1 q1
theorem UH (ha:PT X a tA):PT X (.UnaryOp .Not a pos) (UC tA):=by
 intro pins s σ H Q I h
 exact isTrue_not (Ay (ha pins s σ H (fun c H1=>Q (!c) H1) I h) fun c s1 z=>by cases z with |mk H1 I1 q=>exact ⟨H1,I1,q⟩)
def UI (ta tb:TE):TE:=fun σ H Q=>ta σ H fun x H1=>∃c,x=.bl c∧if c=true then tb σ H1 Q else Q (.bl false) H1
def Zdm (ta tb:TE):TE:=fun σ H Q=>ta σ H fun x H1=>∃c,x=.bl c∧if c=true then Q (.bl true) H1 else tb σ H1 Q
def UJ (ta:TE):TE:=fun σ H Q=>ta σ H fun x H1=>∃c,x=.bl c∧Q (.bl (!c)) H1
theorem UK {op} {t:TE} (h:PE X a t):PE X (.BoolOp op [a] pos) t:=fun pins s σ H Q I hw=>BoolOp_one (h pins s σ H Q I hw)
theorem UL (ha:PE X a ta) (hb:PE X (.BoolOp .And (b::rest) pos) tb):PE X (.BoolOp .And (a::b::rest) pos) (UI ta tb):=by
 intro pins s σ H Q I h
 refine BoolOp_and (Ay (ha pins s σ H _ I h) fun v s1 z10_=>?_)
 obtain ⟨x,H1,I1,r1,q1⟩:=z10_
 obtain ⟨c,rfl,q1⟩:=q1
 cases r1
 refine wpAny_truthy_bool ?_
 cases c with
 |true=>exact hb pins s1 σ H1 Q I1 q1
 |false=>exact ⟨.bl false,H1,I1,rfl,q1⟩
theorem UM (ha:PE X a ta):PE X (.UnaryOp .Not a pos) (UJ ta):=by
 intro pins s σ H Q I h
 refine UnaryOp_ (Ay (ha pins s σ H _ I h) fun v s1 z12_=>?_)
 obtain ⟨x,H1,I1,r1,q1⟩:=z12_
 obtain ⟨c,rfl,q1⟩:=q1
 cases r1
 exact not_of (wpAny_truthy_bool ⟨.bl (!c),H1,I1,rfl,q1⟩)
def tIf (t:TT) (ta tb:TE):TE:=fun σ H Q=>t σ H fun c H1=>if c=true then ta σ H1 Q else tb σ H1 Q
end
def SqL (K:PySem.W.Frag) (H:Hp) (a:Addr) (xs:List V):Prop:=
 Rd H a (.lst xs)∨
  ∃(o:Obj) (its:Array Value) (n:Nat),K.lookup a=some o∧o.cls=.type "list"∧o.dict=none∧o.data=.seq its n∧its.size≤sizeLine∧Vals xs its.toList
def SqT (K:PySem.W.Frag) (H:Hp) (a:Addr) (xs:List V):Prop:=
 Rd H a (.tup xs)∨
  ∃(o:Obj) (its:Array Value) (n:Nat),K.lookup a=some o∧o.cls=.type "tuple"∧o.data=.seq its n∧its.size≤sizeLine∧Vals xs its.toList
def UN:Value→Option V
 |.none=>some .non
 |.bool b=>some (.bl b)
 |.int i _=>some (.int i)
 |.str x _=>some (.str x)
 |.bytes b _=>some (.byt b)
 |.float b _=>some (.flt b)
 |.ref a=>some (.ref a)
 |.type n=>some (.ty n)
 |_=>none
theorem RelV.abs {x:V} {u:Value} (r:RelV x u):UN u=some x:=by
 cases x with
 |non=>cases r;rfl
 |bl _=>cases r;rfl
 |int _=>obtain ⟨t,rfl⟩:=r;rfl
 |str _=>obtain ⟨t,rfl⟩:=r;rfl
 |byt _=>obtain ⟨t,rfl⟩:=r;rfl
 |flt _=>obtain ⟨t,rfl⟩:=r;rfl
 |ref _=>cases r;rfl
 |ty _=>cases r;rfl
theorem RelV.inj {x y:V} {u:Value} (r:RelV x u) (q:RelV y u):x=y:=Option.some.inj (r.abs.symm.trans q.abs)
theorem Vals.inj {xs ys:List V} {us:List Value} (h:Vals xs us) (g:Vals ys us):xs=ys:=by
 induction h generalizing ys with
 |nil=>cases g;rfl
 |cons r t ih=>cases g with |cons r' t'=>rw [r.inj r',ih t']
section
variable {X:Cx} {pins:List (Addr×Obj)} {σ:St} {H:Hp} {s:Shared} {a:Addr} {xs ys:List V}
theorem SqL.of {K:PySem.W.Frag} (h:H a=some (.lst xs)):SqL K H a xs:=.inl (.inl h)
theorem SqT.of {K:PySem.W.Frag} (h:H a=some (.tup xs)):SqT K H a xs:=.inl (.inl h)
theorem Inv.list (I:Inv X pins σ H s) (h:SqL X.K H a xs):∃its:List Value,Vals xs its∧PlainL s.heap a its.toArray∧xs.length≤sizeLine:=by
 rcases h with h |⟨o,its,n,hk,hc,hd,hs,hz,r⟩
 ·obtain ⟨z,its,n,r,e⟩:=h.ok I.hok
  exact ⟨its,r,⟨_,n,e,rfl,rfl,rfl⟩,z⟩
 ·refine ⟨its.toList,r,⟨o,n,I.kIn a o hk,hc,hd,by simpa using hs⟩,?_⟩
  have e:=r.length
  simp only [Array.length_toList] at e
  omega
theorem Inv.tuple (I:Inv X pins σ H s) (h:SqT X.K H a xs):∃its:List Value,Vals xs its∧IsTup s.heap a its.toArray∧xs.length≤sizeLine:=by
 rcases h with h |⟨o,its,n,hk,hc,hs,hz,r⟩
 ·obtain ⟨z,its,r,p,_⟩:=h.ok I.hok
  exact ⟨its,r,p,z⟩
 ·refine ⟨its.toList,r,⟨o,I.kIn a o hk,hc,n,by simpa using hs⟩,?_⟩
  have e:=r.length
  simp only [Array.length_toList] at e
  omega
theorem Inv.list_inj (I:Inv X pins σ H s) (h:SqL X.K H a xs) (h':SqL X.K H a ys):xs=ys:=by
 obtain ⟨its,r,⟨o,n,e,_,_,d⟩,_⟩:=I.list h
 obtain ⟨its',r',⟨o',n',e',_,_,d'⟩,_⟩:=I.list h'
 rw [e] at e';cases e'
 rw [d] at d'
 injection d' with d1 _
 have:its=its':=by simpa using congrArg Array.toList d1
 subst this
 exact r.inj r'
theorem Inv.tuple_inj (I:Inv X pins σ H s) (h:SqT X.K H a xs) (h':SqT X.K H a ys):xs=ys:=by
 obtain ⟨its,r,⟨o,e,_,n,d⟩,_⟩:=I.tuple h
 obtain ⟨its',r',⟨o',e',_,n',d'⟩,_⟩:=I.tuple h'
 rw [e] at e';cases e'
 rw [d] at d'
 injection d' with d1 _
 have:its=its':=by simpa using congrArg Array.toList d1
 subst this
 exact r.inj r'
end
section
variable {X:Cx} {pins:List (Addr×Obj)} {σ:St} {H:Hp} {s:Shared} {E:Value→Shared→Prop}
end
section
variable {X:Cx} {st:Stmt} {rest:List Stmt} {t u:TS} {e:Expr} {te:TE} {pos:Pos}
def UO:TS:=fun D σ H=>D.nx σ H
def UP (t u:TS):TS:=fun D σ H=>t {D with nx:=u D} σ H
theorem UQ:CP X [] UO:=fun _ _ σ H _ I h=>wpAny_execs_nil ⟨σ,H,I,h⟩
theorem UR (h1:PS X st t) (h2:CP X rest u):CP X (st::rest) (UP t u):=by
 intro pins s σ H D I h
 refine wpAny_execs_cons (Ay (h1 pins s σ H {D with nx:=u D} I h) fun f s1 q=>?_)
 cases f with
 |next=>
  obtain ⟨σ',H',I',q⟩:=q
  exact h2 pins s1 σ' H' D I' q
 |ret v=>exact q
 |brk=>exact q
 |cont=>exact q
theorem US (h1:PS X st t):CP X [st] t:=by
 intro pins s σ H D I h
 refine wpAny_execs_cons (Ay (h1 pins s σ H D I h) fun f s1 q=>?_)
 cases f with
 |next=>exact wpAny_execs_nil q
 |ret v=>exact q
 |brk=>exact q
 |cont=>exact q
theorem Inv.quiet {pins:List (Addr×Obj)} {σ:St} {H:Hp} {s:Shared} (I:Inv X pins σ H s):interactive X.env=false:=by simp [interactive,I.ok.kind]
def UT (te:TE):TS:=fun D σ H=>te σ H fun _ H1=>D.nx σ H1
theorem UU (he:PE X e te) (hs:swapsWith e none pos.line X.env=pure false:=by rfl):PS X (.Expr e pos) (UT te):=by
 intro pins s σ H D I h
 exact wpAny_Expr_any (Ay (he pins s σ H _ I h) fun v s1 z16_=>by obtain ⟨x,H1,I1,r1,q1⟩:=z16_;exact (⟨σ,H1,I1,q1⟩)) I.quiet hs
def UV (te:TE):TS:=fun D σ H=>te σ H D.rt
theorem UW (he:PE X e te):PS X (.Return (some e) pos) (UV te):=by
 intro pins s σ H D I h
 exact wpAny_Return_some (Ay (he pins s σ H _ I h) fun v s1 z17_=>by obtain ⟨x,H1,I1,r1,q1⟩:=z17_;exact (⟨x,σ,H1,I1,r1,q1⟩))
def UX (c:TT) (t u:TS):TS:=fun D σ H=>c σ H fun b H1=>if b=true then t D σ H1 else u D σ H1
theorem UY {c:Expr} {a b:List Stmt} {tc:TT} (hc:PT X c tc) (ha:CP X a t) (hb:CP X b u):PS X (.If c a b pos) (UX tc t u):=by
 intro pins s σ H D I h
 refine wpAny_If (Ay (hc pins s σ H _ I h) fun d s1 z18_=>?_)
 obtain ⟨H1,I1,q1⟩:=z18_
 cases d with
 |true=>exact ha pins s1 σ H1 D I1 q1
 |false=>exact hb pins s1 σ H1 D I1 q1
def UZ:TS:=fun _ _ _=>False
theorem U0 {sts:List Stmt}:CP X sts UZ:=fun _ _ _ _ _ _ h=>h.elim
end
abbrev TG:=V→St→Hp→(St→Hp→Prop)→Prop
abbrev Fi:=List V→St→Hp→(St→Hp→Prop)→Prop
def PG (X:Cx) (target:Expr) (t:TG):Prop:=
 ∀(pins:List (Addr×Obj)) (s:Shared) (σ:St) (H:Hp) (v:V) (u:Value) (Q:St→Hp→Prop),Inv X pins σ H s→RelV v u→t v σ H Q→
  wpAny (model X.prog X.w) X.A (assign target X.env u) (fun _ s'=>SN X pins Q s') X.xe s
def Jw (X:Cx) (ts:List Expr) (t:Fi):Prop:=
 ∀(pins:List (Addr×Obj)) (s:Shared) (σ:St) (H:Hp) (vs:List V) (us:List Value) (Q:St→Hp→Prop),Inv X pins σ H s→Vals vs us→t vs σ H Q→
  wpAny (model X.prog X.w) X.A (assignInOrder ((assignEach ts X.env).map (·.2)) us) (fun _ s'=>SN X pins Q s') X.xe s
abbrev Ll:=V→V→V→Hp→(Hp→Prop)→Prop
def Jx (X:Cx) (t:Ll):Prop:=
 ∀(pins:List (Addr×Obj)) (s:Shared) (σ:St) (H:Hp) (o i v:V) (ov iv u:Value) (Q:Hp→Prop),Inv X pins σ H s→RelV o ov→RelV i iv→RelV v u→t o i v H Q→
  wpAny (model X.prog X.w) X.A (setItem ov iv u) (fun _ s'=>∃H',Inv X pins σ H' s'∧Q H') X.xe s
section
variable {X:Cx} {pos:Pos}
def Cb (i:Nat):TG:=fun v σ H Q=>Q (σ.set i (some v)) H
theorem CQ {i:Nat} {x:Str} (hN:X.N.Nodup) (hi:X.N[i]?=some x) (hx:FX X.env.scope x:=by first |exact .inl rfl |exact .inr rfl) (hf:X.fn x=true∨X.env.scope.names.lookup x=some .local:=by first |exact .inl rfl |exact .inr rfl |assumption):PG X (.Name x pos) (Cb i):=by
 intro pins s σ H v u Q I r h
 exact wpAny_assign_Name (Ju I hN hi hx r (fun s' I'=>⟨_,H,I',h⟩) hf)
def EJ:Fi:=fun vs σ H Q=>vs=[]∧Q σ H
def Cp (t:TG) (u:Fi):Fi:=fun vs σ H Q=>∃v r,vs=v::r∧t v σ H fun σ' H'=>u r σ' H' Q
theorem Jy:Jw X [] EJ:=by
 intro pins s σ H vs us Q I r h
 obtain ⟨e,h⟩:=h
 subst e
 cases r
 exact assignInOrder_nil ⟨σ,H,I,h⟩
theorem D0 {e:Expr} {es:List Expr} {t:TG} {u:Fi} (h1:PG X e t) (h2:Jw X es u)
 (hs:(assignEach (e::es) X.env).map (·.2)=assign e X.env::(assignEach es X.env).map (·.2):=by rfl):Jw X (e::es) (Cp t u):=by
 intro pins s σ H vs us Q I r h
 obtain ⟨v,vr,e1,h⟩:=h
 subst e1
 cases r with
 |cons r rr=>
  rw [hs]
  refine assignInOrder_cons (Ay (h1 pins s σ H _ _ _ I r h) fun _ s1 z19_=>?_)
  obtain ⟨σ1,H1,I1,q1⟩:=z19_
  exact h2 pins s1 σ1 H1 _ _ Q I1 rr q1
def D3 (K:PySem.W.Frag) (n:Nat) (t:Fi):TG:=fun v σ H Q=>∃a xs,v=.ref a∧SqT K H a xs∧xs.length=n∧t xs σ H Q
theorem Jz {es:List Expr} {k:Nat} {t:Fi} {n:Nat} (hc:X.calm=true) (h:Jw X es t)
 (hn:(assignEach es X.env).length=n:=by rfl) (hst:(assignEach es X.env).findIdx? (·.1)=none:=by rfl):PG X (.Tuple es k pos) (D3 X.K n t):=by
 intro pins s σ H v u Q I r hw
 obtain ⟨a,xs,e1,hq,hl,hw⟩:=hw
 subst e1
 cases r
 obtain ⟨its,rv,ht,hz⟩:=I.tuple hq
 refine assign_Tuple_tuple (I.ok.hd hc) ht (by simp [hn,←hl,rv.length]) hst fun h' hx=>?_
 have I1:Inv X pins σ H {s with heap:=h'}:=I.kept (t':=s.toks) fun b o e=>hx b o (Bt (AF e)) e
 exact h pins _ σ H xs _ Q I1 (by simpa using rv) hw
def U1 (to ti:TE) (t:Ll):TG:=fun v σ H Q=>to σ H fun o H1=>ti σ H1 fun i H2=>t o i v H2 fun H3=>Q σ H3
theorem Lm {o i:Expr} {to ti:TE} {t:Ll} (ho:PE X o to) (hi:PE X i ti) (hs:Jx X t)
 (ha:∀v,assign (.Subscript o i pos) X.env v=(do
  let ov ←holding [v] (eval o X.env)
  let iv ←holding [v,ov] (eval i X.env)
  standAt pos
  holding [v,ov,iv] (setItem ov iv v)
  release [v,ov,iv] []):=by intro _;rfl):PG X (.Subscript o i pos) (U1 to ti t):=by
 intro pins s σ H v u Q I r h
 rw [ha]
 refine wpAny_bind (wpAny_holding (Ay (ho pins s σ H _ I h) fun ov s1 z20_=>?_))
 obtain ⟨x,H1,I1,r1,q1⟩:=z20_
 refine wpAny_bind (wpAny_holding (Ay (hi pins s1 σ H1 _ I1 q1) fun iv s2 z21_=>?_))
 obtain ⟨y,H2,I2,r2,q2⟩:=z21_
 refine wpAny_bind (wpAny_standAt (wpAny_bind (wpAny_holding (Ay (hs pins s2 σ H2 x y v ov iv u _ I2 r1 r2 r q2) fun _ s3 z22_=>?_))))
 obtain ⟨H3,I3,q3⟩:=z22_
 exact wpAny_release ⟨σ,H3,I3,q3⟩
def N1 (te:TE) (g:TG):TS:=fun D σ H=>te σ H fun x H1=>g x σ H1 D.nx
theorem JA {tg e:Expr} {te:TE} {g:TG} (he:PE X e te) (hg:PG X tg g) (hs:swapsWithSole [tg] e pos.line X.env=pure false:=by rfl) (hw:swappedStores [tg] e X.env=pure none:=by rfl)
 (h1:(assignEach [tg] X.env).map (·.2)=[assign tg X.env]:=by rfl):PS X (.Assign [tg] e pos) (N1 te g):=by
 intro pins s σ H D I h
 refine wpAny_Assign_stores (Ay (he pins s σ H _ I h) fun v s1 z23_=>?_) hs hw
 obtain ⟨x,H1,I1,r1,q1⟩:=z23_
 rw [h1]
 exact Ay (hg pins s1 σ H1 x v _ I1 r1 q1) fun _ s2 q=>q
theorem U2 {i:Nat} {x:Str} {e:Expr} {te:TE} {pos':Pos} (hN:X.N.Nodup) (hi:X.N[i]?=some x) (hx:FX X.env.scope x) (he:PE X e te) (hs:swapsWith e (some (.Name x pos')) pos.line X.env=pure false:=by rfl) (hf:X.fn x=true∨X.env.scope.names.lookup x=some .local:=by first |exact .inl rfl |exact .inr rfl |assumption):
 PS X (.Assign [.Name x pos'] e pos) (N1 te (Cb i)):=by
 intro pins s σ H D I h
 refine wpAny_Assign_Name (Ay (he pins s σ H _ I h) fun v s1 z24_=>?_) hs
 obtain ⟨y,H1,I1,r1,q1⟩:=z24_
 exact Ju I1 hN hi hx r1 (fun s2 I2=>⟨_,H1,I2,q1⟩) hf
def U3 (i j:Nat) (ta:TA):TS:=fun D σ H=>ta σ H fun vs H1=>∃v w,vs=[v,w]∧D.nx ((σ.set i (some v)).set j (some w)) H1
theorem U4 {i j:Nat} {x y:Str} {a b:Expr} {ta:TA} {px py pt:Pos} {kt k2 pt2} (hc:X.calm=true) (hN:X.N.Nodup) (hi:X.N[i]?=some x) (hj:X.N[j]?=some y) (hij:i≠j)
 (hx:X.env.scope.names.lookup x=some .local) (hy:X.env.scope.names.lookup y=some .local) (ha:PA X [a,b] ta)
 (hw:swappedStores [.Tuple [.Name x px,.Name y py] kt pt] (.Tuple [a,b] k2 pt2) X.env=pure (some [x,y]))
 (hs:swapsWithSole [.Tuple [.Name x px,.Name y py] kt pt] (.Tuple [a,b] k2 pt2) pos.line X.env=pure false:=by rfl):
 PS X (.Assign [.Tuple [.Name x px,.Name y py] kt pt] (.Tuple [a,b] k2 pt2) pos) (U3 i j ta):=by
 intro pins s σ H D I h
 rw [exec_Assign_arm]
 refine wpAny_bind (wpAny_standAt ?_)
 rw [hs]
 refine wpAny_bind (wpAny_pure ?_)
 rw [if_neg (by decide)]
 refine wpAny_bind (Tuple_ (Ay (ha _ pins s σ H _ I h) fun us s1 z25_=>?_))
 obtain ⟨vs,H1,I1,r1,q1⟩:=z25_
 obtain ⟨v,w,e1,q1⟩:=q1
 subst e1
 obtain ⟨u1,u2,rfl,rv,rw'⟩:∃u1 u2,us=[u1,u2]∧RelV v u1∧RelV w u2:=by
  cases r1 with
  |cons p q=>
   cases q with
   |cons p' q'=>
    cases q'
    exact ⟨_,_,rfl,p,p'⟩
 refine wpAny_newObj_type ?_ (by show 2≤sizeLine;decide)
 have I2:Inv X pins σ H1 {s1 with heap:=s1.heap.push {cls:=.type "tuple",data:=.seq [u1,u2].toArray}}:=I1.kept (t':=s1.toks) fun b o e=>AG _ e
 rw [hw]
 refine wpAny_bind (wpAny_pure ?_)
 show wpAny (model X.prog X.w) X.A (do rule "assign.swapped-stores";let items ←unpackItems (.ref s1.heap.objs.size) 2 none;assignInOrder [fun v=>bindName X.env y v,fun v=>bindName X.env x v] items.reverse;pure Flow.next) _ _ _
 refine wpAny_bind (wpAny_rule (wpAny_bind (unpackItems_tuple (items:=#[u1,u2]) (I.ok.hd hc) (IsTup.new s1.heap _) fun h' hx'=>?_)))
 have I3:=I2.kept (h':=h') (t':=s1.toks) fun b o e=>hx' b o (Bt (AF e)) e
 show wpAny _ _ (assignInOrder [fun v=>bindName X.env y v,fun v=>bindName X.env x v] [u2,u1] >>=fun _=>pure Flow.next) _ _ _
 refine wpAny_bind (assignInOrder_cons (wpAny_bindName (Ju I3 hN hj (.inl hy) rw' (fun s2 I4=>?_) (.inr hy))))
 refine assignInOrder_cons (wpAny_bindName (Ju I4 hN hi (.inl hx) rv (fun s3 I5=>assignInOrder_nil (wpAny_pure ?_)) (.inr hx)))
 rw [List.set_comm _ _ (Ne.symm hij)] at I5
 exact ⟨_,H1,I5,q1⟩
end
section
variable {X:Cx} {pos:Pos}
def U5 (c:TT) (tb:TS):TS:=fun D σ H=>∃W:Nat→St→Hp→Prop,(∃m,W m σ H)∧∀m σ H,W m σ H→
 c σ H fun b H1=>if b=true then ∃N:St→Hp→Prop,(∀σ' H',N σ' H'→∃m',m' < m∧W m' σ' H')∧tb {D with nx:=N,ct:=N,bk:=D.nx} σ H1 else D.nx σ H1
theorem U6 {c:Expr} {body:List Stmt} {tc:TT} {tb:TS} (hp:PassesOwn (model X.prog X.w) X.A X.env X.xe) (hc:PT X c tc) (hb:CP X body tb):PS X (.While c body [] pos) (U5 tc tb):=by
 intro pins s σ H D I h
 obtain ⟨W,⟨m0,w0⟩,turn⟩:=h
 refine wpAny_While (codeAny_whileLoop (fun n s'=>SN X pins (W n) s') ?_ m0 ⟨σ,H,I,w0⟩)
 rintro n s1 ⟨σ1,H1,I1,w1⟩
 refine wpAny_passesOwn hp (Ay (hc pins s1 σ1 H1 _ I1 (turn n σ1 H1 w1)) fun b s2 z34_=>?_)
 obtain ⟨H2,I2,q2⟩:=z34_
 cases b with
 |true=>
  obtain ⟨N,hN,q2⟩:=q2
  rw [if_pos rfl]
  refine wpAny_passesOwn hp (Ay (hb pins s2 σ1 H2 _ I2 q2) fun f s3 q3=>?_)
  cases f with
  |next=>
   obtain ⟨σ3,H3,I3,n3⟩:=q3
   obtain ⟨m',hm,w3⟩:=hN σ3 H3 n3
   exact ⟨m',hm,σ3,H3,I3,w3⟩
  |cont=>
   obtain ⟨σ3,H3,I3,n3⟩:=q3
   obtain ⟨m',hm,w3⟩:=hN σ3 H3 n3
   exact ⟨m',hm,σ3,H3,I3,w3⟩
  |brk=>exact q3
  |ret v=>exact q3
 |false=>
  rw [if_neg Bf]
  exact wpAny_execs_nil ⟨σ1,H2,I2,q2⟩
end
structure It where
 go:Nat→Hp→Prop
 yld:Nat→Hp→V→Hp→Prop
 stop:Nat→Hp→Prop
def D7 (X:Cx) (pins:List (Addr×Obj)) (H:Hp) (b:Addr):Prop:=
 H b=none∧b≠X.env.locals∧b∉X.fs∧(b∈X.ex∨X.s₀.heap.objs.size≤b)∧(∀x c,X.env.cells.lookup x=some c→c≠b)∧∀p∈X.pn++pins,p.1≠b
theorem Inv.fpOk {X:Cx} {pins:List (Addr×Obj)} {σ:St} {H H':Hp} {s:Shared} {b:Addr} (I:Inv X pins σ H s) (hb:s.heap.objs.size≤b) (hn:H' b=none):D7 X pins H' b:=by
 refine ⟨hn,Ca (AW I.lt hb),I.nofs hb,.inr (BU I.sz hb),fun x c e z=>?_,fun p hp z=>?_⟩
 ·obtain ⟨v,q⟩:=I.cell x c e
  exact absurd (AW q.lt (by rw [z];exact hb)) (CO _)
 ·exact absurd (AW (AF (I.pin p hp).1) (by rw [z];exact hb)) (CO _)
structure FZ (P:Program) (w:World) (K:PySem.W.Frag) (tg:Expr) (J:It) (fp:List Addr) (it:Addr) (tn:Nat→Heap→Prop):Prop where
 mem:it∈fp
 obj:∀i h,tn i h→∀b∈fp,∃o,h.get? b=some o∧∀v,o.data≠.cell v
 keep:∀i h h',tn i h→(∀b∈fp,∀o,h.get? b=some o→h'.get? b=some o)→tn i h'
 item:∀(X:Cx),X.prog=P→X.w=w→X.K=K→X.calm=true→∀(i:Nat) (pins:List (Addr×Obj)) (s:Shared) (σ:St) (H:Hp) (E:Value→Shared→Prop),Inv X pins σ H s→(∀b∈fp,D7 X pins H b)→tn i s.heap→J.go i H→
  wpAny (model P w) X.A (pyNext (.ref it)) (fun r s1=>∃u,r=some u∧
   wpAny (model P w) X.A (letOwnedTupleGo tg (.ref it) u) (fun _ s2=>∃x H',Inv X pins σ H' s2∧RelV x u∧J.yld i H x H'∧tn (i+1) s2.heap∧∀b∈fp,H' b=none) E s1) E s
 done:∀(X:Cx),X.prog=P→X.w=w→X.K=K→X.calm=true→∀(i:Nat) (pins:List (Addr×Obj)) (s:Shared) (σ:St) (H:Hp) (E:Value→Shared→Prop),Inv X pins σ H s→(∀b∈fp,D7 X pins H b)→tn i s.heap→J.stop i H→
  wpAny (model P w) X.A (pyNext (.ref it)) (fun r s1=>r=none∧Inv X pins σ H s1) E s
 self:∀(A:Around) (i:Nat) (s:Shared) (Q:Value→Shared→Prop) (E:Value→Shared→Prop),tn i s.heap→Q (.ref it) s→wpAny (model P w) A (pyIter (.ref it)) Q E s
abbrev TI:=St→Hp→(It→Hp→Prop)→Prop
inductive Ln (X:Cx) (pins:List (Addr×Obj)) (σ:St) (tg:Expr) (R:It→Hp→Prop) (itv:Value) (s2:Shared):Prop where
 |mk (it:Addr) (fp:List Addr) (tn:Nat→Heap→Prop) (J:It) (H':Hp) (e:itv=.ref it) (i:Inv X pins σ H' s2) (t:FZ X.prog X.w X.K tg J fp it tn) (st:tn 0 s2.heap) (f:∀b∈fp,D7 X pins H' b) (r:R J H'):Ln X pins σ tg R itv s2
def PI (X:Cx) (tg iter:Expr) (wi:TI):Prop:=
 ∀(pins:List (Addr×Obj)) (s:Shared) (σ:St) (H:Hp) (R:It→Hp→Prop),Inv X pins σ H s→wi σ H R→
  wpAny (model X.prog X.w) X.A (eval iter X.env) (fun v s1=>wpAny (model X.prog X.w) X.A (pyIter v) (Ln X pins σ tg R) X.xe s1) X.xe s
theorem Lo {M:Model} {A:Around} {E:Value→Shared→Prop} {s:Shared} {tg:Expr} {it:Addr} {u:Value} {o:Obj} {n:String} {vs:Array Value} {Q:Unit→Shared→Prop} (ho:s.heap.get? it=some o) (hc:o.cls=.type n) (hd:o.data=.fields vs)
 (hn:["enumerate","zip","dict_itemiterator","dict_reverseitemiterator","odict_iterator","itertools.zip_longest","itertools.pairwise"].contains n=false) (hQ:Q () s):wpAny M A (letOwnedTupleGo tg (.ref it) u) Q E s:=by
 unfold letOwnedTupleGo
 cases tg<;>first
  |exact wpAny_pure hQ
  |(cases u<;>first
   |exact wpAny_pure hQ
   |(refine wpAny_bind (wpAny_load ho ?_)
     rw [hc,hd]
     show wpAny M A (if (["enumerate","zip","dict_itemiterator","dict_reverseitemiterator","odict_iterator","itertools.zip_longest","itertools.pairwise"].contains n&&vs[0]?==some (rawInt _))=true then _ else _) Q E s
     rw [if_neg (by intro h;rw [hn,GJ] at h;cases h)]
     exact wpAny_pure hQ))
def HL (K:PySem.W.Frag) (a:Addr):It:=
 ⟨fun i H=>∃xs x,SqL K H a xs∧xs[i]?=some x,fun i H x H'=>H'=H∧∀xs,SqL K H a xs→xs[i]?=some x,fun i H=>∃xs,SqL K H a xs∧xs.length≤i⟩
def HM (K:PySem.W.Frag) (a:Addr):It:=
 ⟨fun i H=>∃xs x,SqT K H a xs∧xs[i]?=some x,fun i H x H'=>H'=H∧∀xs,SqT K H a xs→xs[i]?=some x,fun i H=>∃xs,SqT K H a xs∧xs.length≤i⟩
def HN (lo:Int) (n:Nat):It:=⟨fun i _=>i<n,fun i H x H'=>H'=H∧x=.int (lo+i),fun i _=>n≤i⟩
theorem U7 {P:Program} {w:World} {K:PySem.W.Frag} {tg:Expr} (a it:Addr):FZ P w K tg (HL K a) [it] it (fun i h=>h.IsListIter it a i) where
 mem:=by simp
 obj:=fun i h st b hb=>by
  have e:b=it:=by simpa using hb
  subst e
  obtain ⟨o,e,c,d⟩:=st
  exact ⟨o,e,fun v z=>by rw [d] at z;cases z⟩
 keep:=fun i h h' st k=>st.at fun o e=>k it (by simp) o e
 item:=by
  intro X hP hw hK hc i pins s σ H E I hf st hg
  subst hP hw hK
  obtain ⟨xs,x,hq,hx⟩:=hg
  obtain ⟨its,rv,p,hz⟩:=I.list hq
  obtain ⟨u,hu,ru⟩:=rv.get hx
  obtain ⟨f0,f1,f2,f3,f4,f5⟩:=hf it (by simp)
  refine wpAny_pyNext_list_item st p.isList (x:=u) (by simpa using hu) fun h' st' sb=>?_
  have I1:Inv X pins σ H {s with heap:=h'}:=I.turned (t':=s.toks) (fun b o hb e=>(sb.2 b hb).trans e) f0 f1 f3 f4 f5
  obtain ⟨o,e,c,d⟩:=id st'
  exact ⟨u,rfl,Lo (s:={s with heap:=h'}) e c d (by decide) ⟨x,H,I1,ru,⟨rfl,fun ys hy=>by rw [I.list_inj hy hq];exact hx⟩,st',fun b hb=>(hf b hb).1⟩⟩
 done:=by
  intro X hP hw hK hc i pins s σ H E I hf st hg
  subst hP hw hK
  obtain ⟨xs,hq,hx⟩:=hg
  obtain ⟨its,rv,p,hz⟩:=I.list hq
  obtain ⟨f0,f1,f2,f3,f4,f5⟩:=hf it (by simp)
  have hl:=rv.length
  exact wpAny_pyNext_list_end (I.ok.hd hc) st p.isList (by simp;omega) fun h' eb=>⟨rfl,I.turned (t':=s.toks) (fun b o hb e=>eb b o hb e) f0 f1 f3 f4 f5⟩
 self:=fun _ _ _ _ _ st h=>wpAny_pyIter_listiter st h
theorem U8 {P:Program} {w:World} {K:PySem.W.Frag} {tg:Expr} (a it:Addr):FZ P w K tg (HM K a) [it] it (fun i h=>h.IsTupleIter it a i) where
 mem:=by simp
 obj:=fun i h st b hb=>by
  have e:b=it:=by simpa using hb
  subst e
  obtain ⟨o,e,c,d⟩:=st
  exact ⟨o,e,fun v z=>by rw [d] at z;cases z⟩
 keep:=fun i h h' st k=>st.at fun o e=>k it (by simp) o e
 item:=by
  intro X hP hw hK hc i pins s σ H E I hf st hg
  subst hP hw hK
  obtain ⟨xs,x,hq,hx⟩:=hg
  obtain ⟨its,rv,p,hz⟩:=I.tuple hq
  obtain ⟨u,hu,ru⟩:=rv.get hx
  obtain ⟨f0,f1,f2,f3,f4,f5⟩:=hf it (by simp)
  refine wpAny_pyNext_tuple_item st (show s.heap.IsTuple a its.toArray from p) (x:=u) (by simpa using hu) fun h' st' sb=>?_
  have I1:Inv X pins σ H {s with heap:=h'}:=I.turned (t':=s.toks) (fun b o hb e=>(sb.2 b hb).trans e) f0 f1 f3 f4 f5
  obtain ⟨o,e,c,d⟩:=id st'
  exact ⟨u,rfl,Lo (s:={s with heap:=h'}) e c d (by decide) ⟨x,H,I1,ru,⟨rfl,fun ys hy=>by rw [I.tuple_inj hy hq];exact hx⟩,st',fun b hb=>(hf b hb).1⟩⟩
 done:=by
  intro X hP hw hK hc i pins s σ H E I hf st hg
  subst hP hw hK
  obtain ⟨xs,hq,hx⟩:=hg
  obtain ⟨its,rv,p,hz⟩:=I.tuple hq
  obtain ⟨f0,f1,f2,f3,f4,f5⟩:=hf it (by simp)
  have hl:=rv.length
  exact wpAny_pyNext_tuple_end (I.ok.hd hc) st (show s.heap.IsTuple a its.toArray from p) (by simp;omega) fun h' eb=>⟨rfl,I.turned (t':=s.toks) (fun b o hb e=>eb b o hb e) f0 f1 f3 f4 f5⟩
 self:=fun _ _ _ _ _ st h=>wpAny_pyIter_tupleiter st h
theorem U9 {P:Program} {w:World} {K:PySem.W.Frag} {tg:Expr} (it:Addr) (lo:Int) (n:Nat):FZ P w K tg (HN lo n) [it] it (fun i h=>IsRangeIter h it (lo+(i:Nat)*1) ((n:Int) - (i:Nat)) 1) where
 mem:=by simp
 obj:=fun i h st b hb=>by
  have e:b=it:=by simpa using hb
  subst e
  exact ⟨_,st,fun v z=>by
   have z':Data.fields _=Data.cell v:=z
   cases z'⟩
 keep:=fun i h h' st k=>k it (by simp) _ st
 item:=by
  intro X hP hw hK hc i pins s σ H E I hf st hg
  subst hP hw hK
  obtain ⟨f0,f1,f2,f3,f4,f5⟩:=hf it (by simp)
  have W:=Walks.range (prog:=X.prog) (w:=X.w) (I.ok.hd hc) it lo 1 n
  refine W.item i s _ _ hg st fun v h' tk hv st' kk=>?_
  obtain ⟨t,rfl⟩:=hv
  have I1:Inv X pins σ H {s with heap:=h',toks:=tk}:=I.turned (fun b o hb e=>kk b o (by simpa using hb) e) f0 f1 f3 f4 f5
  refine ⟨_,rfl,Lo (s:={s with heap:=h',toks:=tk}) (n:="range_iterator") st' rfl rfl (by decide) ⟨.int (lo+i),H,I1,⟨t,?_⟩,⟨rfl,rfl⟩,st',fun b hb=>(hf b hb).1⟩⟩
  rw [Int.mul_one]
 done:=by
  intro X hP hw hK hc i pins s σ H E I hf st hg
  subst hP hw hK
  obtain ⟨f0,f1,f2,f3,f4,f5⟩:=hf it (by simp)
  exact wpAny_pyNext_range_end (I.ok.hd hc) st (by have:n≤i:=hg;omega) fun h' eb=>⟨rfl,I.turned (t':=s.toks) (fun b o hb e=>eb b o hb e) f0 f1 f3 f4 f5⟩
 self:=fun _ _ _ _ _ st h=>wpAny_pyIter_rangeiter st h
section
variable {X:Cx} {tg:Expr}
theorem N2 {pins:List (Addr×Obj)} {σ:St} {H:Hp} {s:Shared} {R:It→Hp→Prop} {E:Value→Shared→Prop} {lo hi:Int} {t u v:Tok} {tk:Nat} (I:Inv X pins σ H s) (h1:-(2^62)≤lo) (h2:lo<2^62) (h3:-(2^62)≤hi) (h4:hi<2^62)
 (q:R (HN lo (hi - lo).toNat) H):wpAny (model X.prog X.w) X.A (pyIter (.ref s.heap.objs.size)) (Ln X pins σ tg R) E {s with heap:=s.heap.push {cls:=.type "range",data:=.fields #[.int lo t,.int hi u,.int 1 v]},toks:=tk}:=by
 refine wpAny_pyIter_range (IsRange.new ..) (small_one h1 h2 h3 h4) ?_
 have I1:Inv X pins σ H {s with heap:=s.heap.push {cls:=.type "range",data:=.fields #[.int lo t,.int hi u,.int 1 v]},toks:=tk}:=I.kept fun b o e=>AG _ e
 refine ⟨(s.heap.push {cls:=.type "range",data:=.fields #[.int lo t,.int hi u,.int 1 v]}).objs.size,[(s.heap.push {cls:=.type "range",data:=.fields #[.int lo t,.int hi u,.int 1 v]}).objs.size],_,_,H,rfl,
  I1.kept (t':=tk) fun b o e=>AG _ e,U9 _ lo (hi - lo).toNat,?_,fun b hb=>?_,q⟩
 ·have e1:lo+((0:Nat):Int)*1=lo:=by simp
  have e2:(((hi - lo).toNat:Nat):Int) - ((0:Nat):Int)=Builtin.Range.rangeSize lo hi 1:=by rw [rangeSize_one];split<;>omega
  show IsRangeIter _ _ (lo+((0:Nat):Int)*1) ((((hi - lo).toNat:Nat):Int) - ((0:Nat):Int)) 1
  rw [e1,e2]
  exact Bi _ rfl
 ·have e:b=(s.heap.push {cls:=.type "range",data:=.fields #[.int lo t,.int hi u,.int 1 v]}).objs.size:=by simpa using hb
  subst e
  exact I1.fpOk (Ax _) (I1.hok.fresh (Ax _))
def Va (ta:TA):TI:=fun σ H R=>ta σ H fun vs H1=>∃j:Int,vs=[.int j]∧-(2^62)≤j∧j<2^62∧R (HN 0 j.toNat) H1
def Vb (ta:TA):TI:=fun σ H R=>ta σ H fun vs H1=>∃i j:Int,vs=[.int i,.int j]∧(-(2^62)≤i∧i<2^62∧-(2^62)≤j∧j<2^62)∧R (HN i (j - i).toNat) H1
theorem Vc {a:Expr} {ta:TA} {p pos:Pos} (hg:Gl X "range") (hm:X.mg "range"=none) (ha:PA X [a] ta) (hs:starEach [a] X.env=[(false,eval a X.env)]:=by rfl):PI X tg (.Call (.Name "range" p) [a] [] pos) (Va ta):=by
 intro pins s σ H R I h
 refine Call_ (FY I hg hm boot_range (PyProof.Rows.callWith_type1 (Ay (ha pos pins s σ H _ I h) fun us s1 z37_=>?_) hs rfl))
 obtain ⟨vs,H1,I1,r1,q1⟩:=z37_
 obtain ⟨j,e,q1,q2,q⟩:=q1
 subst e
 cases r1 with
 |cons r rr=>
  cases rr
  obtain ⟨t,rfl⟩:=r
  exact call_range_1 (N2 I1 (by omega) (by omega) q1 q2 (by simpa using q))
theorem Vd {a b:Expr} {ta:TA} {p pos:Pos} (hg:Gl X "range") (hm:X.mg "range"=none) (ha:PA X [a,b] ta) (hs:starEach [a,b] X.env=[(false,eval a X.env),(false,eval b X.env)]:=by rfl) (hs2:starEach [b] X.env=[(false,eval b X.env)]:=by rfl):
 PI X tg (.Call (.Name "range" p) [a,b] [] pos) (Vb ta):=by
 intro pins s σ H R I h
 refine Call_ (FY I hg hm boot_range (PyProof.Rows.callWith_type1 (Ay (ha pos pins s σ H _ I h) fun us s1 ⟨vs,H1,I1,r1,q1⟩=>?_) (by rw [hs,hs2]) (by rw [hs2];rfl)))
 obtain ⟨i,j,e,⟨q1,q2,q3,q4⟩,q⟩:=q1
 subst e
 cases r1 with
 |cons r rr=>
  cases rr with
  |cons r' rr=>
   cases rr
   obtain ⟨t,rfl⟩:=r
   obtain ⟨t',rfl⟩:=r'
   exact call_range_2 (N2 I1 q1 q2 q3 q4 q)
def Ve (wi:TI) (g:TG) (tb:TS):TS:=fun D σ H=>wi σ H fun J H1=>∃W:Nat→Nat→St→Hp→Prop,(∃m,W 0 m σ H1)∧∀i m σ H,W i m σ H→
 (J.stop i H∧D.nx σ H)∨(J.go i H∧∃N:St→Hp→Prop,(∀σ' H',N σ' H'→∃m',m' < m∧W (i+1) m' σ' H')∧∀x H',J.yld i H x H'→g x σ H' fun σ2 H2=>tb {D with nx:=N,ct:=N,bk:=D.nx} σ2 H2)
def HP (fp:List Addr) (h:Heap):List (Addr×Obj):=fp.filterMap fun b=>(h.get? b).map fun o=>(b,o)
theorem JB {fp:List Addr} {h:Heap} {b:Addr} {o:Obj} (hb:b∈fp) (e:h.get? b=some o):(b,o)∈HP fp h:=List.mem_filterMap.mpr ⟨b,hb,by rw [e];rfl⟩
theorem Vf {fp:List Addr} {h:Heap} {p:Addr×Obj} (hp:p∈HP fp h):p.1∈fp∧h.get? p.1=some p.2:=by
 obtain ⟨b,hb,e⟩:=List.mem_filterMap.mp hp
 cases q:h.get? b with
 |none=>rw [q] at e;cases e
 |some o=>
  rw [q] at e
  have e':(b,o)=p:=Option.some.inj e
  subst e'
  exact ⟨hb,q⟩
theorem Inv.pinned {pins:List (Addr×Obj)} {σ:St} {H:Hp} {s:Shared} {fp:List Addr} (I:Inv X pins σ H s) (hf:∀b∈fp,D7 X pins H b) (ho:∀b∈fp,∃o,s.heap.get? b=some o∧∀v,o.data≠.cell v):Inv X (pins++HP fp s.heap) σ H s:=
 I.pins_of fun p hp=>(qaG.mp hp).elim (fun z=>I.pin p (Be _ z)) fun z=>by
  obtain ⟨hb,e⟩:=Vf z
  obtain ⟨f0,f1,f2,_⟩:=hf p.1 hb
  obtain ⟨o,e',d⟩:=ho p.1 hb
  rw [e] at e';cases e'
  exact ⟨e,f0,f1,f2,d⟩
theorem Inv.unpinned {pins pl:List (Addr×Obj)} {σ:St} {H:Hp} {s:Shared} (I:Inv X (pins++pl) σ H s):Inv X pins σ H s:=I.pins_of fun p hp=>I.pin p (Be _ (Cj _ hp))
inductive Lp (X:Cx) (pins:List (Addr×Obj)) (tn:Nat→Heap→Prop) (fp:List Addr) (W:Nat→Nat→St→Hp→Prop) (n:Nat) (s':Shared):Prop where
 |mk (i:Nat) (σ':St) (H':Hp) (ii:Inv X pins σ' H' s') (st:tn i s'.heap) (fr:∀b∈fp,H' b=none) (w:W i n σ' H'):Lp X pins tn fp W n s'
theorem Vg {iter:Expr} {body:List Stmt} {wi:TI} {g:TG} {tb:TS} {pos:Pos} (hp:PassesOwn (model X.prog X.w) X.A X.env X.xe) (hc:X.calm=true) (hi:PI X tg iter wi) (hg:PG X tg g) (hb:CP X body tb)
 (hs:∀x,foldedSetIterable iter X.env x=pure x:=by intro _;rfl):PS X (.For tg iter body [] pos) (Ve wi g tb):=by
 intro pins s σ H D I h
 refine wpAny_For (Ay (hi pins s σ H _ I h) fun v s1 h1=>Ay h1 fun itv s2 h2=>?_) hs
 obtain ⟨it,fp,tn,J,H2,e,I2,T,Dm,f2,W,⟨m0,w0⟩,turn⟩:=h2
 subst e
 have stat:∀{H':Hp},(∀b∈fp,H' b=none)→∀b∈fp,D7 X pins H' b:=fun hn b hb=>⟨hn b hb,(f2 b hb).2⟩
 refine codeAny_forLoop_any (Lp X pins tn fp W) ?_ m0 ⟨0,σ,H2,I2,Dm,fun b hb=>(f2 b hb).1,w0⟩
 rintro n s3 ⟨i,σ3,H3,I3,Hu,fr3,w3⟩
 rcases turn i n σ3 H3 w3 with ⟨stop,qn⟩ |⟨go,N,hN,step⟩
 ·refine wpAny_passesOwn hp (Ay (T.done X rfl rfl rfl hc i pins s3 σ3 H3 X.xe I3 (stat fr3) Hu stop) fun r s4 z39_=>?_)
  obtain ⟨hr,I4⟩:=z39_
  subst hr
  exact wpAny_execs_nil ⟨σ3,H3,I4,qn⟩
 ·refine wpAny_passesOwn hp (Ay (T.item X rfl rfl rfl hc i pins s3 σ3 H3 X.xe I3 (stat fr3) Hu go) fun r s4 z40_=>?_)
  obtain ⟨u,hr,h4⟩:=z40_
  subst hr
  refine wpAny_passesOwn hp (Ay h4 fun _ s5 z41_=>?_)
  obtain ⟨x,H5,I5,r5,y5,FS,fr5⟩:=z41_
  have I5':=I5.pinned (stat fr5) (T.obj _ _ FS)
  refine wpAny_passesOwn hp (Ay (hg _ s5 σ3 H5 x u _ I5' r5 (step x H5 y5)) fun _ s6 z42_=>?_)
  obtain ⟨σ6,H6,I6,q6⟩:=z42_
  refine wpAny_passesOwn hp (Ay (hb _ s6 σ6 H6 _ I6 q6) fun f s7 q7=>?_)
  have again:∀{σ7:St} {H7:Hp},Inv X (pins++HP fp s5.heap) σ7 H7 s7→N σ7 H7→∃m,m<n∧Lp X pins tn fp W m s7:=fun {σ7 H7} I7 n7=>by
   obtain ⟨m',hm,w7⟩:=hN σ7 H7 n7
   refine ⟨m',hm,i+1,σ7,H7,I7.unpinned,T.keep _ _ _ FS fun b hb o e=>(I7.pin (b,o) (Be _ (Be _ (JB hb e)))).1,fun b hb=>?_,w7⟩
   obtain ⟨o,e,d⟩:=T.obj _ _ FS b hb
   exact (I7.pin (b,o) (Be _ (Be _ (JB hb e)))).2.1
  cases f with
  |next=>obtain ⟨σ7,H7,I7,n7⟩:=q7;exact again I7 n7
  |cont=>obtain ⟨σ7,H7,I7,n7⟩:=q7;exact again I7 n7
  |brk=>obtain ⟨σ7,H7,I7,q7⟩:=q7;exact ⟨σ7,H7,I7.unpinned,q7⟩
  |ret v=>obtain ⟨x7,σ7,H7,I7,r7,q7⟩:=q7;exact ⟨x7,σ7,H7,I7.unpinned,r7,q7⟩
end
abbrev R2:=V→V→Hp→VK→Prop
def OpR (X:Cx) (f:Value→Value→Sem Value) (r:R2):Prop:=
 ∀(pins:List (Addr×Obj)) (s:Shared) (σ:St) (H:Hp) (x y:V) (v u:Value) (Q:VK),Inv X pins σ H s→RelV x v→RelV y u→r x y H Q→
  wpAny (model X.prog X.w) X.A (f v u) (EP X pins σ Q) X.xe s
def Lq (X:Cx) (f:Value→Sem Value) (r:V→Hp→VK→Prop):Prop:=
 ∀(pins:List (Addr×Obj)) (s:Shared) (σ:St) (H:Hp) (x:V) (v:Value) (Q:VK),Inv X pins σ H s→RelV x v→r x H Q→
  wpAny (model X.prog X.w) X.A (f v) (EP X pins σ Q) X.xe s
def De (X:Cx) (f:Value) (r:List V→Hp→VK→Prop):Prop:=
 ∀(pins:List (Addr×Obj)) (s:Shared) (σ:St) (H:Hp) (xs:List V) (us:List Value) (Q:VK),Inv X pins σ H s→Vals xs us→r xs H Q→
  wpAny (model X.prog X.w) X.A (call f us) (EP X pins σ Q) X.xe s
def Vh (X:Cx) (r:V→Hp→(Bool→Hp→Prop)→Prop):Prop:=
 ∀(pins:List (Addr×Obj)) (s:Shared) (σ:St) (H:Hp) (x:V) (v:Value) (Q:Bool→Hp→Prop),Inv X pins σ H s→RelV x v→r x H Q→
  wpAny (model X.prog X.w) X.A (truthy v) (TP X pins σ Q) X.xe s
def JC (r:R2) (ta tb:TE):TE:=fun σ H Q=>ta σ H fun x H1=>tb σ H1 fun y H2=>r x y H2 Q
def N3 (r:V→Hp→VK→Prop) (ta:TE):TE:=fun σ H Q=>ta σ H fun x H1=>r x H1 Q
def rI (C:Int→Int→Prop) (g:Int→Int→V):R2:=fun x y H Q=>∃i j,x=.int i∧y=.int j∧C i j∧Q (g i j) H
def Fj (g:Int→Int→V):R2:=fun x y H Q=>∃i j,x=.int i∧y=.int j∧Q (g i j) H
def rU (g:Int→V):V→Hp→VK→Prop:=fun x H Q=>∃i,x=.int i∧Q (g i) H
section
variable {X:Cx} {a b c:Expr} {ta tb tc:TE} {pos:Pos}
theorem Lr (ha:PE X a ta) (hb:PE X b tb) {pins:List (Addr×Obj)} {s:Shared} {σ:St} {H:Hp} {R:V→V→Hp→Prop} (I:Inv X pins σ H s)
 (h:ta σ H fun x H1=>tb σ H1 fun y H2=>R x y H2) {Q:Value→Shared→Prop} {f:Value→Value→Sem Value}
 (hf:∀v u s2 x y H2,Inv X pins σ H2 s2→RelV x v→RelV y u→R x y H2→wpAny (model X.prog X.w) X.A (f v u) Q X.xe s2):
 wpAny (model X.prog X.w) X.A (eval a X.env) (fun v s₁=>wpAny (model X.prog X.w) X.A (eval b X.env) (fun u s₂=>wpAny (model X.prog X.w) X.A (f v u) Q X.xe s₂) X.xe s₁) X.xe s:=by
 refine Ay (ha pins s σ H _ I h) fun v s1 z44_=>?_
 obtain ⟨x,H1,I1,r1,q1⟩:=z44_
 refine Ay (hb pins s1 σ H1 _ I1 q1) fun u s2 z45_=>?_
 obtain ⟨y,H2,I2,r2,q2⟩:=z45_
 exact hf v u s2 x y H2 I2 r1 r2 q2
theorem Vi {op:Operator} {r:R2} (ho:OpR X (binaryOp op) r) (ha:PE X a ta) (hb:PE X b tb):PE X (.BinOp a op b pos) (JC r ta tb):=by
 intro pins s σ H Q I h
 exact wpAny_BinOp (Lr ha hb I h fun v u s2 x y H2 I2 rx ry q=>ho pins s2 σ H2 x y v u Q I2 rx ry q)
theorem N4 {op:UnaryOp} {r:V→Hp→VK→Prop} (ho:Lq X (unaryOp op) r) (ha:PE X a ta):PE X (.UnaryOp op a pos) (N3 r ta):=by
 intro pins s σ H Q I h
 exact UnaryOp_ (Ay (ha pins s σ H _ I h) fun v s1 z46_=>by obtain ⟨x,H1,I1,r1,q1⟩:=z46_;exact (ho pins s1 σ H1 x v Q I1 r1 q1))
theorem JD {f:Value→Value→Sem Value} {C:Int→Int→Prop} {g:Int→Int→Int}
 (rule:∀(i j:Int) (t u:Tok) (s:Shared) (Q:Value→Shared→Prop) (E:Value→Shared→Prop),C i j→Q (.int (g i j) s.toks) {s with toks:=s.toks+1}→wpAny (model X.prog X.w) X.A (f (.int i t) (.int j u)) Q E s):
 OpR X f (rI C fun i j=>.int (g i j)):=by
 intro pins s σ H x y v u Q I rx ry h
 obtain ⟨i,j,rfl,rfl,hc,q⟩:=h
 obtain ⟨t,rfl⟩:=rx
 obtain ⟨t',rfl⟩:=ry
 exact rule i j t t' s _ _ hc ⟨.int (g i j),H,I.tok _,⟨_,rfl⟩,q⟩
theorem N5 {f:Value→Value→Sem Value} {g:Int→Int→Int}
 (rule:∀(i j:Int) (t u:Tok) (s:Shared) (Q:Value→Shared→Prop) (E:Value→Shared→Prop),Q (.int (g i j) s.toks) {s with toks:=s.toks+1}→wpAny (model X.prog X.w) X.A (f (.int i t) (.int j u)) Q E s):
 OpR X f (Fj fun i j=>.int (g i j)):=by
 intro pins s σ H x y v u Q I rx ry h
 obtain ⟨i,j,rfl,rfl,q⟩:=h
 obtain ⟨t,rfl⟩:=rx
 obtain ⟨t',rfl⟩:=ry
 exact rule i j t t' s _ _ ⟨.int (g i j),H,I.tok _,⟨_,rfl⟩,q⟩
theorem Ls {f:Value→Value→Sem Value} {g:Int→Int→Bool}
 (rule:∀(i j:Int) (t u:Tok) (s:Shared) (Q:Value→Shared→Prop) (E:Value→Shared→Prop),Q (.bool (g i j)) s→wpAny (model X.prog X.w) X.A (f (.int i t) (.int j u)) Q E s):
 OpR X f (Fj fun i j=>.bl (g i j)):=by
 intro pins s σ H x y v u Q I rx ry h
 obtain ⟨i,j,rfl,rfl,q⟩:=h
 obtain ⟨t,rfl⟩:=rx
 obtain ⟨t',rfl⟩:=ry
 exact rule i j t t' s _ _ ⟨.bl (g i j),H,I,rfl,q⟩
def N6 (i j:Int):Prop:=0<j∧j<1073741824
def JE (i j:Int):Prop:=0≤j∧j≤1000000∧i.natAbs<2^64
def CMul (i j:Int):Prop:=(-(2^64)<i∧i<2^64)∨(-(2^64)<j∧j<2^64)
theorem CMul.ok {i j:Int} (h:CMul i j):IntMulOk i j:=by
 rcases h with ⟨h1,h2⟩ |⟨h1,h2⟩
 ·exact .of_left (intBits_le_64 h1 h2)
 ·exact .of_right (intBits_le_64 h1 h2)
theorem op_add:OpR X (binaryOp .Add) (Fj fun i j=>.int (i+j)):=N5 fun _ _ _ _ _ _ _ q=>add_int q
theorem Vj:OpR X (binaryOp .Sub) (Fj fun i j=>.int (i - j)):=N5 fun _ _ _ _ _ _ _ q=>sub_int q
theorem Vk:OpR X (binaryOp .Mod) (rI (fun _ j=>0<j) fun i j=>.int (i % j)):=JD fun i j _ _ _ _ _ hc q=>by
 have h1:(0:Int)<j:=hc
 exact mod_int' (by omega) (by rw [Int.fmod_eq_emod_of_nonneg i (by omega)];exact q)
theorem Vl:OpR X (binaryOp .Pow) (rI JE fun i j=>.int (i^j.toNat)):=JD fun _ _ _ _ _ _ _ hc q=>pow_int_small hc.1 hc.2.1 hc.2.2 q
theorem Vm {f:Value→Sem Value} {g:Int→Int}
 (rule:∀(i:Int) (t:Tok) (s:Shared) (Q:Value→Shared→Prop) (E:Value→Shared→Prop),Q (.int (g i) s.toks) {s with toks:=s.toks+1}→wpAny (model X.prog X.w) X.A (f (.int i t)) Q E s):
 Lq X f (rU fun i=>.int (g i)):=by
 intro pins s σ H x v Q I rx h
 obtain ⟨i,rfl,q⟩:=h
 obtain ⟨t,rfl⟩:=rx
 exact rule i t s _ _ ⟨.int (g i),H,I.tok _,⟨_,rfl⟩,q⟩
theorem N7:Lq X (unaryOp .USub) (rU fun i=>.int (-i)):=Vm fun _ _ _ _ _ q=>neg_int q
end
def N8:V→V→Bool
 |.non,.non=>true |.non,.int _=>true |.int _,.non=>true |.non,.bl _=>true |.bl _,.non=>true |.non,.str _=>true |.str _,.non=>true
 |.int _,.int _=>true |.bl _,.bl _=>true |.str _,.str _=>true |.byt _,.byt _=>true
 |.int _,.str _=>true |.str _,.int _=>true |.bl _,.str _=>true |.str _,.bl _=>true
 |_,_=>false
def Vn:R2:=fun x y H Q=>N8 x y=true∧Q (.bl (decide (x=y))) H
def Vo:R2:=fun x y H Q=>N8 x y=true∧Q (.bl (!decide (x=y))) H
theorem N9 {i j:Int}:decide (V.int i=V.int j)=(i==j):=by
 rw [qaU]
 simp
theorem Oa {i j:Bool}:decide (V.bl i=V.bl j)=(i==j):=by
 rw [qaU]
 simp
theorem JF {i j:Str}:decide (V.str i=V.str j)=(i==j):=by
 rw [qaU]
 simp
theorem Ob {i j:Array UInt8}:decide (V.byt i=V.byt j)=(i.toList==j.toList):=by
 rw [qaU]
 cases i
 cases j
 simp
section
variable {X:Cx} {a b c:Expr} {ta tb tc:TE} {pos:Pos}
theorem Bj {pins:List (Addr×Obj)} {σ:St} {H:Hp} {s:Shared} {Q:VK} {k k':Bool} (I:Inv X pins σ H s) (q:Q (.bl k) H) (e:k=k'):EP X pins σ Q (.bool k') s:=by
 subst e
 exact ⟨.bl k,H,I,rfl,q⟩
theorem op_eq:OpR X (compareOp .Eq) Vn:=by
 intro pins s σ H x y v u Q I rx ry h
 obtain ⟨hs,q⟩:=h
 cases x with
 |non=>
  cases rx
  cases y with
  |non=>cases ry;exact PySem.EqNone.eq_none_none (Bj I q (by simp))
  |bl j=>cases ry;exact PySem.EqNone.eq_none_bool (Bj I q (by simp))
  |int j=>obtain ⟨t',rfl⟩:=ry;exact PySem.EqNone.eq_none_int (Bj I q (by simp))
  |str j=>obtain ⟨t',rfl⟩:=ry;exact PySem.EqNone.eq_none_str (Bj I q (by simp))
  |_=>exact absurd (show false=true from hs) Bf
 |bl i=>
  cases rx
  cases y with
  |non=>cases ry;exact PySem.EqNone.eq_bool_none (Bj I q (by simp))
  |bl j=>cases ry;exact eq_bool (Bj I q Oa)
  |str j=>obtain ⟨t',rfl⟩:=ry;exact PySem.EqMixed.eq_bool_str (Bj I q (by simp))
  |_=>exact absurd (show false=true from hs) Bf
 |int i=>
  obtain ⟨t,rfl⟩:=rx
  cases y with
  |non=>cases ry;exact PySem.EqNone.eq_int_none (Bj I q (by simp))
  |int j=>obtain ⟨t',rfl⟩:=ry;exact eq_int (Bj I q N9)
  |str j=>obtain ⟨t',rfl⟩:=ry;exact PySem.EqMixed.eq_int_str (Bj I q (by simp))
  |_=>exact absurd (show false=true from hs) Bf
 |str i=>
  obtain ⟨t,rfl⟩:=rx
  cases y with
  |non=>cases ry;exact PySem.EqNone.eq_str_none (Bj I q (by simp))
  |bl j=>cases ry;exact PySem.EqMixed.eq_str_bool (Bj I q (by simp))
  |int j=>obtain ⟨t',rfl⟩:=ry;exact PySem.EqMixed.eq_str_int (Bj I q (by simp))
  |str j=>obtain ⟨t',rfl⟩:=ry;exact eq_str (Bj I q JF)
  |_=>exact absurd (show false=true from hs) Bf
 |byt i=>
  obtain ⟨t,rfl⟩:=rx
  cases y with
  |byt j=>obtain ⟨t',rfl⟩:=ry;exact PySem.W.eq_bytes (Bj I q Ob)
  |_=>exact absurd (show false=true from hs) Bf
 |_=>cases y<;>exact absurd (show false=true from hs) Bf
theorem op_ne:OpR X (compareOp .NotEq) Vo:=by
 intro pins s σ H x y v u Q I rx ry h
 obtain ⟨hs,q⟩:=h
 cases x with
 |non=>
  cases rx
  cases y with
  |non=>cases ry;exact PySem.EqNone.ne_none_none (Bj I q (by simp))
  |bl j=>cases ry;exact PySem.EqNone.ne_none_bool (Bj I q (by simp))
  |int j=>obtain ⟨t',rfl⟩:=ry;exact PySem.EqNone.ne_none_int (Bj I q (by simp))
  |str j=>obtain ⟨t',rfl⟩:=ry;exact PySem.EqNone.ne_none_str (Bj I q (by simp))
  |_=>exact absurd (show false=true from hs) Bf
 |bl i=>
  cases rx
  cases y with
  |non=>cases ry;exact PySem.EqNone.ne_bool_none (Bj I q (by simp))
  |bl j=>cases ry;exact ne_bool (Bj I q (congrArg not Oa))
  |str j=>obtain ⟨t',rfl⟩:=ry;exact PySem.EqMixed.ne_bool_str (Bj I q (by simp))
  |_=>exact absurd (show false=true from hs) Bf
 |int i=>
  obtain ⟨t,rfl⟩:=rx
  cases y with
  |non=>cases ry;exact PySem.EqNone.ne_int_none (Bj I q (by simp))
  |int j=>obtain ⟨t',rfl⟩:=ry;exact ne_int (Bj I q (congrArg not N9))
  |str j=>obtain ⟨t',rfl⟩:=ry;exact PySem.EqMixed.ne_int_str (Bj I q (by simp))
  |_=>exact absurd (show false=true from hs) Bf
 |str i=>
  obtain ⟨t,rfl⟩:=rx
  cases y with
  |non=>cases ry;exact PySem.EqNone.ne_str_none (Bj I q (by simp))
  |bl j=>cases ry;exact PySem.EqMixed.ne_str_bool (Bj I q (by simp))
  |int j=>obtain ⟨t',rfl⟩:=ry;exact PySem.EqMixed.ne_str_int (Bj I q (by simp))
  |str j=>obtain ⟨t',rfl⟩:=ry;exact ne_str (Bj I q (congrArg not JF))
  |_=>exact absurd (show false=true from hs) Bf
 |byt i=>
  obtain ⟨t,rfl⟩:=rx
  cases y with
  |byt j=>obtain ⟨t',rfl⟩:=ry;exact PySem.W.ne_bytes (Bj I q (congrArg not Ob))
  |_=>exact absurd (show false=true from hs) Bf
 |_=>cases y<;>exact absurd (show false=true from hs) Bf
theorem Vp:OpR X (compareOp .Lt) (Fj fun i j=>.bl (decide (i<j))):=Ls fun _ _ _ _ _ _ _ q=>lt_int q
theorem Vq:OpR X (compareOp .LtE) (Fj fun i j=>.bl (decide (i≤j))):=Ls fun _ _ _ _ _ _ _ q=>le_int q
theorem Vr:OpR X (compareOp .Gt) (Fj fun i j=>.bl (decide (j<i))):=Ls fun _ _ _ _ _ _ _ q=>gt_int q
theorem Vs:OpR X (compareOp .IsNot) (fun x y H Q=>y=.non∧Q (.bl (!decide (x=.non))) H):=by
 intro pins s σ H x y v u Q I rx ry h
 obtain ⟨rfl,q⟩:=h
 cases ry
 refine isnot_none_gen (Bj I q ?_)
 cases x<;>first
  |(cases rx;rfl)
  |(obtain ⟨t,rfl⟩:=rx;rfl)
theorem OpR.or {f:Value→Value→Sem Value} {r r':R2} (h:OpR X f r) (h':OpR X f r'):OpR X f (fun x y H Q=>r x y H Q∨r' x y H Q):=by
 intro pins s σ H x y v u Q I rx ry q
 rcases q with q |q
 ·exact h pins s σ H x y v u Q I rx ry q
 ·exact h' pins s σ H x y v u Q I rx ry q
theorem Fm (b:Expr) {op:CmpOp} (h:op≠.In:=by decide) (h2:op≠.NotIn:=by decide):behindInMarks op b=false:=by
 have e1:(op==CmpOp.In)=false:=by cases op<;>first |rfl |exact absurd rfl h
 have e2:(op==CmpOp.NotIn)=false:=by cases op<;>first |rfl |exact absurd rfl h2
 cases b with
 |Set elts k p=>
  show (k==0&&(op==.In||op==.NotIn)&&elts.all (constantsAlone 8))=false
  rw [e1,e2,Bool.or_self,Bool.and_false,GJ]
 |_=>rfl
theorem Vt {op:CmpOp} {r:R2} (ho:OpR X (compareOp op) r) (ha:PE X a ta) (hb:PE X b tb) (hm:behindInMarks op b=false):PE X (.Compare a [op] [b] pos) (JC r ta tb):=by
 intro pins s σ H Q I h
 exact wpAny_Compare1 (Lr ha hb I h fun v u s2 x y H2 I2 rx ry q=>ho pins s2 σ H2 x y v u Q I2 rx ry q) hm
def Oc (t:TE):TT:=fun σ H Q=>t σ H fun x H'=>∃k,x=.bl k∧Q k H'
theorem Vu {op:CmpOp} {r:R2} (ho:OpR X (compareOp op) r) (ha:PE X a ta) (hb:PE X b tb) (hm:behindInMarks op b=false):PT X (.Compare a [op] [b] pos) (Oc (JC r ta tb)):=by
 intro pins s σ H Q I h
 refine wpAny_isTrue_Compare1 (Ay (ha pins s σ H _ I h) fun v s1 ⟨x,H1,I1,r1,q1⟩=>Ay (hb pins s1 σ H1 _ I1 q1) ?_) hm
 rintro u s2 ⟨y,H2,I2,r2,q2⟩
 refine Ay (ho pins s2 σ H2 x y v u _ I2 r1 r2 q2) fun c s3 z49_=>?_
 obtain ⟨z,H3,I3,r3,k,e,q3⟩:=z49_
 subst e
 cases r3
 exact wpAny_truthy_bool ⟨H3,I3,q3⟩
def Lu (r r':R2) (ta tb tc:TE):TE:=fun σ H Q=>ta σ H fun x H1=>tb σ H1 fun y H2=>r x y H2 fun z H3=>∃k,z=.bl k∧
 (if k=true then tc σ H3 fun w' H4=>r' y w' H4 Q else Q (.bl false) H3)
theorem Vv {op op':CmpOp} {r r':R2} (ho:OpR X (compareOp op) r) (ho':OpR X (compareOp op') r') (ha:PE X a ta) (hb:PE X b tb) (hc:PE X c tc)
 (hm:lastMarks [op,op'] [b,c]=false:=by with_unfolding_all rfl):PE X (.Compare a [op,op'] [b,c] pos) (Lu r r' ta tb tc):=by
 intro pins s σ H Q I h
 refine Compare_chain (Ay (ha pins s σ H _ I h) fun v s1 ⟨x,H1,I1,r1,q1⟩=>chain_link (Ay (hb pins s1 σ H1 _ I1 q1) ?_)) hm
 rintro u s2 ⟨y,H2,I2,r2,q2⟩
 refine Ay (ho pins s2 σ H2 x y v u _ I2 r1 r2 q2) fun d s3 z52_=>?_
 obtain ⟨z,H3,I3,r3,k,e,q3⟩:=z52_
 subst e
 cases r3
 refine wpAny_truthy_bool ?_
 cases k with
 |false=>exact ite_ff ⟨.bl false,H3,I3,rfl,q3⟩
 |true=>exact ite_tt (chain_last (Ay (hc pins s3 σ H3 _ I3 q3) fun w' s4 z53_=>by obtain ⟨z',H4,I4,r4,q4⟩:=z53_;exact (ho' pins s4 σ H4 y z' u w' Q I4 r2 r4 q4)))
theorem Vw {op op':CmpOp} {r r':R2} (ho:OpR X (compareOp op) r) (ho':OpR X (compareOp op') r') (ha:PE X a ta) (hb:PE X b tb) (hc:PE X c tc)
 (hm:lastMarks [op,op'] [b,c]=false:=by with_unfolding_all rfl):PT X (.Compare a [op,op'] [b,c] pos) (Oc (Lu r r' ta tb tc)):=by
 intro pins s σ H Q I h
 refine isTrue_chain (Ay (ha pins s σ H _ I h) fun v s1 ⟨x,H1,I1,r1,q1⟩=>test_link (Ay (hb pins s1 σ H1 _ I1 q1) ?_)) hm
 rintro u s2 ⟨y,H2,I2,r2,q2⟩
 refine Ay (ho pins s2 σ H2 x y v u _ I2 r1 r2 q2) fun d s3 z56_=>?_
 obtain ⟨z,H3,I3,r3,k,e,q3⟩:=z56_
 subst e
 cases r3
 refine wpAny_truthy_bool ?_
 cases k with
 |false=>
  obtain ⟨k',e',q'⟩:=q3
  cases e'
  exact ite_ff ⟨H3,I3,q'⟩
 |true=>
  refine ite_tt (test_last (Ay (hc pins s3 σ H3 _ I3 q3) ?_))
  rintro w' s4 ⟨z',H4,I4,r4,q4⟩
  refine Ay (ho' pins s4 σ H4 y z' u w' _ I4 r2 r4 q4) fun d' s5 z58_=>?_
  obtain ⟨z2,H5,I5,r5,k2,e2,q5⟩:=z58_
  subst e2
  cases r5
  exact wpAny_truthy_bool ⟨H5,I5,q5⟩
def Lw (K:PySem.W.Frag) (x:V) (H:Hp) (k:Bool):Prop:=
 match x with
 |.non=>k=false
 |.bl b=>k=b
 |.int i=>k=(i != 0)
 |.str y=>y.length≤sizeLine∧k=((y.length:Int) != 0)
 |.byt y=>y.size≤sizeLine∧k=((y.size:Int) != 0)
 |.ref p=>(∃xs,SqL K H p xs∧k=!xs.isEmpty)∨(∃xs,SqT K H p xs∧k=!xs.isEmpty)
 |_=>False
theorem Od {xs:List V} {its:List Value} (r:Vals xs its):(!its.toArray.isEmpty)=!xs.isEmpty:=by
 cases r<;>simp
theorem GN:(sizeLine:Nat)<2^63:=by rw [sizeLine_eq];decide
theorem Vx:Vh X (fun x H Q=>∃k,Lw X.K x H k∧Q k H):=by
 intro pins s σ H x v Q I rx h
 obtain ⟨k,e,q⟩:=h
 have hl:=GN
 have hs:sizeLine=16777216:=sizeLine_eq
 cases x with
 |non=>
  cases rx
  have e':k=false:=e
  subst e'
  exact truthy_none ⟨H,I,q⟩
 |bl b=>
  cases rx
  have e':k=b:=e
  subst e'
  exact wpAny_truthy_bool ⟨H,I,q⟩
 |int i=>
  obtain ⟨t,rfl⟩:=rx
  have e':k=(i != 0):=e
  subst e'
  exact PySem.P.truthy_int ⟨H,I,q⟩
 |str y=>
  obtain ⟨t,rfl⟩:=rx
  obtain ⟨hy,e'⟩:y.length≤sizeLine∧k=((y.length:Int) != 0):=e
  subst e'
  exact PySem.P.truthy_str (by omega) ⟨H,I.tok _,q⟩
 |byt y=>
  obtain ⟨t,rfl⟩:=rx
  obtain ⟨hy,e'⟩:y.size≤sizeLine∧k=((y.size:Int) != 0):=e
  subst e'
  exact PySem.W.truthy_bytes (by omega) ⟨H,I.tok _,q⟩
 |ref p=>
  cases rx
  have e':(∃xs,SqL X.K H p xs∧k=!xs.isEmpty)∨(∃xs,SqT X.K H p xs∧k=!xs.isEmpty):=e
  rcases e' with ⟨xs,hx,e'⟩ |⟨xs,hx,e'⟩
  ·subst e'
   obtain ⟨its,r,pl,hz⟩:=I.list hx
   have hlen:=r.length
   exact wpAny_truthy_list pl.isList (by simp only [AX];omega) ⟨H,I.tok _,by rw [Od r];exact q⟩
  ·subst e'
   obtain ⟨its,r,pl,hz⟩:=I.tuple hx
   have hlen:=r.length
   exact truthy_tuple pl (by simp only [AX];omega) ⟨H,I.tok _,by rw [Od r];exact q⟩
 |_=>exact (show False from e).elim
theorem Vy (ha:PE X a ta) (he:∀En,isTrue a X.env En=(do let v ←En;standAt a.pos;holding [v] (truthy v))):
 PT X a (fun σ H Q=>ta σ H fun x H'=>∃k,Lw X.K x H' k∧Q k H'):=by
 intro pins s σ H Q I h
 exact isTrue_plain (Ay (ha pins s σ H _ I h) fun v s1 z59_=>by obtain ⟨x,H1,I1,r1,q1⟩:=z59_;exact (Vx pins s1 σ H1 x v Q I1 r1 q1)) (he _)
theorem Vz:OpR X (binaryOp .Add) (fun x y H Q=>∃i j,x=.str i∧y=.str j∧i.length+j.length≤sizeLine∧Q (.str (i++j)) H):=by
 intro pins s σ H x y v u Q I rx ry h
 obtain ⟨i,j,rfl,rfl,hz,q⟩:=h
 obtain ⟨t,rfl⟩:=rx
 obtain ⟨t',rfl⟩:=ry
 exact add_str (fun t' tk=>⟨.str (i++j),H,I.tok _,⟨_,rfl⟩,q⟩) hz
theorem DH {x:V} {us:List Value} (r:Vals [x] us):∃u,us=[u]∧RelV x u:=by
 cases r with
 |cons r1 r2=>cases r2;exact ⟨_,rfl,r1⟩
theorem HQ {x y:V} {us:List Value} (r:Vals [x,y] us):∃u w',us=[u,w']∧RelV x u∧RelV y w':=by
 cases r with
 |cons r1 r2=>
  cases r2 with
  |cons r3 r4=>cases r4;exact ⟨_,_,rfl,r1,r3⟩
theorem VA (hc:X.calm=true):De X (.builtin "max") (fun xs H Q=>∃i j,xs=[.int i,.int j]∧Q (.int (if j>i then j else i)) H):=by
 intro pins s σ H xs us Q I r h
 obtain ⟨i,j,rfl,q⟩:=h
 obtain ⟨u,w',rfl,⟨t,rfl⟩,⟨t',rfl⟩⟩:=HQ r
 refine max_two_ints (I.ok.hd hc) fun h' tk k=>⟨_,H,I.kept k,?_,q⟩
 by_cases hj:j>i
 ·rw [if_pos hj,if_pos hj];exact ⟨_,rfl⟩
 ·rw [if_neg hj,if_neg hj];exact ⟨_,rfl⟩
theorem VB (hc:X.calm=true):De X (.builtin "min") (fun xs H Q=>∃i j,xs=[.int i,.int j]∧Q (.int (if j<i then j else i)) H):=by
 intro pins s σ H xs us Q I r h
 obtain ⟨i,j,rfl,q⟩:=h
 obtain ⟨u,w',rfl,⟨t,rfl⟩,⟨t',rfl⟩⟩:=HQ r
 refine min_two_ints (I.ok.hd hc) fun h' tk k=>⟨_,H,I.kept k,?_,q⟩
 by_cases hj:j<i
 ·rw [if_pos hj,if_pos hj];exact ⟨_,rfl⟩
 ·rw [if_neg hj,if_neg hj];exact ⟨_,rfl⟩
theorem VC:De X (.type "int") (fun xs H Q=>(∃i,xs=[.int i]∧Q (.int i) H)∨∃k,xs=[.bl k]∧Q (.int (if k then 1 else 0)) H):=by
 intro pins s σ H xs us Q I r h
 rcases h with ⟨i,rfl,q⟩ |⟨k,rfl,q⟩
 ·obtain ⟨u,rfl,t,rfl⟩:=DH r
  exact call_int_int ⟨.int i,H,I,⟨_,rfl⟩,q⟩
 ·obtain ⟨u,rfl,r1⟩:=DH r
  cases r1
  exact call_int_bool ⟨.int (if k then 1 else 0),H,I.tok _,⟨_,rfl⟩,q⟩
end
section
variable {prog:Program} {w:World} {A:Around} {E:Value→Shared→Prop} {s:Shared} {K:PySem.W.Frag} {x dx C f:Addr} {mA:Str→Option Value} {name:Str} {v:Value}
end
section
variable {P:Program} {w:World} {H H':Hp} {h h':Heap} {a C dx:Addr} {fs fs':List (Str×V)}
end
section
variable {X:Cx} {pins:List (Addr×Obj)} {σ:St} {H:Hp} {s:Shared} {a C dx:Addr} {fs:List (Str×V)} {f:Str} {v:V} {A:Around} {E:Value→Shared→Prop}
end
section
variable {X:Cx} {o e value:Expr} {f:Str} {pos pos' tpos:Pos} {ta tv:TE}
end
section
variable {X:Cx} {pins:List (Addr×Obj)} {σ:St} {H:Hp} {s:Shared} {A:Around} {E:Value→Shared→Prop} {Q:Value→Shared→Prop} {c:Value} {b:Bool}
inductive D8 (K:PySem.W.Frag) (H:Hp):V→Value→Prop where
 |non:D8 K H .non (.type "NoneType")
 |bl (x:Bool):D8 K H (.bl x) (.type "bool")
 |int (i:Int):D8 K H (.int i) (.type "int")
 |str (x:Str):D8 K H (.str x) (.type "str")
 |flt (x:UInt64):D8 K H (.flt x) (.type "float")
 |lst {a:Addr} {xs:List V} (e:H a=some (.lst xs)):D8 K H (.ref a) (.type "list")
 |frz {a:Addr} {o:Obj} {xs:List V} (e:H a=some (.frz o (.lst xs))):D8 K H (.ref a) (.type "list")
 |tup {a:Addr} {xs:List V} (e:H a=some (.tup xs)):D8 K H (.ref a) (.type "tuple")
theorem VD {x:V} {u t:Value} (I:Inv X pins σ H s) (rx:RelV x u) (ty:D8 X.K H x t) (e:PySem.W.kitOne X.K t c=some b) (h:∀tk,Q (.bool b) {s with toks:=tk}):
 wpAny (model X.prog X.w) A (call (.builtin "isinstance") [u,c]) Q E s:=by
 cases ty with
 |non=>cases (show u=Value.none from rx);exact PySem.W.kia_one PySem.W.kitx_none I.kIn True.intro e (fun z=>nomatch z) h
 |bl y=>cases (show u=Value.bool y from rx);exact PySem.W.kia_one PySem.W.kitx_bool I.kIn True.intro e (fun z=>nomatch z) h
 |int i=>obtain ⟨t,q⟩:=(show ∃t,u=Value.int i t from rx);cases q;exact PySem.W.kia_one PySem.W.kitx_int I.kIn True.intro e (fun z=>nomatch z) h
 |str y=>obtain ⟨t,q⟩:=(show ∃t,u=Value.str y t from rx);cases q;exact PySem.W.kia_one PySem.W.kitx_str I.kIn True.intro e (fun z=>nomatch z) h
 |flt y=>obtain ⟨t,q⟩:=(show ∃t,u=Value.float y t from rx);cases q;exact PySem.W.kia_one PySem.W.kitx_float I.kIn True.intro e (fun z=>nomatch z) h
 |@lst a xs ea=>
  cases (show u=Value.ref a from rx)
  obtain ⟨_,_,n,_,h1⟩:=(show ObjOk X.prog X.w H s.heap a (.lst xs) from I.hok a _ ea)
  exact PySem.W.kia_one PySem.W.kitx_list I.kIn ⟨_,h1,rfl⟩ e (fun z=>nomatch z) h
 |@frz a ob xs ea=>
  cases (show u=Value.ref a from rx)
  obtain ⟨_,_,_,n,_,h1⟩:=(show ObjOk X.prog X.w H s.heap a (.frz ob (.lst xs)) from I.hok a _ ea)
  exact PySem.W.kia_one PySem.W.kitx_list I.kIn ⟨_,h1,rfl⟩ e (fun z=>nomatch z) h
 |@tup a xs ea=>
  cases (show u=Value.ref a from rx)
  obtain ⟨_,_,_,p,_⟩:=(show ObjOk X.prog X.w H s.heap a (.tup xs) from I.hok a _ ea)
  obtain ⟨o,h1,h2,_⟩:=p
  exact PySem.W.kia_one PySem.W.kitx_tuple I.kIn ⟨o,h1,h2⟩ e (fun z=>nomatch z) h
end
structure Room (k:Nat) (A:Around):Prop where
 hd:A.handled=none
 dp:A.depth+3*k+5<recursionLimit
 un:A.units+16*k+200<cLine
 gd:A.guards=some []
theorem Room.mono {j k:Nat} {A:Around} (r:Room k A) (h:j≤k):Room j A:=⟨r.hd,by have:=r.dp;omega,by have:=r.un;omega,r.gd⟩
theorem Room.deeper {k:Nat} {A:Around} (r:Room (k+1) A) (env:Env):Room k (A.deeper env):=
 ⟨r.hd,by have:=r.dp;show A.depth+1+3*k+5<_;omega,by have:=r.un;show A.units+3+16*k+200<_;omega,r.gd⟩
theorem Room.depth {k:Nat} {A:Around} (r:Room k A):A.depth<recursionLimit:=by have:=r.dp;omega
theorem Room.units {k:Nat} {A:Around} (r:Room k A):A.units+64<cLine:=by have:=r.un;omega
def VE:TA:=fun _ H Q=>Q [] H
def VF (ta:TE) (tr:TA):TA:=fun σ H Q=>ta σ H fun x H1=>tr σ H1 fun xs H2=>Q (x::xs) H2
section
variable {X:Cx} {e:Expr} {es:List Expr} {te:TE} {t:TA} {pos:Pos}
theorem VG:PA X [] VE:=fun _ _ _ _ H Q I h=>Calls.spliced_nil ⟨[],H,I,.nil,h⟩
theorem VH (ha:PE X e te) (hr:PA X es t) (hs:starEach (e::es) X.env=(false,eval e X.env)::starEach es X.env:=by rfl):PA X (e::es) (VF te t):=by
 intro pos pins s σ H Q I h
 rw [hs]
 show wpAny _ _ (spliced ((false,eval e X.env)::backTo pos (starEach es X.env))) _ _ s
 refine Calls.spliced_cons (Ay (ha pins s σ H _ I h) fun u s1 z68_=>?_)
 obtain ⟨x,H1,I1,r1,q1⟩:=z68_
 exact Ay (hr pos pins s1 σ H1 _ I1 q1) fun us s2 z69_=>by obtain ⟨xs,H2,I2,r2,q2⟩:=z69_;exact (⟨x::xs,H2,I2,.cons r1 r2,q2⟩)
def VI (t:TA):TE:=fun σ H Q=>t σ H fun xs H1=>xs.length≤sizeLine∧∀p,H1 p=none→Q (.ref p) (Ao H1 p (.tup xs))
def VJ (t:TA):TE:=fun σ H Q=>t σ H fun xs H1=>xs.length≤sizeLine∧∀p,H1 p=none→Q (.ref p) (Ao H1 p (.lst xs))
theorem VL {x1} (h:PA X es t):PE X (.Tuple es x1 pos) (VI t):=by
 intro pins s σ H Q I hq
 refine wpAny_Tuple_spliced (Ay (h pos pins s σ H _ I hq) fun us s1 ⟨xs,H1,I1,r,z,q⟩=>⟨by rw [←r.length];exact z,?_⟩)
 have hf:H1 s1.heap.objs.size=none:=I1.hok.fresh (Ax _)
 refine ⟨.ref s1.heap.objs.size,Ao H1 s1.heap.objs.size (.tup xs),I1.laid (t':=s1.toks) (fun b u e=>AG _ e) (Ax _) ?_,rfl,q _ hf⟩
 exact ⟨z,us,r,⟨_,Bi _ rfl,rfl,_,rfl⟩,NoDict.new⟩
theorem VM (h:PA X es t):PE X (.List es pos) (VJ t):=by
 intro pins s σ H Q I hq
 refine wpAny_List_spliced (Ay (h pos pins s σ H _ I hq) fun us s1 ⟨xs,H1,I1,r,z,q⟩=>⟨by rw [←r.length];exact z,?_⟩)
 have hf:H1 s1.heap.objs.size=none:=I1.hok.fresh (Ax _)
 refine ⟨.ref s1.heap.objs.size,Ao H1 s1.heap.objs.size (.lst xs),I1.laid (t':=s1.toks) (fun b u e=>AG _ e) (Ax _) ?_,rfl,q _ hf⟩
 exact ⟨z,us,0,r,Bi _ rfl⟩
end
abbrev Sp:=List V→Hp→VK→XK→Prop
abbrev DI:=List Env→Hp→Shared→XK→Value→Shared→Prop
structure Fo (P:Program) (w:World) (K:PySem.W.Frag) (mg:Str→Option Value) (base:Heap) (A:Around) (outer:List Env) (s:Shared) (H:Hp):Prop where
 frames:A.frames=some outer
 mod:Mod K mg base
 bs:∀b o,base.get? b=some o→s.heap.get? b=some o∧H b=none
 bsz:base.objs.size≤s.heap.objs.size
 funs:s.heap.FunFrames base outer
 frf:∀b∈frs outer,H b=none
 hok:HOk P w H s.heap
 bare:AllBare s.gens
inductive CE (outer:List Env) (P:Program) (w:World) (H:Hp) (s:Shared) (Q:VK) (u:Value) (s':Shared):Prop where
 |mk (v:V) (H':Hp) (os:s'.os=s.os) (bare:AllBare s'.gens) (un:Un (frs outer) [] H H' s.heap s'.heap) (hok:HOk P w H' s'.heap) (r:RelV v u) (q:Q v H'):CE outer P w H s Q u s'
def CR (CX:DI) (outer:List Env) (P:Program) (w:World) (H:Hp) (s:Shared) (Q:VK) (E:XK) (r:Result) (s':Shared):Prop:=
 match r with
 |.ok (.ret u)=>CE outer P w H s Q u s'
 |.ok _=>False
 |.error e=>CX outer H s E e s'
structure FnOk (P:Program) (w:World) (K:PySem.W.Frag) (mg:Str→Option Value) (base:Heap) (CX:DI) (k:Nat) (f:Addr) (fd:FuncData) (ps:List Str) (sp:Sp):Prop where
 len:∀vs H Q E,sp vs H Q E→vs.length=ps.length
 run:∀(A:Around) (outer:List Env) (s:Shared) (H:Hp) (args:Args) (us:List Value) (vs:List V) (Q:VK) (E:XK),Room k A→Fo P w K mg base A outer s H→BindsTo s fd args (ps.zip us)→Vals vs us→sp vs H Q E→
  codeAny (model P w) A (.call (.ref f) args) (CR CX outer P w H s Q E) s
theorem FnOk.mono {P:Program} {w:World} {K:PySem.W.Frag} {mg:Str→Option Value} {base:Heap} {CX:DI} {j k:Nat} {f:Addr} {fd:FuncData} {ps:List Str} {sp:Sp} (F:FnOk P w K mg base CX j f fd ps sp) (h:j≤k):
 FnOk P w K mg base CX k f fd ps sp:=⟨F.len,fun A outer s H args us vs Q E hr=>F.run A outer s H args us vs Q E (hr.mono h)⟩
theorem FnOk.imp {P:Program} {w:World} {K:PySem.W.Frag} {mg:Str→Option Value} {base:Heap} {CX:DI} {k:Nat} {f:Addr} {fd:FuncData} {ps:List Str} {sp sp':Sp} (F:FnOk P w K mg base CX k f fd ps sp)
 (h:∀vs H Q E,sp' vs H Q E→sp vs H Q E):FnOk P w K mg base CX k f fd ps sp':=
 ⟨fun vs H Q E q=>F.len vs H Q E (h _ _ _ _ q),fun A outer s H args us vs Q E hr he hb hv hs=>F.run A outer s H args us vs Q E hr he hb hv (h _ _ _ _ hs)⟩
section
variable {X:Cx} {pins:List (Addr×Obj)} {σ:St} {H:Hp} {s s':Shared}
theorem Inv.env0 (I:Inv X pins σ H s):Fo X.prog X.w X.K X.mg X.base X.A X.stack s H:=
 ⟨I.ok.frames,I.ok.mod,I.bs,BU I.ok.bsz I.sz,I.stack,I.stkFree,I.hok,I.bare⟩
theorem Inv.after {Q:VK} {u:Value} (I:Inv X pins σ H s) (h:CE X.stack X.prog X.w H s Q u s'):EP X pins σ Q u s':=by
 obtain ⟨v,H',os,bare,un,hok,r,q⟩:=h
 obtain ⟨hh,g,d,t,os'⟩:=s'
 obtain rfl:os'=s.os:=os
 exact ⟨v,H',I.call (h':=hh) (g':=g) (d':=d) (t':=t) (ch:=[]) un hok bare (fun b z=>absurd z (by simp)),r,q⟩
end
def VN (sp:Sp) (dvs:List V) (E:XK) (t:TA):TE:=fun σ H Q=>t σ H fun vs H1=>sp (vs++dvs) H1 Q E
def Binds (K:PySem.W.Frag) (fd:FuncData) (ps:List Str) (ds:List Value):Prop:=
 ∀(s:Shared) (us:List Value),K.In s.heap→(us++ds).length=ps.length→BindsTo s fd ⟨us,[]⟩ (ps.zip (us++ds))
theorem Binds.all {K:PySem.W.Frag} {fd:FuncData} {ps:List Str} (h:∀us:List Value,us.length=ps.length→bindArgs fd ⟨us,[]⟩=pure (ps.zip us)):Binds K fd ps []:=fun s us _ hl=>by
 rw [B9] at hl ⊢
 exact .of_eq (h us hl)
def F0 (CX:DI) (X:Cx) (E:XK):Prop:=∀(pins:List (Addr×Obj)) (σ:St) (H:Hp) (s:Shared) (e:Value) (s':Shared),Inv X pins σ H s→CX X.stack H s E e s'→X.xe e s'
section
variable {X:Cx} {CX:DI} {k:Nat} {f C:Addr} {fd:FuncData} {ps:List Str} {sp:Sp} {dvs:List V} {ds:List Value} {E:XK} {x m:Str} {p pos apos:Pos} {e o:Expr} {es:List Expr} {ta:TE} {t:TA}
theorem VO {pins:List (Addr×Obj)} {σ:St} {H:Hp} {s:Shared} {Q:VK} {us:List Value} {vs:List V} (F:FnOk X.prog X.w X.K X.mg X.base CX k f fd ps sp) (hr:Room k X.A) (hb:Binds X.K fd ps ds) (hd:Vals dvs ds) (hx:F0 CX X E)
 (I:Inv X pins σ H s) (r:Vals vs us) (h:sp (vs++dvs) H Q E):wpAny (model X.prog X.w) X.A (call (.ref f) us) (EP X pins σ Q) X.xe s:=by
 have r2:Vals (vs++dvs) (us++ds):=r.append hd
 have hl:(us++ds).length=ps.length:=by rw [←r2.length];exact F.len _ _ _ _ h
 refine wpAny_call (codeAny_mono (F.run X.A X.stack s H ⟨us,[]⟩ (us++ds) (vs++dvs) Q E hr I.env0 (hb s us I.kIn hl) r2 h) fun r s' hq=>?_)
 cases r with
 |error e=>exact hx pins σ H s e s' I hq
 |ok fl=>
  cases fl with
  |ret u=>exact I.after hq
  |next=>exact False.elim hq
  |brk=>exact False.elim hq
  |cont=>exact False.elim hq
theorem VP (F:FnOk X.prog X.w X.K X.mg X.base CX k f fd ps sp) (hr:Room k X.A) (hg:Gl X x) (hm:X.mg x=some (.ref f)) (hk:PySem.W.keepIn X.K (.ref f)=true) (hb:Binds X.K fd ps ds) (hd:Vals dvs ds) (hx:F0 CX X E)
 (ha:PA X (e::es) t) (hdb:(x==("__debug__":Str))=false:=by decide) (he:starEach (e::es) X.env=(false,eval e X.env)::starEach es X.env:=by rfl) (hpl:(backTo pos (starEach es X.env)).any (·.1)=false:=by rfl):
 PE X (.Call (.Name x p) (e::es) [] pos) (VN sp dvs E t):=by
 intro pins s σ H Q I h
 refine wpAny_Call_Name_kw (GM I hg hm ?_ hdb)
 refine PySem.W.callWith_K (h₀:=X.base) I.ok.mod.kin hk (Ay (ha pos pins s σ H _ I h) ?_) he hpl
 rintro us s1 ⟨vs,H1,I1,r,q⟩
 refine ⟨I1.kIn,?_⟩
 exact VO F hr hb hd hx I1 r q
end
section
variable {X:Cx} {CX:DI} {k:Nat} {f C:Addr} {fd:FuncData} {ps ks:List Str} {sp:Sp} {E:XK} {x m:Str} {p pos apos kpos:Pos} {e o:Expr} {es:List Expr} {kws:List Keyword} {te ta:TE} {t tk:TA} {nm:Option Str}
variable {g:List Value→List Value→List Value} {gV:List V→List V→List V}
end
structure DJ (N P:List Str) (sc:Scope):Prop where
 kind:sc.kind=.function
 co:sc.isCoroutine=false
 gen:sc.isGenerator=false
 nd:N.Nodup
 pre:N.take P.length=P
 par:∀x∈P,sc.names.lookup x=some .local∨sc.names.lookup x=some .cell
 nofree:∀y∈sc.names,y.2≠.free
theorem Oe {kindOf:Str→Option NameKind} {x:Str}:∀{binds:List (Str×Value)} {m:Str→Option Value},(∀v,(x,v)∉binds)→bindL kindOf binds m x=m x
 |[],_,_=>rfl
 |(n,v)::r,m,h=>by
  unfold bindL
  rw [Oe fun w hw=>h w (A6 _ hw)]
  split
  ·have:x≠n:=by rintro rfl;exact h v AZ
   simp [this]
  ·rfl
theorem Of {kindOf:Str→Option NameKind} {x:Str}:∀{binds:List (Str×Value)} {m:Str→Option Value},(∀v,(x,v)∉binds)→bindC kindOf binds m x=m x
 |[],_,_=>rfl
 |(n,v)::r,m,h=>by
  unfold bindC
  rw [Of fun w hw=>h w (A6 _ hw)]
  split
  ·rfl
  ·have:x≠n:=by rintro rfl;exact h v AZ
   simp [this]
theorem Lx {kindOf:Str→Option NameKind} {x:Str} {v:Value}:∀{P:List Str} {vs:List Value} {i:Nat} {m:Str→Option Value},P.Nodup→P[i]?=some x→vs[i]?=some v→kindOf x=some .local→
 bindL kindOf (P.zip vs) m x=some v
 |[],_,_,_,_,h,_,_=>by simp at h
 |_::_,[],_,_,_,_,h,_=>by simp at h
 |p::P,w::vs,0,m,nd,h1,h2,hk=>by
  simp at h1 h2;subst h1;subst h2
  show bindL kindOf ((p,w)::P.zip vs) m p=_
  unfold bindL
  rw [Oe fun v hv=>(qbN.mp nd).1 (HH hv).1,if_pos hk]
  simp
 |p::P,w::vs,i+1,m,nd,h1,h2,hk=>by
  show bindL kindOf ((p,w)::P.zip vs) m x=_
  unfold bindL
  exact Lx (i:=i) (qbN.mp nd).2 (by simpa using h1) (by simpa using h2) hk
theorem Ly {kindOf:Str→Option NameKind} {x:Str} {v:Value}:∀{P:List Str} {vs:List Value} {i:Nat} {m:Str→Option Value},P.Nodup→P[i]?=some x→vs[i]?=some v→kindOf x≠some .local→
 bindC kindOf (P.zip vs) m x=some v
 |[],_,_,_,_,h,_,_=>by simp at h
 |_::_,[],_,_,_,_,h,_=>by simp at h
 |p::P,w::vs,0,m,nd,h1,h2,hk=>by
  simp at h1 h2;subst h1;subst h2
  show bindC kindOf ((p,w)::P.zip vs) m p=_
  unfold bindC
  rw [Of fun v hv=>(qbN.mp nd).1 (HH hv).1,if_neg hk]
  simp
 |p::P,w::vs,i+1,m,nd,h1,h2,hk=>by
  show bindC kindOf ((p,w)::P.zip vs) m x=_
  unfold bindC
  exact Ly (i:=i) (qbN.mp nd).2 (by simpa using h1) (by simpa using h2) hk
def start (N:List Str) (vs:List V):St:=vs.map some++List.replicate (N.length - vs.length) none
def BY (CX:DI) (P:Program) (w:World) (K:PySem.W.Frag) (mg:Str→Option Value) (base:Heap) (N:List Str) (qual:Str) (scope:Scope) (f:Addr) (cd:Value) (A:Around) (outer:List Env) (s:Shared) (H:Hp) (E:XK):Cx where
 prog:=P
 w:=w
 K:=K
 mg:=mg
 base:=base
 A:=A.deeper (envOfC qual scope s.heap.objs.size f cd)
 N:=N
 s₀:=s
 H₀:=H
 env:=envOfC qual scope s.heap.objs.size f cd
 outer:=outer
 stack:=envOfC qual scope s.heap.objs.size f cd::outer
 ex:=[]
 calm:=true
 fn:=fun _=>true
 pn:=[]
 xe:=fun e s'=>wpAny (model P w) (A.deeper (envOfC qual scope s.heap.objs.size f cd)) (leaving (envOfC qual scope s.heap.objs.size f cd) e) (fun _ s''=>CX outer H s E e s'') (fun e' s''=>CX outer H s E e' s'') s'
theorem JG {sc:Scope} {n:Nat} {x:Str} (h:sc.names.lookup x=some .cell):∃c,(cellsFrom n sc.names []).lookup x=some c:=by
 have q:=PySem.W.cellsFrom_some sc.names n [] (.inl h)
 exact qc4.mp q
theorem Og {CX:DI} {P:Program} {w:World} {K:PySem.W.Frag} {mg:Str→Option Value} {base:Heap} {N ps:List Str} {qual:Str} {scope:Scope} {f:Addr} {cd:Value} {A:Around} {outer:List Env} {s s1:Shared} {H:Hp} {E:XK} {us:List Value} {vs:List V}
 (S:DJ N ps scope) (hd:A.handled=none) (e0:Fo P w K mg base A outer s H) (hl:vs.length=ps.length) (r:Vals vs us)
 (x:InCallC s s.heap.objs.size (bindL (envOfC qual scope s.heap.objs.size f cd).kindOf (ps.zip us) fun _=>none) (cellsFrom (s.heap.objs.size+1) scope.names []) (bindC (envOfC qual scope s.heap.objs.size f cd).kindOf (ps.zip us) fun _=>none) s1):
 Inv (BY CX P w K mg base N qual scope f cd A outer s H E) [] (start N vs) H s1:=by
 have hpl:ps.length≤N.length:=by have:=congrArg List.length S.pre;rw [HE] at this;omega
 obtain ⟨h1,tk,rfl,hk⟩:=x.done
 have noA:∀b:Addr,b∉(BY CX P w K mg base N qual scope f cd A outer s H E).ex:=fun b z=>absurd (show b∈([]:List Addr) from z) (by simp)
 refine ⟨⟨e0.mod,S.kind,rfl,rfl,Ax _,fun y z c h1 h2=>?_,fun y hy=>?_,fun y c _ h=>?_,fun _=>hd,Around.frames_deeper e0.frames,.inr ⟨rfl,rfl⟩,fun b z=>absurd z (noA b),e0.bs,e0.bsz,fun b _ _=>noA b,fun b z=>absurd z (noA b),e0.funs,e0.frf⟩,
  rfl,e0.bare,Un.kept hk,⟨_,x.toInCall.ns,fun i y v h1 h2 h3=>?_⟩,fun y c h=>⟨_,x.cell y c h⟩,e0.hok.fresh (Ax _),fun y c h=>?_,fun p hp=>absurd (show p∈([]:List (Addr×Obj)) from hp) (by simp),e0.hok.kept hk,?_⟩
 ·exact name_of_addr x.apart (PySem.mem_of_lookup h1) (PySem.mem_of_lookup h2)
 ·have hy:scope.names.lookup y=some .cell∨scope.names.lookup y=some .free:=hy
  rcases hy with hy |hy
  ·exact JG hy
  ·exact absurd rfl (S.nofree _ (PySem.mem_of_lookup hy))
 ·exact EI (x.above y c (PySem.mem_of_lookup h))
 ·have hi:i<vs.length:=by
   unfold start at h2
   by_cases hi:i<vs.length
   ·exact hi
   ·rw [Hv (by simpa using hi)] at h2
    rw [Lg] at h2
    split at h2<;>cases h2
  have ha:vs[i]?=some v:=by
   unfold start at h2
   rw [Fc (by simpa using hi),B8] at h2
   cases e:vs[i]? with
   |none=>rw [e] at h2;cases h2
   |some a=>rw [e] at h2;cases h2;rfl
  obtain ⟨u,hu,rv⟩:=r.get ha
  have hp:ps[i]?=some y:=by
   rw [←S.pre,List.getElem?_take_of_lt (by omega)];exact h1
  have ndP:ps.Nodup:=by rw [←S.pre];exact S.nd.sublist (List.take_sublist _ _)
  refine ⟨u,rv,?_⟩
  rcases S.par y (Fd hp) with k |k
  ·exact .inl ⟨k,Lx ndP hp hu k⟩
  ·obtain ⟨c,e⟩:=JG (n:=s.heap.objs.size+1) k
   refine .inr ⟨.inl k,c,e,?_⟩
   have q:=x.cell y c e
   rw [Ly ndP hp hu (by show scope.names.lookup y≠_;rw [k];decide)] at q
   exact q
 ·exact e0.hok.fresh (EI (x.above y c (PySem.mem_of_lookup h)))
 ·unfold start
  show _=N.length
  rw [CY,Bc,List.length_replicate]
  omega
theorem Oh {CX:DI} {P:Program} {w:World} {K:PySem.W.Frag} {mg:Str→Option Value} {base:Heap} {k:Nat} {f:Addr} {name qual:Str} {params:Arguments} {body:List Stmt} {scope:Scope} {dV kV doc pm cdv ct oc:Value} {an od:Option Addr}
 {osl:Array (Option Value)} {N ps:List Str} {sp:Sp} (lk:K.lookup f=some ⟨oc,od,.func (PySem.W.fnOf name qual params body scope dV kV doc pm an cdv ct),osl⟩) (hcd:PySem.W.codeIn K cdv qual=true) (S:DJ N ps scope)
 (len:∀vs H Q E,sp vs H Q E→vs.length=ps.length)
 (hbody:∀(A:Around) (outer:List Env) (s:Shared) (H:Hp) (vs:List V) (Q:VK) (E:XK),Room k (A.deeper (envOfC qual scope s.heap.objs.size f cdv))→sp vs H Q E→
  ∃t,CP (BY CX P w K mg base N qual scope f cdv A outer s H E) body t∧t {nx:=fun _ H'=>Q .non H',rt:=Q} (start N vs) H):
 FnOk P w K mg base CX (k+1) f (PySem.W.fnOf name qual params body scope dV kV doc pm an cdv ct) ps sp:=by
 refine ⟨len,fun A outer s H args us vs Q E hr e0 hb r hsp=>?_⟩
 have hl:=len _ _ _ _ hsp
 have KX:K.In s.heap:=e0.mod.kin.keeps fun b o e=>(e0.bs b o e).1
 have lim:s.heap.NoLimit:=e0.mod.nolimit.keeps fun b o e=>(e0.bs b o e).1
 have hkind:∀y∈ps.zip us,scope.names.lookup y.1=some .local∨(scope.names.lookup y.1=some .cell∧((cellsFrom (s.heap.objs.size+1) scope.names []).lookup y.1).isSome=true):=fun z81_ hy=>by
  obtain ⟨n,v⟩:=z81_
  rcases S.par n (HH hy).1 with q |q
  ·exact .inl q
  ·exact .inr ⟨q,PySem.W.cellsFrom_some _ _ _ (.inl q)⟩
 refine codeAny_call_function hr.depth (KX _ _ lk) rfl S.co S.gen rfl (PySem.W.codeRec_of KX hcd) (hb _ _ _ _ ?_)
 refine wpAny_newFunctionEnv_cells S.kind hkind fun env he s1 x=>?_
 subst he
 refine ⟨lim.keeps x.toInCall.keep,codeAny_func ?_⟩
 obtain ⟨t,ht,hq⟩:=hbody A outer s H vs Q E (hr.deeper _) hsp
 have I:Inv (BY CX P w K mg base N qual scope f cdv A outer s H E) [] (start N vs) H s1:=Og S hr.hd e0 hl r x
 refine wpAny_mono (ht [] s1 (start N vs) H _ I hq) (fun fl s' hs=>?_) fun e s' hs=>hs
 have fin:∀{σ':St} {H':Hp} {v:V} {u:Value},Inv (BY CX P w K mg base N qual scope f cdv A outer s H E) [] σ' H' s'→RelV v u→Q v H'→CE outer P w H s Q u s':=
  fun {σ' H' v u} J rv q=>⟨v,H',J.os,J.bare,J.base,J.hok,rv,q⟩
 cases fl with
 |ret u=>
  obtain ⟨v,σ',H',J,rv,q⟩:=hs
  exact fin J rv q
 |next=>
  obtain ⟨σ',H',J,q⟩:=hs
  exact fin (v:=V.non) (u:=Value.none) J rfl q
 |brk=>
  obtain ⟨_,_,_,q⟩:=hs
  exact False.elim q
 |cont=>
  obtain ⟨_,_,_,q⟩:=hs
  exact False.elim q
section
variable {X:Cx} {x:Str} {p pos:Pos} {e:Expr} {es:List Expr} {t:TA} {id T:String} {r:List V→Hp→VK→Prop}
def Oi (r:List V→Hp→VK→Prop) (t:TA):TE:=fun σ H Q=>t σ H fun vs H1=>r vs H1 Q
theorem VQ (hc:De X (.builtin id) r) (hg:Gl X x) (hm:X.mg x=none) (hv:bootBuiltins x=some (.builtin id)) (ha:PA X (e::es) t) (hn:x≠"__name__":=by decide) (hdb:(x==("__debug__":Str))=false:=by decide)
 (he:starEach (e::es) X.env=(false,eval e X.env)::starEach es X.env:=by rfl) (hpl:(backTo pos (starEach es X.env)).any (·.1)=false:=by rfl):PE X (.Call (.Name x p) (e::es) [] pos) (Oi r t):=by
 intro pins s σ H Q I h
 refine wpAny_Call_Name_kw (FY I hg hm hv ?_ hn hdb)
 exact PyProof.Rows.callWith_builtin1 (Ay (ha pos pins s σ H _ I h) fun us s1 z82_=>by obtain ⟨vs,H1,I1,r1,q1⟩:=z82_;exact (hc pins s1 σ H1 vs us Q I1 r1 q1)) he hpl
theorem VR (hc:De X (.type T) r) (hg:Gl X x) (hm:X.mg x=none) (hv:bootBuiltins x=some (.type T)) (ha:PA X (e::es) t) (hn:x≠"__name__":=by decide) (hdb:(x==("__debug__":Str))=false:=by decide)
 (he:starEach (e::es) X.env=(false,eval e X.env)::starEach es X.env:=by rfl) (hpl:(backTo pos (starEach es X.env)).any (·.1)=false:=by rfl):PE X (.Call (.Name x p) (e::es) [] pos) (Oi r t):=by
 intro pins s σ H Q I h
 refine wpAny_Call_Name_kw (FY I hg hm hv ?_ hn hdb)
 exact PyProof.Rows.callWith_type1 (Ay (ha pos pins s σ H _ I h) fun us s1 z83_=>by obtain ⟨vs,H1,I1,r1,q1⟩:=z83_;exact (hc pins s1 σ H1 vs us Q I1 r1 q1)) he hpl
end
end L2
namespace HT
open PySem PyProof.Rows
def lexLt:List Int→List Int→Bool
 |[],[]=>false
 |[],_::_=>true
 |_::_,[]=>false
 |x::xs,y::ys=>if x=y then lexLt xs ys else decide (x<y)
theorem lexLt_cons (x y:Int) (xs ys:List Int):lexLt (x::xs) (y::ys)=if x=y then lexLt xs ys else decide (x<y):=rfl
theorem VS:lexLt [] []=false:=rfl
theorem VT (y:Int) (ys:List Int):lexLt [] (y::ys)=true:=rfl
theorem VU (x:Int) (xs:List Int):lexLt (x::xs) []=false:=rfl
theorem VV (A:Around) (s:Shared) (a:Int) (t:Tok) (c:Int) (u:Tok):∃e,SeqAt.EqAt A s (.int a t) (.int c u) e∧(e=true↔a=c):=
 ⟨(a==c),SeqAt.EqAt.int_int a t c u,by simp⟩
theorem VW (A:Around) (s:Shared) (a:Int) (t:Tok) (c:Int) (u:Tok) (prog:Program) (w:World) (E:Value→Shared→Prop) (Q:Value→Shared→Prop) (h:Q (.bool (decide (a<c))) s):
 wpAny (model prog w) A (richCompare .Lt (.int a t) (.int c u)) Q E s:=
 (PyProof.Rows.lt_int h:wpAny (model prog w) A (compareOp .Lt (.int a t) (.int c u)) Q E s)
section
open PySem.SeqAt
open PySem.AutoSeq1 (wpAny_loadPart')
open PySem.MeetsSeq PySem.MeetsSeq2 PySem.MeetsSeq3
theorem VX (l b:Addr) (items items2:Array Value) (n n2:Nat) (dd dd2:Option Addr) (sl sl2:Array (Option Value)) (ns ms:List Int) (hi:IntsAre items.toList ns) (hj:IntsAre items2.toList ms):
 Meets (Builtin.«tuple.__lt__» ⟨[.ref l,.ref b],[]⟩)
  (fun _ R s=>s.heap.get? l=some {cls:=.type "tuple",dict:=dd,data:=.seq items n,slots:=sl}∧s.heap.get? b=some {cls:=.type "tuple",dict:=dd2,data:=.seq items2 n2,slots:=sl2}∧
   R (.ok (.ret (.bool (lexLt ns ms)))) s):=
 .of_wp fun prog w A R s h=>by
  obtain ⟨hp,g,d,tk,os⟩:=s;obtain ⟨hl,hb,h⟩:=h
  have f2:=AutoSeq1.sub_tuple_tuple
  have z1:items.size=ns.length:=by rw [←hi.length];simp
  have z2:items2.size=ms.length:=by rw [←hj.length];simp
  wp_walk using wpAny_loadPart' hl,wpAny_loadPart' hb,wpAny_forIn_list _ (fun rest b s'=>b.1=none∧s'=⟨hp,g,d,tk,os⟩∧∃(vs ws:List Value) (ns' ms':List Int),rest=vs.zip ws∧
   IntsAre vs ns'∧IntsAre ws ms'∧ns'.length+items2.size=ms'.length+items.size∧R (.ok (.ret (.bool (lexLt ns' ms')))) ⟨hp,g,d,tk,os⟩) _
  case turn=>
   rintro ⟨y,x⟩ rest b s' ⟨hb',rfl,vs,ws,ns',ms',hz,hvi,hwi,hlen,hR⟩
   cases hvi with
   |nil=>rw [List.zip_nil_left] at hz;cases hz
   |cons a t hvi'=>
    cases hwi with
    |nil=>rw [List.zip_nil_right] at hz;cases hz
    |cons c u hwi'=>
     rw [List.zip_cons_cons] at hz
     injection hz with hyx hrest
     injection hyx with hy hx
     subst hy hx
     rw [lexLt_cons] at hR
     simp only [DF] at hlen
     obtain ⟨e,he,hiff⟩:=VV A.in1 ⟨hp,g,d,tk,os⟩ a t c u
     refine wpAny_bind (he prog w _ _ ?_)
     cases e with
     |true=>
      rw [if_pos (hiff.mp rfl)] at hR
      wp_walk
      exact ⟨rfl,rfl,_,_,_,_,hrest,hvi',hwi',by omega,hR⟩
     |false=>
      rw [if_neg (fun q=>absurd (hiff.mpr q) Bf)] at hR
      have hri:=VW A.in1 ⟨hp,g,d,tk,os⟩ a t c u prog w
      wp_walk using hri
      exact ⟨_,rfl,by simpa using hR⟩
  case fin=>
   rintro ⟨b1,b2⟩ s' ⟨hb',rfl,vs,ws,ns',ms',hz,hvi,hwi,hlen,hR⟩
   simp only at hb'
   subst hb'
   have hv:lexLt ns' ms'=decide (items.size<items2.size):=by
    cases hvi with
    |nil=>
     cases hwi with
     |nil=>
      simp only [Fg] at hlen
      rw [VS]
      exact (decide_eq_false (by omega)).symm
     |cons c u hw=>
      simp only [Fg,DF] at hlen
      rw [VT]
      exact (decide_eq_true (by omega)).symm
    |cons a t hv=>
     cases hwi with
     |nil=>
      simp only [Fg,DF] at hlen
      rw [VU]
      exact (decide_eq_false (by omega)).symm
     |cons c u hw=>
      rw [List.zip_cons_cons] at hz
      cases hz
   rw [hv] at hR
   wp_walk
   exact ⟨_,rfl,by simpa [Builtin.Tuple.tupleCompareSizes] using hR⟩
  case h=>
   exact ⟨rfl,rfl,items.toList,items2.toList,ns,ms,rfl,hi,hj,by omega,h⟩
end
section
variable {prog:Program} {w:World} {A:Around} {E:Value→Shared→Prop} {s:Shared}
theorem lt_tupInts {l b:Addr} {items items2:Array Value} {ns ms:List Int} {Q:Value→Shared→Prop} (hl:IsTup s.heap l items) (hb:IsTup s.heap b items2) (hi:IntsAre items.toList ns) (hj:IntsAre items2.toList ms)
 (hu:A.units<cLine) (h:Q (.bool (lexLt ns ms)) s):wpAny (model prog w) A (compareOp .Lt (.ref l) (.ref b)) Q E s:=by
 obtain ⟨⟨cls,dd,data,sl⟩,ho,hc,n,hd⟩:=id hl
 obtain ⟨⟨cls2,dd2,data2,sl2⟩,ho2,hc2,n2,hd2⟩:=id hb
 simp only at hc hd hc2 hd2
 subst hc hd hc2 hd2
 exact richCompare_meets_room (op:=.Lt) ⟨_,ho,rfl⟩ ⟨_,ho2,rfl⟩ PySem.F.slot_tuple_lt PySem.F.entry_tuple_lt (PySem.F.args_tuple_lt_2 _ _) (VX l b items items2 n n2 dd dd2 sl sl2 ns ms hi hj)
  ⟨ho,ho2,show Value.bool (lexLt ns ms)≠Value.notImplemented∧Q (.bool (lexLt ns ms)) s from ⟨(fun x=>nomatch x),h⟩⟩ hu
theorem cat_tup {t b:Addr} {vs ws:List Value} {Q:Value→Shared→Prop} (ht:IsTup s.heap t vs.toArray) (hb:IsTup s.heap b ws.toArray) (hv:vs≠[])
 (h1:ws=[]→Q (.ref t) s) (h2:ws≠[]→Q (.ref s.heap.objs.size) {s with heap:=s.heap.push {cls:=.type "tuple",data:=.seq (vs++ws).toArray}})
 (hsz:vs.length+ws.length≤sizeLine):wpAny (model prog w) A (binaryOp .Add (.ref t) (.ref b)) Q E s:=by
 obtain ⟨⟨cls,dd,data,sl⟩,ho,hc,n,hd⟩:=id ht
 obtain ⟨⟨cls2,dd2,data2,sl2⟩,ho2,hc2,n2,hd2⟩:=id hb
 simp only at hc hd hc2 hd2
 subst hc hd hc2 hd2
 have e:vs.toArray++ws.toArray=(vs++ws).toArray:=by simp
 by_cases hw:ws=[]
 ·exact concat_meets ⟨_,ho,rfl⟩ ⟨_,ho2,rfl⟩ noFill_tuple_add seq_tuple_add PySem.F.slot_tuple_add PySem.F.entry_tuple_add (PySem.F.args_tuple_add_2 _ _)
   (tuple_addW1 t b vs.toArray ws.toArray n n2 dd dd2 sl sl2 (by simpa using hv) (by simp [hw])) ⟨ho,ho2,h1 hw⟩
 ·refine concat_meets ⟨_,ho,rfl⟩ ⟨_,ho2,rfl⟩ noFill_tuple_add seq_tuple_add PySem.F.slot_tuple_add PySem.F.entry_tuple_add (PySem.F.args_tuple_add_2 _ _)
   (tuple_addW2 t b vs.toArray ws.toArray n n2 dd dd2 sl sl2 (by simpa using hv) (by simpa using hw) (by rw [AX,AX];exact hsz)) ⟨ho,ho2,?_⟩
  rw [e]
  exact h2 hw
def sIx (n d:Nat):Option Int→Nat
 |none=>d
 |some v=>if v<0 then (v+(n:Int)).toNat else min v.toNat n
theorem sIx_none (n d:Nat):sIx n d none=d:=rfl
theorem sIx_nat (n d k:Nat):sIx n d (some (k:Int))=min k n:=by
 show (if (k:Int)<0 then ((k:Int)+(n:Int)).toNat else min (k:Int).toNat n)=min k n
 rw [if_neg (by omega),HC]
theorem VY (n d:Nat) (hd:d≤n) (o:Option Int):sIx n d o≤n:=by
 cases o with
 |none=>exact hd
 |some v=>
  show (if v<0 then (v+(n:Int)).toNat else min v.toNat n)≤n
  by_cases hv:v<0
  ·rw [if_pos hv];omega
  ·rw [if_neg hv];exact Nat.min_le_right _ _
theorem Oj (v:Int) (n d:Nat):(if v<0 then max (v+(n:Int)) 0 else min v (n:Int))=((sIx n d (some v):Nat):Int):=by
 show (if v<0 then max (v+(n:Int)) 0 else min v (n:Int))=(((if v<0 then (v+(n:Int)).toNat else min v.toNat n):Nat):Int)
 by_cases hv:v<0
 ·simp only [if_pos hv];omega
 ·simp only [if_neg hv];omega
theorem VZ (lo hi:Option Int) (n:Nat):Builtin.Slice.sliceAdjust lo hi 1 (n:Int)=(((sIx n 0 lo:Nat):Int),((sIx n n hi:Nat):Int)):=by
 have h1:¬((1:Int)<0):=by omega
 unfold Builtin.Slice.sliceAdjust
 simp only [h1,if_false]
 refine Prod.ext ?_ ?_
 ·cases lo with
  |none=>rfl
  |some v=>exact Oj v n 0
 ·cases hi with
  |none=>rfl
  |some v=>exact Oj v n n
theorem V0 (i j:Nat):Builtin.Slice.slicePlaces (i:Int) (j:Int) 1=j - i:=by
 unfold Builtin.Slice.slicePlaces
 have h1:(1:Int)>0:=by omega
 simp only [h1,if_true,Int.ediv_one]
 split<;>omega
theorem Ol {v:Value} {o:Option Int} {Q:Option Int→Shared→Prop} (p:IsPart v o) (h:Q o s):wpAny (model prog w) A (Builtin.Slice.slicePartIndex v) Q E s:=by
 cases p with
 |none=>exact slicePart_none h
 |int i t=>exact slicePart_int h
theorem sliceApplied_gen {sl:Addr} {vl vu:Value} {lo hi:Option Int} {n:Nat} {Q:Int×Int×Nat→Shared→Prop} (hs:s.heap.IsSliceOf sl vl vu .none) (pl:IsPart vl lo) (pu:IsPart vu hi)
 (h:Q (((sIx n 0 lo:Nat):Int),1,sIx n n hi - sIx n 0 lo) s):wpAny (model prog w) A (Builtin.Slice.sliceApplied (.ref sl) (pure (n:Int))) Q E s:=by
 obtain ⟨os,hos,hcs,hds⟩:=id hs
 unfold Builtin.Slice.sliceApplied Builtin.Slice.sliceFields
 refine wpAny_bind (wpAny_bind (wpAny_field hos hds (x:=vl) rfl (wpAny_bind (wpAny_field hos hds (x:=vu) rfl (wpAny_bind (wpAny_field hos hds (x:=.none) rfl (wpAny_pure ?_)))))))
 refine wpAny_bind (slicePart_none ?_)
 show wpAny _ _ (if ((1:Int)==0)=true then _ else _) _ _ s
 rw [if_neg (by decide)]
 refine wpAny_bind (Ol pl (wpAny_bind (Ol pu (wpAny_bind (wpAny_pure ?_)))))
 show wpAny _ _ (match Builtin.Slice.sliceAdjust lo hi 1 (n:Int) with |(lo,hi)=>pure (lo,(1:Int),Builtin.Slice.slicePlaces lo hi 1)) _ _ s
 rw [VZ lo hi n]
 show wpAny _ _ (pure (((sIx n 0 lo:Nat):Int),(1:Int),Builtin.Slice.slicePlaces ((sIx n 0 lo:Nat):Int) ((sIx n n hi:Nat):Int) 1)) _ _ s
 rw [V0]
 exact wpAny_pure h
theorem V1 (xs:Array Value) (i k:Nat):((List.range k).filterMap fun (m:Nat)=>xs[((i:Int)+(m:Int)*1).toNat]?).toArray=((xs.toList.drop i).take k).toArray:=by
 have e:(fun (m:Nat)=>xs[((i:Int)+(m:Int)*1).toNat]?)=fun m=>xs[i+m]?:=by
  funext m
  have:((i:Int)+(m:Int)*1).toNat=i+m:=by omega
  rw [this]
 rw [e]
 have:=pick_run xs i k
 rw [List.filterMap_map] at this
 have e2:((fun x=>xs[x]?)∘fun x=>i+x)=fun m=>xs[i+m]?:=rfl
 rw [e2] at this
 rw [this]
theorem getItem_tuple_cut {t sl:Addr} {items:Array Value} {vl vu:Value} {lo hi:Option Int} {Q:Value→Shared→Prop} (ht:IsTup s.heap t items) (hs:s.heap.IsSliceOf sl vl vu .none) (pl:IsPart vl lo) (pu:IsPart vu hi)
 (hw:¬(sIx items.size 0 lo=0∧sIx items.size items.size hi=items.size))
 (h:Q (.ref s.heap.objs.size) {s with heap:=s.heap.push {cls:=.type "tuple",data:=.seq ((items.toList.drop (sIx items.size 0 lo)).take (sIx items.size items.size hi - sIx items.size 0 lo)).toArray}})
 (hsz:items.size≤sizeLine):wpAny (model prog w) A (getItem (.ref t) (.ref sl)) Q E s:=by
 have htake:sizeOk (.seq ((items.toList.drop (sIx items.size 0 lo)).take (sIx items.size items.size hi - sIx items.size 0 lo)).toArray):=by
  show ((items.toList.drop (sIx items.size 0 lo)).take (sIx items.size items.size hi - sIx items.size 0 lo)).toArray.size≤sizeLine
  rw [AX,HE,List.length_drop,Array.length_toList]
  omega
 have hj:sIx items.size items.size hi≤items.size:=VY _ _ (Ax _) hi
 obtain ⟨os,hos,hcs,hds⟩:=id hs
 have hTs:s.TypeIs (.ref sl) "slice":=⟨os,hos,hcs⟩
 unfold getItem
 try with_reducible refine wpAny_holding ?_
 first |refine wpAny_bind (wpAny_pure ?_) |skip
 refine wpAny_bind (wpAny_sequenceKey ht.typeIs (by decide) ?_)
 refine wpAny_bind (wpAny_callSpecial?_slot (name:=Str.ofString "__getitem__") ht.typeIs PyProof.Rows.slot_tuple_getitem
  (wpAny_call_entry PyProof.Rows.slot_tuple_getitem ht.typeIs entry_tuple_getitem ?_ (args_tuple_getitem _ _)))
 show wpAny _ _ (Builtin.Tuple.tupleItemsOf (.ref t) >>=_) _ _ s
 refine wpAny_bind (tupleItemsOf_ ht ?_)
 refine wpAny_bind (wpAny_typeOf hTs ?_)
 rw [if_pos (by decide)]
 refine wpAny_bind (sliceApplied_gen hs pl pu ?_)
 have hno:¬((((sIx items.size 0 lo:Nat):Int)==0&&(1:Int)==1&&(sIx items.size items.size hi - sIx items.size 0 lo)==items.size)=true):=by
  intro q
  rw [BS,BS] at q
  have q1:((sIx items.size 0 lo:Nat):Int)=0:=eq_of_beq q.1.1
  have q2:sIx items.size items.size hi - sIx items.size 0 lo=items.size:=eq_of_beq q.2
  exact hw ⟨by omega,by omega⟩
 show wpAny _ _ (if (((sIx items.size 0 lo:Nat):Int)==0&&(1:Int)==1&&(sIx items.size items.size hi - sIx items.size 0 lo)==items.size)=true then _ else _) _ _ s
 rw [if_neg hno,V1]
 first
  |exact wpAny_bind (m:=Builtin.Tuple.tupleExact _) (wpAny_newObj_type (wpAny_pure ⟨_,rfl,wpAny_pure h⟩) htake)
  |exact wpAny_bind (m:=Builtin.Tuple.tupleExact _) (wpAny_newObj_type (wpAny_bind (wpAny_pure (wpAny_pure ⟨_,rfl,wpAny_pure h⟩))) htake)
  |exact wpAny_bind (wpAny_bind (m:=Builtin.Tuple.tupleExact _) (wpAny_newObj_type (wpAny_pure (wpAny_pure ⟨_,rfl,wpAny_pure h⟩)) htake))
  |exact wpAny_bind (wpAny_bind (m:=Builtin.Tuple.tupleExact _) (wpAny_newObj_type (wpAny_pure ⟨_,rfl,wpAny_pure h⟩) htake))
end
end HT
namespace L2
open PySem PySem.Spec PyProof.Rows
abbrev TO:=St→Hp→(Option Int→Hp→Prop)→Prop
def PO (X:Cx) (e:Option Expr) (t:TO):Prop:=
 ∀(pins:List (Addr×Obj)) (s:Shared) (σ:St) (H:Hp) (Q:Option Int→Hp→Prop),Inv X pins σ H s→t σ H Q→
  wpAny (model X.prog X.w) X.A (evalPart e X.env) (fun u s'=>∃o H',Inv X pins σ H' s'∧IsPart u o∧Q o H') X.xe s
def V2:TO:=fun _ H Q=>Q none H
def V3 (t:TE):TO:=fun σ H Q=>t σ H fun x H1=>∃i,x=.int i∧Q (some i) H1
theorem Om {ns:List Int}:∀{us:List Value},Vals (ns.map V.int) us→IntsAre us ns:=by
 induction ns with
 |nil=>intro us r;rw [GL] at r;cases r;exact .nil
 |cons n ns ih=>
  intro us r
  rw [BE] at r
  cases r with
  |cons r1 r2=>
   obtain ⟨t,e⟩:=r1
   subst e
   exact .cons n t (ih r2)
section
variable {X:Cx} {e:Expr} {te:TE} {lo hi:Option Expr} {tl th:TO} {pos p2:Pos}
theorem V4:PO X none V2:=by
 intro pins s σ H Q I h
 rw [evalPart_none]
 exact wpAny_pure ⟨none,H,I,.none,h⟩
theorem V5 (h:PE X e te):PO X (some e) (V3 te):=by
 intro pins s σ H Q I hw
 rw [evalPart_some]
 refine Ay (h pins s σ H _ I hw) fun u s1 z84_=>?_
 obtain ⟨x,H1,I1,r1,q1⟩:=z84_
 obtain ⟨i,rfl,q⟩:=q1
 obtain ⟨t,rfl⟩:=r1
 exact ⟨some i,H1,I1,.int i t,q⟩
def SlR (X:Cx) (r:V→Option Int→Option Int→Hp→VK→Prop):Prop:=
 ∀(pins:List (Addr×Obj)) (s:Shared) (σ:St) (H:Hp) (x:V) (v vl vu:Value) (lo hi:Option Int) (sl:Addr) (Q:VK),Inv X pins σ H s→RelV x v→s.heap.IsSliceOf sl vl vu .none→IsPart vl lo→IsPart vu hi→r x lo hi H Q→
  ∃T id,typeLookup (.type T) "__getitem__"=pure (some (.builtin id))∧s.TypeIs v T∧wpAny (model X.prog X.w) X.A (getItem v (.ref sl)) (EP X pins σ Q) X.xe s
theorem SlR.or {r r':V→Option Int→Option Int→Hp→VK→Prop} (h:SlR X r) (h':SlR X r'):SlR X (fun x lo hi H Q=>r x lo hi H Q∨r' x lo hi H Q):=by
 intro pins s σ H x v vl vu lo hi sl Q I rx hs pl pu q
 rcases q with q |q
 ·exact h pins s σ H x v vl vu lo hi sl Q I rx hs pl pu q
 ·exact h' pins s σ H x v vl vu lo hi sl Q I rx hs pl pu q
def V6 (r:V→Option Int→Option Int→Hp→VK→Prop) (te:TE) (tl th:TO):TE:=fun σ H Q=>te σ H fun x H1=>tl σ H1 fun l H2=>th σ H2 fun u H3=>r x l u H3 Q
theorem V7 {r:V→Option Int→Option Int→Hp→VK→Prop} (hr:SlR X r) (he:PE X e te) (hl:PO X lo tl) (hu:PO X hi th):PE X (.Subscript e (.Slice lo hi none p2) pos) (V6 r te tl th):=by
 intro pins s σ H Q I h
 refine Subscript_ (Ay (he pins s σ H _ I h) fun v s1 z85_=>?_)
 obtain ⟨x,H1,I1,r1,q1⟩:=z85_
 refine wpAny_Slice (Ay (hl pins s1 σ H1 _ I1 q1) ?_)
 rintro vl s2 ⟨l,H2,I2,pl,q2⟩
 refine Ay (hu pins s2 σ H2 _ I2 q2) fun vu s3 z87_=>?_
 obtain ⟨u,H3,I3,pu,q3⟩:=z87_
 rw [evalPart_none]
 refine wpAny_pure ?_
 have I4:Inv X pins σ H3 {s3 with heap:=s3.heap.push {cls:=.type "slice",data:=.fields #[vl,vu,.none]}}:=I3.kept (t':=s3.toks) fun b ob q=>AG _ q
 obtain ⟨T,id,hT,ht,hg⟩:=hr pins {s3 with heap:=s3.heap.push {cls:=.type "slice",data:=.fields #[vl,vu,.none]}} σ H3 x v vl vu l u s3.heap.objs.size Q I4 r1 (Heap.IsSliceOf.new ..) pl pu q3
 show wpAny (model X.prog X.w) X.A (subscriptTail e (.Slice lo hi none p2) v (.ref s3.heap.objs.size)) (EP X pins σ Q) X.xe {s3 with heap:=s3.heap.push {cls:=.type "slice",data:=.fields #[vl,vu,.none]}}
 exact tail_any (ops:=[.ref s3.heap.objs.size,v]) ht hT hg (by with_unfolding_all rfl)
def GO (xs:List V) (lo hi:Option Int):List V:=(xs.drop (HT.sIx xs.length 0 lo)).take (HT.sIx xs.length xs.length hi - HT.sIx xs.length 0 lo)
theorem V8 (xs:List V) (lo hi:Option Int):(GO xs lo hi).length≤xs.length:=by
 unfold GO
 rw [HE,List.length_drop]
 omega
def V9 (K:PySem.W.Frag):V→Option Int→Option Int→Hp→VK→Prop:=fun x lo hi H Q=>∃a xs,x=.ref a∧SqT K H a xs∧
 ¬(HT.sIx xs.length 0 lo=0∧HT.sIx xs.length xs.length hi=xs.length)∧∀p,H p=none→Q (.ref p) (Ao H p (.tup (GO xs lo hi)))
theorem Wa:SlR X (V9 X.K):=by
 intro pins s σ H x v vl vu lo hi sl Q I rx hs pl pu h
 obtain ⟨a,xs,rfl,hx,hw,q⟩:=h
 cases rx
 obtain ⟨its,r,ht,hz⟩:=I.tuple hx
 have hlen:its.toArray.size=xs.length:=by rw [AX];exact r.length.symm
 refine ⟨"tuple",_,PyProof.Rows.slot_tuple_getitem.lookup,ht.typeIs,?_⟩
 refine HT.getItem_tuple_cut ht hs pl pu (by rw [hlen];exact hw) ?_ (by rw [hlen];exact hz)
 rw [hlen]
 refine ⟨.ref s.heap.objs.size,_,I.laid (t':=s.toks) (o:=.tup (GO xs lo hi)) (fun b ob q=>AG _ q) (Ax _) ?_,rfl,q _ (I.hok.fresh (Ax _))⟩
 exact ⟨BU (V8 xs lo hi) hz,_,(r.drop (HT.sIx xs.length 0 lo)).take (HT.sIx xs.length xs.length hi - HT.sIx xs.length 0 lo),IsTup.new _ _,NoDict.new⟩
def Wb (K:PySem.W.Frag):R2:=fun x y H Q=>∃a b ns ms,x=.ref a∧y=.ref b∧SqT K H a (ns.map V.int)∧SqT K H b (ms.map V.int)∧Q (.bl (HT.lexLt ns ms)) H
theorem Wc (hu:X.A.units<cLine):OpR X (compareOp .Lt) (Wb X.K):=by
 intro pins s σ H x y v u Q I rx ry h
 obtain ⟨a,b,ns,ms,rfl,rfl,ha,hb,q⟩:=h
 cases rx
 cases ry
 obtain ⟨its,r1,p1,_⟩:=I.tuple ha
 obtain ⟨its2,r2,p2,_⟩:=I.tuple hb
 have i1:IntsAre its.toArray.toList ns:=Om r1
 have i2:IntsAre its2.toArray.toList ms:=Om r2
 exact HT.lt_tupInts p1 p2 i1 i2 hu ⟨.bl (HT.lexLt ns ms),H,I,rfl,q⟩
def Wd (K:PySem.W.Frag):R2:=fun x y H Q=>∃a b xs ys,x=.ref a∧y=.ref b∧SqT K H a xs∧SqT K H b ys∧xs≠[]∧xs.length+ys.length≤sizeLine∧
 (ys=[]→Q (.ref a) H)∧(ys≠[]→∀p,H p=none→Q (.ref p) (Ao H p (.tup (xs++ys))))
theorem Vals.nil_iff {xs:List V} {us:List Value} (r:Vals xs us):us=[]↔xs=[]:=by
 cases r with
 |nil=>simp
 |cons _ _=>simp
theorem op_catT:OpR X (binaryOp .Add) (Wd X.K):=by
 intro pins s σ H x y v u Q I rx ry h
 obtain ⟨a,b,xs,ys,rfl,rfl,ha,hb,hx,hz,q1,q2⟩:=h
 cases rx
 cases ry
 obtain ⟨its,r1,p1,_⟩:=I.tuple ha
 obtain ⟨its2,r2,p2,_⟩:=I.tuple hb
 refine HT.cat_tup p1 p2 (fun z=>hx (r1.nil_iff.mp z)) (fun z=>⟨.ref a,H,I,rfl,q1 (r2.nil_iff.mp z)⟩) (fun z=>?_) (by rw [←r1.length,←r2.length];exact hz)
 refine ⟨.ref s.heap.objs.size,_,I.laid (t':=s.toks) (o:=.tup (xs++ys)) (fun b ob q=>AG _ q) (Ax _) ?_,rfl,q2 (fun w=>z (r2.nil_iff.mpr w)) _ (I.hok.fresh (Ax _))⟩
 exact ⟨by rw [CY];exact hz,_,r1.append r2,IsTup.new _ _,NoDict.new⟩
end
def Cz (n:Nat) (i:Int):Option Nat:=if 0≤i then (if i<n then some i.toNat else none) else if -(n:Int)≤i then some (i+n).toNat else none
def BZ {α:Type} (xs:List α) (i:Int):Option α:=(Cz xs.length i).bind fun j=>xs[j]?
theorem On {n:Nat} {i:Int} {j:Nat} (h:Cz n i=some j):seqIndex? i n=some j∧j<n∧-(n:Int)≤i∧i<n:=by
 unfold Cz at h
 by_cases h0:0≤i
 ·rw [if_pos h0] at h
  by_cases h1:i<n
  ·rw [if_pos h1] at h
   have e:i.toNat=j:=Option.some.inj h
   exact ⟨by rw [seqIndex_of h0 h1,e],by omega,by omega,h1⟩
  ·rw [if_neg h1] at h;cases h
 ·rw [if_neg h0] at h
  by_cases h1:-(n:Int)≤i
  ·rw [if_pos h1] at h
   have e:(i+n).toNat=j:=Option.some.inj h
   exact ⟨by rw [seqIndex_neg (by omega) h1,e],by omega,h1,by omega⟩
  ·rw [if_neg h1] at h;cases h
theorem Oo {α:Type} {xs:List α} {i:Int} {v:α} (h:BZ xs i=some v):∃j,seqIndex? i xs.length=some j∧xs[j]?=some v∧j<xs.length∧-(xs.length:Int)≤i∧i<xs.length:=by
 unfold BZ at h
 cases e:Cz xs.length i with
 |none=>rw [e] at h;cases h
 |some j=>
  rw [e] at h
  obtain ⟨h1,h2,h3,h4⟩:=On e
  exact ⟨j,h1,h,h2,h3,h4⟩
def Lz (b:Expr):Prop:=∀o i,subscripted b false o i=operate [o,i] (getItem o i)
def IxR (X:Cx) (r:R2):Prop:=
 ∀(value slice:Expr) (pins:List (Addr×Obj)) (s:Shared) (σ:St) (H:Hp) (x y:V) (v u:Value) (Q:VK),Inv X pins σ H s→RelV x v→RelV y u→r x y H Q→
  subscripted slice false v u=operate [v,u] (getItem v u)→wpAny (model X.prog X.w) X.A (subscriptTail value slice v u) (EP X pins σ Q) X.xe s
def JH (X:Cx) (id:String) (r:V→List V→Hp→VK→Prop):Prop:=
 ∀(pins:List (Addr×Obj)) (s:Shared) (σ:St) (H:Hp) (x:V) (xs:List V) (v:Value) (us:List Value) (Q:VK),Inv X pins σ H s→RelV x v→Vals xs us→r x xs H Q→
  wpAny (model X.prog X.w) X.A (call (.builtin id) (v::us)) (EP X pins σ Q) X.xe s
section
variable {X:Cx} {a b:Expr} {ta tb:TE} {pos:Pos}
theorem IxR.or {r r':R2} (h:IxR X r) (h':IxR X r'):IxR X (fun x y H Q=>r x y H Q∨r' x y H Q):=by
 intro value slice pins s σ H x y v u Q I rx ry q hs
 rcases q with q |q
 ·exact h value slice pins s σ H x y v u Q I rx ry q hs
 ·exact h' value slice pins s σ H x y v u Q I rx ry q hs
theorem Oq {r:R2} (hr:IxR X r) (ha:PE X a ta) (hb:PE X b tb) (hs:Lz b):PE X (.Subscript a b pos) (JC r ta tb):=by
 intro pins s σ H Q I h
 exact Subscript_ (Lr ha hb I h fun v u s2 x y H2 I2 rx ry q=>hr a b pins s2 σ H2 x y v u Q I2 rx ry q (hs _ _))
def Wf (K:PySem.W.Frag):R2:=fun x y H Q=>∃p xs i v,x=.ref p∧y=.int i∧SqL K H p xs∧BZ xs i=some v∧Q v H
def Wg (K:PySem.W.Frag):R2:=fun x y H Q=>∃p xs i v,x=.ref p∧y=.int i∧SqT K H p xs∧BZ xs i=some v∧Q v H
theorem ix_list:IxR X (Wf X.K):=by
 intro value slice pins s σ H x y v u Q I rx ry h hs
 obtain ⟨p,xs,i,z,rfl,rfl,hq,he,q⟩:=h
 cases rx
 obtain ⟨t,rfl⟩:=ry
 obtain ⟨its,r,pl,hz⟩:=I.list hq
 obtain ⟨j,h1,h2,h3,h4,h5⟩:=Oo he
 obtain ⟨w,ew,rw'⟩:=r.get h2
 have hl:=r.length
 have hn:=GN
 have fin:EP X pins σ Q w s:=⟨z,H,I,rw',q⟩
 by_cases h0:0≤i
 ·have hj:i.toNat=j:=by
   rw [seqIndex_of h0 h5] at h1
   exact Option.some.inj h1
  exact item_listR pl.isList h0 (by omega) (by rw [hj];simpa using ew) fin hs
 ·have hj:(i+(its.toArray.size:Int)).toNat=j:=by
   rw [seqIndex_neg (by omega) h4] at h1
   rw [AX,←hl]
   exact Option.some.inj h1
  exact subscriptTail_builtinR (x:=w) pl.isList.typeIs slot_list_getitem.lookup
   (wpAny_getItem_list_neg (Q:=fun r s'=>r=w∧EP X pins σ Q r s') pl.isList (by omega) (by rw [AX]<;>omega) (by omega) (by rw [hj];simpa using ew) ⟨rfl,fin⟩) hs
theorem ix_tup:IxR X (Wg X.K):=by
 intro value slice pins s σ H x y v u Q I rx ry h hs
 obtain ⟨p,xs,i,z,rfl,rfl,hq,he,q⟩:=h
 cases rx
 obtain ⟨t,rfl⟩:=ry
 obtain ⟨its,r,pl,hz⟩:=I.tuple hq
 obtain ⟨j,h1,h2,h3,h4,h5⟩:=Oo he
 obtain ⟨w,ew,rw'⟩:=r.get h2
 have hl:=r.length
 have hn:=GN
 have fin:EP X pins σ Q w s:=⟨z,H,I,rw',q⟩
 exact subscriptTail_builtinR (x:=w) pl.typeIs slot_tuple_getitem.lookup
  (getItem_tuple (j:=j) (Q:=fun r s'=>r=w∧EP X pins σ Q r s') pl (by omega) (by omega) (by rw [AX,←hl];exact h1) (by simpa using ew) ⟨rfl,fin⟩) hs
theorem Wh (its:List Value) (n j:Nat) (u:Value):Obj.mapSeq (·.setIfInBounds j u) {cls:=.type "list",data:=.seq its.toArray n}={cls:=.type "list",data:=.seq (its.set j u).toArray n}:=by
 simp [Obj.mapSeq]
theorem Inv.lst {pins:List (Addr×Obj)} {σ:St} {H:Hp} {s:Shared} {p:Addr} {xs:List V} (I:Inv X pins σ H s) (h:H p=some (.lst xs)):
 ∃(its:List Value) (n:Nat),Vals xs its∧s.heap.get? p=some {cls:=.type "list",data:=.seq its.toArray n}∧xs.length≤sizeLine:=by
 obtain ⟨z,its,n,r,e⟩:=I.hok p _ h
 exact ⟨its,n,r,e,z⟩
theorem Inv.lstUpd {pins:List (Addr×Obj)} {σ:St} {H:Hp} {s:Shared} {p:Addr} {xs ys:List V} {its its':List Value} {n n':Nat} {f:Obj→Obj} (I:Inv X pins σ H s) (h:H p=some (.lst xs))
 (ho:s.heap.get? p=some {cls:=.type "list",data:=.seq its.toArray n}) (hf:f {cls:=.type "list",data:=.seq its.toArray n}={cls:=.type "list",data:=.seq its'.toArray n'}) (r:Vals ys its') (hz:ys.length≤sizeLine) (t:Nat):
 Inv X pins σ (Ao H p (.lst ys)) {s with heap:=s.heap.update p f,toks:=t}:=by
 have e:(s.heap.update p f).get? p=some {cls:=.type "list",data:=.seq its'.toArray n'}:=by
  rw [Li f ho (by rw [hf]<;>rfl),hf]
 refine I.write (x:=p) (e:=p) (by rw [h];trivial) (.inl rfl) (fun b u hb q=>(Lh _ _ (Ne.symm hb)).trans q) ⟨_,e⟩ ?_
 exact ⟨hz,its',n',r,e⟩
def Wi:V→V→V→Hp→(Hp→Prop)→Prop:=fun o i v H Q=>∃p xs k j,o=.ref p∧i=.int k∧H p=some (.lst xs)∧Cz xs.length k=some j∧Q (Ao H p (.lst (xs.set j v)))
theorem Wj:Jx X Wi:=by
 intro pins s σ H o i v ov iv u Q I ro ri rv h
 obtain ⟨p,xs,k,j,rfl,rfl,hp,hj,q⟩:=h
 cases ro
 obtain ⟨t,rfl⟩:=ri
 obtain ⟨its,n,r,ho,hz⟩:=I.lst hp
 obtain ⟨h1,h2,h3,h4⟩:=On hj
 have hl:=r.length
 have hn:=GN
 have I':Inv X pins σ (Ao H p (.lst (xs.set j v))) {s with heap:=s.heap.update p (Obj.mapSeq (·.setIfInBounds j u))}:=
  I.lstUpd hp ho (Wh its n j u) (r.set rv j) (by rw [List.length_set];exact hz) s.toks
 by_cases h0:0≤k
 ·have hk:k.toNat=j:=by
   rw [seqIndex_of h0 h4] at h1
   exact Option.some.inj h1
  exact PySem.W.ki_setAt ho h0 (by omega) (by rw [AX,←hl];exact h4) (by rw [hk];exact ⟨_,I',q⟩)
 ·have hk:(k+(its.toArray.size:Int)).toNat=j:=by
   rw [seqIndex_neg (by omega) h3] at h1
   rw [AX,←hl]
   exact Option.some.inj h1
  exact PySem.W.ki_setBack ho (by omega) (by rw [AX,←hl];exact h3) (by omega) (by rw [hk];exact ⟨_,I',q⟩)
def Dq:V→Bool
 |.non=>true
 |.bl _=>true
 |.int _=>true
 |.str _=>true
 |_=>false
def Df:V→V→Bool
 |.non,.non=>true
 |.bl a,.bl b=>a==b
 |.bl a,.int b=>(if a then 1 else 0)==b
 |.int a,.bl b=>a==(if b then 1 else 0)
 |.int a,.int b=>a==b
 |.str a,.str b=>a==b
 |_,_=>false
theorem Wk {A:Around} {s:Shared} {y x:V} {u v:Value} (ry:RelV y u) (rx:RelV x v) (fy:Dq y=true) (fx:Dq x=true):SeqAt.EqAt A s u v (Df y x):=by
 cases y with
 |non=>
  cases ry
  cases x with
  |non=>cases rx;exact SeqAt.EqAt.same _
  |bl b=>cases rx;exact SeqAt.EqAt.none_bool b
  |int b=>obtain ⟨t,rfl⟩:=rx;exact SeqAt.EqAt.none_int b t
  |str b=>obtain ⟨t,rfl⟩:=rx;exact SeqAt.EqAt.none_str b t
  |_=>exact absurd (show false=true from fx) Bf
 |bl a=>
  cases ry
  cases x with
  |non=>cases rx;exact SeqAt.EqAt.bool_none a
  |bl b=>cases rx;exact SeqAt.EqAt.bool_bool a b
  |int b=>obtain ⟨t,rfl⟩:=rx;exact SeqAt.EqAt.bool_int a b t
  |str b=>obtain ⟨t,rfl⟩:=rx;exact SeqAt.EqAt.bool_str a b t
  |_=>exact absurd (show false=true from fx) Bf
 |int a=>
  obtain ⟨t',rfl⟩:=ry
  cases x with
  |non=>cases rx;exact SeqAt.EqAt.int_none a t'
  |bl b=>cases rx;exact SeqAt.EqAt.int_bool a t' b
  |int b=>obtain ⟨t,rfl⟩:=rx;exact SeqAt.EqAt.int_int a t' b t
  |str b=>obtain ⟨t,rfl⟩:=rx;exact SeqAt.EqAt.int_str a t' b t
  |_=>exact absurd (show false=true from fx) Bf
 |str a=>
  obtain ⟨t',rfl⟩:=ry
  cases x with
  |non=>cases rx;exact SeqAt.EqAt.str_none a t'
  |bl b=>cases rx;exact SeqAt.EqAt.str_bool a t' b
  |int b=>obtain ⟨t,rfl⟩:=rx;exact SeqAt.EqAt.str_int a t' b t
  |str b=>obtain ⟨t,rfl⟩:=rx;exact SeqAt.EqAt.str_str a t' b t
  |_=>exact absurd (show false=true from fx) Bf
 |_=>exact absurd (show false=true from fy) Bf
def B0 (x:V) (u:Value):Bool:=match u with
 |.none=>Df .non x
 |.bool b=>Df (.bl b) x
 |.int i _=>Df (.int i) x
 |.str z _=>Df (.str z) x
 |_=>false
theorem JI {x y:V} {u:Value} (r:RelV y u) (f:Dq y=true):B0 x u=Df y x:=by
 cases y with
 |non=>cases r;rfl
 |bl b=>cases r;rfl
 |int i=>obtain ⟨t,rfl⟩:=r;rfl
 |str z=>obtain ⟨t,rfl⟩:=r;rfl
 |_=>exact absurd (show false=true from f) Bf
theorem HU {x:V}:∀{xs:List V} {us:List Value},Vals xs us→xs.all Dq=true→us.any (B0 x)=xs.any fun y=>Df y x
 |_,_,.nil,_=>rfl
 |y::xs,u::us,.cons r t,f=>by
  rw [FW,BS] at f
  rw [GK,GK,JI r f.1,HU t f.2]
theorem Fp {A:Around} {s:Shared} {x:V} {v:Value} (rx:RelV x v) (fx:Dq x=true):∀{xs:List V} {us:List Value},Vals xs us→xs.all Dq=true→∀u∈us,SeqAt.EqAt A s u v (B0 x u)
 |_,_,.nil,_=>fun u hu=>by cases hu
 |y::xs,u::us,.cons r t,f=>fun u' hu=>by
  rw [FW,BS] at f
  rcases qa5.mp hu with rfl |hu
  ·rw [JI r f.1];exact Wk r rx f.1 fx
  ·exact Fp rx fx t f.2 u' hu
def GP (x:V) (xs:List V):Bool:=xs.any fun y=>Df y x
def LA (K:PySem.W.Frag) (neg:Bool):R2:=fun x y H Q=>∃p xs,y=.ref p∧(SqL K H p xs∨SqT K H p xs)∧Dq x=true∧xs.all Dq=true∧Q (.bl (if neg then !GP x xs else GP x xs)) H
theorem Wl:OpR X (compareOp .In) (LA X.K false):=by
 intro pins s σ H x y v u Q I rx ry h
 obtain ⟨p,xs,rfl,hq,fx,fs,q⟩:=h
 cases ry
 rcases hq with hq |hq
 ·obtain ⟨its,r,pl,hz⟩:=I.list hq
  refine SeqAt.in_listAt (B0 x) pl.isList (fun w hw=>Fp rx fx r fs w (by simpa using hw)) ⟨.bl _,H,I,rfl,?_⟩
  rw [show its.toArray.any (B0 x)=its.any (B0 x) by simp,HU r fs]
  exact q
 ·obtain ⟨its,r,pl,hz⟩:=I.tuple hq
  refine SeqAt.in_tupleAt (B0 x) pl (fun w hw=>Fp rx fx r fs w (by simpa using hw)) ⟨.bl _,H,I,rfl,?_⟩
  rw [show its.toArray.any (B0 x)=its.any (B0 x) by simp,HU r fs]
  exact q
theorem Wm:OpR X (compareOp .NotIn) (LA X.K true):=by
 intro pins s σ H x y v u Q I rx ry h
 obtain ⟨p,xs,rfl,hq,fx,fs,q⟩:=h
 cases ry
 rcases hq with hq |hq
 ·obtain ⟨its,r,pl,hz⟩:=I.list hq
  refine SeqAt.notIn_listAt (B0 x) pl.isList (fun w hw=>Fp rx fx r fs w (by simpa using hw)) ⟨.bl _,H,I,rfl,?_⟩
  rw [show its.toArray.any (B0 x)=its.any (B0 x) by simp,HU r fs]
  exact q
 ·obtain ⟨its,r,pl,hz⟩:=I.tuple hq
  refine SeqAt.notIn_tupleAt (B0 x) pl (fun w hw=>Fp rx fx r fs w (by simpa using hw)) ⟨.bl _,H,I,rfl,?_⟩
  rw [show its.toArray.any (B0 x)=its.any (B0 x) by simp,HU r fs]
  exact q
theorem Wn:De X (.builtin "len") (fun xs H Q=>∃p ys,xs=[.ref p]∧(SqL X.K H p ys∨SqT X.K H p ys)∧Q (.int ys.length) H):=by
 intro pins s σ H xs us Q I r h
 obtain ⟨p,ys,rfl,hq,q⟩:=h
 obtain ⟨u,rfl,rx⟩:=DH r
 cases rx
 have hn:=GN
 rcases hq with hq |hq
 ·obtain ⟨its,r',pl,hz⟩:=I.list hq
  have hlen:=r'.length
  exact Calls.call_len_list pl.isList (by simp only [AX]<;>omega) ⟨.int ys.length,H,I.tok _,⟨s.toks+1,by rw [AX,hlen]⟩,q⟩
 ·obtain ⟨its,r',pl,hz⟩:=I.tuple hq
  have hlen:=r'.length
  exact len_tuple pl (by simp only [AX]<;>omega) ⟨.int ys.length,H,I.tok _,⟨s.toks+1,by rw [AX,hlen]⟩,q⟩
theorem Wo:De X (.type "list") (fun xs H Q=>∃p ys,xs=[.ref p]∧(SqL X.K H p ys∨SqT X.K H p ys)∧∀l,H l=none→Q (.ref l) (Ao H l (.lst ys))):=by
 intro pins s σ H xs us Q I r h
 obtain ⟨p,ys,rfl,hq,q⟩:=h
 obtain ⟨u,rfl,rx⟩:=DH r
 cases rx
 have fin:∀(its:List Value),Vals ys its→ys.length≤sizeLine→∀(h':Heap) (c':Nat),(∀b o',s.heap.get? b=some o'→h'.get? b=some o')→
  h'.get? s.heap.objs.size=some {cls:=.type "list",dict:=none,data:=.seq its.toArray c',slots:=#[]}→EP X pins σ Q (.ref s.heap.objs.size) {s with heap:=h'}:=fun its r' hz h' c' kp e=>
  ⟨.ref s.heap.objs.size,_,I.laid (t':=s.toks) kp (Ax _) (show ObjOk X.prog X.w _ h' _ (.lst ys) from ⟨hz,its,c',r',e⟩),rfl,q _ (I.hok.fresh (Ax _))⟩
 rcases hq with hq |hq
 ·obtain ⟨its,r',pl,hz⟩:=I.list hq
  have hlen:=r'.length
  obtain ⟨o,ho,hc,n,hd⟩:=pl.isList
  exact call_list_seq p (.inl rfl) ho hc hd (fun h' c' kp e=>fin its r' hz h' c' kp e) (by simp only [AX]<;>omega)
 ·obtain ⟨its,r',pl,hz⟩:=I.tuple hq
  have hlen:=r'.length
  obtain ⟨o,ho,hc,n,hd⟩:=pl
  exact call_list_seq p (.inr rfl) ho hc hd (fun h' c' kp e=>fin its r' hz h' c' kp e) (by simp only [AX]<;>omega)
theorem Wq:De X (.type "tuple") (fun xs H Q=>∃p ys,xs=[.ref p]∧((SqL X.K H p ys∧∀l,H l=none→Q (.ref l) (Ao H l (.tup ys)))∨(SqT X.K H p ys∧Q (.ref p) H))):=by
 intro pins s σ H xs us Q I r h
 obtain ⟨p,ys,rfl,h⟩:=h
 obtain ⟨u,rfl,rx⟩:=DH r
 cases rx
 rcases h with ⟨hq,q⟩ |⟨hq,q⟩
 ·obtain ⟨its,r',pl,hz⟩:=I.list hq
  have hlen:=r'.length
  refine call_tuple_list pl.isList (fun h' kp=>?_) (by simp only [AX]<;>omega)
  have I1:Inv X pins σ H {s with heap:=h'}:=I.kept (t':=s.toks) kp
  have I2:Inv X pins σ (Ao H h'.objs.size (.tup ys)) {s with heap:=h'.push {cls:=.type "tuple",data:=.seq its.toArray}}:=
   I1.laid (t':=s.toks) (fun b o e=>AG _ e) (Ax _) (show ObjOk X.prog X.w _ _ _ (.tup ys) from ⟨hz,its,r',IsTup.new _ _,NoDict.new⟩)
  exact ⟨.ref h'.objs.size,_,I2,rfl,q _ (I1.hok.fresh (Ax _))⟩
 ·obtain ⟨its,r',pl,hz⟩:=I.tuple hq
  exact call_tuple_same pl ⟨.ref p,H,I,rfl,q⟩
def LC (K:PySem.W.Frag) (T:String) (x:V) (H:Hp):Prop:=match x with
 |.str _=>T="str"
 |.int _=>T="int"
 |.ref p=>(T="list"∧∃xs,SqL K H p xs)∨(T="tuple"∧∃o,K.lookup p=some o∧o.cls=.type "tuple"∧o.dict=none)
 |_=>False
theorem LD {pins:List (Addr×Obj)} {σ:St} {H:Hp} {s:Shared} {T:String} {x:V} {v:Value} (I:Inv X pins σ H s) (r:RelV x v) (ty:LC X.K T x H):
 s.TypeIs v T∧∀a,v=.ref a→∃ob,s.heap.get? a=some ob∧ob.dict=none:=by
 cases x with
 |str z=>
  obtain ⟨t,rfl⟩:=r
  cases (show T="str" from ty)
  exact ⟨typeIs_str s z t,fun _ e=>nomatch e⟩
 |int i=>
  obtain ⟨t,rfl⟩:=r
  cases (show T="int" from ty)
  exact ⟨typeIs_int s i t,fun _ e=>nomatch e⟩
 |ref p=>
  cases r
  rcases ty with ⟨rfl,xs,hq⟩ |⟨rfl,o,hk,hc,hd⟩
  ·obtain ⟨its,_,pl,_⟩:=I.list hq
   refine ⟨pl.isList.typeIs,fun a e=>?_⟩
   cases e
   obtain ⟨o,n,e,c,hd,_⟩:=pl
   exact ⟨o,e,hd⟩
  ·refine ⟨⟨o,I.kIn p o hk,hc⟩,fun a e=>?_⟩
   cases e
   exact ⟨o,I.kIn _ o hk,hd⟩
 |_=>exact False.elim ty
def Wr (K:PySem.W.Frag) (T:String) (r:V→List V→Hp→VK→Prop) (to:TE):TE:=fun σ H Q=>to σ H fun x H1=>LC K T x H1∧r x [] H1 Q
def Ws (K:PySem.W.Frag) (T:String) (r:V→List V→Hp→VK→Prop) (to:TE) (t:TA):TE:=fun σ H Q=>to σ H fun x H1=>LC K T x H1∧t σ H1 fun xs H2=>r x xs H2 Q
variable {o e:Expr} {es:List Expr} {to:TE} {t:TA} {name:Str} {apos cpos:Pos} {T id:String} {r:V→List V→Hp→VK→Prop}
theorem Wt (pa:PlainAttrs T) (slot:Slot T name id) (hty:typeOf (.builtin id)=pure (.type "method_descriptor")) (hm:JH X id r) (ho:PE X o to)
 (hbase:attributeBase o name X.env (eval o X.env)=eval o X.env:=by rfl) (hline:(apos.endLine==cpos.line)=true:=by rfl):PE X (.Call (.Attribute o name apos) [] [] cpos) (Wr X.K T r to):=by
 intro pins s σ H Q I h
 refine wpAny_Call_method0_late hbase hline (Ay (ho pins s σ H _ I h) fun v s1 z88_=>?_)
 obtain ⟨x,H1,I1,r1,ty,q1⟩:=z88_
 obtain ⟨h1,h2⟩:=LD I1 r1 ty
 exact ⟨T,id,pa,slot,hty,h1,h2,Calls.callWith_builtin rfl (PySem.evalArgs_none (hm pins s1 σ H1 x [] v [] Q I1 r1 .nil q1))⟩
theorem Ot (pa:PlainAttrs T) (slot:Slot T name id) (hty:typeOf (.builtin id)=pure (.type "method_descriptor")) (hm:JH X id r) (ho:PE X o to) (ha:PA X (e::es) t)
 (hbase:attributeBase o name X.env (eval o X.env)=eval o X.env:=by rfl)
 (hfew:((backTo cpos (starEach (e::es) X.env)).all (fun x=>!x.1)&&(backToKw cpos (keywordEach [] X.env)).all (fun x=>x.1.isSome)
  &&decide ((e::es).length+([]:List Keyword).length+(if ([]:List Keyword).isEmpty then 0 else 1)<30))=true:=by rfl)
 (hline:(apos.endLine==cpos.line)=true:=by rfl) (hs:starEach (e::es) X.env=(false,eval e X.env)::starEach es X.env:=by rfl) (hplain:(backTo cpos (starEach es X.env)).any (·.1)=false:=by rfl):
 PE X (.Call (.Attribute o name apos) (e::es) [] cpos) (Ws X.K T r to t):=by
 intro pins s σ H Q I h
 refine wpAny_Call_method_late hbase hfew hline rfl (Ay (ho pins s σ H _ I h) fun v s1 z89_=>?_)
 obtain ⟨x,H1,I1,r1,ty,q1⟩:=z89_
 obtain ⟨h1,h2⟩:=LD I1 r1 ty
 refine ⟨T,id,pa,slot,hty,h1,h2,?_⟩
 have hA:=ha cpos pins s1 σ H1 _ I1 q1
 rw [hs] at hA ⊢
 refine Calls.callWith_builtin (by show (false||(backTo cpos (starEach es X.env)).any (·.1))=false;rw [hplain]<;>rfl) (Calls.evalArgs_plain ?_)
 exact Ay hA fun us s2 z90_=>by obtain ⟨vs,H2,I2,r2,q2⟩:=z90_;exact (hm pins s2 σ H2 x vs v us Q I2 r1 r2 q2)
end
def LG (X:Cx) (id:String) (r:V→List V→Hp→VK→Prop):Prop:=
 ∀(pins:List (Addr×Obj)) (s:Shared) (σ:St) (H:Hp) (x:V) (xs:List V) (v:Value) (us:List Value) (Q:VK),Inv X pins σ H s→RelV x v→Vals xs us→r x xs H Q→
  wpAny (model X.prog X.w) X.A (call (.builtin id) (v::us)) (EP X pins σ Q) X.xe s
theorem Vals.one {x:V} {us:List Value} (h:Vals [x] us):∃u,us=[u]∧RelV x u:=by
 cases h with
 |cons r t=>cases t;exact ⟨_,rfl,r⟩
theorem Vals.zero:∀{us:List Value},Vals [] us→us=[]
 |_,.nil=>rfl
theorem Vals.dropLast {xs:List V} {us:List Value} (h:Vals xs us):Vals xs.dropLast us.dropLast:=by
 induction h with
 |nil=>exact .nil
 |cons r t ih=>
  cases t with
  |nil=>exact .nil
  |cons q t'=>exact .cons r ih
theorem Vals.reverse {xs:List V} {us:List Value} (h:Vals xs us):Vals xs.reverse us.reverse:=by
 induction h with
 |nil=>exact .nil
 |cons r t ih=>rw [CZ,CZ];exact Vals.append ih (.cons r .nil)
theorem Vals.rep {xs:List V} {us:List Value} (h:Vals xs us):∀k:Nat,Vals (List.replicate k xs).flatten (List.replicate k us).flatten
 |0=>.nil
 |k+1=>by
  rw [FT,FT,GF,GF]
  exact Vals.append h (Vals.rep h k)
theorem Wu {α:Type} (l:List α):l.eraseIdx (l.length - 1)=l.dropLast:=by
 induction l with
 |nil=>rfl
 |cons a r ih=>
  cases r with
  |nil=>rfl
  |cons b r=>
   have e:(a::b::r).length - 1=((b::r).length - 1)+1:=by
    have h1:(a::b::r).length=r.length+2:=rfl
    have h2:(b::r).length=r.length+1:=rfl
    omega
   rw [e,List.eraseIdx_cons_succ,ih]
   all_goals rfl
theorem JJ (its:List Value):∀(k:Nat) (acc:List Value),
 List.foldl (fun x1 x2=>x1++x2) acc.toArray (List.replicate k its.toArray)=(acc++(List.replicate k its).flatten).toArray
 |0,acc=>by simp
 |k+1,acc=>by
  have e:acc.toArray++its.toArray=(acc++its).toArray:=by simp
  have e2:(acc++its)++(List.replicate k its).flatten=acc++(List.replicate (k+1) its).flatten:=by
   rw [FT,GF,Cf]
  rw [←e2,←JJ its k (acc++its),←e,FT,GI]
section
variable {X:Cx} {pins:List (Addr×Obj)} {σ:St} {H:Hp} {s:Shared} {l b:Addr} {xs ys zs:List V}
theorem Inv.lset {its its':List Value} {n:Nat} {f:Array Value→Array Value} {t':Nat} (I:Inv X pins σ H s) (hH:H l=some (.lst xs))
 (e:s.heap.get? l=some {cls:=.type "list",data:=.seq its.toArray n}) (hf:f its.toArray=its'.toArray) (hv:Vals ys its') (hz:ys.length≤sizeLine):
 Inv X pins σ (Ao H l (.lst ys)) {s with heap:=s.heap.update l (Obj.mapSeq f),toks:=t'}:=by
 have q:=PySem.IsL.update e f
 rw [hf] at q
 refine I.write (x:=l) (e:=l) (by rw [hH];exact trivial) (.inl rfl) (fun b' u hb hu=>(Lh s.heap (Obj.mapSeq f) (Ne.symm hb)).trans hu) ⟨_,q⟩ ?_
 exact ⟨hz,its',_,hv,q⟩
theorem Inv.lnew {its:List Value} {t':Nat} (I:Inv X pins σ H s) (hv:Vals ys its) (hz:ys.length≤sizeLine):
 Inv X pins σ (Ao H s.heap.objs.size (.lst ys)) {s with heap:=s.heap.push {cls:=.type "list",data:=.seq its.toArray},toks:=t'}:=
 I.laid (fun _ _ q=>AG _ q) (Ax _) ⟨hz,its,0,hv,Bi _ rfl⟩
theorem Inv.fresh (I:Inv X pins σ H s):H s.heap.objs.size=none:=I.hok.fresh (Ax _)
theorem Inv.lstM (I:Inv X pins σ H s) (hH:H l=some (.lst xs)):xs.length≤sizeLine∧∃(its:List Value) (n:Nat),Vals xs its∧xs.length=its.length∧s.heap.get? l=some {cls:=.type "list",data:=.seq its.toArray n}:=by
 obtain ⟨z,its,n,r,e⟩:=I.hok l _ hH
 exact ⟨z,its,n,r,r.length,e⟩
theorem Ou {n:Nat} (h:n≤sizeLine):Builtin.List.listTooLong n=false:=by
 unfold Builtin.List.listTooLong
 exact decide_eq_false (by omega)
end
section
variable {X:Cx}
def Wv:V→List V→Hp→VK→Prop:=fun x vs H Q=>∃l xs y,x=.ref l∧vs=[y]∧H l=some (.lst xs)∧xs.length<sizeLine∧Q .non (Ao H l (.lst (xs++[y])))
theorem Ww:LG X "list.append" Wv:=by
 intro pins s σ H x vs v us Q I rx rv h
 obtain ⟨l,xs,y,rfl,rfl,hH,hz,q⟩:=h
 cases rx
 obtain ⟨u,rfl,ru⟩:=rv.one
 obtain ⟨z,its,n,r,hl,e⟩:=I.lstM hH
 refine call_meets F.slot_list_append ⟨_,e,rfl⟩ F.entry_list_append (F.args_list_append_2 _ _) (PySem.list_append l its.toArray n u (by rw [AX];omega)) ⟨e,?_⟩
 refine ⟨.non,_,I.lset (its':=its++[u]) hH e (by simp) (r.append (.cons ru .nil)) ?_,rfl,q⟩
 rw [CY,List.length_singleton]
 omega
def Wx:V→List V→Hp→VK→Prop:=fun x vs H Q=>∃l b xs zs,x=.ref l∧vs=[.ref b]∧H l=some (.lst xs)∧H b=some (.lst zs)∧xs.length+zs.length≤sizeLine∧Q .non (Ao H l (.lst (xs++zs)))
theorem Wy:LG X "list.extend" Wx:=by
 intro pins s σ H x vs v us Q I rx rv h
 obtain ⟨l,b,xs,zs,rfl,rfl,hH,hB,hz,q⟩:=h
 cases rx
 obtain ⟨u,rfl,ru⟩:=rv.one
 cases ru
 obtain ⟨z,its,n,r,hl,e⟩:=I.lstM hH
 obtain ⟨z2,its2,n2,r2,hl2,e2⟩:=I.lstM hB
 have hsz:its.toArray.size+its2.toArray.size≤sizeLine:=by rw [AX,AX];omega
 have hlong:¬(!its.toArray.isEmpty&&Builtin.List.listTooLong (its.toArray.size+its2.toArray.size))=true:=by
  rw [Ou hsz,Bool.and_false]
  exact Bf
 refine call_meets F.slot_list_extend ⟨_,e,rfl⟩ F.entry_list_extend (F.args_list_extend_2 _ _)
  (AutoSeq1.list_extend_list_list_0 l its.toArray n b its2.toArray n2 hlong (by rw [AX];omega) (by omega)) ⟨e,e2,?_⟩
 refine ⟨.non,_,I.lset (its':=its++its2) hH e (by simp) (r.append r2) ?_,rfl,q⟩
 rw [CY]
 omega
def Wz:V→List V→Hp→VK→Prop:=fun x vs H Q=>∃l xs y,x=.ref l∧vs=[]∧H l=some (.lst xs)∧xs[xs.length - 1]?=some y∧Q y (Ao H l (.lst xs.dropLast))
theorem WA:LG X "list.pop" Wz:=by
 intro pins s σ H x vs v us Q I rx rv h
 obtain ⟨l,xs,y,rfl,rfl,hH,hy,q⟩:=h
 cases rx
 have hus:=rv.zero
 subst hus
 obtain ⟨z,its,n,r,hl,e⟩:=I.lstM hH
 obtain ⟨u,hu,ru⟩:=r.get hy
 have hy':its.toArray[its.toArray.size - 1]?=some u:=by
  show its.toArray[its.length - 1]?=some u
  rw [←Array.getElem?_toList,←hl]
  exact hu
 refine call_meets F.slot_list_pop ⟨_,e,rfl⟩ F.entry_list_pop (F.args_list_pop_1 _) (MeetsSeq.list_pop_last l its.toArray n u hy' (by rw [AX];omega)) ⟨e,?_⟩
 refine ⟨y,_,I.lset (its':=its.dropLast) hH e ?_ r.dropLast ?_,ru,q⟩
 ·show its.toArray.eraseIdxIfInBounds (its.toArray.size - 1)=its.dropLast.toArray
  rw [AX,List.eraseIdxIfInBounds_toArray,Wu]
 ·rw [List.length_dropLast]
  omega
def WB:R2:=fun x y H Q=>∃l b xs zs,x=.ref l∧y=.ref b∧H l=some (.lst xs)∧H b=some (.lst zs)∧xs.length+zs.length≤sizeLine∧∀p,H p=none→Q (.ref p) (Ao H p (.lst (xs++zs)))
theorem op_cat:OpR X (binaryOp .Add) WB:=by
 intro pins s σ H x y v u Q I rx ry h
 obtain ⟨l,b,xs,zs,rfl,rfl,hH,hB,hz,q⟩:=h
 cases rx
 cases ry
 obtain ⟨z,its,n,r,hl,e⟩:=I.lstM hH
 obtain ⟨z2,its2,n2,r2,hl2,e2⟩:=I.lstM hB
 refine PySem.P.add_list e e2 ?_ (by rw [AX,AX];omega)
 have ea:its.toArray++its2.toArray=(its++its2).toArray:=by simp
 rw [ea]
 exact ⟨.ref _,_,I.lnew (t':=s.toks) (r.append r2) (by rw [CY];omega),rfl,q _ I.fresh⟩
def WC:R2:=fun x y H Q=>∃l k xs,x=.ref l∧y=.int k∧H l=some (.lst xs)∧-(2^63)≤k∧k<2^63∧xs.length*k.toNat≤sizeLine∧
 ∀p,H p=none→Q (.ref p) (Ao H p (.lst (List.replicate k.toNat xs).flatten))
theorem JK {α:Type} (xs:List α) (k:Nat):(List.replicate k xs).flatten.length=k*xs.length:=by
 induction k with
 |zero=>simp
 |succ k ih=>rw [FT,GF,CY,ih,Nat.succ_mul,Nat.add_comm]
theorem WD:OpR X (binaryOp .Mult) WC:=by
 intro pins s σ H x y v u Q I rx ry h
 obtain ⟨l,k,xs,rfl,rfl,hH,h1,h2,hz,q⟩:=h
 cases rx
 obtain ⟨t,rfl⟩:=ry
 obtain ⟨z,its,n,r,hl,e⟩:=I.lstM hH
 have hlen:its.toArray.size*k.toNat≤sizeLine:=by rw [AX,←hl];exact hz
 have hcap:¬its.toArray.size*k.toNat>(2^63 - 1) / 8:=by
  have:(sizeLine:Nat)≤(2^63 - 1) / 8:=by decide
  omega
 have hfit:¬(!Builtin.List.listFitsIndex k)=true:=by
  rw [fitsIndex_both h1 h2]
  exact Bf
 have hlong:¬Builtin.List.listTooLong (its.toArray.size*k.toNat)=true:=by
  rw [Ou hlen]
  exact Bf
 have hnew:List.foldl (fun x1 x2=>x1++x2) #[] (List.replicate (if its.toArray.isEmpty=true then 0 else k.toNat) its.toArray)=(List.replicate k.toNat its).flatten.toArray:=by
  have f0:∀m:Nat,List.foldl (fun x1 x2=>x1++x2) #[] (List.replicate m its.toArray)=(List.replicate m its).flatten.toArray:=fun m=>by
   have:=JJ its m []
   rw [Fh] at this
   exact this
  rw [f0]
  cases its with
  |nil=>simp
  |cons a r'=>rw [if_neg (by simp)]
 refine wpAny_binaryOp_repeat_ref (T:="list") (U:="int") (by decide) ⟨_,e,rfl⟩ (fun s'=>typeIs_int s' k t) noFill_list_mul F.fills_int_mul F.slot_int_rmul repeat_list F.slot_int_index.lookup
  (call_meets F.slot_int_rmul (typeIs_int s k t) F.entry_int_rmul (F.args_int_rmul_2 _ _) (int___rmul___int_list k t l its.toArray n)
   ⟨e,rfl,⟨_,e,rfl⟩,call_meets F.slot_list_mul ⟨_,e,rfl⟩ F.entry_list_mul (F.args_list_mul_2 _ _) (AutoListH.list___mul___list_int_3 l its.toArray n k t hfit hcap hlong) ⟨e,?_⟩⟩)
 rw [hnew]
 exact ⟨.ref _,_,I.lnew (t':=s.toks) (r.rep k.toNat) (by rw [JK,Nat.mul_comm];exact hz),rfl,q _ I.fresh⟩
end
section
variable {prog:Program} {w:World} {A:Around} {E:Value→Shared→Prop} {s:Shared}
end
section
variable {X:Cx}
end
end L2
namespace Att
open PySem PySem.W PySem.Calls PyProof.Rows
theorem WE {P:Params} {h:Heap}:∀(ns:List Int) (vs:List Value),WellAll P h vs (ns.map WData.int)→IntsAre vs ns:=by
 intro ns
 induction ns with
 |nil=>
  intro vs w
  rw [GL] at w
  cases w
  exact .nil
 |cons n ns ih=>
  intro vs w
  rw [BE] at w
  cases w with
  |cons a b=>
   cases a
   exact .cons _ _ (ih _ b)
theorem WG {l:OpenLaw} {n:Nat} (hn:l.most=some n) {P:Params} {h:Heap} {args:List WData} {vals:List Value}
 (hpre:l.row.toRowW.claim.pre args=true) (hwl:WellAll P h vals args):
 ∃a vs ns,vals=[Value.ref a]∧args=[WData.list (ns.map WData.int)]∧h.get? a=some {cls:=.type "list",data:=.seq vs.toArray}∧IntsAre vs ns∧ns.length≤n:=by
 have hsh:WShape.hasAll [] args [.list .int]=true:=(pre_splitW hpre).1
 have hc:l.pre.holds [] {args:=args}=true:=(pre_splitW hpre).2
 obtain ⟨d,r,rfl,h1,h2⟩:=hasAllW_cons hsh
 obtain rfl:=hasAllW_nil h2
 obtain ⟨xs,rfl,h3⟩:=hasW_list h1
 obtain ⟨ns,rfl⟩:=items_int h3
 have hlen:ns.length≤n:=by
  unfold OpenLaw.pre at hc
  have h4:(WTm.not (.lt (.lit (.int (n:Int))) (.len (.arg 0)))).holds [] {args:=[.list (ns.map .int)]}=true:=by
   have h4:=(holds_andW hc).1
   rw [hn] at h4
   exact h4
  have h5:=condW_of h4 (w_not (w_lt w_lit (w_len_list (w_arg rfl))))
  rw [Bc] at h5
  refine HF fun q=>?_
  have q':(n:Int)<((ns.length:Nat):Int):=by omega
  first
   |(rw [decide_eq_true q'] at h5;exact absurd h5 (by decide))
   |(simp at h5;omega)
 cases hwl with
 |cons w1 w2=>
  cases w2
  cases w1 with
  |list ho hall=>exact ⟨_,_,ns,rfl,rfl,ho,WE ns _ hall,hlen⟩
theorem WH (l:OpenLaw) (args:List WData):l.row.toRowW.claim.post args (.bool true) args=true:=
 postW_of (r:=l.row.toRowW) (X:=(true==true))
  (show WShape.has [] (.bool true) .bool=true by first |rfl |decide |simp [WShape.has,WShape.arms,WShape.armsAll])
  (show (WTm.eq .res (.lit (.bool true))).value [] {args:=args,res:=some (.bool true),after:=args}=some (.bool (true==true)) from w_eq_bool (w_res rfl) w_lit) rfl
section
variable {prog:Program} {w:World} {A:Around} {E:Value→Shared→Prop} {s:Shared} {K:Frag}
end
end Att
namespace L2
open PySem PySem.Spec PyProof.Rows
theorem vals_ints:∀{vs:List Value} {ns:List Int},IntsAre vs ns→Vals (ns.map V.int) vs
 |_,_,.nil=>.nil
 |_,_,.cons n t h=>.cons ⟨t,rfl⟩ (vals_ints h)
def defArgs (s:Stmt):Arguments:=match s with
 |.FunctionDef _ a _ _ _ _ _ _ _ _=>a
 |_=>{posonlyargs:=[],args:=[],vararg:=none,kwonlyargs:=[],kw_defaults:=[],kwarg:=none,defaults:=[]}
def defBody (s:Stmt):List Stmt:=match s with
 |.FunctionDef _ _ b _ _ _ _ _ _ _=>b
 |_=>[]
def defScope (s:Stmt):Scope:=match s with
 |.FunctionDef _ _ _ _ _ _ sc _ _ _=>sc
 |_=>{kind:=.function,names:=[],isGenerator:=false,isCoroutine:=false}
abbrev Ov:DI:=fun _ _ _ _ _ _=>False
abbrev E0:XK:=fun _ _ _=>False
inductive Ow (K:PySem.W.Frag) (x qual:Str) (st:Stmt) (f:Addr) (fd:FuncData):Prop where
 |mk (oc:Value) (od:Option Addr) (kV doc pm:Value) (an:Option Addr) (cdv ct:Value) (osl:Array (Option Value)) (f1:fd=PySem.W.fnOf x qual (defArgs st) (defBody st) (defScope st) .none kV doc pm an cdv ct) (f2:K.lookup f=some ⟨oc,od,.func fd,osl⟩) (f3:PySem.W.codeIn K cdv qual=true):Ow K x qual st f fd
structure Fun (K:PySem.W.Frag) (x qual:Str) (st:Stmt) (f:Addr) (fd:FuncData):Prop where
 ex:Ow K x qual st f fd
 kp:PySem.W.keepIn K (.ref f)=true
section
variable {P:Program} {w:World} {K:PySem.W.Frag} {mg:Str→Option Value} {base:Heap}
theorem Fun.binds {x qual:Str} {st:Stmt} {f:Addr} {fd:FuncData} {ps:List Str} (F:Fun K x qual st f fd)
 (h:∀(kV doc pm:Value) (an:Option Addr) (cdv ct:Value) (us:List Value),us.length=ps.length→bindArgs (PySem.W.fnOf x qual (defArgs st) (defBody st) (defScope st) .none kV doc pm an cdv ct) ⟨us,[]⟩=pure (ps.zip us)):Binds K fd ps []:=by
 obtain ⟨oc,od,kV,doc,pm,an,cdv,ct,osl,rfl,lk,hcd⟩:=F.ex
 exact .all (h kV doc pm an cdv ct)
theorem Ox {x qual:Str} {st:Stmt} {f:Addr} {oc:Value} {od an:Option Addr} {osl:Array (Option Value)} {kV doc pm cdv ct:Value} (l:K.lookup f=some ⟨oc,od,.func (PySem.W.fnOf x qual (defArgs st) (defBody st) (defScope st) .none kV doc pm an cdv ct),osl⟩)
 (c:PySem.W.codeIn K cdv qual=true) (k:PySem.W.keepIn K (.ref f)=true):Fun K x qual st f (PySem.W.fnOf x qual (defArgs st) (defBody st) (defScope st) .none kV doc pm an cdv ct):=⟨⟨oc,od,kV,doc,pm,an,cdv,ct,osl,rfl,l,c⟩,k⟩
end
section
variable {X:Cx}
theorem pv (i:Nat) {x:Str} {pos:Pos} (hN:X.N[i]?=some x:=by rfl) (hv:HK X.env.scope x:=by first |exact Or.inl rfl |exact Or.inr (Or.inl rfl) |exact Or.inr (Or.inr rfl)) (hd:(x==("__debug__":Str))=false:=by decide)
 (hcd:(x==("__classdict__":Str))=false:=by decide):PE X (.Name x pos) (Lk i):=Jv hN hv hd hcd
end
end L2
namespace LS
open PySem PySem.Spec PyProof.Rows L2
inductive D where
 |non |bl (b:Bool) |int (i:Int) |str (x:Str) |tup (ds:List D) |loc (l:Nat) |scr (ns:List Int) |adr (a:Addr) |ty (n:String) |exc (n:Str) (fs:List (Str×Int)) |edic |glo (n:Str) |clo (a:Addr) (vs:List V) (ds:List D)
inductive Kyd where
 |i (n:Int) |t (ns:List Int) |b (rs:List (List Int))
 deriving DecidableEq
def kD:Kyd→D
 |.i n=>.int n
 |.t ns=>.tup (ns.map D.int)
 |.b rs=>.tup (rs.map fun r=>.tup (r.map D.int))
inductive Cell where
 |lst (ds:List D) |tab |dic (fz:Bool) (kvs:List (Kyd×D))
abbrev HD:=List Cell
abbrev Ah:=List (Option D)
inductive Out (α:Type) where
 |ok (a:α) (h:HD) |err (C:Value) (fs:List (Str×D)) (h:HD) |stuck
def Out.bind {α β:Type} (o:Out α) (k:α→HD→Out β):Out β:=match o with
 |.ok a h=>k a h
 |.err C fs h=>.err C fs h
 |.stuck=>.stuck
@[simp] theorem Out.bind_ok {α β:Type} (a:α) (h:HD) (k:α→HD→Out β):(Out.ok a h).bind k=k a h:=rfl
@[simp] theorem Out.bind_err {α β:Type} (C:Value) (fs:List (Str×D)) (h:HD) (k:α→HD→Out β):(Out.err C fs h:Out α).bind k=.err C fs h:=rfl
@[simp] theorem Out.bind_stuck {α β:Type} (k:α→HD→Out β):(Out.stuck:Out α).bind k=.stuck:=rfl
def LH:HO→Bool
 |.tup _=>true
 |.frz _ _=>true
 |.ext _=>true
 |.xd _=>true
 |_=>false
def Kp (H H':Hp):Prop:=∀b o,H b=some o→LH o=true→H' b=some o
theorem Kp.refl (H:Hp):Kp H H:=fun _ _ e _=>e
theorem Kp.trans {H H1 H2:Hp} (a:Kp H H1) (b:Kp H1 H2):Kp H H2:=fun c o e i=>b c o (a c o e i) i
theorem Kp.new {H:Hp} {p:Addr} {o:HO} (h:H p=none):Kp H (Ao H p o):=fun b u e _=>by rw [Av (Bz e h)];exact e
theorem Kp.set {H:Hp} {p:Addr} {o u:HO} (h:H p=some o) (i:LH o=false):Kp H (Ao H p u):=fun b w e iw=>by
 rw [Av]
 ·exact e
 ·intro z
  rw [z,h] at e;cases e;rw [i] at iw;cases iw
def FzL (K:PySem.W.Frag) (H:Hp) (a:Addr) (xs:List V):Prop:=(∃o,H a=some (.frz o (.lst xs)))∨SqL K (fun _=>none) a xs
theorem Kp.fzL {K:PySem.W.Frag} {H H':Hp} {a:Addr} {xs:List V} (k:Kp H H') (h:FzL K H a xs):FzL K H' a xs:=by
 rcases h with ⟨o,h⟩ |h
 ·exact .inl ⟨o,k _ _ h rfl⟩
 ·exact .inr h
theorem FzL.sq {K:PySem.W.Frag} {H:Hp} {a:Addr} {xs:List V} (h:FzL K H a xs):SqL K H a xs:=by
 rcases h with ⟨o,h⟩ |(h |⟨o,h⟩) |h
 ·exact .inl (.inr ⟨o,h⟩)
 ·cases h
 ·cases h
 ·exact .inr h
def Fq (C:Addr) (da:Option Addr) (a:Addr) (h:Heap):Prop:=∃o vs,h.get? a=some o∧o.cls=.ref C∧(∀d,da=some d→o.dict=some d)∧o.data=.fields vs
def JL (a:Addr) (h:Heap):Prop:=a≠sysModules∧∃o ep,h.get? a=some o∧o.ExactDict∧o.data=.dict #[] ep
mutual
def DV (K:PySem.W.Frag) (m:List Addr) (H:Hp):D→V→Prop
 |.non,v=>v=.non
 |.bl b,v=>v=.bl b
 |.int i,v=>v=.int i
 |.str x,v=>v=.str x
 |.tup ds,v=>∃a vs,v=.ref a∧H a=some (.tup vs)∧DVs K m H ds vs
 |.loc l,v=>∃a,v=.ref a∧m[l]?=some a
 |.scr ns,v=>∃a,v=.ref a∧FzL K H a (ns.map V.int)
 |.adr a,v=>v=.ref a
 |.ty n,v=>v=.ty n
 |.exc n fs,v=>∃a C da,v=.ref a∧PySem.W.nsIn K mainGlobals n=some (some (.ref C))∧H a=some (.ext (Fq C da a))∧∀f i,fs.lookup f=some i→∃d fv,da=some d∧H d=some (.xd fv)∧fv.lookup f=some (.int i)
 |.edic,v=>∃a,v=.ref a∧H a=some (.ext (JL a))
 |.glo n,v=>∃a,v=.ref a∧PySem.W.nsIn K mainGlobals n=some (some (.ref a))
 |.clo a vs ds,v=>v=.ref a∧DVs K m H ds vs
def DVs (K:PySem.W.Frag) (m:List Addr) (H:Hp):List D→List V→Prop
 |[],vs=>vs=[]
 |d::ds,vs=>∃v r,vs=v::r∧DV K m H d v∧DVs K m H ds r
end
section
variable {K:PySem.W.Frag} {m m':List Addr} {H H':Hp}
theorem GQ {l:Nat} {a:Addr} (p:m <+:m') (h:m[l]?=some a):m'[l]?=some a:=by
 obtain ⟨t,rfl⟩:=p
 have hl:l<m.length:=(qa3.mp h).1
 rw [Fc hl];exact h
mutual
theorem DV.keep (p:m <+:m') (k:Kp H H'):∀{d:D} {v:V},DV K m H d v→DV K m' H' d v
 |.non,_,h=>by simpa [DV] using h
 |.bl _,_,h=>by simpa [DV] using h
 |.int _,_,h=>by simpa [DV] using h
 |.str _,_,h=>by simpa [DV] using h
 |.tup ds,_,h=>by
  simp only [DV] at h ⊢
  obtain ⟨a,vs,e,q,r⟩:=h
  exact ⟨a,vs,e,k _ _ q rfl,DVs.keep p k r⟩
 |.loc l,_,h=>by
  simp only [DV] at h ⊢
  obtain ⟨a,e,q⟩:=h
  exact ⟨a,e,GQ p q⟩
 |.scr ns,_,h=>by
  simp only [DV] at h ⊢
  obtain ⟨a,e,q⟩:=h
  exact ⟨a,e,k.fzL q⟩
 |.adr _,_,h=>by simpa [DV] using h
 |.ty _,_,h=>by simpa [DV] using h
 |.exc _ _,_,h=>by
  simp only [DV] at h ⊢
  obtain ⟨a,C,da,e,q,r,t⟩:=h
  exact ⟨a,C,da,e,q,k _ _ r rfl,fun f i z=>let ⟨d,fv,z1,z2,z3⟩:=t f i z;⟨d,fv,z1,k _ _ z2 rfl,z3⟩⟩
 |.edic,_,h=>by
  simp only [DV] at h ⊢
  obtain ⟨a,e,r⟩:=h
  exact ⟨a,e,k _ _ r rfl⟩
 |.glo _,_,h=>by simpa [DV] using h
 |.clo _ _ ds,_,h=>by
  simp only [DV] at h ⊢
  exact ⟨h.1,DVs.keep p k h.2⟩
theorem DVs.keep (p:m <+:m') (k:Kp H H'):∀{ds:List D} {vs:List V},DVs K m H ds vs→DVs K m' H' ds vs
 |[],_,h=>by simpa [DVs] using h
 |d::ds,_,h=>by
  simp only [DVs] at h ⊢
  obtain ⟨v,r,e,q,t⟩:=h
  exact ⟨v,r,e,DV.keep p k q,DVs.keep p k t⟩
end
theorem DVs.nil:DVs K m H [] []:=by simp [DVs]
theorem DVs.cons {d:D} {v:V} {ds:List D} {vs:List V} (h:DV K m H d v) (t:DVs K m H ds vs):DVs K m H (d::ds) (v::vs):=by
 simp only [DVs];exact ⟨v,vs,rfl,h,t⟩
theorem DVs.len:∀{ds:List D} {vs:List V},DVs K m H ds vs→ds.length=vs.length
 |[],_,h=>by simp only [DVs] at h;subst h;rfl
 |d::ds,_,h=>by
  simp only [DVs] at h
  obtain ⟨v,r,e,_,t⟩:=h
  subst e
  simp [DVs.len t]
theorem DVs.get:∀{ds:List D} {vs:List V} {i:Nat} {d:D},DVs K m H ds vs→ds[i]?=some d→∃v,vs[i]?=some v∧DV K m H d v
 |[],_,_,_,_,e=>by simp at e
 |d::ds,_,i,x,h,e=>by
  simp only [DVs] at h
  obtain ⟨v,r,rfl,q,t⟩:=h
  cases i with
  |zero=>simp at e;subst e;exact ⟨v,rfl,q⟩
  |succ i=>
   obtain ⟨w,h1,h2⟩:=DVs.get (i:=i) t (by simpa using e)
   exact ⟨w,by simpa using h1,h2⟩
theorem DVs.app:∀{ds es:List D} {vs ws:List V},DVs K m H ds vs→DVs K m H es ws→DVs K m H (ds++es) (vs++ws)
 |[],_,_,_,h,t=>by simp only [DVs] at h;subst h;exact t
 |d::ds,_,_,_,h,t=>by
  simp only [DVs] at h
  obtain ⟨v,r,rfl,q,u⟩:=h
  exact .cons q (DVs.app u t)
theorem DVs.set:∀{ds:List D} {vs:List V} {d:D} {v:V} (i:Nat),DVs K m H ds vs→DV K m H d v→DVs K m H (ds.set i d) (vs.set i v)
 |[],_,_,_,_,h,_=>by simp only [DVs] at h;subst h;exact .nil
 |d::ds,_,_,_,i,h,q'=>by
  simp only [DVs] at h
  obtain ⟨v,r,rfl,q,u⟩:=h
  cases i with
  |zero=>exact .cons q' u
  |succ i=>exact .cons q (DVs.set i u q')
theorem DVs.take:∀{ds:List D} {vs:List V} (n:Nat),DVs K m H ds vs→DVs K m H (ds.take n) (vs.take n)
 |_,_,0,_=>by simpa using (DVs.nil:DVs K m H [] [])
 |[],_,n+1,h=>by simp only [DVs] at h;subst h;exact .nil
 |d::ds,_,n+1,h=>by
  simp only [DVs] at h
  obtain ⟨v,r,rfl,q,u⟩:=h
  exact .cons q (DVs.take n u)
theorem DVs.drop:∀{ds:List D} {vs:List V} (n:Nat),DVs K m H ds vs→DVs K m H (ds.drop n) (vs.drop n)
 |_,_,0,h=>by simpa using h
 |[],_,n+1,h=>by simp only [DVs] at h;subst h;exact .nil
 |d::ds,_,n+1,h=>by
  simp only [DVs] at h
  obtain ⟨v,r,rfl,q,u⟩:=h
  simpa using DVs.drop n u
theorem DVs.rep {ds:List D} {vs:List V} (h:DVs K m H ds vs):∀n,DVs K m H (List.replicate n ds).flatten (List.replicate n vs).flatten
 |0=>by simpa using (DVs.nil:DVs K m H [] [])
 |n+1=>by
  rw [FT,GF,FT,GF]
  exact h.app (DVs.rep h n)
def GR (q:Str) (c:Addr) (h:Heap):Prop:=h.CodeRec (.ref c) q
def tabP (K:PySem.W.Frag):Option (Addr×Addr):=match PySem.W.nsIn K mainGlobals "law" with
 |some (some (.ref f))=>(match K.lookup f with
  |some ⟨_,_,.func fd,_⟩=>(match fd.code with
   |.ref c=>(match K.lookup c with
    |some ⟨_,_,.fields vs,_⟩=>(match (vs[11]?:Option Value) with
     |some (.ref P)=>some (c,P)
     |_=>none)
    |_=>none)
   |_=>none)
  |_=>none)
 |_=>none
def TabIs (K:PySem.W.Frag) (H:Hp) (a:Addr):Prop:=(∃c,tabP K=some (c,a))∧∃ps,H a=some (.tbl ps)∧TriplesOk ps.toList∧∀pos cv,codeAmong pos ps.toList=some cv→∃c,cv=.ref c∧H c=some (.ext (GR "law.<locals>.<lambda>" c))
theorem TabIs.keep {K:PySem.W.Frag} {H H':Hp} {a:Addr} (t:TabIs K H a) (k:Kp H H') (e:H' a=H a):TabIs K H' a:=by
 obtain ⟨z,ps,h1,h2,h3⟩:=t
 exact ⟨z,ps,e.trans h1,h2,fun pos cv q=>let ⟨c,q1,q2⟩:=h3 pos cv q;⟨c,q1,k _ _ q2 rfl⟩⟩
def LI (hs:List Int):Int:=reduceHash (Builtin.Tuple.tupleHashOf hs)
def WI:Kyd→Int
 |.i n=>hashInt n
 |.t ns=>LI (ns.map hashInt)
 |.b rs=>LI (rs.map fun r=>LI (r.map hashInt))
def HV (p:Kyd×V×V) (e:DictEntry):Prop:=e.hash=WI p.1∧RelV p.2.1 e.key∧RelV p.2.2 e.val
def Bm (a:Addr) (es:List (Kyd×V×V)) (h:Heap):Prop:=(a==sysModules)=false∧es.length≤sizeLine∧(es.map (·.1)).Nodup∧∃o us ep,h.get? a=some o∧o.ExactDict∧o.data=.dict us ep∧Paired HV es us.toList
def EntD (K:PySem.W.Frag) (m:List Addr) (H:Hp):List (Kyd×D)→List (Kyd×V×V)→Prop
 |[],es=>es=[]
 |p::r,es=>∃kv vv r',es=(p.1,kv,vv)::r'∧DV K m H (kD p.1) kv∧DV K m H p.2 vv∧EntD K m H r r'
theorem EntD.keep {K:PySem.W.Frag} {m m':List Addr} {H H':Hp} (p:m <+:m') (k:Kp H H'):∀{kvs:List (Kyd×D)} {es:List (Kyd×V×V)},EntD K m H kvs es→EntD K m' H' kvs es
 |[],_,h=>h
 |_::_,_,h=>by
  obtain ⟨kv,vv,r',e,d1,d2,t⟩:=h
  exact ⟨kv,vv,r',e,d1.keep p k,d2.keep p k,t.keep p k⟩
def DicH (fz:Bool) (H:Hp) (a:Addr) (es:List (Kyd×V×V)):Prop:=match fz with
 |true=>∃o,H a=some (.frz o (.dct (Bm a es)))
 |false=>H a=some (.dct (Bm a es))
theorem DicH.some {fz:Bool} {H:Hp} {a:Addr} {es:List (Kyd×V×V)} (d:DicH fz H a es):∃o,H a=some o:=by
 cases fz with
 |true=>obtain ⟨o,e⟩:=d;exact ⟨_,e⟩
 |false=>exact ⟨_,d⟩
theorem DicH.same {fz:Bool} {H H':Hp} {a:Addr} {es:List (Kyd×V×V)} (d:DicH fz H a es) (e:H' a=H a):DicH fz H' a es:=by
 cases fz with
 |true=>obtain ⟨o,z⟩:=d;exact ⟨o,e.trans z⟩
 |false=>exact e.trans d
theorem DicH.rd {fz:Bool} {H:Hp} {a:Addr} {es:List (Kyd×V×V)} (d:DicH fz H a es):Rd H a (.dct (Bm a es)):=by
 cases fz with
 |true=>obtain ⟨o,z⟩:=d;exact .inr ⟨o,z⟩
 |false=>exact .inl d
def JM (K:PySem.W.Frag) (m:List Addr) (H:Hp):Cell→Addr→Prop
 |.lst ds,a=>∃vs,H a=some (.lst vs)∧DVs K m H ds vs
 |.tab,a=>TabIs K H a
 |.dic fz kvs,a=>∃es,DicH fz H a es∧EntD K m H kvs es
structure HR (K:PySem.W.Frag) (m:List Addr) (h:HD) (H:Hp):Prop where
 len:m.length=h.length
 nd:m.Nodup
 cells:∀(l:Nat) (c:Cell) (a:Addr),h[l]?=some c→m[l]?=some a→JM K m H c a
theorem HR.at {h:HD} {l:Nat} {c:Cell} (r:HR K m h H) (e:h[l]?=some c):∃a,m[l]?=some a∧JM K m H c a:=by
 have hl:l<h.length:=(qa3.mp e).1
 have:l<m.length:=by rw [r.len];exact hl
 exact ⟨m[l],AQ this,r.cells l c _ e (AQ this)⟩
theorem HR.mem {h:HD} {a:Addr} (r:HR K m h H) (ha:a∈m):H a≠none:=by
 obtain ⟨l,hl,rfl⟩:=HB ha
 have hl':l<h.length:=by rw [←r.len];exact hl
 have:=r.cells l h[l] m[l] (AQ hl') (AQ hl)
 cases hc:h[l] with
 |lst ds=>
  rw [hc] at this
  obtain ⟨vs,e,_⟩:=this
  rw [e];simp
 |tab=>
  rw [hc] at this
  obtain ⟨_,ps,e,_⟩:=this
  rw [e];simp
 |dic fz kvs=>
  rw [hc] at this
  obtain ⟨es,e,_⟩:=this
  obtain ⟨o,e⟩:=e.some
  rw [e];simp
theorem HR.same {h:HD} (r:HR K m h H) (k:Kp H H') (s:∀a∈m,H' a=H a):HR K m h H':=by
 refine ⟨r.len,r.nd,fun l c a e q=>?_⟩
 have hm:a∈m:=Fd q
 have:=r.cells l c a e q
 cases c with
 |lst ds=>
  obtain ⟨vs,e1,e2⟩:=this
  exact ⟨vs,by rw [s a hm];exact e1,e2.keep (AB _) k⟩
 |tab=>exact TabIs.keep this k (s a hm)
 |dic fz kvs=>
  obtain ⟨es,e1,e2⟩:=this
  exact ⟨es,e1.same (s a hm),e2.keep (AB _) k⟩
theorem HR.new {h:HD} {p:Addr} {o:HO} (r:HR K m h H) (hp:H p=none):HR K m h (Ao H p o):=
 r.same (.new hp) fun a ha=>Av fun z=>r.mem ha (z ▸ hp)
theorem HR.newCell {h:HD} {p:Addr} {o:HO} {c:Cell} (r:HR K m h H) (hp:H p=none) (hc:JM K (m++[p]) (Ao H p o) c p):HR K (m++[p]) (h++[c]) (Ao H p o):=by
 have hpm:p∉m:=fun z=>r.mem z hp
 refine ⟨by simp [r.len],?_,fun l c' a e q=>?_⟩
 ·rw [qbM]
  refine ⟨r.nd,by simp,fun a ha b hb=>?_⟩
  rw [qa4] at hb
  subst hb
  intro z;subst z;exact hpm ha
 ·by_cases hl:l<m.length
  ·rw [Fc hl] at q
   rw [Fc (by rw [←r.len];exact hl)] at e
   have:=r.cells l c' a e q
   have hne:a≠p:=fun z=>hpm (z ▸ Fd q)
   cases c' with
   |lst ds=>
    obtain ⟨vs,e1,e2⟩:=this
    exact ⟨vs,by rw [Av hne];exact e1,e2.keep (EF _ _) (.new hp)⟩
   |tab=>exact TabIs.keep this (.new hp) (Av hne)
   |dic fz kvs=>
    obtain ⟨es,e1,e2⟩:=this
    exact ⟨es,e1.same (Av hne),e2.keep (EF _ _) (.new hp)⟩
  ·have h1:m.length≤l:=HF hl
   rw [Hv h1] at q
   rw [Hv (by rw [←r.len];exact h1)] at e
   have e0:l - m.length=0:=by
    cases hz:l - m.length with
    |zero=>rfl
    |succ n=>rw [hz] at q;simp at q
   rw [←r.len] at e
   rw [e0] at q e
   simp at q e
   subst q e
   exact hc
theorem HR.setCell {h:HD} {p:Addr} {l:Nat} {o u:HO} {c:Cell} (r:HR K m h H) (hl:m[l]?=some p) (ho:H p=some o) (i:LH o=false) (hc:JM K m (Ao H p u) c p):HR K m (h.set l c) (Ao H p u):=by
 refine ⟨by simp [r.len],r.nd,fun j c' a e q=>?_⟩
 by_cases hj:j=l
 ·subst hj
  rw [hl] at q;cases q
  have hlt:j<h.length:=by rw [←r.len];exact (qa3.mp hl).1
  rw [BR hlt] at e
  cases e
  exact hc
 ·rw [Bp (Ne.symm hj)] at e
  have:=r.cells j c' a e q
  have hne:a≠p:=by
   intro z
   subst z
   obtain ⟨h1,e1⟩:=qa3.mp q
   obtain ⟨h2,e2⟩:=qa3.mp hl
   exact hj ((List.getElem_inj r.nd).mp (e1.trans e2.symm))
  cases c' with
  |lst ds=>
   obtain ⟨vs,e1,e2⟩:=this
   exact ⟨vs,by rw [Av hne];exact e1,e2.keep (AB _) (.set ho i)⟩
  |tab=>exact TabIs.keep this (.set ho i) (Av hne)
  |dic fz kvs=>
   obtain ⟨es,e1,e2⟩:=this
   exact ⟨es,e1.same (Av hne),e2.keep (AB _) (.set ho i)⟩
def ER (K:PySem.W.Frag) (m:List Addr) (H:Hp) (ρ:Ah) (σ:L2.St):Prop:=ρ.length=σ.length∧∀(i:Nat) (d:D),ρ[i]?=some (some d)→∃v,σ[i]?=some (some v)∧DV K m H d v
theorem ER.keep {ρ:Ah} {σ:L2.St} (p:m <+:m') (k:Kp H H') (e:ER K m H ρ σ):ER K m' H' ρ σ:=⟨e.1,fun i d h=>let ⟨v,a,b⟩:=e.2 i d h;⟨v,a,b.keep p k⟩⟩
theorem ER.set {ρ:Ah} {σ:L2.St} {i:Nat} {d:D} {v:V} (e:ER K m H ρ σ) (r:DV K m H d v):ER K m H (ρ.set i (some d)) (σ.set i (some v)):=by
 refine ⟨by simp [e.1],fun j d' h=>?_⟩
 by_cases hj:i=j
 ·subst hj
  by_cases hl:i < ρ.length
  ·rw [BR hl] at h
   cases h
   exact ⟨v,by rw [BR (by rw [←e.1];exact hl)],r⟩
  ·rw [List.getElem?_eq_none (by simp;omega)] at h;cases h
 ·rw [Bp hj] at h
  obtain ⟨w,a,b⟩:=e.2 j d' h
  exact ⟨w,by rw [Bp hj];exact a,b⟩
theorem ER.start {N:List Str} {ds:List D} {vs:List V} (h:DVs K m H ds vs):ER K m H (ds.map some++List.replicate (N.length - ds.length) none) (L2.start N vs):=by
 refine ⟨by simp [L2.start,h.len],fun i d e=>?_⟩
 by_cases hl:i<ds.length
 ·rw [Fc (by simpa using hl),B8] at e
  obtain ⟨d',e1⟩:∃d',ds[i]?=some d':=⟨ds[i],AQ hl⟩
  rw [e1] at e
  simp at e
  subst e
  obtain ⟨v,q,r⟩:=h.get e1
  refine ⟨v,?_,r⟩
  unfold L2.start
  rw [Fc (by simpa [←h.len] using hl),B8,q]
  rfl
 ·rw [Hv (by simpa using HF hl)] at e
  rw [Lg] at e
  split at e<;>cases e
def XD (K:PySem.W.Frag) (m:List Addr) (H:Hp) (fs:List (Str×D)) (da:Option Addr):Prop:=
 ∀f d,fs.lookup f=some d→∃a fv v,da=some a∧H a=some (.xd fv)∧fv.lookup f=some v∧DV K m H d v
def Post {α β:Type} (K:PySem.W.Frag) (R:List Addr→Hp→α→β→Prop) (m:List Addr) (H:Hp) (E:XK) (Q:β→Hp→Prop):Out α→Prop
 |.ok a h'=>∀v m' H',m <+:m'→Kp H H'→HR K m' h' H'→R m' H' a v→Q v H'
 |.err C fs h'=>∀da m' H',m <+:m'→Kp H H'→HR K m' h' H'→XD K m' H' fs da→E C da H'
 |.stuck=>False
theorem Post.ahead {α β:Type} {R:List Addr→Hp→α→β→Prop} {E:XK} {Q:β→Hp→Prop} {o:Out α} (p:m <+:m') (k:Kp H H') (h:Post K R m H E Q o):Post K R m' H' E Q o:=by
 cases o with
 |ok a h'=>exact fun v m2 H2 p2 k2=>h v m2 H2 (p.trans p2) (k.trans k2)
 |err C fs h'=>exact fun da m2 H2 p2 k2=>h da m2 H2 (p.trans p2) (k.trans k2)
 |stuck=>exact h
theorem Post.bind {α β γ δ:Type} {R:List Addr→Hp→α→β→Prop} {R':List Addr→Hp→γ→δ→Prop} {E:XK} {Q:δ→Hp→Prop} {Q':β→Hp→Prop} {o:Out α} {k:α→HD→Out γ}
 (h:Post K R' m H E Q (o.bind k)) (f:∀a h1 v m1 H1,o=.ok a h1→m <+:m1→Kp H H1→HR K m1 h1 H1→R m1 H1 a v→Post K R' m1 H1 E Q (k a h1)→Q' v H1):Post K R m H E Q' o:=by
 cases o with
 |ok a h1=>exact fun v m1 H1 p kk hr r=>f a h1 v m1 H1 rfl p kk hr r (h.ahead p kk)
 |err C fs h1=>exact h
 |stuck=>exact h
theorem Post.mono {α β:Type} {R:List Addr→Hp→α→β→Prop} {E:XK} {Q Q':β→Hp→Prop} {o:Out α} (h:Post K R m H E Q o) (f:∀v H',Q v H'→Q' v H'):Post K R m H E Q' o:=by
 cases o with
 |ok a h1=>exact fun v m1 H1 p k hr r=>f _ _ (h v m1 H1 p k hr r)
 |err C fs h1=>exact h
 |stuck=>exact h
end
abbrev ME:=Ah→HD→Out D
abbrev MT:=Ah→HD→Out Bool
abbrev MA:=Ah→HD→Out (List D)
inductive Fl where
 |nx |bk |ct |rt (d:D)
abbrev MS:=Ah→HD→Out (Fl×Ah)
def rD (K:PySem.W.Frag):List Addr→Hp→D→V→Prop:=fun m H d v=>DV K m H d v
def rB:List Addr→Hp→Bool→Bool→Prop:=fun _ _ a b=>a=b
def DK (K:PySem.W.Frag):List Addr→Hp→List D→List V→Prop:=fun m H d v=>DVs K m H d v
inductive tM {α β:Type} (K:PySem.W.Frag) (R:List Addr→Hp→α→β→Prop) (E:XK) (f:Ah→HD→Out α) (σ:L2.St) (H:Hp) (Q:β→Hp→Prop):Prop where
 |mk (m:List Addr) (ρ:Ah) (h:HD) (hr:HR K m h H) (er:ER K m H ρ σ) (p:Post K R m H E Q (f ρ h)):tM K R E f σ H Q
abbrev tD (K:PySem.W.Frag) (E:XK) (f:ME):TE:=tM K (rD K) E f
abbrev GS (K:PySem.W.Frag) (E:XK) (f:MT):TT:=tM K rB E f
abbrev Oy (K:PySem.W.Frag) (E:XK) (f:MA):TA:=tM K (DK K) E f
def Oz (K:PySem.W.Frag) (m:List Addr) (H:Hp) (D:Dp):Fl×Ah→Prop
 |(.nx,ρ)=>∀σ,ER K m H ρ σ→D.nx σ H
 |(.bk,ρ)=>∀σ,ER K m H ρ σ→D.bk σ H
 |(.ct,ρ)=>∀σ,ER K m H ρ σ→D.ct σ H
 |(.rt d,_)=>∀v,DV K m H d v→D.rt v H
def PostS (K:PySem.W.Frag) (m:List Addr) (H:Hp) (E:XK) (D:Dp):Out (Fl×Ah)→Prop
 |.ok a h'=>∀m' H',m <+:m'→Kp H H'→HR K m' h' H'→Oz K m' H' D a
 |.err C fs h'=>∀da m' H',m <+:m'→Kp H H'→HR K m' h' H'→XD K m' H' fs da→E C da H'
 |.stuck=>False
inductive GT (K:PySem.W.Frag) (E:XK) (g:MS) (D:Dp) (σ:L2.St) (H:Hp):Prop where
 |mk (m:List Addr) (ρ:Ah) (h:HD) (hr:HR K m h H) (er:ER K m H ρ σ) (p:PostS K m H E D (g ρ h)):GT K E g D σ H
theorem PostS.ahead {K:PySem.W.Frag} {m m':List Addr} {H H':Hp} {E:XK} {D:Dp} {o:Out (Fl×Ah)} (p:m <+:m') (k:Kp H H') (h:PostS K m H E D o):PostS K m' H' E D o:=by
 cases o with
 |ok a h'=>exact fun m2 H2 p2 k2=>h m2 H2 (p.trans p2) (k.trans k2)
 |err C fs h'=>exact fun da m2 H2 p2 k2=>h da m2 H2 (p.trans p2) (k.trans k2)
 |stuck=>exact h
abbrev Ev (X:Cx) (E:XK) (e:Expr) (f:ME):Prop:=PE X e (tD X.K E f)
abbrev Dg (X:Cx) (E:XK) (e:Expr) (f:MT):Prop:=PT X e (GS X.K E f)
abbrev CA (X:Cx) (E:XK) (es:List Expr) (f:MA):Prop:=PA X es (Oy X.K E f)
abbrev Ex (X:Cx) (E:XK) (st:Stmt) (g:MS):Prop:=PS X st (GT X.K E g)
abbrev CB (X:Cx) (E:XK) (sts:List Stmt) (g:MS):Prop:=CP X sts (GT X.K E g)
section
variable {X:Cx}
theorem B4 {e:Expr} {t t':TE} (h:PE X e t) (i:∀σ H Q,t' σ H Q→t σ H Q):PE X e t':=fun pins s σ H Q I q=>h pins s σ H Q I (i σ H Q q)
theorem JN {e:Expr} {t t':TT} (h:PT X e t) (i:∀σ H Q,t' σ H Q→t σ H Q):PT X e t':=fun pins s σ H Q I q=>h pins s σ H Q I (i σ H Q q)
theorem OA {e:List Expr} {t t':TA} (h:PA X e t) (i:∀σ H Q,t' σ H Q→t σ H Q):PA X e t':=fun pos pins s σ H Q I q=>h pos pins s σ H Q I (i σ H Q q)
theorem DL {e:Stmt} {t t':TS} (h:PS X e t) (i:∀D σ H,t' D σ H→t D σ H):PS X e t':=fun pins s σ H D I q=>h pins s σ H D I (i D σ H q)
theorem LJ {e:List Stmt} {t t':TS} (h:CP X e t) (i:∀D σ H,t' D σ H→t D σ H):CP X e t':=fun pins s σ H D I q=>h pins s σ H D I (i D σ H q)
end
end LS
namespace LS
open PySem PySem.Spec PyProof.Rows L2
section
variable {X:Cx} {E:XK} {a b c:Expr} {pos:Pos} {f g k:ME}
def Aa (i:Nat):ME:=fun ρ h=>match ρ[i]? with
 |some (some d)=>.ok d h
 |_=>.stuck
theorem LM {i:Nat} (h:PE X a (Lk i)):Ev X E a (Aa i):=B4 h fun σ H Q z1_=>by
 obtain ⟨m,ρ,hd,hr,er,p⟩:=z1_
 unfold Aa at p
 split at p
 ·rename_i d e
  obtain ⟨v,e1,r⟩:=er.2 i d e
  exact ⟨v,e1,p v m H (AB _) (.refl _) hr r⟩
 ·exact p.elim
def mC (d:D):ME:=fun _ h=>.ok d h
theorem GU {d:D} {v:V} (h:PE X a (tC v)) (r:∀m H,DV X.K m H d v):Ev X E a (mC d):=B4 h fun σ H Q z2_=>by obtain ⟨m,ρ,hd,hr,er,p⟩:=z2_;exact (p v m H (AB _) (.refl _) hr (r m H))
theorem WJ {i:Int} {j:Nat}:Ev X E (.Constant (.int i) j pos) (mC (.int i)):=GU N0 fun _ _=>by simp [DV]
theorem WK {i:Bool} {j:Nat}:Ev X E (.Constant (.bool i) j pos) (mC (.bl i)):=GU Uv fun _ _=>by simp [DV]
theorem WL {j:Nat}:Ev X E (.Constant .none j pos) (mC .non):=GU Uw fun _ _=>by simp [DV]
theorem OB {x:Str} {j:Nat}:Ev X E (.Constant (.str x) j pos) (mC (.str x)):=GU Ux fun _ _=>by simp [DV]
theorem WM {x:Str} {i:Int} {t:Tok} {pos:Pos} (hg:Gl X x) (hm:X.mg x=some (.int i t)) (hd:(x==("__debug__":Str))=false:=by decide):Ev X E (.Name x pos) (mC (.int i)):=
 GU (Uy (v:=.int i) hg hm ⟨t,rfl⟩ hd) fun _ _=>by simp [DV]
def Ad (op:D→D→HD→Out D) (f g:ME):ME:=fun ρ h=>(f ρ h).bind fun x h1=>(g ρ h1).bind fun y h2=>op x y h2
theorem HW {op:D→D→HD→Out D} {Q:VK} {R:V→V→Hp→Prop} {σ:L2.St} {H:Hp} (h:tD X.K E (Ad op f g) σ H Q)
 (i:∀m H2 h2 x y v u,HR X.K m h2 H2→DV X.K m H2 x v→DV X.K m H2 y u→Post X.K (rD X.K) m H2 E Q (op x y h2)→R v u H2):tD X.K E f σ H fun v H1=>tD X.K E g σ H1 fun u H2=>R v u H2:=by
 obtain ⟨m,ρ,hd,hr,er,p⟩:=h
 refine ⟨m,ρ,hd,hr,er,Post.bind p fun x h1 v m1 H1 _ p1 k1 hr1 r1 q1=>?_⟩
 refine ⟨m1,ρ,h1,hr1,er.keep p1 k1,Post.bind q1 fun y h2 u m2 H2 _ p2 k2 hr2 r2 q2=>?_⟩
 exact i m2 H2 h2 x y v u hr2 (DV.keep p2 k2 r1) r2 q2
def Bk (X:Cx) (f:Value→Value→Sem Value) (op:D→D→HD→Out D):Prop:=
 ∃r:R2,OpR X f r∧∀m H h E x y v u Q,HR X.K m h H→DV X.K m H x v→DV X.K m H y u→Post X.K (rD X.K) m H E Q (op x y h)→r v u H Q
theorem GV {o:Operator} {op:D→D→HD→Out D} (ho:Bk X (binaryOp o) op) (ha:Ev X E a f) (hb:Ev X E b g):Ev X E (.BinOp a o b pos) (Ad op f g):=by
 obtain ⟨r,ho,i⟩:=ho
 exact B4 (Vi ho ha hb) fun σ H Q h=>HW h fun m H2 h2 x y v u hr rx ry q=>i m H2 h2 E x y v u Q hr rx ry q
theorem HX {o:CmpOp} {op:D→D→HD→Out D} (ho:Bk X (compareOp o) op) (ha:Ev X E a f) (hb:Ev X E b g) (hm:behindInMarks o b=false):Ev X E (.Compare a [o] [b] pos) (Ad op f g):=by
 obtain ⟨r,ho,i⟩:=ho
 exact B4 (Vt ho ha hb hm) fun σ H Q h=>HW h fun m H2 h2 x y v u hr rx ry q=>i m H2 h2 E x y v u Q hr rx ry q
def F4:D→HD→Out Bool
 |.bl b,h=>.ok b h
 |_,_=>.stuck
def AM (f:ME):MT:=fun ρ h=>(f ρ h).bind F4
theorem OC {m:List Addr} {H:Hp} {x:D} {v:V} {h:HD} {Q:Bool→Hp→Prop} (hr:HR X.K m h H) (r:DV X.K m H x v) (q:Post X.K rB m H E Q (F4 x h)):∃k,v=.bl k∧Q k H:=by
 cases x with
 |bl b=>
  simp only [DV] at r
  exact ⟨b,r,q b m H (AB _) (.refl _) hr rfl⟩
 |_=>exact q.elim
theorem EK {o:CmpOp} {op:D→D→HD→Out D} (ho:Bk X (compareOp o) op) (ha:Ev X E a f) (hb:Ev X E b g) (hm:behindInMarks o b=false):Dg X E (.Compare a [o] [b] pos) (AM (Ad op f g)):=by
 obtain ⟨r,ho,i⟩:=ho
 refine JN (Vu ho ha hb hm) fun σ H Q h=>?_
 obtain ⟨m,ρ,hd,hr,er,p⟩:=h
 have h':tD X.K E (Ad op f g) σ H fun x H'=>∃k,x=.bl k∧Q k H':=
  ⟨m,ρ,hd,hr,er,Post.bind p fun x h1 v m1 H1 _ p1 k1 hr1 r1 q1=>OC hr1 r1 q1⟩
 exact HW h' fun m H2 h2 x y v u hr rx ry q=>i m H2 h2 E x y v u _ hr rx ry q
def Dr:D→HD→Out Bool
 |.non,h=>.ok false h
 |.bl b,h=>.ok b h
 |.int i,h=>.ok (i != 0) h
 |.tup ds,h=>.ok (!ds.isEmpty) h
 |.loc l,h=>match h[l]? with
  |some (.lst ds)=>.ok (!ds.isEmpty) h
  |_=>.stuck
 |_,_=>.stuck
def Bq (f:ME):MT:=fun ρ h=>(f ρ h).bind Dr
theorem OD {α β:Type} {xs:List α} {ys:List β} (h:xs.length=ys.length):xs.isEmpty=ys.isEmpty:=by
 cases xs<;>cases ys<;>simp_all
theorem WN {m:List Addr} {H:Hp} {x:D} {v:V} {h:HD} {Q:Bool→Hp→Prop} (hr:HR X.K m h H) (r:DV X.K m H x v) (q:Post X.K rB m H E Q (Dr x h)):∃k,Lw X.K v H k∧Q k H:=by
 have go:∀k,Dr x h=.ok k h→Q k H:=fun k e=>by rw [e] at q;exact q k m H (AB _) (.refl _) hr rfl
 cases x with
 |non=>simp only [DV] at r;subst r;exact ⟨false,rfl,go _ rfl⟩
 |bl b=>simp only [DV] at r;subst r;exact ⟨b,rfl,go _ rfl⟩
 |int i=>simp only [DV] at r;subst r;exact ⟨_,rfl,go _ rfl⟩
 |str x=>exact q.elim
 |tup ds=>
  simp only [DV] at r
  obtain ⟨p,vs,rfl,hp,dv⟩:=r
  exact ⟨_,.inr ⟨vs,SqT.of hp,rfl⟩,by rw [←OD dv.len];exact go _ rfl⟩
 |loc l=>
  simp only [DV] at r
  obtain ⟨p,rfl,hp⟩:=r
  simp only [Dr] at q
  split at q
  ·rename_i ds e
   obtain ⟨vs,e1,dv⟩:=hr.cells l _ p e hp
   exact ⟨_,.inl ⟨vs,SqL.of e1,rfl⟩,by rw [←OD dv.len];exact q _ m H (AB _) (.refl _) hr rfl⟩
  ·exact q.elim
 |scr ns=>exact q.elim
 |adr a=>exact q.elim
 |ty a=>exact q.elim
 |exc n fs=>exact q.elim
 |edic=>exact q.elim
 |glo n=>exact q.elim
 |clo a vs ds=>exact q.elim
theorem WO (ha:Ev X E a f) (he:∀En,isTrue a X.env En=(do let v ←En;standAt a.pos;holding [v] (truthy v)):=by intro _;rfl):Dg X E a (Bq f):=
 JN (Vy ha he) fun σ H Q z3_=>by obtain ⟨m,ρ,hd,hr,er,p⟩:=z3_;exact (⟨m,ρ,hd,hr,er,Post.bind p fun x h1 v m1 H1 _ p1 k1 hr1 r1 q1=>WN hr1 r1 q1⟩)
variable {tf tg:MT} {rest:List Expr}
def F5 (f g:MT):MT:=fun ρ h=>(f ρ h).bind fun b h1=>if b=true then g ρ h1 else .ok false h1
def BA (f g:MT):MT:=fun ρ h=>(f ρ h).bind fun b h1=>if b=true then .ok true h1 else g ρ h1
def BF (f:MT):MT:=fun ρ h=>(f ρ h).bind fun b h1=>.ok (!b) h1
abbrev F6 (X:Cx) (E:XK) (e:Expr) (f:MT):Prop:=PW X e (GS X.K E f)
theorem OE {e:Expr} {t t':TT} (h:PW X e t) (i:∀σ H Q,t' σ H Q→t σ H Q):PW X e t':=fun wh pins s σ H Q I q=>h wh pins s σ H Q I (i σ H Q q)
theorem WQ (ha:Dg X E a tf):F6 X E (.BoolOp .And [a] pos) tf:=UD ha
theorem WR (ha:Dg X E a tf):F6 X E (.BoolOp .Or [a] pos) tf:=UE ha
theorem OF (ha:Dg X E a tf) (hb:F6 X E (.BoolOp .And (b::rest) pos) tg):F6 X E (.BoolOp .And (a::b::rest) pos) (F5 tf tg):=
 OE (UF ha hb) fun σ H Q z4_=>by obtain ⟨m,ρ,hd,hr,er,p⟩:=z4_;exact (⟨m,ρ,hd,hr,er,Post.bind p fun x h1 v m1 H1 _ p1 k1 hr1 r1 q1=>by
  cases r1
  cases x with
  |true=>exact ⟨m1,ρ,h1,hr1,er.keep p1 k1,q1⟩
  |false=>exact q1 false m1 H1 (AB _) (.refl _) hr1 rfl⟩)
theorem OG (ha:Dg X E a tf) (hb:F6 X E (.BoolOp .Or (b::rest) pos) tg):F6 X E (.BoolOp .Or (a::b::rest) pos) (BA tf tg):=
 OE (UG ha hb) fun σ H Q z5_=>by obtain ⟨m,ρ,hd,hr,er,p⟩:=z5_;exact (⟨m,ρ,hd,hr,er,Post.bind p fun x h1 v m1 H1 _ p1 k1 hr1 r1 q1=>by
  cases r1
  cases x with
  |false=>exact ⟨m1,ρ,h1,hr1,er.keep p1 k1,q1⟩
  |true=>exact q1 true m1 H1 (AB _) (.refl _) hr1 rfl⟩)
theorem OH (h:F6 X E a tf):Dg X E a tf:=PW.pt h
theorem WS (ha:Dg X E a tf):Dg X E (.UnaryOp .Not a pos) (BF tf):=
 JN (UH ha) fun σ H Q z6_=>by obtain ⟨m,ρ,hd,hr,er,p⟩:=z6_;exact (⟨m,ρ,hd,hr,er,Post.bind p fun x h1 v m1 H1 _ p1 k1 hr1 r1 q1=>by
  cases r1
  exact q1 _ m1 H1 (AB _) (.refl _) hr1 rfl⟩)
def GW (f g:ME):ME:=fun ρ h=>(f ρ h).bind fun x h1=>match x with
 |.bl true=>g ρ h1
 |.bl false=>.ok (.bl false) h1
 |_=>.stuck
def OI (f g:ME):ME:=fun ρ h=>(f ρ h).bind fun x h1=>match x with
 |.bl true=>.ok (.bl true) h1
 |.bl false=>g ρ h1
 |_=>.stuck
def JO (f:ME):ME:=fun ρ h=>(f ρ h).bind fun x h1=>match x with
 |.bl b=>.ok (.bl (!b)) h1
 |_=>.stuck
theorem WT {o:BoolOp} (h:Ev X E a f):Ev X E (.BoolOp o [a] pos) f:=UK h
theorem WU (ha:Ev X E a f) (hb:Ev X E (.BoolOp .And (b::rest) pos) g):Ev X E (.BoolOp .And (a::b::rest) pos) (GW f g):=
 B4 (UL ha hb) fun σ H Q ⟨m,ρ,hd,hr,er,p⟩=>⟨m,ρ,hd,hr,er,Post.bind p fun x h1 v m1 H1 _ p1 k1 hr1 r1 q1=>by
  cases x with
  |bl b=>
   refine ⟨b,by simpa [rD,DV] using r1,?_⟩
   cases b with
   |true=>exact ⟨m1,ρ,h1,hr1,er.keep p1 k1,q1⟩
   |false=>exact q1 _ m1 H1 (AB _) (.refl _) hr1 (by simp [rD,DV])
  |_=>exact q1.elim⟩
theorem WV (ha:Ev X E a f):Ev X E (.UnaryOp .Not a pos) (JO f):=
 B4 (UM ha) fun σ H Q z9_=>by obtain ⟨m,ρ,hd,hr,er,p⟩:=z9_;exact (⟨m,ρ,hd,hr,er,Post.bind p fun x h1 v m1 H1 _ p1 k1 hr1 r1 q1=>by
  cases x with
  |bl b=>exact ⟨b,by simpa [rD,DV] using r1,q1 _ m1 H1 (AB _) (.refl _) hr1 (by simp [rD,DV])⟩
  |_=>exact q1.elim⟩)
def OJ (t:MT) (f g:ME):ME:=fun ρ h=>(t ρ h).bind fun b h1=>if b=true then f ρ h1 else g ρ h1
def DM (op op':D→D→HD→Out D) (f g k:ME):ME:=fun ρ h=>(f ρ h).bind fun x h1=>(g ρ h1).bind fun y h2=>(op x y h2).bind fun z h3=>match z with
 |.bl true=>(k ρ h3).bind fun w h4=>op' y w h4
 |.bl false=>.ok (.bl false) h3
 |_=>.stuck
theorem OK {r r':R2} {op op':D→D→HD→Out D} {o o':Value→Value→Sem Value} (i:∀m H h E x y v u Q,HR X.K m h H→DV X.K m H x v→DV X.K m H y u→Post X.K (rD X.K) m H E Q (op x y h)→r v u H Q)
 (i':∀m H h E x y v u Q,HR X.K m h H→DV X.K m H x v→DV X.K m H y u→Post X.K (rD X.K) m H E Q (op' x y h)→r' v u H Q) {σ:L2.St} {H:Hp} {Q:VK} (h:tD X.K E (DM op op' f g k) σ H Q):
 Lu r r' (tD X.K E f) (tD X.K E g) (tD X.K E k) σ H Q:=by
 obtain ⟨m,ρ,hd,hr,er,p⟩:=h
 refine ⟨m,ρ,hd,hr,er,Post.bind p fun x h1 v m1 H1 _ p1 k1 hr1 r1 q1=>?_⟩
 refine ⟨m1,ρ,h1,hr1,er.keep p1 k1,Post.bind q1 fun y h2 u m2 H2 _ p2 k2 hr2 r2 q2=>?_⟩
 refine i m2 H2 h2 E x y v u _ hr2 (DV.keep p2 k2 r1) r2 (Post.bind q2 fun z h3 w m3 H3 _ p3 k3 hr3 r3 q3=>?_)
 cases z with
 |bl b=>
  refine ⟨b,by simpa [rD,DV] using r3,?_⟩
  cases b with
  |false=>exact q3 _ m3 H3 (AB _) (.refl _) hr3 (by simp [rD,DV])
  |true=>
   refine ⟨m3,ρ,h3,hr3,((er.keep p1 k1).keep p2 k2).keep p3 k3,Post.bind q3 fun z h4 w' m4 H4 _ p4 k4 hr4 r4 q4=>?_⟩
   exact i' m4 H4 h4 E y z u w' Q hr4 (DV.keep p4 k4 (DV.keep p3 k3 r2)) r4 q4
 |_=>exact q3.elim
theorem WW {o o':CmpOp} {op op':D→D→HD→Out D} (ho:Bk X (compareOp o) op) (ho':Bk X (compareOp o') op') (ha:Ev X E a f) (hb:Ev X E b g) (hc:Ev X E c k)
 (hm:lastMarks [o,o'] [b,c]=false:=by with_unfolding_all rfl):Ev X E (.Compare a [o,o'] [b,c] pos) (DM op op' f g k):=by
 obtain ⟨r,ho,i⟩:=ho
 obtain ⟨r',ho',i'⟩:=ho'
 exact B4 (Vv ho ho' ha hb hc hm) fun σ H Q h=>OK (o:=compareOp o) (o':=compareOp o') i i' h
theorem LN {o o':CmpOp} {op op':D→D→HD→Out D} (ho:Bk X (compareOp o) op) (ho':Bk X (compareOp o') op') (ha:Ev X E a f) (hb:Ev X E b g) (hc:Ev X E c k)
 (hm:lastMarks [o,o'] [b,c]=false:=by with_unfolding_all rfl):Dg X E (.Compare a [o,o'] [b,c] pos) (AM (DM op op' f g k)):=by
 obtain ⟨r,ho,i⟩:=ho
 obtain ⟨r',ho',i'⟩:=ho'
 refine JN (Vw ho ho' ha hb hc hm) fun σ H Q h=>?_
 obtain ⟨m,ρ,hd,hr,er,p⟩:=h
 exact OK (o:=compareOp o) (o':=compareOp o') i i' ⟨m,ρ,hd,hr,er,Post.bind p fun x h1 v m1 H1 _ p1 k1 hr1 r1 q1=>OC hr1 r1 q1⟩
variable {es:List Expr} {fa:MA}
def Ac:MA:=fun _ h=>.ok [] h
def Ab (f:ME) (r:MA):MA:=fun ρ h=>(f ρ h).bind fun x h1=>(r ρ h1).bind fun xs h2=>.ok (x::xs) h2
theorem HY:CA X E [] Ac:=OA VG fun σ H Q z11_=>by obtain ⟨m,ρ,hd,hr,er,p⟩:=z11_;exact (p [] m H (AB _) (.refl _) hr .nil)
theorem HZ (ha:Ev X E a f) (hr:CA X E es fa) (hs:starEach (a::es) X.env=(false,eval a X.env)::starEach es X.env:=by rfl):CA X E (a::es) (Ab f fa):=
 OA (VH ha hr hs) fun σ H Q z12_=>by obtain ⟨m,ρ,hd,hr,er,p⟩:=z12_;exact (⟨m,ρ,hd,hr,er,Post.bind p fun x h1 v m1 H1 _ p1 k1 hr1 r1 q1=>
  ⟨m1,ρ,h1,hr1,er.keep p1 k1,Post.bind q1 fun xs h2 vs m2 H2 _ p2 k2 hr2 r2 q2=>q2 _ m2 H2 (AB _) (.refl _) hr2 (DVs.cons (DV.keep p2 k2 r1) r2)⟩⟩)
def Au (fa:MA):ME:=fun ρ h=>(fa ρ h).bind fun xs h1=>if xs.length≤sizeLine then .ok (.tup xs) h1 else .stuck
def Cq (xs:List D) (h:HD):Out D:=if xs.length≤sizeLine then .ok (.loc h.length) (h++[.lst xs]) else .stuck
def A7 (fa:MA):ME:=fun ρ h=>(fa ρ h).bind Cq
theorem F7 {m:List Addr} {H:Hp} {h:HD} {xs:List D} {vs:List V} {Q:VK} (hr:HR X.K m h H) (r:DVs X.K m H xs vs) (q:Post X.K (rD X.K) m H E Q (.ok (.tup xs) h)):∀p,H p=none→Q (.ref p) (Ao H p (.tup vs)):=fun p hp=>
 q (.ref p) m _ (AB _) (.new hp) (hr.new hp) (by simp only [rD,DV];exact ⟨p,vs,rfl,BL,r.keep (AB _) (.new hp)⟩)
theorem H0 {m:List Addr} {H:Hp} {h:HD} {xs:List D} {vs:List V} {Q:VK} (hr:HR X.K m h H) (r:DVs X.K m H xs vs) (q:Post X.K (rD X.K) m H E Q (Cq xs h)):vs.length≤sizeLine∧∀p,H p=none→Q (.ref p) (Ao H p (.lst vs)):=by
 unfold Cq at q
 by_cases hz:xs.length≤sizeLine
 ·rw [if_pos hz] at q
  refine ⟨by rw [←r.len];exact hz,fun p hp=>?_⟩
  refine q (.ref p) (m++[p]) _ (EF _ _) (.new hp) (hr.newCell hp ⟨vs,BL,r.keep (EF _ _) (.new hp)⟩) ?_
  simp only [rD,DV]
  exact ⟨p,rfl,by rw [←hr.len];simp⟩
 ·rw [if_neg hz] at q;exact q.elim
theorem WX {x1:Nat} (h:CA X E es fa):Ev X E (.Tuple es x1 pos) (Au fa):=
 B4 (VL h) fun σ H Q z13_=>by obtain ⟨m,ρ,hd,hr,er,p⟩:=z13_;exact (⟨m,ρ,hd,hr,er,Post.bind p fun xs h1 vs m1 H1 _ p1 k1 hr1 r1 q1=>by
  by_cases hz:xs.length≤sizeLine
  ·rw [if_pos hz] at q1
   exact ⟨by rw [←DVs.len r1];exact hz,F7 hr1 r1 q1⟩
  ·rw [if_neg hz] at q1;exact q1.elim⟩)
theorem WY (h:CA X E es fa):Ev X E (.List es pos) (A7 fa):=
 B4 (VM h) fun σ H Q z14_=>by obtain ⟨m,ρ,hd,hr,er,p⟩:=z14_;exact (⟨m,ρ,hd,hr,er,Post.bind p fun xs h1 vs m1 H1 _ p1 k1 hr1 r1 q1=>H0 hr1 r1 q1⟩)
inductive JP (K:PySem.W.Frag) (F:List D→HD→Out D) (vs:List V) (H:Hp) (Q:VK) (E:XK):Prop where
 |mk (m:List Addr) (ds:List D) (h:HD) (hr:HR K m h H) (r:DVs K m H ds vs) (p:Post K (rD K) m H E0 Q (F ds h)):JP K F vs H Q E
def Ar (n:Nat) (F:List D→HD→Out D):Prop:=∀ds h,ds.length≠n→F ds h=.stuck
theorem Ar.len {K:PySem.W.Frag} {n:Nat} {F:List D→HD→Out D} (ar:Ar n F) {vs:List V} {H:Hp} {Q:VK} {E':XK} (h:JP K F vs H Q E'):vs.length=n:=by
 obtain ⟨m,ds,hd,hr,r,p⟩:=h
 rw [←r.len]
 by_cases e:ds.length=n
 ·exact e
 ·rw [ar ds hd e] at p;exact p.elim
def ar0 (F:HD→Out D):List D→HD→Out D:=fun ds h=>match ds with
 |[]=>F h
 |_=>.stuck
def Aw (F:D→HD→Out D):List D→HD→Out D:=fun ds h=>match ds with
 |[a]=>F a h
 |_=>.stuck
def A3 (F:D→D→HD→Out D):List D→HD→Out D:=fun ds h=>match ds with
 |[a,b]=>F a b h
 |_=>.stuck
def WZ (F:D→D→D→HD→Out D):List D→HD→Out D:=fun ds h=>match ds with
 |[a,b,c]=>F a b c h
 |_=>.stuck
def Ae (F:List D→HD→Out D) (fa:MA):ME:=fun ρ h=>(fa ρ h).bind F
def CC (X:Cx) (f:Value) (F:List D→HD→Out D):Prop:=
 ∃r:List V→Hp→VK→Prop,De X f r∧∀m H h E ds vs Q,HR X.K m h H→DVs X.K m H ds vs→Post X.K (rD X.K) m H E Q (F ds h)→r vs H Q
theorem W0 {id:String} {F:List D→HD→Out D} {x:Str} {p pos:Pos} {e:Expr} (hc:CC X (.builtin id) F) (hg:Gl X x) (hm:X.mg x=none) (hv:bootBuiltins x=some (.builtin id)) (ha:CA X E (e::es) fa) (hn:x≠"__name__":=by decide) (hdb:(x==("__debug__":Str))=false:=by decide)
 (hs:starEach (e::es) X.env=(false,eval e X.env)::starEach es X.env:=by rfl) (hpl:(backTo pos (starEach es X.env)).any (·.1)=false:=by rfl):Ev X E (.Call (.Name x p) (e::es) [] pos) (Ae F fa):=by
 obtain ⟨r,hc,i⟩:=hc
 exact B4 (VQ hc hg hm hv ha hn hdb hs hpl) fun σ H Q z17_=>by obtain ⟨m,ρ,hd,hr,er,p⟩:=z17_;exact (⟨m,ρ,hd,hr,er,Post.bind p fun xs h1 vs m1 H1 e1 p1 k1 hr1 r1 q1=>i m1 H1 h1 E xs vs Q hr1 r1 q1⟩)
theorem W1 {id:String} {F:List D→HD→Out D} {x:Str} {p pos:Pos} {e:Expr} (hc:CC X (.type id) F) (hg:Gl X x) (hm:X.mg x=none) (hv:bootBuiltins x=some (.type id)) (ha:CA X E (e::es) fa) (hn:x≠"__name__":=by decide) (hdb:(x==("__debug__":Str))=false:=by decide)
 (hs:starEach (e::es) X.env=(false,eval e X.env)::starEach es X.env:=by rfl) (hpl:(backTo pos (starEach es X.env)).any (·.1)=false:=by rfl):Ev X E (.Call (.Name x p) (e::es) [] pos) (Ae F fa):=by
 obtain ⟨r,hc,i⟩:=hc
 exact B4 (VR hc hg hm hv ha hn hdb hs hpl) fun σ H Q z18_=>by obtain ⟨m,ρ,hd,hr,er,p⟩:=z18_;exact (⟨m,ρ,hd,hr,er,Post.bind p fun xs h1 vs m1 H1 e1 p1 k1 hr1 r1 q1=>i m1 H1 h1 E xs vs Q hr1 r1 q1⟩)
end
section
variable {X:Cx} {E:XK}
theorem A5 {K:PySem.W.Frag} {m:List Addr} {H:Hp} {h:HD} {d:D} {v:V} {Q:VK} (hr:HR K m h H) (q:Post K (rD K) m H E Q (.ok d h)) (r:DV K m H d v):Q v H:=q v m H (AB _) (.refl _) hr r
theorem op_catT0:OpR X (binaryOp .Add) (fun x y H Q=>∃a b ys,x=.ref a∧y=.ref b∧SqT X.K H a []∧SqT X.K H b ys∧Q (.ref b) H):=by
 intro pins s σ H x y v u Q I rx ry h
 obtain ⟨a,b,ys,rfl,rfl,ha,hb,q⟩:=h
 cases rx
 cases ry
 obtain ⟨its,r1,p1,_⟩:=I.tuple ha
 obtain ⟨its2,r2,p2,_⟩:=I.tuple hb
 cases r1
 obtain ⟨⟨cls,dd,data,sl⟩,ho,hc,n,hd⟩:=id p1
 obtain ⟨⟨cls2,dd2,data2,sl2⟩,ho2,hc2,n2,hd2⟩:=id p2
 simp only at hc hd hc2 hd2
 subst hc hd hc2 hd2
 exact concat_meets ⟨_,ho,rfl⟩ ⟨_,ho2,rfl⟩ noFill_tuple_add seq_tuple_add PySem.F.slot_tuple_add PySem.F.entry_tuple_add (PySem.F.args_tuple_add_2 _ _)
  (tuple_addW0 a b _ its2.toArray n n2 dd dd2 sl sl2 (by simp)) ⟨ho,ho2,⟨.ref b,H,I,rfl,q⟩⟩
def Al:D→D→HD→Out D
 |.int i,.int j,h=>.ok (.int (i+j)) h
 |.str x,.str y,h=>if x.length+y.length≤sizeLine then .ok (.str (x++y)) h else .stuck
 |.tup xs,.tup ys,h=>if xs.length+ys.length≤sizeLine then .ok (.tup (xs++ys)) h else .stuck
 |.loc l,.loc k,h=>match h[l]?,h[k]? with
  |some (.lst xs),some (.lst ys)=>Cq (xs++ys) h
  |_,_=>.stuck
 |_,_,_=>.stuck
theorem W2:Bk X (binaryOp .Add) Al:=by
 refine ⟨_,op_add.or (op_catT0.or (op_catT.or (op_cat.or Vz))),fun m H h E x y v u Q hr rx ry q=>?_⟩
 unfold Al at q
 split at q
 ·simp only [DV] at rx ry
  subst rx ry
  exact .inl ⟨_,_,rfl,rfl,A5 hr q (by simp [DV])⟩
 ·simp only [DV] at rx ry
  subst rx ry
  split at q
  ·rename_i hz
   exact .inr (.inr (.inr (.inr ⟨_,_,rfl,rfl,hz,A5 hr q (by simp [DV])⟩)))
  ·exact q.elim
 ·rename_i xs ys
  simp only [DV] at rx ry
  obtain ⟨a,vs,rfl,ha,dx⟩:=rx
  obtain ⟨b,ws,rfl,hb,dy⟩:=ry
  split at q
  ·rename_i hz
   cases xs with
   |nil=>
    simp only [DVs] at dx
    subst dx
    exact .inr (.inl ⟨a,b,ws,rfl,rfl,SqT.of ha,SqT.of hb,A5 hr q (by simp only [DV];exact ⟨b,ws,rfl,hb,dy⟩)⟩)
   |cons x xs=>
    refine .inr (.inr (.inl ⟨a,b,vs,ws,rfl,rfl,SqT.of ha,SqT.of hb,?_,by rw [←dx.len,←dy.len];exact hz,fun e=>?_,fun e=>?_⟩))
    ·intro e;have:=dx.len;rw [e] at this;simp at this
    ·subst e
     have:ys=[]:=by have:=dy.len;simpa using this
     subst this
     exact A5 hr q (by simp only [DV];exact ⟨a,vs,rfl,ha,by simpa using dx⟩)
    ·exact F7 hr (dx.app dy) q
  ·exact q.elim
 ·simp only [DV] at rx ry
  obtain ⟨a,rfl,ha⟩:=rx
  obtain ⟨b,rfl,hb⟩:=ry
  split at q
  ·rename_i xs ys e1 e2
   obtain ⟨vs,h1,d1⟩:=hr.cells _ _ a e1 ha
   obtain ⟨ws,h2,d2⟩:=hr.cells _ _ b e2 hb
   obtain ⟨z,q'⟩:=H0 hr (d1.app d2) q
   exact .inr (.inr (.inr (.inl ⟨a,b,vs,ws,rfl,rfl,h1,h2,by simpa using z,q'⟩)))
  ·exact q.elim
 ·exact q.elim
def intD (f:Int→Int→D) (c:Int→Int→Prop) [∀i j,Decidable (c i j)]:D→D→HD→Out D
 |.int i,.int j,h=>if c i j then .ok (f i j) h else .stuck
 |_,_,_=>.stuck
theorem LO {o:Value→Value→Sem Value} {f:Int→Int→V} {g:Int→Int→D} {c c':Int→Int→Prop} [∀i j,Decidable (c' i j)] (h:OpR X o (rI c f)) (hc:∀i j,c' i j→c i j) (hg:∀m H i j,DV X.K m H (g i j) (f i j)):Bk X o (intD g c'):=by
 refine ⟨_,h,fun m H h E x y v u Q hr rx ry q=>?_⟩
 unfold intD at q
 split at q
 ·simp only [DV] at rx ry
  subst rx ry
  split at q
  ·rename_i hc'
   exact ⟨_,_,rfl,rfl,hc _ _ hc',A5 hr q (hg _ _ _ _)⟩
  ·exact q.elim
 ·exact q.elim
def Fs (f:Int→Int→D):D→D→HD→Out D
 |.int i,.int j,h=>.ok (f i j) h
 |_,_,_=>.stuck
theorem JQ {o:Value→Value→Sem Value} {f:Int→Int→V} {g:Int→Int→D} (h:OpR X o (Fj f)) (hg:∀m H i j,DV X.K m H (g i j) (f i j)):Bk X o (Fs g):=by
 refine ⟨_,h,fun m H h E x y v u Q hr rx ry q=>?_⟩
 unfold Fs at q
 split at q
 ·simp only [DV] at rx ry
  subst rx ry
  exact ⟨_,_,rfl,rfl,A5 hr q (hg _ _ _ _)⟩
 ·exact q.elim
abbrev D9:=Fs fun i j=>.int (i - j)
theorem W3:Bk X (binaryOp .Sub) D9:=JQ Vj fun _ _ _ _=>by simp [DV]
abbrev Ea:=Fs fun i j=>.bl (decide (i<j))
abbrev F8:=Fs fun i j=>.bl (decide (i≤j))
abbrev JR:=Fs fun i j=>.bl (decide (j<i))
theorem Ia:Bk X (compareOp .Lt) Ea:=JQ Vp fun _ _ _ _=>by simp [DV]
theorem JS:Bk X (compareOp .LtE) F8:=JQ Vq fun _ _ _ _=>by simp [DV]
theorem OL:Bk X (compareOp .Gt) JR:=JQ Vr fun _ _ _ _=>by simp [DV]
instance (i j:Int):Decidable (CMul i j):=by unfold CMul;infer_instance
instance (i j:Int):Decidable (N6 i j):=by unfold N6;infer_instance
instance (i j:Int):Decidable (JE i j):=by unfold JE;infer_instance
abbrev Cr:=intD (fun i j=>.int (i % j)) fun _ j=>0<j
theorem W4:Bk X (binaryOp .Mod) Cr:=LO Vk (fun _ _ h=>h) fun _ _ _ _=>by simp [DV]
abbrev Ib:=intD (fun i j=>.int (i^j.toNat)) JE
theorem W5:Bk X (binaryOp .Pow) Ib:=LO Vl (fun _ _ h=>h) fun _ _ _ _=>by simp [DV]
def Zdn:D→D→HD→Out D
 |.int i,.int j,h=>if CMul i j then .ok (.int (i*j)) h else .stuck
 |.loc l,.int k,h=>match h[l]? with
  |some (.lst xs)=>if -(2^63)≤k∧k<2^63 then Cq (List.replicate k.toNat xs).flatten h else .stuck
  |_=>.stuck
 |_,_,_=>.stuck
theorem op_isnotB:OpR X (compareOp .IsNot) (fun x y H Q=>∃b c,x=.bl b∧y=.bl c∧Q (.bl (!(b==c))) H):=by
 intro pins s σ H x y v u Q I rx ry h
 obtain ⟨b,c,rfl,rfl,q⟩:=h
 cases rx
 cases ry
 exact wpAny_isNot_plain rfl ⟨.bl _,H,I,by cases b<;>cases c<;>rfl,q⟩
def LP:D→Bool
 |.non=>true
 |_=>false
def W6:D→D→HD→Out D
 |.bl b,.bl c,h=>.ok (.bl (b==c)) h
 |x,.non,h=>.ok (.bl (LP x)) h
 |_,_,_=>.stuck
def Eb:D→D→HD→Out D
 |.bl b,.bl c,h=>.ok (.bl (!(b==c))) h
 |x,.non,h=>.ok (.bl (!LP x)) h
 |_,_,_=>.stuck
theorem W7 {m:List Addr} {H:Hp} {x:D} {v:V} (r:DV X.K m H x v):decide (v=.non)=LP x:=by
 cases x<;>simp only [DV] at r<;>first |(subst r;rfl) |(obtain ⟨_,rfl,_⟩:=r;rfl) |(obtain ⟨_,_,rfl,_⟩:=r;rfl) |(obtain ⟨_,_,_,rfl,_⟩:=r;rfl) |(obtain ⟨rfl,_⟩:=r;rfl)
theorem W8:Bk X (compareOp .IsNot) Eb:=by
 refine ⟨_,op_isnotB.or Vs,fun m H h E x y v u Q hr rx ry q=>?_⟩
 unfold Eb at q
 split at q
 ·simp only [DV] at rx ry
  subst rx ry
  exact .inl ⟨_,_,rfl,rfl,A5 hr q (by simp [DV])⟩
 ·simp only [DV] at ry
  subst ry
  exact .inr ⟨rfl,A5 hr q (by simp [DV,W7 rx])⟩
 ·exact q.elim
end
def AC {α:Type}:List (Option α)→Option (List α)
 |[]=>some []
 |none::_=>none
 |some a::r=>(AC r).map (a::·)
def AN (h:HD):Nat→D→Option PyData
 |_,.non=>some .none
 |_,.bl b=>some (.bool b)
 |_,.int i=>some (.int i)
 |_,.str x=>some (.str x)
 |n+1,.tup ds=>(AC (ds.map (AN h n))).map .tuple
 |n+1,.loc l=>match h[l]? with
  |some (.lst ds)=>(AC (ds.map (AN h n))).map .list
  |_=>none
 |_,_=>none
section
variable {X:Cx} {E:XK} {pins:List (Addr×Obj)} {σ:L2.St} {H:Hp} {s:Shared} {m:List Addr} {h:HD}
theorem LQ {n:Nat} (ih:∀(d:D) (v:V) (u:Value) (p:PyData),DV X.K m H d v→RelV v u→AN h n d=some p→∃as,Reads s.heap u p as):
 ∀(ds:List D) (vs:List V) (us:List Value) (ps:List PyData),DVs X.K m H ds vs→Vals vs us→AC (ds.map (AN h n))=some ps→∃as,ReadsAll s.heap us ps as
 |[],vs,us,ps,r,q,e=>by
  simp only [DVs] at r
  subst r
  cases q
  simp [AC] at e
  subst e
  exact ⟨[],.nil⟩
 |d::ds,vs,us,ps,r,q,e=>by
  simp only [DVs] at r
  obtain ⟨v,w,rfl,rv,rw'⟩:=r
  cases q with
  |cons q1 q2=>
   rw [BE] at e
   cases ed:AN h n d with
   |none=>rw [ed] at e;simp [AC] at e
   |some p=>
    rw [ed] at e
    simp only [AC,qaT] at e
    obtain ⟨ps',e1,rfl⟩:=e
    obtain ⟨as,h1⟩:=ih d v _ p rv q1 ed
    obtain ⟨bs,h2⟩:=LQ ih ds w _ ps' rw' q2 e1
    exact ⟨as++bs,.cons h1 h2⟩
theorem OM (hok:HOk X.prog X.w H s.heap) (hr:HR X.K m h H):∀(n:Nat) (d:D) (v:V) (u:Value) (p:PyData),DV X.K m H d v→RelV v u→AN h n d=some p→∃as,Reads s.heap u p as:=by
 intro n
 induction n with
 |zero=>
  intro d v u p r q e
  cases d<;>simp only [AN,DV,Option.some.injEq] at e r<;>try (cases e;done)
  ·subst e r;cases q;exact ⟨[],.none⟩
  ·subst e r;cases q;exact ⟨[],.bool _⟩
  ·subst e r;obtain ⟨t,rfl⟩:=q;exact ⟨[],.int _ _⟩
  ·subst e r;obtain ⟨t,rfl⟩:=q;exact ⟨[],.str _ _⟩
 |succ n ih=>
  intro d v u p r q e
  cases d with
  |non=>simp only [AN,DV,Option.some.injEq] at e r;subst e r;cases q;exact ⟨[],.none⟩
  |bl b=>simp only [AN,DV,Option.some.injEq] at e r;subst e r;cases q;exact ⟨[],.bool _⟩
  |int i=>simp only [AN,DV,Option.some.injEq] at e r;subst e r;obtain ⟨t,rfl⟩:=q;exact ⟨[],.int _ _⟩
  |str x=>simp only [AN,DV,Option.some.injEq] at e r;subst e r;obtain ⟨t,rfl⟩:=q;exact ⟨[],.str _ _⟩
  |tup ds=>
   simp only [AN,DV,qaT] at e r
   obtain ⟨a,vs,rfl,ha,dv⟩:=r
   obtain ⟨ps,e1,rfl⟩:=e
   cases q
   obtain ⟨_,its,rv,⟨o,ho,hc,k,hd⟩,_⟩:=hok a _ ha
   obtain ⟨as,h1⟩:=LQ ih ds vs its ps dv rv e1
   exact ⟨as,.tuple ho hc hd (by simpa using h1)⟩
  |loc l=>
   simp only [DV] at r
   obtain ⟨a,rfl,ha⟩:=r
   cases q
   simp only [AN] at e
   split at e
   ·rename_i ds el
    simp only [qaT] at e
    obtain ⟨ps,e1,rfl⟩:=e
    obtain ⟨vs,hv,dv⟩:=hr.cells l _ a el ha
    obtain ⟨_,its,k,rv,ho⟩:=hok a _ hv
    obtain ⟨as,h1⟩:=LQ ih ds vs its ps dv rv e1
    exact ⟨_,.list ho rfl rfl (by simpa using h1)⟩
   ·cases e
  |scr ns=>simp [AN] at e
  |adr a=>simp [AN] at e
  |ty a=>simp [AN] at e
  |exc n fs=>simp [AN] at e
  |edic=>simp [AN] at e
  |glo n=>simp [AN] at e
  |clo a vs ds=>simp [AN] at e
def EL (f:PyData→PyData→Bool):D→D→HD→Out D:=fun x y h=>match AN h 8 x,AN h 8 y with
 |some p,some q=>if SeqAt.shaped p=true∧SeqAt.shaped q=true then .ok (.bl (f p q)) h else .stuck
 |_,_=>.stuck
abbrev F9:=EL PyData.eqv
abbrev Dh:=EL fun p q=>!PyData.eqv p q
theorem ON {o:CmpOp} {f:PyData→PyData→Bool}
 (rule:∀{s:Shared} {a b:Value} {p q:PyData} {as bs:List Addr} {Q:Value→Shared→Prop},Reads s.heap a p as→Reads s.heap b q bs→SeqAt.shaped p=true→SeqAt.shaped q=true→Q (.bool (f p q)) s→wpAny (model X.prog X.w) X.A (compareOp o a b) Q X.xe s):
 Bk X (compareOp o) (EL f):=by
 refine ⟨fun v u H Q=>∃m h x y,HR X.K m h H∧DV X.K m H x v∧DV X.K m H y u∧Post X.K (rD X.K) m H E0 Q (EL f x y h),?_,fun m H h E x y v u Q hr rx ry q=>⟨m,h,x,y,hr,rx,ry,?_⟩⟩
 ·intro pins s σ H x y v u Q I rx ry hq
  obtain ⟨m,h,dx,dy,hr,r1,r2,q⟩:=hq
  unfold EL at q
  split at q
  ·rename_i p p' e1 e2
   split at q
   ·rename_i hs
    obtain ⟨as,h1⟩:=OM I.hok hr 8 dx x v p r1 rx e1
    obtain ⟨bs,h2⟩:=OM I.hok hr 8 dy y u p' r2 ry e2
    exact rule h1 h2 hs.1 hs.2 ⟨.bl _,H,I,rfl,A5 hr q (by simp [DV])⟩
   ·exact q.elim
  ·exact q.elim
 ·unfold EL at q ⊢
  split
  ·split
   ·rename_i e1 e2 hs
    rw [e1,e2] at q
    simp only [hs] at q
    exact q
   ·rename_i e1 e2 hs
    rw [e1,e2] at q
    simp only [hs] at q
    exact q.elim
  ·rename_i hn
   split at q
   ·rename_i e1 e2
    exact (hn _ _ e1 e2).elim
   ·exact q.elim
theorem W9 (hu:X.A.units+64<cLine):Bk X (compareOp .Eq) F9:=ON fun ra rb ha hb h=>eq_dataH ra rb ha hb hu h
theorem Xa (hu:X.A.units+64<cLine):Bk X (compareOp .NotEq) Dh:=ON fun ra rb ha hb h=>ne_dataH ra rb ha hb hu h
def B1:D→Option V
 |.non=>some .non
 |.bl b=>some (.bl b)
 |.int i=>some (.int i)
 |.str x=>some (.str x)
 |_=>none
theorem Ic {d:D} {v w:V} (r:DV X.K m H d v) (e:B1 d=some w):v=w∧Dq v=true:=by
 cases d<;>simp only [B1,Option.some.injEq,DV] at e r<;>first |(subst e r;exact ⟨rfl,rfl⟩) |cases e
theorem Ie:∀{ds:List D} {vs ws:List V},DVs X.K m H ds vs→AC (ds.map B1)=some ws→vs=ws∧vs.all Dq=true
 |[],vs,ws,r,e=>by
  simp only [DVs] at r
  simp [AC] at e
  subst r e
  exact ⟨rfl,rfl⟩
 |d::ds,vs,ws,r,e=>by
  simp only [DVs] at r
  obtain ⟨v,w,rfl,rv,rw'⟩:=r
  rw [BE] at e
  cases ed:B1 d with
  |none=>rw [ed] at e;simp [AC] at e
  |some p=>
   rw [ed] at e
   simp only [AC,qaT] at e
   obtain ⟨ps',e1,rfl⟩:=e
   obtain ⟨h1,h2⟩:=Ic rv ed
   obtain ⟨h3,h4⟩:=Ie rw' e1
   subst h1 h3
   exact ⟨rfl,by simp [h2,h4]⟩
def Bg:D→HD→Option (List D)
 |.tup ds,_=>some ds
 |.loc l,h=>match h[l]? with
  |some (.lst ds)=>some ds
  |_=>none
 |.scr ns,_=>some (ns.map .int)
 |_,_=>none
theorem OO {ns:List Int}:DVs X.K m H (ns.map .int) (ns.map V.int):=by
 induction ns with
 |nil=>exact .nil
 |cons n ns ih=>exact .cons (by simp [DV]) ih
theorem Ig {d:D} {v:V} {ds:List D} (hr:HR X.K m h H) (r:DV X.K m H d v) (e:Bg d h=some ds):∃p vs,v=.ref p∧(SqL X.K H p vs∨SqT X.K H p vs)∧DVs X.K m H ds vs:=by
 cases d with
 |tup xs=>
  simp only [DV,Bg,Option.some.injEq] at r e
  subst e
  obtain ⟨a,vs,rfl,ha,dv⟩:=r
  exact ⟨a,vs,rfl,.inr (SqT.of ha),dv⟩
 |loc l=>
  simp only [DV] at r
  obtain ⟨a,rfl,ha⟩:=r
  simp only [Bg] at e
  split at e
  ·rename_i xs el
   cases e
   obtain ⟨vs,hv,dv⟩:=hr.cells l _ a el ha
   exact ⟨a,vs,rfl,.inl (SqL.of hv),dv⟩
  ·cases e
 |scr ns=>
  simp only [DV,Bg,Option.some.injEq] at r e
  subst e
  obtain ⟨a,rfl,ha⟩:=r
  exact ⟨a,_,rfl,.inl ha.sq,OO⟩
 |_=>simp [Bg] at e
def CJ (neg:Bool):D→D→HD→Out D:=fun x y h=>match Bg y h with
 |none=>.stuck
 |some ds=>match B1 x,AC (ds.map B1) with
  |some v,some vs=>.ok (.bl (if neg then !GP v vs else GP v vs)) h
  |_,_=>.stuck
theorem OP {neg:Bool}:∀m H h E x y v u Q,HR X.K m h H→DV X.K m H x v→DV X.K m H y u→Post X.K (rD X.K) m H E Q (CJ neg x y h)→LA X.K neg v u H Q:=fun m H h E x y v u Q hr rx ry q=>by
 unfold CJ at q
 split at q
 ·exact q.elim
 ·rename_i ds e
  split at q
  ·rename_i w ws e1 e2
   obtain ⟨p,vs,rfl,hs,dv⟩:=Ig hr ry e
   obtain ⟨h1,h2⟩:=Ic rx e1
   obtain ⟨h3,h4⟩:=Ie dv e2
   subst h1 h3
   exact ⟨p,vs,rfl,hs,h2,h4,A5 hr q (by simp [DV])⟩
  ·exact q.elim
theorem OQ:Bk X (compareOp .In) (CJ false):=⟨_,Wl,OP⟩
theorem Xb:Bk X (compareOp .NotIn) (CJ true):=⟨_,Wm,OP⟩
def As:D→D→HD→Out D:=fun x y h=>match Bg x h,y with
 |some ds,.int i=>match BZ ds i with
  |some d=>.ok d h
  |none=>.stuck
 |_,_=>.stuck
theorem Xd {ds:List D} {vs:List V} {i:Int} {d:D} (r:DVs X.K m H ds vs) (e:BZ ds i=some d):∃v,BZ vs i=some v∧DV X.K m H d v:=by
 unfold BZ at e ⊢
 rw [r.len] at e
 cases k:Cz vs.length i with
 |none=>rw [k] at e;cases e
 |some j=>
  rw [k] at e
  exact r.get e
theorem Xe {a b:Expr} {pos:Pos} {f g:ME} (ha:Ev X E a f) (hb:Ev X E b g) (hs:Lz b):Ev X E (.Subscript a b pos) (Ad As f g):=
 B4 (Oq (ix_list.or ix_tup) ha hb hs) fun σ H Q hq=>HW hq fun m H2 h2 x y v u hr rx ry q=>by
  unfold As at q
  split at q
  ·rename_i ds i e
   split at q
   ·rename_i d ed
    simp only [DV] at ry
    subst ry
    obtain ⟨p,vs,rfl,hsq,dv⟩:=Ig hr rx e
    obtain ⟨w,e1,r1⟩:=Xd dv ed
    rcases hsq with hsq |hsq
    ·exact .inl ⟨p,vs,i,w,rfl,rfl,hsq,e1,A5 hr q r1⟩
    ·exact .inr ⟨p,vs,i,w,rfl,rfl,hsq,e1,A5 hr q r1⟩
   ·exact q.elim
  ·exact q.elim
def B5:D→HD→Out D:=fun x h=>match Bg x h with
 |some ds=>.ok (.int ds.length) h
 |none=>.stuck
theorem EN {F:D→HD→Out D} {ds:List D} {vs:List V} {Q:VK} {C:Prop} (r:DVs X.K m H ds vs) (q:Post X.K (rD X.K) m H E Q (Aw F ds h)) (k:∀d v,vs=[v]→DV X.K m H d v→Post X.K (rD X.K) m H E Q (F d h)→C):C:=by
 unfold Aw at q
 split at q
 ·simp only [DVs] at r
  obtain ⟨v,w,rfl,rv,rfl⟩:=r
  exact k _ v rfl rv q
 ·exact q.elim
theorem two_of {F:D→D→HD→Out D} {ds:List D} {vs:List V} {Q:VK} {C:Prop} (r:DVs X.K m H ds vs) (q:Post X.K (rD X.K) m H E Q (A3 F ds h)) (k:∀d d' v v',vs=[v,v']→DV X.K m H d v→DV X.K m H d' v'→Post X.K (rD X.K) m H E Q (F d d' h)→C):C:=by
 unfold A3 at q
 split at q
 ·simp only [DVs] at r
  obtain ⟨v,w,rfl,rv,v',w',rfl,rv',rfl⟩:=r
  exact k _ _ v v' rfl rv rv' q
 ·exact q.elim
theorem Xf:CC X (.builtin "len") (Aw B5):=by
 refine ⟨_,Wn,fun m H h E ds vs Q hr r q=>EN r q fun d v ev rv q=>?_⟩
 unfold B5 at q
 split at q
 ·rename_i xs e
  obtain ⟨p,ws,rfl,hs,dv⟩:=Ig hr rv e
  exact ⟨p,ws,ev,hs,by rw [←dv.len];exact A5 hr q (by simp [DV])⟩
 ·exact q.elim
def CDv (i j:Int):Prop:=0<j∧j<18446744073709551616
instance (i j:Int):Decidable (CDv i j):=by unfold CDv;infer_instance
theorem CDv.no {i j:Int} (h:CDv i j):Builtin.divisionGoesByPylong i j=false:=by
 refine PyProof.noPylong_of_log2 ?_
 have h0:j.natAbs≠0:=by have:=h.1;omega
 have h1:j.natAbs<2^64:=by have:=h.2;have:=h.1;omega
 exact Nat.lt_trans ((Nat.log2_lt h0).mpr h1) (by decide)
theorem Xg:De X (.builtin "divmod") (fun xs H Q=>∃i j,xs=[.int i,.int j]∧CDv i j∧∀p,H p=none→Q (.ref p) (Ao H p (.tup [.int (i / j),.int (i % j)]))):=by
 intro pins s σ H xs us Q I r h
 obtain ⟨i,j,rfl,hc,q⟩:=h
 obtain ⟨u,w',rfl,⟨t,rfl⟩,⟨t',rfl⟩⟩:=HQ r
 have h1:=hc.1
 refine divmod_int (by omega) ?_ (.inl hc.no)
 rw [Int.fdiv_eq_ediv_of_nonneg i (by omega),Int.fmod_eq_emod_of_nonneg i (by omega)]
 have hn:H s.heap.objs.size=none:=I.hok.fresh (Ax _)
 refine ⟨.ref s.heap.objs.size,_,?_,rfl,q _ hn⟩
 refine I.laid (fun b o e=>AG _ e) (Ax _) ⟨by simp only [DF,Fg];rw [sizeLine_eq];decide,[.int (i / j) s.toks,.int (i % j) (s.toks+1)],.cons ⟨_,rfl⟩ (.cons ⟨_,rfl⟩ .nil),?_,NoDict.new⟩
 exact ⟨_,Bi s.heap rfl,rfl,0,rfl⟩
def Ih:D→D→HD→Out D
 |.int i,.int j,h=>if CDv i j then .ok (.tup [.int (i / j),.int (i % j)]) h else .stuck
 |_,_,_=>.stuck
theorem Xh:CC X (.builtin "divmod") (A3 Ih):=by
 refine ⟨_,Xg,fun m H h E ds vs Q hr r q=>two_of r q fun d d' v v' ev rv rv' q=>?_⟩
 unfold Ih at q
 split at q
 ·split at q
  ·rename_i i j hc
   simp only [DV] at rv rv'
   subst rv rv'
   exact ⟨i,j,ev,hc,F7 hr (.cons (by simp [DV]) (.cons (by simp [DV]) .nil)) q⟩
  ·exact q.elim
 ·exact q.elim
theorem Xi:OpR X (binaryOp .FloorDiv) (rI CDv fun i j=>.int (i / j)):=JD fun i j _ _ _ _ _ hc q=>by
 have h1:=hc.1
 exact floordiv_int (by omega) (by rw [Int.fdiv_eq_ediv_of_nonneg i (by omega)];exact q) (.inl hc.no)
abbrev JT:=intD (fun i j=>.int (i / j)) CDv
theorem Xj:Bk X (binaryOp .FloorDiv) JT:=LO Xi (fun _ _ h=>h) fun _ _ _ _=>by simp [DV]
def Ft:D→D→HD→Out D
 |.int i,.int j,h=>.ok (.int (if j>i then j else i)) h
 |_,_,_=>.stuck
def Fu:D→D→HD→Out D
 |.int i,.int j,h=>.ok (.int (if j<i then j else i)) h
 |_,_,_=>.stuck
theorem Xk (hc:X.calm=true):CC X (.builtin "max") (A3 Ft):=by
 refine ⟨_,VA hc,fun m H h E ds vs Q hr r q=>two_of r q fun d d' v v' ev rv rv' q=>?_⟩
 unfold Ft at q
 split at q
 ·simp only [DV] at rv rv'
  subst rv rv'
  exact ⟨_,_,ev,A5 hr q (by simp [DV])⟩
 ·exact q.elim
theorem Xl (hc:X.calm=true):CC X (.builtin "min") (A3 Fu):=by
 refine ⟨_,VB hc,fun m H h E ds vs Q hr r q=>two_of r q fun d d' v v' ev rv rv' q=>?_⟩
 unfold Fu at q
 split at q
 ·simp only [DV] at rv rv'
  subst rv rv'
  exact ⟨_,_,ev,A5 hr q (by simp [DV])⟩
 ·exact q.elim
def Fv:D→HD→Out D
 |.int i,h=>.ok (.int i) h
 |.bl b,h=>.ok (.int (if b then 1 else 0)) h
 |_,_=>.stuck
theorem Xm:CC X (.type "int") (Aw Fv):=by
 refine ⟨_,VC,fun m H h E ds vs Q hr r q=>EN r q fun d v ev rv q=>?_⟩
 unfold Fv at q
 split at q
 ·simp only [DV] at rv;subst rv
  exact .inl ⟨_,ev,A5 hr q (by simp [DV])⟩
 ·simp only [DV] at rv;subst rv
  exact .inr ⟨_,ev,A5 hr q (by simp [DV])⟩
 ·exact q.elim
def Ds:D→HD→Out D:=fun x h=>match x with
 |.tup ds=>.ok (.tup ds) h
 |.loc l=>match h[l]? with
  |some (.lst ds)=>.ok (.tup ds) h
  |_=>.stuck
 |_=>.stuck
theorem Xn:CC X (.type "tuple") (Aw Ds):=by
 refine ⟨_,Wq,fun m H h E ds vs Q hr r q=>EN r q fun d v ev rv q=>?_⟩
 unfold Ds at q
 split at q
 ·simp only [DV] at rv
  obtain ⟨a,ws,rfl,ha,dv⟩:=rv
  exact ⟨a,ws,ev,.inr ⟨SqT.of ha,A5 hr q (by simp only [DV];exact ⟨a,ws,rfl,ha,dv⟩)⟩⟩
 ·split at q
  ·rename_i ds' el
   simp only [DV] at rv
   obtain ⟨a,rfl,ha⟩:=rv
   obtain ⟨ws,hv,dv⟩:=hr.cells _ _ a el ha
   exact ⟨a,ws,ev,.inl ⟨SqL.of hv,F7 hr dv q⟩⟩
  ·exact q.elim
 ·exact q.elim
end
theorem PostS.bind {α β:Type} {K:PySem.W.Frag} {m:List Addr} {H:Hp} {R:List Addr→Hp→α→β→Prop} {E:XK} {Q':β→Hp→Prop} {Dn:Dp} {o:Out α} {k:α→HD→Out (Fl×Ah)}
 (h:PostS K m H E Dn (o.bind k)) (f:∀a h1 v m1 H1,o=.ok a h1→m <+:m1→Kp H H1→HR K m1 h1 H1→R m1 H1 a v→PostS K m1 H1 E Dn (k a h1)→Q' v H1):Post K R m H E Q' o:=by
 cases o with
 |ok a h1=>exact fun v m1 H1 p kk hr r=>f a h1 v m1 H1 rfl p kk hr r (h.ahead p kk)
 |err C fs h1=>exact h
 |stuck=>exact h
theorem PostS.here {K:PySem.W.Frag} {m:List Addr} {H:Hp} {E:XK} {Dn:Dp} {a:Fl×Ah} {h:HD} (hr:HR K m h H) (p:PostS K m H E Dn (.ok a h)):Oz K m H Dn a:=p m H (AB _) (.refl _) hr
section
variable {X:Cx} {E:XK} {st:Stmt} {sts b1 b2:List Stmt} {g g1 g2:MS} {e:Expr} {f:ME} {pos:Pos} {t:MT}
def AV:MS:=fun ρ h=>.ok (.nx,ρ) h
def Ai (g1 g2:MS):MS:=fun ρ h=>(g1 ρ h).bind fun x h1=>match x with
 |(.nx,ρ1)=>g2 ρ1 h1
 |y=>.ok y h1
theorem Xo:CB X E [] AV:=LJ UQ fun Dn σ H z1_=>by obtain ⟨m,ρ,h,hr,er,p⟩:=z1_;exact ((p.here hr) σ er)
theorem JU (h:Ex X E st g):CB X E [st] g:=US h
theorem JV (h1:Ex X E st g1) (h2:CB X E sts g2):CB X E (st::sts) (Ai g1 g2):=
 LJ (UR h1 h2) fun Dn σ H z2_=>by
  obtain ⟨m,ρ,h,hr,er,p⟩:=z2_
  refine ⟨m,ρ,h,hr,er,?_⟩
  unfold Ai at p
  cases o:g1 ρ h with
  |stuck=>rw [o] at p;exact p
  |err C fs h1=>rw [o] at p;exact p
  |ok x h1=>
   rw [o] at p
   obtain ⟨fl,ρ1⟩:=x
   intro m1 H1 p1 k1 hr1
   cases fl with
   |nx=>exact fun σ1 er1=>⟨m1,ρ1,h1,hr1,er1,PostS.ahead p1 k1 p⟩
   |bk=>exact p m1 H1 p1 k1 hr1
   |ct=>exact p m1 H1 p1 k1 hr1
   |rt d=>exact p m1 H1 p1 k1 hr1
def CK (f:ME):MS:=fun ρ h=>(f ρ h).bind fun _ h1=>.ok (.nx,ρ) h1
theorem Xp (he:Ev X E e f) (hs:swapsWith e none pos.line X.env=pure false:=by rfl):Ex X E (.Expr e pos) (CK f):=
 DL (UU he hs) fun Dn σ H z3_=>by obtain ⟨m,ρ,h,hr,er,p⟩:=z3_;exact (⟨m,ρ,h,hr,er,PostS.bind p fun x h1 v m1 H1 _ p1 k1 hr1 r1 q1=>(q1.here hr1) σ (er.keep p1 k1)⟩)
def AD (f:ME):MS:=fun ρ h=>(f ρ h).bind fun d h1=>.ok (.rt d,ρ) h1
theorem OR (he:Ev X E e f):Ex X E (.Return (some e) pos) (AD f):=
 DL (UW he) fun Dn σ H z4_=>by obtain ⟨m,ρ,h,hr,er,p⟩:=z4_;exact (⟨m,ρ,h,hr,er,PostS.bind p fun x h1 v m1 H1 _ p1 k1 hr1 r1 q1=>(q1.here hr1) v r1⟩)
def AR (t:MT) (g1 g2:MS):MS:=fun ρ h=>(t ρ h).bind fun b h1=>if b=true then g1 ρ h1 else g2 ρ h1
theorem Xq {c:Expr} (hc:Dg X E c t) (ha:CB X E b1 g1) (hb:CB X E b2 g2):Ex X E (.If c b1 b2 pos) (AR t g1 g2):=
 DL (UY hc ha hb) fun Dn σ H z5_=>by obtain ⟨m,ρ,h,hr,er,p⟩:=z5_;exact (⟨m,ρ,h,hr,er,PostS.bind p fun x h1 v m1 H1 _ p1 k1 hr1 r1 q1=>by
  cases r1
  cases x with
  |true=>exact ⟨m1,ρ,h1,hr1,er.keep p1 k1,q1⟩
  |false=>exact ⟨m1,ρ,h1,hr1,er.keep p1 k1,q1⟩⟩)
def OT:MS:=fun _ _=>.stuck
theorem Xr:CB X E sts OT:=LJ U0 fun Dn σ H z7_=>by obtain ⟨m,ρ,h,hr,er,p⟩:=z7_;exact (p)
def An (i:Nat) (f:ME):MS:=fun ρ h=>(f ρ h).bind fun d h1=>.ok (.nx,ρ.set i (some d)) h1
theorem LR {i:Nat} {x:Str} {pos':Pos} (hN:X.N.Nodup) (hi:X.N[i]?=some x) (he:Ev X E e f) (hx:FX X.env.scope x:=by first |exact .inl rfl |exact .inr rfl) (hs:swapsWith e (some (.Name x pos')) pos.line X.env=pure false:=by rfl) (hf:X.fn x=true∨X.env.scope.names.lookup x=some .local:=by first |exact .inl rfl |exact .inr rfl |assumption):
 Ex X E (.Assign [.Name x pos'] e pos) (An i f):=
 DL (U2 hN hi hx he hs hf) fun Dn σ H z9_=>by obtain ⟨m,ρ,h,hr,er,p⟩:=z9_;exact (⟨m,ρ,h,hr,er,PostS.bind p fun x h1 v m1 H1 _ p1 k1 hr1 r1 q1=>(q1.here hr1) _ ((er.keep p1 k1).set r1)⟩)
def Ga (i j:Nat) (fa:MA):MS:=fun ρ h=>(fa ρ h).bind fun ds h1=>match ds with
 |[x,y]=>.ok (.nx,(ρ.set i (some x)).set j (some y)) h1
 |_=>.stuck
theorem Xs {i j:Nat} {x y:Str} {a b:Expr} {fa:MA} {px py pt:Pos} {kt k2:Nat} {pt2:Pos} (hc:X.calm=true) (hN:X.N.Nodup) (hi:X.N[i]?=some x) (hj:X.N[j]?=some y) (hij:i≠j)
 (hx:X.env.scope.names.lookup x=some .local) (hy:X.env.scope.names.lookup y=some .local) (ha:CA X E [a,b] fa)
 (hw:swappedStores [.Tuple [.Name x px,.Name y py] kt pt] (.Tuple [a,b] k2 pt2) X.env=pure (some [x,y]))
 (hs:swapsWithSole [.Tuple [.Name x px,.Name y py] kt pt] (.Tuple [a,b] k2 pt2) pos.line X.env=pure false:=by rfl):
 Ex X E (.Assign [.Tuple [.Name x px,.Name y py] kt pt] (.Tuple [a,b] k2 pt2) pos) (Ga i j fa):=
 DL (U4 hc hN hi hj hij hx hy ha hw hs) fun Dn σ H z10_=>by obtain ⟨m,ρ,h,hr,er,p⟩:=z10_;exact (⟨m,ρ,h,hr,er,PostS.bind p fun x h1 v m1 H1 _ p1 k1 hr1 r1 q1=>by
  split at q1
  ·simp only [DK,DVs] at r1
   obtain ⟨v,w,rfl,rv,v',w',rfl,rv',rfl⟩:=r1
   exact ⟨v,v',rfl,(q1.here hr1) _ (((er.keep p1 k1).set rv).set rv')⟩
  ·exact q1.elim⟩)
abbrev MG:=D→Ah→Option Ah
def Fw (X:Cx) (tg:Expr) (sg:MG):Prop:=
 ∃gg:TG,PG X tg gg∧∀m H d v ρ σ ρ' Q,DV X.K m H d v→ER X.K m H ρ σ→sg d ρ=some ρ'→(∀σ',ER X.K m H ρ' σ'→Q σ' H)→gg v σ H Q
def A9 (i:Nat):MG:=fun d ρ=>some (ρ.set i (some d))
def Di (i j:Nat):MG:=fun d ρ=>match d with
 |.tup [x,y]=>some ((ρ.set i (some x)).set j (some y))
 |_=>none
theorem Xu {i:Nat} {x:Str} (h:PG X (.Name x pos) (Cb i)):Fw X (.Name x pos) (A9 i):=⟨_,h,fun m H d v ρ σ ρ' Q r er e q=>by
 simp only [A9,Option.some.injEq] at e
 subst e
 exact q _ (er.set r)⟩
theorem Xv {i j:Nat} {x y:Str} {px py:Pos} {kt:Nat} (h:PG X (.Tuple [.Name x px,.Name y py] kt pos) (D3 X.K 2 (Cp (Cb i) (Cp (Cb j) EJ)))):Fw X (.Tuple [.Name x px,.Name y py] kt pos) (Di i j):=⟨_,h,fun m H d v ρ σ ρ' Q r er e q=>by
 unfold Di at e
 split at e
 ·rename_i a b
  cases e
  simp only [DV,DVs] at r
  obtain ⟨p,vs,rfl,hp,v1,w1,rfl,r1,v2,w2,rfl,r2,rfl⟩:=r
  exact ⟨p,_,rfl,SqT.of hp,rfl,v1,_,rfl,v2,_,rfl,rfl,q _ ((er.set r1).set r2)⟩
 ·cases e⟩
def EO (sg:MG) (f:ME):MS:=fun ρ h=>(f ρ h).bind fun d h1=>match sg d ρ with
 |some ρ1=>.ok (.nx,ρ1) h1
 |none=>.stuck
theorem Xw {tg:Expr} {sg:MG} (he:Ev X E e f) (hg:Fw X tg sg) (hs:swapsWithSole [tg] e pos.line X.env=pure false:=by rfl) (hw:swappedStores [tg] e X.env=pure none:=by rfl)
 (h1:(assignEach [tg] X.env).map (·.2)=[assign tg X.env]:=by rfl):Ex X E (.Assign [tg] e pos) (EO sg f):=by
 obtain ⟨gg,hg,i⟩:=hg
 exact DL (JA he hg hs hw h1) fun Dn σ H z11_=>by obtain ⟨m,ρ,h,hr,er,p⟩:=z11_;exact (⟨m,ρ,h,hr,er,PostS.bind p fun x h1 v m1 H1 _ p1 k1 hr1 r1 q1=>by
  split at q1
  ·rename_i ρ1 es
   exact i m1 H1 x v ρ σ ρ1 _ r1 (er.keep p1 k1) es fun σ' er'=>(q1.here hr1) σ' er'
  ·exact q1.elim⟩)
abbrev A1:=List (Nat×List D)
def BM (src:A1) (items:List D) (h:HD):Prop:=∀p∈src,h[p.1]?=some (.lst p.2)
theorem BN {items:List D} {h:HD}:BM [] items h:=fun p z=>nomatch z
theorem GX {items ds:List D} {h:HD} {l:Nat} (e:h[l]?=some (.lst ds)):BM [(l,ds)] items h:=fun p z=>by
 rw [qa4] at z
 subst z
 exact e
def JW (K:PySem.W.Frag):List Addr→Hp→(List D×A1)→It→Prop:=fun m1 H1 x J=>
 ∀i m2 h2 H2,m1 <+:m2→Kp H1 H2→HR K m2 h2 H2→BM x.2 x.1 h2→
  (i<x.1.length→J.go i H2∧∀y H3,J.yld i H2 y H3→Kp H2 H3∧HR K m2 h2 H3∧∃d,x.1[i]?=some d∧DV K m2 H3 d y)∧(i=x.1.length→J.stop i H2)
abbrev MI:=Ah→HD→Out (List D×A1)
abbrev Ec (X:Cx) (E:XK) (tg iter:Expr) (it:MI):Prop:=PI X tg iter (tM X.K (JW X.K) E it)
theorem Ii {tg iter:Expr} {w w':TI} (h:PI X tg iter w) (i:∀σ H R,w' σ H R→w σ H R):PI X tg iter w':=fun pins s σ H R I q=>h pins s σ H R I (i σ H R q)
theorem Xx {tg l:Expr} {tl:TE} (hl:PE X l tl):PI X tg l (fun σ H R=>tl σ H fun x H1=>∃a,x=.ref a∧(((∃xs,SqL X.K H1 a xs)∧R (HL X.K a) H1)∨((∃xs,SqT X.K H1 a xs)∧R (HM X.K a) H1))):=by
 intro pins s σ H R I h
 refine Ay (hl pins s σ H _ I h) fun v s1 z12_=>?_
 obtain ⟨x,H1,I1,r1,q1⟩:=z12_
 obtain ⟨a,e,q⟩:=q1
 subst e
 cases r1
 rcases q with ⟨⟨xs,hq⟩,q⟩ |⟨⟨xs,hq⟩,q⟩
 ·obtain ⟨its,rv,p,hz⟩:=I1.list hq
  refine wpAny_pyIter_list p.isList ?_
  refine ⟨s1.heap.objs.size,[s1.heap.objs.size],_,_,H1,rfl,I1.kept (t':=s1.toks) fun b o e=>AG _ e,U7 a _,⟨_,Bi _ rfl,rfl,rfl⟩,fun b hb=>?_,q⟩
  have e:b=s1.heap.objs.size:=by simpa using hb
  subst e
  exact I1.fpOk (Ax _) (I1.hok.fresh (Ax _))
 ·obtain ⟨its,rv,p,hz⟩:=I1.tuple hq
  refine wpAny_pyIter_tuple (show s1.heap.IsTuple a its.toArray from p) ?_
  refine ⟨s1.heap.objs.size,[s1.heap.objs.size],_,_,H1,rfl,I1.kept (t':=s1.toks) fun b o e=>AG _ e,U8 a _,⟨_,Bi _ rfl,rfl,rfl⟩,fun b hb=>?_,q⟩
  have e:b=s1.heap.objs.size:=by simpa using hb
  subst e
  exact I1.fpOk (Ax _) (I1.hok.fresh (Ax _))
def OU:D→List D→A1
 |.loc l,ds=>[(l,ds)]
 |_,_=>[]
def Gb (d:D) (h:HD):Out (List D×A1):=match Bg d h with
 |some ds=>.ok (ds,OU d ds) h
 |none=>.stuck
def BG (f:ME):MI:=fun ρ h=>(f ρ h).bind Gb
theorem Kp.lget {H H':Hp} {a:Addr} {K:PySem.W.Frag} {xs:List V} (k:Kp H H') (h:FzL K H a xs):SqL K H' a xs:=(k.fzL h).sq
theorem OV {K:PySem.W.Frag} {a:Addr} {m:List Addr} {H:Hp} {h:HD} {i:Nat} {items:List D} {vs:List V} (hr:HR K m h H) (hs:SqL K H a vs) (dv:DVs K m H items vs) (uniq:∀ys,SqL K H a ys→ys=vs∨True):
 (i<items.length→(HL K a).go i H∧∀y H3,(HL K a).yld i H y H3→Kp H H3∧HR K m h H3∧∃d,items[i]?=some d∧DV K m H3 d y)∧(i=items.length→(HL K a).stop i H):=by
 refine ⟨fun hi=>?_,fun hi=>⟨vs,hs,by rw [←dv.len];exact Nat.le_of_eq hi.symm⟩⟩
 have hd:items[i]?=some items[i]:=AQ hi
 obtain ⟨v,e1,r1⟩:=dv.get hd
 refine ⟨⟨vs,v,hs,e1⟩,fun y H3 z13_=>?_⟩
 obtain ⟨e3,hy⟩:=z13_
 subst e3
 have:=hy vs hs
 rw [e1] at this
 cases this
 exact ⟨.refl _,hr,_,hd,r1⟩
theorem Xy {K:PySem.W.Frag} {a:Addr} {m:List Addr} {H:Hp} {h:HD} {i:Nat} {items:List D} {vs:List V} (hr:HR K m h H) (hs:SqT K H a vs) (dv:DVs K m H items vs):
 (i<items.length→(HM K a).go i H∧∀y H3,(HM K a).yld i H y H3→Kp H H3∧HR K m h H3∧∃d,items[i]?=some d∧DV K m H3 d y)∧(i=items.length→(HM K a).stop i H):=by
 refine ⟨fun hi=>?_,fun hi=>⟨vs,hs,by rw [←dv.len];exact Nat.le_of_eq hi.symm⟩⟩
 have hd:items[i]?=some items[i]:=AQ hi
 obtain ⟨v,e1,r1⟩:=dv.get hd
 refine ⟨⟨vs,v,hs,e1⟩,fun y H3 z14_=>?_⟩
 obtain ⟨e3,hy⟩:=z14_
 subst e3
 have:=hy vs hs
 rw [e1] at this
 cases this
 exact ⟨.refl _,hr,_,hd,r1⟩
theorem Xz {tg a:Expr} (ha:Ev X E a f):Ec X E tg a (BG f):=
 Ii (Xx ha) fun σ H R ⟨m,ρ,h,hr,er,p⟩=>⟨m,ρ,h,hr,er,Post.bind p fun x h1 v m1 H1 _ p1 k1 hr1 r1 q1=>by
  unfold Gb at q1
  split at q1
  ·rename_i ds eds
   cases x with
   |tup xs=>
    simp only [Bg,Option.some.injEq] at eds
    subst eds
    simp only [rD,DV] at r1
    obtain ⟨a,vs,rfl,ha,dv⟩:=r1
    refine ⟨a,rfl,.inr ⟨⟨vs,SqT.of ha⟩,q1 _ m1 H1 (AB _) (.refl _) hr1 fun i m2 h2 H2 p2 k2 hr2 _=>?_⟩⟩
    exact Xy hr2 (SqT.of (k2 _ _ ha rfl)) (dv.keep p2 k2)
   |loc l=>
    simp only [rD,DV] at r1
    obtain ⟨a,rfl,ha⟩:=r1
    simp only [Bg] at eds
    split at eds
    ·rename_i xs el
     cases eds
     obtain ⟨vs,hv,dv⟩:=hr1.cells l _ a el ha
     refine ⟨a,rfl,.inl ⟨⟨vs,SqL.of hv⟩,q1 _ m1 H1 (AB _) (.refl _) hr1 fun i m2 h2 H2 p2 k2 hr2 hs=>?_⟩⟩
     obtain ⟨ws,hw,dw⟩:=hr2.cells l _ a (hs _ AZ) (GQ p2 ha)
     exact OV hr2 (SqL.of hw) dw fun _ _=>.inr trivial
    ·cases eds
   |scr ns=>
    simp only [Bg,Option.some.injEq] at eds
    subst eds
    simp only [rD,DV] at r1
    obtain ⟨a,rfl,ha⟩:=r1
    refine ⟨a,rfl,.inl ⟨⟨_,ha.sq⟩,q1 _ m1 H1 (AB _) (.refl _) hr1 fun i m2 h2 H2 p2 k2 hr2 _=>?_⟩⟩
    exact OV hr2 (k2.lget ha) OO fun _ _=>.inr trivial
   |_=>simp [Bg] at eds
  ·exact q1.elim⟩
def Fx (lo:Int) (n:Nat):List D:=(List.range n).map fun k=>.int (lo+(k:Nat))
theorem OW {K:PySem.W.Frag} {m1:List Addr} {H1:Hp} (lo:Int) (n:Nat):JW K m1 H1 (Fx lo n,[]) (HN lo n):=fun i m2 h2 H2 p2 k2 hr2 _=>by
 refine ⟨fun hi=>?_,fun hi=>?_⟩
 ·have hi':i<n:=by simpa [Fx] using hi
  refine ⟨hi',fun y H3 z16_=>?_⟩
  obtain ⟨e3,ey⟩:=z16_
  subst e3 ey
  refine ⟨.refl _,hr2,.int (lo+i),?_,by simp [DV]⟩
  simp [Fx,Jl,hi']
 ·show n≤i
  have hi':i=n:=by simpa [Fx] using hi
  omega
@[irreducible] noncomputable def Gc:List D→HD→Out (List D×A1):=fun ds h=>match ds with
  |[.int j]=>@ite _ (-(2^62)≤j∧j<2^62) (Classical.propDecidable _) (.ok (Fx 0 j.toNat,[]) h) .stuck
  |_=>.stuck
@[irreducible] noncomputable def Ij:List D→HD→Out (List D×A1):=fun ds h=>match ds with
  |[.int i,.int j]=>@ite _ ((-(2^62)≤i∧i<2^62)∧-(2^62)≤j∧j<2^62) (Classical.propDecidable _) (.ok (Fx i (j - i).toNat,[]) h) .stuck
  |_=>.stuck
noncomputable def CL (fa:MA):MI:=fun ρ h=>(fa ρ h).bind Gc
noncomputable def JX (fa:MA):MI:=fun ρ h=>(fa ρ h).bind Ij
theorem XA {tg a:Expr} {fa:MA} {p pos:Pos} (hg:Gl X "range") (hm:X.mg "range"=none) (ha:CA X E [a] fa) (hs:starEach [a] X.env=[(false,eval a X.env)]:=by rfl):Ec X E tg (.Call (.Name "range" p) [a] [] pos) (CL fa):=
 Ii (Vc hg hm ha hs) fun σ H R z17_=>by obtain ⟨m,ρ,h,hr,er,p⟩:=z17_;exact (⟨m,ρ,h,hr,er,Post.bind p fun x h1 v m1 H1 _ p1 k1 hr1 r1 q1=>by
  unfold Gc at q1
  split at q1
  ·split at q1
   ·rename_i hj
    simp only [DK,DVs,DV] at r1
    obtain ⟨v,w,rfl,rfl,rfl⟩:=r1
    exact ⟨_,rfl,hj.1,hj.2,q1 _ m1 H1 (AB _) (.refl _) hr1 (OW 0 _)⟩
   ·exact q1.elim
  ·exact q1.elim⟩)
theorem XB {tg a b:Expr} {fa:MA} {p pos:Pos} (hg:Gl X "range") (hm:X.mg "range"=none) (ha:CA X E [a,b] fa) (hs:starEach [a,b] X.env=[(false,eval a X.env),(false,eval b X.env)]:=by rfl) (hs2:starEach [b] X.env=[(false,eval b X.env)]:=by rfl):Ec X E tg (.Call (.Name "range" p) [a,b] [] pos) (JX fa):=
 Ii (Vd hg hm ha hs hs2) fun σ H R z18_=>by obtain ⟨m,ρ,h,hr,er,p⟩:=z18_;exact (⟨m,ρ,h,hr,er,Post.bind p fun x h1 v m1 H1 _ p1 k1 hr1 r1 q1=>by
  unfold Ij at q1
  split at q1
  ·split at q1
   ·rename_i hj
    simp only [DK,DVs,DV] at r1
    obtain ⟨v,w,rfl,rfl,v',w',rfl,rfl,rfl⟩:=r1
    exact ⟨_,_,rfl,⟨hj.1.1,hj.1.2,hj.2.1,hj.2.2⟩,q1 _ m1 H1 (AB _) (.refl _) hr1 (OW _ _)⟩
   ·exact q1.elim
  ·exact q1.elim⟩)
open Classical in
noncomputable def Ed (src:A1) (items:List D) (sg:MG) (body:MS):List D→MS
 |[]=>fun ρ h=>if BM src items h then .ok (.nx,ρ) h else .stuck
 |d::ds=>fun ρ h=>if BM src items h then match sg d ρ with
   |none=>.stuck
   |some ρ1=>(body ρ1 h).bind fun x h2=>match x with
    |(.nx,ρ2)=>Ed src items sg body ds ρ2 h2
    |(.ct,ρ2)=>Ed src items sg body ds ρ2 h2
    |(.bk,ρ2)=>.ok (.nx,ρ2) h2
    |(.rt d,ρ2)=>.ok (.rt d,ρ2) h2
  else .stuck
noncomputable def BV (it:MI) (sg:MG) (body:MS):MS:=fun ρ h=>(it ρ h).bind fun x h1=>Ed x.2 x.1 sg body x.1 ρ h1
inductive OX (K:PySem.W.Frag) (E:XK) (Dn:Dp) (src:A1) (items:List D) (sg:MG) (g:MS) (m1:List Addr) (H1:Hp) (i n:Nat) (σ2:L2.St) (H2:Hp):Prop where
 |mk (e:n=items.length - i) (l:i≤items.length) (m2:List Addr) (ρ2:Ah) (h2:HD) (p:m1 <+:m2) (k:Kp H1 H2) (hr:HR K m2 h2 H2) (er:ER K m2 H2 ρ2 σ2) (q:PostS K m2 H2 E Dn (Ed src items sg g (items.drop i) ρ2 h2)):OX K E Dn src items sg g m1 H1 i n σ2 H2
inductive OY (K:PySem.W.Frag) (E:XK) (Dn:Dp) (src:A1) (items:List D) (sg:MG) (g:MS) (m1:List Addr) (H1:Hp) (i:Nat) (σ2:L2.St) (H2:Hp):Prop where
 |mk (m2:List Addr) (ρ2:Ah) (h2:HD) (p:m1 <+:m2) (k:Kp H1 H2) (hr:HR K m2 h2 H2) (er:ER K m2 H2 ρ2 σ2) (q:PostS K m2 H2 E Dn (Ed src items sg g (items.drop i) ρ2 h2)):OY K E Dn src items sg g m1 H1 i σ2 H2
theorem XC {tg iter:Expr} {body:List Stmt} {it:MI} {sg:MG} {g:MS} (hp:PassesOwn (model X.prog X.w) X.A X.env X.xe) (hc:X.calm=true) (hi:Ec X E tg iter it) (hg:Fw X tg sg) (hb:CB X E body g)
 (hs:∀x,foldedSetIterable iter X.env x=pure x:=by intro _;rfl):Ex X E (.For tg iter body [] pos) (BV it sg g):=by
 obtain ⟨gg,hg,ig⟩:=hg
 refine DL (Vg hp hc hi hg hb hs) ?_
 rintro Dn σ H ⟨m,ρ,h,hr,er,p⟩
 refine ⟨m,ρ,h,hr,er,PostS.bind p fun x h1 J m1 H1 _ p1 k1 hr1 r1 q1=>?_⟩
 obtain ⟨items,src⟩:=x
 refine ⟨OX X.K E Dn src items sg g m1 H1,⟨items.length,rfl,Bu _,m1,ρ,h1,AB _,.refl _,hr1,er.keep p1 k1,by simpa using q1⟩,?_⟩
 rintro i n σ2 H2 ⟨rfl,hi,m2,ρ2,h2,p2,k2,hr2,er2,q2⟩
 by_cases hlt:i<items.length
 ·rw [Lf hlt] at q2
  unfold Ed at q2
  split at q2
  ·rename_i hs
   obtain ⟨hgo,hy⟩:=(r1 i m2 h2 H2 p2 k2 hr2 hs).1 hlt
   refine .inr ⟨hgo,OY X.K E Dn src items sg g m1 H1 (i+1),fun σ5 H5 z20_=>by obtain ⟨m5,ρ5,h5,a1,a2,a3,a4,a5⟩:=z20_;exact (⟨items.length - (i+1),by omega,rfl,hlt,m5,ρ5,h5,a1,a2,a3,a4,a5⟩),fun y H3 hyl=>?_⟩
   obtain ⟨k3,hr3,d,ed,rd⟩:=hy y H3 hyl
   have ed':d=items[i]:=by rw [AQ hlt] at ed;exact (Option.some.inj ed).symm
   subst ed'
   split at q2
   ·exact q2.elim
   ·rename_i ρ3 es
    refine ig m2 H3 _ y ρ2 σ2 ρ3 _ rd (er2.keep (AB _) k3) es fun σ4 er4=>?_
    refine ⟨m2,ρ3,h2,hr3,er4,?_⟩
    have q3:=PostS.ahead (AB _) k3 q2
    cases o:g ρ3 h2 with
    |stuck=>rw [o] at q3;exact q3
    |err C fs h5=>rw [o] at q3;exact q3
    |ok z h5=>
     rw [o] at q3
     obtain ⟨fl,ρ5⟩:=z
     intro m5 H5 p5 k5 hr5
     have pk:m1 <+:m5:=p2.trans p5
     have kk:Kp H1 H5:=(k2.trans k3).trans k5
     cases fl with
     |nx=>exact fun σ5 er5=>⟨m5,ρ5,h5,pk,kk,hr5,er5,PostS.ahead p5 k5 q3⟩
     |ct=>exact fun σ5 er5=>⟨m5,ρ5,h5,pk,kk,hr5,er5,PostS.ahead p5 k5 q3⟩
     |bk=>exact fun σ5 er5=>q3 m5 H5 p5 k5 hr5 σ5 er5
     |rt d=>exact fun v rv=>q3 m5 H5 p5 k5 hr5 v rv
  ·exact q2.elim
 ·have he:i=items.length:=Nat.le_antisymm hi (HF hlt)
  subst he
  rw [List.drop_length] at q2
  unfold Ed at q2
  split at q2
  ·rename_i hs
   exact .inl ⟨(r1 _ m2 h2 H2 p2 k2 hr2 hs).2 rfl,(q2.here hr2) σ2 er2⟩
  ·exact q2.elim
end
section
variable {M:Model} {A:Around} {E:Value→Shared→Prop} {s:Shared}
theorem LU {env:Env}:∀(names:List (Str×NameKind)) (acc:List (Str×Addr)),(∀y∈names,y.2=.free→∃c,env.cells.lookup y.1=some c)→
 ∃cl:List (Str×Addr),(forIn names acc (fun (x:Str×NameKind) (cs:List (Str×Addr))=>match x with
  |(name,kind)=>if (kind==NameKind.free)=true then do let y ←cellOf env name;pure (ForInStep.yield ((name,y)::cs)) else pure (ForInStep.yield cs)):Sem (List (Str×Addr)))=pure cl∧
  (∀x c,(x,c)∈cl→(x,c)∈acc∨(env.cells.lookup x=some c∧(x,NameKind.free)∈names))∧(∀y∈names,y.2=.free→∃c,(y.1,c)∈cl)∧(∀p∈acc,p∈cl)
 |[],acc,_=>⟨acc,rfl,fun x c h=>.inl h,fun y hy=>absurd hy (by simp),fun p h=>h⟩
 |(name,kind)::r,acc,h=>by
  rw [HI]
  by_cases hk:kind=.free
  ·subst hk
   obtain ⟨c,hc⟩:=h (name,.free) AZ rfl
   obtain ⟨cl,e,h1,h2,h3⟩:=LU (env:=env) r ((name,c)::acc) (fun y hy=>h y (A6 _ hy))
   refine ⟨cl,?_,fun x c' hm=>?_,fun y hy hf=>?_,fun p hp=>h3 p (A6 _ hp)⟩
   ·rw [←e]
    have:cellOf env name=pure c:=by unfold cellOf;rw [hc]
    simp only [this,beq_self_eq_true,if_true,pure_bind]
   ·rcases h1 x c' hm with q |⟨q1,q2⟩
    ·rcases qa5.mp q with q |q
     ·cases q;exact .inr ⟨hc,AZ⟩
     ·exact .inl q
    ·exact .inr ⟨q1,A6 _ q2⟩
   ·rcases qa5.mp hy with q |q
    ·subst q;exact ⟨c,h3 _ AZ⟩
    ·exact h2 y q hf
  ·obtain ⟨cl,e,h1,h2,h3⟩:=LU (env:=env) r acc (fun y hy=>h y (A6 _ hy))
   refine ⟨cl,?_,fun x c' hm=>?_,fun y hy hf=>?_,h3⟩
   ·rw [←e]
    have hk':(kind==NameKind.free)=false:=by simpa using hk
    simp only [hk',CH,if_false,pure_bind]
   ·rcases h1 x c' hm with q |⟨q1,q2⟩
    ·exact .inl q
    ·exact .inr ⟨q1,A6 _ q2⟩
   ·rcases qa5.mp hy with q |q
    ·subst q;exact absurd hf hk
    ·exact h2 y q hf
theorem OZ {scope:Scope} {env:Env} (h:∀y∈scope.names,y.2=.free→∃c,env.cells.lookup y.1=some c):
 ∃cl:List (Str×Addr),closureFor scope env=pure cl∧(∀x c,(x,c)∈cl→env.cells.lookup x=some c∧(x,NameKind.free)∈scope.names)∧(∀y∈scope.names,y.2=.free→∃c,(y.1,c)∈cl):=by
 obtain ⟨cl,e,h1,h2,h3⟩:=LU (env:=env) scope.names [] h
 refine ⟨cl,?_,fun x c hm=>?_,h2⟩
 ·unfold closureFor
  simp only [bind_pure]
  exact e
 ·rcases h1 x c hm with q |q
  ·exact nomatch q
  ·exact q
theorem XE {scope:Scope} {globals:Addr} {cl:List (Str×Addr)} {qual:Str} {around:Env} {Q:Env→Shared→Prop}
 (h:Q (newEnv scope s.heap.objs.size globals (cellsFrom (s.heap.objs.size+1) scope.names cl) qual none .none (some around) builtinsNs) {s with heap:=pushCells (s.heap.push {cls:=.type "dict",data:=.dict #[]}) scope.names}):
 wpAny M A (newFunctionEnv scope globals cl [] qual none .none (some around)) Q E s:=by
 simp only [newFunctionEnv,Option.isSome_some,if_true]
 refine wpAny_bind (wpAny_alloc ?_)
 refine wpAny_bind (wpAny_layCells _ (fun name kind cells=>by cases hkc:kind==NameKind.cell<;>simp [hkc]) _ _ _ _ ?_)
 simp only [HJ,pure_bind]
 refine wpAny_pure ?_
 rw [show ({s with heap:=s.heap.push {cls:=.type "dict",data:=.dict #[]}}:Shared).heap.objs.size=s.heap.objs.size+1 from CI ..]
 exact h
end
section
variable {prog:Program} {w:World} {A:Around} {R:Result→Shared→Prop} {s:Shared}
theorem XF {elt target iter:Expr} {ifs:List Expr} {scope:Scope} {pos:Pos} {it acc:Value} {env:Env} (I:Nat→Shared→Prop)
 (turn:∀n s,I n s→wpAny (model prog w) A (pyNext it) (fun r s₁=>match r with
  |none=>R (.ok .next) s₁
  |some v=>wpAny (model prog w) A (letOwnedTupleGo target it v) (fun _ s₁'=>wpAny (model prog w) A (assign target env v) (fun _ s₂=>
   wpAny (model prog w) A (forIn ifs true fun c r=>if r=true then do let ok ←isTrue c env (eval c env);pure (ForInStep.yield ok) else pure (ForInStep.yield r)) (fun ok s₃=>
    if ok=true then wpAny (model prog w) A (eval elt env) (fun x s₄=>
     wpAny (model prog w) A (call (.builtin "list.append") [acc,x]) (fun _ s₅=>∃m,m<n∧I m s₅) (notedBy (model prog w) A env fun e s'=>R (.error e) s') s₄) (notedBy (model prog w) A env fun e s'=>R (.error e) s') s₃
    else ∃m,m<n∧I m s₃) (notedBy (model prog w) A env fun e s'=>R (.error e) s') s₂) (notedBy (model prog w) A env fun e s'=>R (.error e) s') s₁') (notedBy (model prog w) A env fun e s'=>R (.error e) s') s₁) (notedBy (model prog w) A env fun e s'=>R (.error e) s') s)
 (n:Nat) (h:I n s):
 codeAny (model prog w) A (.compLoop (.ListComp elt [⟨target,iter,ifs,0⟩] scope pos) 0 it acc env) R s:=by
 refine codeAny_loop rfl I (fun n s hI=>?_) n h
 show wpAny _ A ((compTurn (.ListComp elt [⟨target,iter,ifs,0⟩] scope pos) 0 it acc env).onRaise (fun x=>do noteFrame x env;theTreesLotGoes x)) _ _ s
 refine wpAny_noted ?_
 rw [compTurn_list]
 refine wpAny_bind (wpAny_standAt (wpAny_bind (wpAny_mono (turn n s hI) (fun r s₁ h₁=>?_) fun _ _ h'=>h')))
 cases r with
 |none=>exact wpAny_pure h₁
 |some v=>
  refine wpAny_bind (wpAny_mono h₁ (fun _ s₁' h₁'=>?_) fun _ _ h'=>h')
  refine wpAny_bind (wpAny_mono h₁' (fun _ s₂ h₂=>wpAny_bind (wpAny_mono h₂ (fun ok s₃ h₃=>?_) fun _ _ h'=>h')) fun _ _ h'=>h')
  cases ok with
  |false=>exact wpAny_pure ⟨rfl,h₃⟩
  |true=>
   exact wpAny_bind (wpAny_bind (wpAny_mono h₃ (fun x s₄ h₄=>wpAny_bind (wpAny_mono h₄ (fun _ s₅ h₅=>wpAny_pure (wpAny_pure ⟨rfl,h₅⟩)) fun _ _ h'=>h')) fun _ _ h'=>h'))
end
def Ik (X:Cx) (ifs:List Expr) (t:TT):Prop:=∀(pins:List (Addr×Obj)) (s:Shared) (σ:L2.St) (H:Hp) (Q:Bool→Hp→Prop),Inv X pins σ H s→t σ H Q→
 wpAny (model X.prog X.w) X.A (forIn ifs true fun c r=>if r=true then do let ok ←isTrue c X.env (eval c X.env);pure (ForInStep.yield ok) else pure (ForInStep.yield r)) (TP X pins σ Q) X.xe s
theorem XG {X:Cx}:Ik X [] (fun _ H Q=>Q true H):=fun _ _ _ H _ I h=>wpAny_tests_nil ⟨H,I,h⟩
theorem XH {X:Cx} {c:Expr} {t:TT} (h:PT X c t):Ik X [c] t:=fun pins s σ H Q I q=>wpAny_tests_one (h pins s σ H Q I q)
def O0 (env:Env) (scope:Scope) (C:Addr) (cells:List (Str×Addr)):Env:=
 {scope:=relabel scope env,locals:=C,globals:=env.globals,cells:=cells,qual:=env.qual,func:=none,code:=env.code,frame:=env.frame,builtins:=env.builtins}
def BO (X:Cx) (Nc:List Str) (scope:Scope) (C D:Addr) (cells:List (Str×Addr)) (fp:List Addr) (s₀:Shared) (H₀:Hp) (pins:List (Addr×Obj)):Cx:=
 {X with N:=Nc,s₀:=s₀,H₀:=H₀,env:=O0 X.env scope C cells,outer:=X.stack,stack:=X.stack,ex:=D::fp,fn:=fun x=>scope.names.lookup x==some .cell,pn:=X.pn++pins,xe:=fun _ _=>False}
def BB (cs:List (Option Nat)) (σ:L2.St):L2.St:=cs.map fun o=>o.bind fun j=>(σ[j]?).join
def Sub (σ σ':L2.St):Prop:=σ.length=σ'.length∧∀(i:Nat) v,σ[i]?=some (some v)→σ'[i]?=some (some v)
def JY (cs:List (Option Nat)) (wi:TI) (g:TG) (tc:TT) (te:TE):TE:=fun σ H Q=>wi σ H fun J H1=>∃W:Nat→Nat→List V→Hp→Prop,(∃n,W 0 n [] H1)∧∀i n acc H,W i n acc H→
 (J.stop i H∧acc.length≤sizeLine∧∀p,H p=none→Q (.ref p) (Ao H p (.lst acc)))∨
 (J.go i H∧acc.length<sizeLine∧∀x H',J.yld i H x H'→g x (BB cs σ) H' fun σ2 H2=>Sub (BB cs σ) σ2∧tc σ2 H2 fun b H3=>if b=true then te σ2 H3 fun y H4=>∃n',n' < n∧W (i+1) n' (acc++[y]) H4 else ∃n',n' < n∧W (i+1) n' acc H3)
theorem LV:∀(names:List (Str×NameKind)) (h:Heap) (acc:List (Str×Addr)) (x:Str) (c:Addr),(x,c)∈cellsFrom h.objs.size names acc→(x,c)∈acc∨(h.objs.size≤c∧(x,NameKind.cell)∈names∧(pushCells h names).IsCell c none)
 |[],_,_,_,_,m=>.inl m
 |(name,kind)::r,h,acc,x,c,m=>by
  unfold cellsFrom at m
  unfold pushCells
  split at m
  ·rename_i hk
   rw [if_pos hk]
   have hk':kind=.cell:=by simpa using hk
   have e:h.objs.size+1=(h.push {cls:=.type "cell",data:=.cell none}).objs.size:=(CI ..).symm
   rw [e] at m
   rcases LV r _ _ x c m with q |⟨q1,q2,q3⟩
   ·rcases qa5.mp q with q |q
    ·cases q
     refine .inr ⟨Ax _,by rw [hk'];exact AZ,?_⟩
     exact (show (h.push {cls:=.type "cell",data:=.cell none}).IsCell h.objs.size none from ⟨_,Bi _ rfl,rfl⟩).keeps fun b o e=>pushCells_keeps _ _ b o e
    ·exact .inl q
   ·exact .inr ⟨by rw [←e] at q1;exact Nat.le_of_succ_le q1,A6 _ q2,q3⟩
  ·rename_i hk
   rw [if_neg hk]
   rcases LV r h acc x c m with q |⟨q1,q2,q3⟩
   ·exact .inl q
   ·exact .inr ⟨q1,A6 _ q2,q3⟩
theorem LW:∀(names:List (Str×NameKind)) (h:Heap) (acc:List (Str×Addr)),(∀x c,(x,c)∈acc→c<h.objs.size)→(∀x y c,(x,c)∈acc→(y,c)∈acc→x=y)→
 ∀x y c,(x,c)∈cellsFrom h.objs.size names acc→(y,c)∈cellsFrom h.objs.size names acc→x=y
 |[],_,_,_,i=>i
 |(name,kind)::r,h,acc,lt,i=>by
  unfold cellsFrom
  split
  ·have e:h.objs.size+1=(h.push {cls:=.type "cell",data:=.cell none}).objs.size:=(CI ..).symm
   rw [e]
   refine LW r _ _ (fun x c m=>?_) (fun x y c m m'=>?_)
   ·rw [←e]
    rcases qa5.mp m with q |q
    ·cases q;exact HG _
    ·exact GG (lt x c q)
   ·rcases qa5.mp m with q |q<;>rcases qa5.mp m' with q' |q'
    ·cases q;cases q';rfl
    ·cases q;exact absurd (lt y _ q') (CO _)
    ·cases q';exact absurd (lt x _ q) (CO _)
    ·exact i x y c q q'
  ·exact LW r h acc lt i
theorem lookup_mem {α:Type} {l:List (Str×α)} {x:Str} {k:α} (nd:(l.map (·.1)).Nodup) (h:(x,k)∈l):l.lookup x=some k:=by
 induction l with
 |nil=>cases h
 |cons p r ih=>
  obtain ⟨y,j⟩:=p
  rw [BE,qbN] at nd
  rw [FU]
  rcases qa5.mp h with e |e
  ·cases e;simp
  ·have:x≠y:=by
    rintro rfl
    exact nd.1 (qaL.mpr ⟨(x,k),e,rfl⟩)
   have hb:(x==y)=false:=by simpa using this
   rw [hb]
   exact ih nd.2 e
theorem XI {env:Env} {x n:Str} {j:NameKind} {r:List (Str×NameKind)} {k:NameKind} (h:List.lookup x ((if (j==NameKind.free&&env.scope.kind==.function&&env.kindOf n==some .cell)=true then (n,NameKind.cell) else (n,j))::r)=some k):
 (x=n∧(k=j∨(j=.free∧k=.cell)))∨(x≠n∧List.lookup x r=some k):=by
 by_cases hx:x=n
 ·subst hx
  refine .inl ⟨rfl,?_⟩
  split at h
  ·rename_i hc
   rw [FU] at h
   simp only [beq_self_eq_true] at h
   cases h
   simp only [BS] at hc
   exact .inr ⟨by simpa using hc.1.1,rfl⟩
  ·rw [FU] at h
   simp only [beq_self_eq_true] at h
   cases h
   exact .inl rfl
 ·have hb:(x==n)=false:=by simpa using hx
  refine .inr ⟨hx,?_⟩
  split at h<;>(rw [FU] at h;simp only [hb] at h;exact h)
theorem O1 {scope:Scope} {env:Env} {x:Str} {k:NameKind}:(relabel scope env).names.lookup x=some k→∃k0,scope.names.lookup x=some k0∧(k=k0∨(k0=.free∧k=.cell)):=by
 show (scope.names.map _).lookup x=some k→_
 induction scope.names with
 |nil=>intro h;cases h
 |cons p r ih=>
  obtain ⟨n,j⟩:=p
  intro h
  rw [BE] at h
  rw [FU]
  rcases XI h with ⟨hx,hk⟩ |⟨hx,hr⟩
  ·subst hx
   simp only [beq_self_eq_true]
   exact ⟨j,rfl,hk⟩
  ·have hb:(x==n)=false:=by simpa using hx
   rw [hb]
   exact ih hr
structure GY (X:Cx) (scope:Scope) (Nc:List Str) (cs:List (Option Nat)):Prop where
 kind:scope.kind=.function
 loc:∀y∈scope.names,y.2=.local→scope.names.lookup y.1=some .local
 free:∀y∈scope.names,y.2=.free→X.env.kindOf y.1=some .cell∨X.env.kindOf y.1=some .free
 nd:(scope.names.map (·.1)).Nodup
 len:cs.length=Nc.length
 out:∀(i:Nat) (x:Str) (j:Nat),Nc[i]?=some x→cs[i]?=some (some j)→X.N[j]?=some x∧scope.names.lookup x=some .free
theorem XJ {a b:Addr} (h:a<b):@LT.lt Nat instLTNat a b:=h
theorem BH {a b:Addr} (h:@LT.lt Nat instLTNat a b):a≠b:=Bt h
theorem Fy {a b:Addr} (h:@LT.lt Nat instLTNat a b):b≠a:=Ne.symm (Bt h)
section
variable {X:Cx} {pins:List (Addr×Obj)} {σ:L2.St} {H:Hp} {s:Shared}
theorem XM {scope:Scope} {Nc:List Str} {cs:List (Option Nat)} {fp:List Addr} {cl:List (Str×Addr)} (S:GY X scope Nc cs) (I:Inv X pins σ H s) (f:∀b∈fp,D7 X pins H b) (ob:∀b∈fp,∃o,s.heap.get? b=some o)
 (hcl:∀x c,(x,c)∈cl→X.env.cells.lookup x=some c∧(x,NameKind.free)∈scope.names) (hcl2:∀y∈scope.names,y.2=.free→∃c,(y.1,c)∈cl) {s3:Shared} (e3:s3={s with heap:=s.heap.push {cls:=.type "list",data:=.seq ([]:List Value).toArray}}):
 Inv (BO X Nc scope s3.heap.objs.size s.heap.objs.size (cellsFrom (s3.heap.objs.size+1) scope.names cl) fp s3 H pins) [] (BB cs σ) H
  {s3 with heap:=pushCells (s3.heap.push {cls:=.type "dict",data:=.dict #[]}) scope.names}:=by
 have k3:∀b o,s.heap.get? b=some o→s3.heap.get? b=some o:=fun b o e=>by subst e3;exact AG _ e
 have J7:s3.heap.objs.size=s.heap.objs.size+1:=by subst e3;exact CI ..
 have szd:(s3.heap.push {cls:=.type "dict",data:=.dict #[]}).objs.size=s3.heap.objs.size+1:=CI ..
 have k34:∀b o,s3.heap.get? b=some o→(pushCells (s3.heap.push {cls:=.type "dict",data:=.dict #[]}) scope.names).get? b=some o:=fun b o e=>pushCells_keeps _ _ b o (AG _ e)
 have k4:∀b o,s.heap.get? b=some o→(pushCells (s3.heap.push {cls:=.type "dict",data:=.dict #[]}) scope.names).get? b=some o:=fun b o e=>k34 b o (k3 b o e)
 have cllt:∀x c,(x,c)∈cl→c<s.heap.objs.size:=fun x c m=>by
  obtain ⟨v,q⟩:=I.cell x c (hcl x c m).1
  exact q.lt
 have cm:∀x c,(cellsFrom (s3.heap.objs.size+1) scope.names cl).lookup x=some c→(x,c)∈cl∨(s3.heap.objs.size+1≤c∧(x,NameKind.cell)∈scope.names∧(pushCells (s3.heap.push {cls:=.type "dict",data:=.dict #[]}) scope.names).IsCell c none):=fun x c e=>by
  have m:=mem_of_lookup e
  rw [←szd] at m
  have:=LV scope.names _ cl x c m
  rw [szd] at this
  exact this
 have frs_lt:∀b∈frs X.stack,b<s.heap.objs.size:=fun b hb=>by
  obtain ⟨_,o,ho,_⟩:=I.stack.mem hb
  exact AF ho
 have nfs:∀b,b≠X.env.locals→b∉X.fs→b∉frs X.stack:=fun b h1 h2 hb=>by
  rcases qa5.mp (I.stkSub b hb) with q |q
  ·exact h1 q
  ·exact h2 q
 have ok:(BO X Nc scope s3.heap.objs.size s.heap.objs.size (cellsFrom (s3.heap.objs.size+1) scope.names cl) fp s3 H pins).Ok:=by
  refine ⟨I.ok.mod,S.kind,I.ok.glob,I.ok.blt,Ax _,fun x y c e1 e2=>?_,fun x hx=>?_,fun x c hf e=>?_,I.ok.hd,I.ok.frames,.inl rfl,fun b hb=>?_,fun b o e=>?_,?_,fun b o e hb=>?_,fun b hb=>?_,?_,I.stkFree⟩
  ·have m1:=mem_of_lookup e1
   have m2:=mem_of_lookup e2
   have m1':(x,c)∈cellsFrom (s3.heap.push {cls:=.type "dict",data:=.dict #[]}).objs.size scope.names cl:=by rw [szd];exact m1
   have m2':(y,c)∈cellsFrom (s3.heap.push {cls:=.type "dict",data:=.dict #[]}).objs.size scope.names cl:=by rw [szd];exact m2
   exact LW scope.names (s3.heap.push {cls:=.type "dict",data:=.dict #[]}) cl (fun x c m=>by rw [szd,J7];exact AW (cllt x c m) (by omega))
    (fun x y c a b=>I.ok.inj x y c (hcl x c a).1 (hcl y c b).1) x y c m1' m2'
  ·have:∃k,(relabel scope X.env).names.lookup x=some k∧(k=.cell∨k=.free):=by
    rcases hx with q |q
    ·exact ⟨_,q,.inl rfl⟩
    ·exact ⟨_,q,.inr rfl⟩
   obtain ⟨k,e1,hk⟩:=this
   obtain ⟨k0,e0,hk0⟩:=O1 e1
   refine qc4.mp (PySem.W.cellsFrom_some _ _ _ ?_)
   have:k0=.cell∨k0=.free:=by
    rcases hk0 with q |⟨q,_⟩
    ·rw [←q];exact hk
    ·exact .inr q
   rcases this with q |q
   ·subst q;exact .inl e0
   ·subst q
    obtain ⟨c,hc⟩:=hcl2 _ (mem_of_lookup e0) rfl
    refine .inr ?_
    cases hl:cl.lookup x with
    |some c'=>rfl
    |none=>
     exfalso
     have:∀p∈cl,p.1≠x:=fun p hp e=>by
      have h2:=List.lookup_eq_none_iff.mp hl p hp
      rw [e] at h2
      simp at h2
     exact this _ hc rfl
  ·have hk:scope.names.lookup x=some .cell:=by
    have:(scope.names.lookup x==some NameKind.cell)=true:=hf
    simpa using this
   rcases cm x c e with q |⟨q1,_,_⟩
   ·have:=lookup_mem S.nd (hcl x c q).2
    rw [hk] at this
    cases this
   ·exact Nat.le_of_succ_le q1
  ·rcases qa5.mp hb with q |q
   ·subst q
    refine ⟨BH (show _<s3.heap.objs.size by omega),fun x c e=>?_⟩
    rcases cm x c e with q |⟨q1,_,_⟩
    ·exact Bt (cllt x c q)
    ·exact Fy (AW (by omega) q1)
   ·obtain ⟨o,ho⟩:=ob b q
    have hlt:=XJ (AF ho)
    refine ⟨BH (show _<s3.heap.objs.size by omega),fun x c e=>?_⟩
    rcases cm x c e with q2 |⟨q1,_,_⟩
    ·exact (f b q).2.2.2.2.1 x c (hcl x c q2).1
    ·exact Fy (AW (by omega) q1)
  ·obtain ⟨h1,h2⟩:=I.bs b o e
   exact ⟨k3 b o h1,h2⟩
  ·show X.base.objs.size≤s3.heap.objs.size
   have:=BU I.ok.bsz I.sz
   omega
  ·obtain ⟨h1,h2⟩:=I.bs b o e
   rcases qa5.mp hb with q |q
   ·exact absurd q (BH (AF h1))
   ·rcases (f b q).2.2.2.1 with z |z
    ·exact I.ok.noex b o e z
    ·exact absurd (AW (AF (I.ok.bs b o e).1) z) (CO _)
  ·rcases qa5.mp hb with q |q
   ·subst q
    intro z
    exact absurd (frs_lt _ z) (CO _)
   ·exact nfs b (f b q).2.1 (f b q).2.2.1
  ·exact I.stack.of_keeps fun b o e _=>⟨o,k3 b o e,rfl⟩
 refine ⟨ok,rfl,?_,?_,?_,fun x c e=>?_,?_,fun x c e=>?_,fun p hp=>?_,I.hok.kept k4,?_⟩
 ·show AllBare s3.gens
  subst e3;exact I.bare
 ·exact Un.kept k34
 ·refine ⟨fun _=>none,(Heap.Ns.new s3.heap (.type "dict")).keeps (pushCells_keeps _ _),fun i x v e1 e2 e3'=>?_⟩
  unfold BB at e2
  rw [B8] at e2
  cases ec:cs[i]? with
  |none=>rw [ec] at e2;cases e2
  |some o=>
   rw [ec] at e2
   cases o with
   |none=>cases e2
   |some j=>
    simp only [Do,Option.bind_some,Option.some.injEq] at e2
    have e2':σ[j]?=some (some v):=by
     cases ej:σ[j]? with
     |none=>rw [ej] at e2;cases e2
     |some w=>rw [ej] at e2;simp at e2;rw [e2]
    obtain ⟨hN,hfr⟩:=S.out i x j e1 ec
    have hfm:=mem_of_lookup hfr
    have hkind:=S.free _ hfm rfl
    obtain ⟨m,hn,hl⟩:=I.loc
    obtain ⟨u,r,look⟩:=hl j x v hN e2' (by
     rcases hkind with q |q
     ·exact .inr (.inl q)
     ·exact .inr (.inr q))
    refine ⟨u,r,.inr ?_⟩
    rcases look with ⟨q,_⟩ |⟨_,c,ec',hc⟩
    ·rcases hkind with z |z<;>(rw [q] at z;cases z)
    ·obtain ⟨c',hc'⟩:=hcl2 _ hfm rfl
     have hv:(BO X Nc scope s3.heap.objs.size s.heap.objs.size (cellsFrom (s3.heap.objs.size+1) scope.names cl) fp s3 H pins).env.kindOf x=some .cell∨(BO X Nc scope s3.heap.objs.size s.heap.objs.size (cellsFrom (s3.heap.objs.size+1) scope.names cl) fp s3 H pins).env.kindOf x=some .free:=by
      rcases e3' with z |z |z
      ·obtain ⟨k0,a1,a2⟩:=O1 z
       rw [hfr] at a1
       cases a1
       rcases a2 with a2 |⟨_,a2⟩<;>cases a2
      ·exact .inl z
      ·exact .inr z
     refine ⟨hv,c,?_,hc.keeps k4⟩
     obtain ⟨c2,h2⟩:=ok.has x hv
     rw [h2]
     rcases cm x c2 h2 with q |⟨_,q,_⟩
     ·rw [←ec',(hcl x c2 q).1]
     ·have:=lookup_mem S.nd q
      rw [hfr] at this
      cases this
 ·rcases cm x c e with q |⟨_,_,q⟩
  ·obtain ⟨v,z⟩:=I.cell x c (hcl x c q).1
   exact ⟨v,z.keeps k4⟩
  ·exact ⟨none,q⟩
 ·exact I.hok.fresh (show s.heap.objs.size≤s3.heap.objs.size by omega)
 ·rcases cm x c e with q |⟨q,_,_⟩
  ·exact I.freeC x c (hcl x c q).1
  ·exact I.hok.fresh (by omega)
 ·have hp':p∈X.pn++pins:=by
   rcases qaG.mp hp with q |q
   ·exact q
   ·exact absurd q (by simp)
  obtain ⟨a1,a2,a3,a4,a5⟩:=I.pin p hp'
  refine ⟨k4 _ _ a1,a2,?_,nfs p.1 a3 a4,a5⟩
  show p.1≠s3.heap.objs.size
  exact BH (AW (AF a1) (by omega))
 ·show (BB cs σ).length=Nc.length
  simp [BB,S.len]
end
section
variable {X:Cx} {elt tg iter:Expr} {ifs:List Expr} {scope:Scope} {pos:Pos} {Nc:List Str} {cs:List (Option Nat)} {wi:TI} {g:TG} {tc:TT} {te:TE}
theorem XN {pins:List (Addr×Obj)} {σ:L2.St} {H H':Hp} {s s3 s':Shared} {fp:List Addr} {C:Addr} {cells:List (Str×Addr)} {po:List (Addr×Obj)} {σc:L2.St} {acc:List V} {its:List Value} {n:Nat}
 (I:Inv X pins σ H s) (f:∀b∈fp,D7 X pins H b) (e3:s3={s with heap:=s.heap.push {cls:=.type "list",data:=.seq ([]:List Value).toArray}}) (hC:C=s3.heap.objs.size)
 (I':Inv (BO X Nc scope C s.heap.objs.size cells fp s3 H pins) po σc H' s') (hD:H' s.heap.objs.size=none) (hl:acc.length≤sizeLine) (rv:Vals acc its) (ho:s'.heap.get? s.heap.objs.size=some {cls:=.type "list",data:=.seq its.toArray n})
 {h':Heap} (sb:Heap.SameBut C s'.heap h'):Inv X pins σ (Ao H' s.heap.objs.size (.lst acc)) {s' with heap:=h'}:=by
 have k3:∀b o,s.heap.get? b=some o→s3.heap.get? b=some o:=fun b o e=>by subst e3;exact AG _ e
 have J7:s3.heap.objs.size=s.heap.objs.size+1:=by subst e3;exact CI ..
 have Dh:∀b o,s.heap.get? b=some o→b≠s.heap.objs.size:=fun b o e=>BH (AF e)
 have neC:∀b o,s.heap.get? b=some o→b≠C:=fun b o e=>by rw [hC];exact BH (AW (AF e) (by omega))
 have DC:s.heap.objs.size≠C:=by rw [hC];exact BH (by omega)
 have U:Un (frs X.stack) (s.heap.objs.size::fp) H H' s3.heap s'.heap:=I'.base
 have exn:∀b o,s.heap.get? b=some o→b∉fp→b∉s.heap.objs.size::fp:=fun b o e hx hb=>by
  rcases qa5.mp hb with z |z
  ·exact Dh b o e z
  ·exact hx z
 have neT:∀b u,H' b=some u→b≠s.heap.objs.size:=fun b u e=>Bz e hD
 have hCn:H' C=none:=I'.free
 refine I.call' (s':={s' with heap:=h'}) (ch:=fp) ?_ ?_ ?_ I'.bare ?_
 ·show s'.os=s.os
  have:=I'.os
  rw [this]
  show s3.os=s.os
  subst e3;rfl
 ·refine ⟨fun b o e nn hb hx=>?_,fun b o e nn hb hx=>?_,fun b o e nn hx=>?_,fun b o e hx=>?_,fun b xs e=>?_,fun b o u e=>?_,fun b ps e=>?_⟩
  ·exact (sb.2 b (neC b o e)).trans (U.keep b o (k3 b o e) nn hb (exn b o e hx))
  ·obtain ⟨sl,z⟩:=U.slot b o (k3 b o e) nn hb (exn b o e hx)
   exact ⟨sl,(sb.2 b (neC b o e)).trans z⟩
  ·rw [Av (Dh b o e)]
   exact U.free b o (k3 b o e) nn (exn b o e hx)
  ·obtain ⟨o',z⟩:=U.there b o (k3 b o e) (exn b o e hx)
   exact ⟨o',(sb.2 b (neC b o e)).trans z⟩
  ·have z:=U.tups b xs e
   rw [Av (neT b _ z)]
   exact z
  ·have z:=U.frzs b o u e
   rw [Av (neT b _ z)]
   exact z
  ·obtain ⟨more,z⟩:=U.tbls b ps e
   exact ⟨more,by rw [Av (neT b _ z)];exact z⟩
 ·intro b u e
  by_cases hb:b=s.heap.objs.size
  ·subst hb
   rw [BL] at e
   cases e
   exact ⟨hl,its,n,rv,(sb.2 _ DC).trans ho⟩
  ·rw [Av hb] at e
   refine (I'.hok b u e).stay (fun c v hc z=>(sb.2 c ?_).trans z) (fun c z=>by rw [Av (neT c _ z)];exact z) fun c xs z=>by rw [Av (neT c _ z)];exact z
   rcases hc with rfl |hc
   ·exact Bz e hCn
   ·exact Bz hc hCn
 ·intro b hb
  obtain ⟨_,f1,_,f3,f4,f5⟩:=f b hb
  exact ⟨f3,f1,f4,f5⟩
inductive O2 (W:Nat→Nat→List V→Hp→Prop) (Xc:Cx) (σc:L2.St) (tn:Nat→Heap→Prop) (fp:List Addr) (Da:Addr) (n:Nat) (s':Shared):Prop where
 |mk (i:Nat) (acc:List V) (H':Hp) (its:List Value) (k:Nat) (w:W i n acc H') (ii:Inv Xc [] σc H' s') (st:tn i s'.heap) (fr:∀b∈fp,H' b=none) (hD:H' Da=none) (rv:Vals acc its) (ho:s'.heap.get? Da=some {cls:=.type "list",data:=.seq its.toArray k}):O2 W Xc σc tn fp Da n s'
theorem O3 {use:Option (Value→Sem Unit)} {QQ:Value→Shared→Prop} {ppos:Pos} {pins:List (Addr×Obj)} {s:Shared} {σ:L2.St} {H:Hp} {Q:VK} (hcalm:X.calm=true) (S:GY X scope Nc cs) (hi:PI X tg iter wi)
 (hb:∀(C D:Addr) (cells:List (Str×Addr)) (fp:List Addr) (s₀:Shared) (H₀:Hp) (pins:List (Addr×Obj)),PG (BO X Nc scope C D cells fp s₀ H₀ pins) tg g∧Ik (BO X Nc scope C D cells fp s₀ H₀ pins) ifs tc∧PE (BO X Nc scope C D cells fp s₀ H₀ pins) elt te)
 (hsf:∀x,foldedSetIterable iter X.env x=pure x) (I:Inv X pins σ H s) (h:JY cs wi g tc te σ H Q)
 (fin:∀(s6:Shared) (C D:Addr) (H7:Hp) (m6:Str→Option Value),s6.heap.Ns C m6→H7 C=none→X.s₀.heap.objs.size≤C→C≠X.env.locals→(∀x c,X.env.cells.lookup x=some c→c≠C)→(∀p∈X.pn++pins,p.1≠C)→
  (∀h',Heap.SameBut C s6.heap h'→Inv X pins σ H7 {s6 with heap:=h'})→Q (.ref D) H7→compPost (model X.prog X.w) X.A X.xe use QQ (.ref D) C (.ok .next) s6):
 wpAny (model X.prog X.w) X.A (comprehension (.ListComp elt [⟨tg,iter,ifs,0⟩] scope pos) scope X.env ppos (newList []) false (eval iter X.env) use) QQ X.xe s:=by
 obtain ⟨cl,hclos,hcl,hcl2⟩:=OZ (scope:=scope) (env:=X.env) fun y hy hf=>I.ok.has y.1 (S.free y hy hf)
 refine wpAny_comprehension_free (use:=use) rfl hsf hclos S.kind S.loc (Ay (hi pins s σ H _ I h) fun xv s1 h1=>Ay h1 fun itv s2 h2=>?_)
 obtain ⟨it,fp,tn,J,H2,e,I2,T,Dm,f2,W,⟨n0,w0⟩,turn⟩:=h2
 subst e
 refine wpAny_newObj_type ?_
 generalize e3:({s2 with heap:=s2.heap.push {cls:=.type "list",data:=.seq ([]:List Value).toArray}}:Shared)=s3
 refine XE ?_
 have ob2:∀b∈fp,∃o,s2.heap.get? b=some o:=fun b hb=>let ⟨o,e,_⟩:=T.obj _ _ Dm b hb;⟨o,e⟩
 have I4:=XM (fp:=fp) (cl:=cl) S I2 f2 ob2 hcl hcl2 e3.symm
 generalize e4:({s3 with heap:=pushCells (s3.heap.push {cls:=.type "dict",data:=.dict #[]}) scope.names}:Shared)=s4 at I4
 generalize ecl:cellsFrom (s3.heap.objs.size+1) scope.names cl=cells at I4
 obtain ⟨pg,pt,pe⟩:=hb s3.heap.objs.size s2.heap.objs.size cells fp s3 H2 pins
 generalize eX:BO X Nc scope s3.heap.objs.size s2.heap.objs.size cells fp s3 H2 pins=Xc at I4 pg pt pe
 have xP:Xc.prog=X.prog:=by subst eX;rfl
 have xw:Xc.w=X.w:=by subst eX;rfl
 have xK:Xc.K=X.K:=by subst eX;rfl
 have xA:Xc.A=X.A:=by subst eX;rfl
 have xE:Xc.env=O0 X.env scope s3.heap.objs.size cells:=by subst eX;rfl
 have xL:Xc.env.locals=s3.heap.objs.size:=by subst eX;rfl
 have xe:Xc.xe=fun _ _=>False:=by subst eX;rfl
 have xc:Xc.calm=true:=by subst eX;exact hcalm
 have xex:Xc.ex=s2.heap.objs.size::fp:=by subst eX;rfl
 have okc:=I4.ok
 have k3:∀b o,s2.heap.get? b=some o→s3.heap.get? b=some o:=fun b o e=>by subst e3;exact AG _ e
 have J7:s3.heap.objs.size=s2.heap.objs.size+1:=by subst e3;exact CI ..
 have k34:∀b o,s3.heap.get? b=some o→s4.heap.get? b=some o:=fun b o e=>by subst e4;exact pushCells_keeps _ _ b o (AG _ e)
 have hDC:s2.heap.objs.size≠Xc.env.locals:=by rw [xL];exact BH (by omega)
 have hDcell:∀x c,Xc.env.cells.lookup x=some c→c≠s2.heap.objs.size:=fun x c e=>(okc.exf _ (by rw [xex];exact AZ)).2 x c e
 have hDpin:∀p∈Xc.pn,p.1≠s2.heap.objs.size:=fun p hp=>by
  have hp':p∈X.pn++pins:=by subst eX;exact hp
  exact BH (AF (I2.pin p hp').1)
 have hDfp:s2.heap.objs.size∉fp:=fun hm=>by
  obtain ⟨o,e⟩:=ob2 _ hm
  exact absurd (AF e) (CO _)
 have hDex:s2.heap.objs.size∈Xc.ex:=by rw [xex];exact AZ
 have hDfs:s2.heap.objs.size∉Xc.fs:=okc.exfs _ hDex
 have fpC:∀{po:List (Addr×Obj)} {H':Hp},(∀b∈fp,H' b=none)→(∀p∈po,p.1=s2.heap.objs.size)→∀b∈fp,D7 Xc po H' b:=fun {po H'} hn hp b hb=>by
  have hbx:b∈Xc.ex:=by rw [xex];exact A6 _ hb
  refine ⟨hn b hb,(okc.exf b hbx).1,okc.exfs b hbx,.inl hbx,(okc.exf b hbx).2,fun p hpp=>?_⟩
  rcases qaG.mp hpp with z |z
  ·have hp':p∈X.pn++pins:=by subst eX;exact z
   exact (f2 b hb).2.2.2.2.2 p hp'
  ·rw [hp p z]
   intro e
   exact hDfp (e ▸ hb)
 have loop:∀sx,sx=s4→codeAny (model X.prog X.w) X.A (.compLoop (.ListComp elt [⟨tg,iter,ifs,0⟩] scope pos) 0 (.ref it) (.ref s2.heap.objs.size) Xc.env)
  (compPost (model X.prog X.w) X.A X.xe use QQ (.ref s2.heap.objs.size) s3.heap.objs.size) sx:=by
  rintro sx rfl
  refine XF (O2 W Xc (BB cs σ) tn fp s2.heap.objs.size) ?_ n0
   ⟨0,[],H2,[],0,w0,I4,?_,fun b hb=>(f2 b hb).1,I2.hok.fresh (Ax _),.nil,?_⟩
  ·rintro n s5 ⟨i,acc,H5,its,k,w5,I5,FS,fr5,hD5,rv5,ho5⟩
   have pin1:Inv Xc [(s2.heap.objs.size,{cls:=.type "list",data:=.seq its.toArray k})] (BB cs σ) H5 s5:=I5.pins_of fun p hp=>by
    rw [qa4] at hp
    subst hp
    exact ⟨ho5,hD5,hDC,hDfs,fun v z=>by cases z⟩
   have pone:∀p∈[((s2.heap.objs.size:Addr),({cls:=.type "list",data:=.seq its.toArray k}:Obj))],p.1=s2.heap.objs.size:=fun p hp=>by
    rw [qa4] at hp;subst hp;rfl
   rcases turn i n acc H5 w5 with ⟨stop,hlen,qn⟩ |⟨go,hlen,step⟩
   ·have z1:=T.done Xc xP xw xK xc i _ s5 (BB cs σ) H5 (fun _ _=>False) pin1 (fpC fr5 pone) FS stop
    rw [xA] at z1
    refine wpAny_mono z1 (fun r s6 z1_=>?_) fun _ _ z=>False.elim z
    obtain ⟨hr,I6⟩:=z1_
    subst hr
    obtain ⟨m6,hn6,_⟩:=I6.loc
    obtain ⟨ho6,hD6,_⟩:=I6.pin _ (Be _ AZ)
    rw [xL] at hn6
    have lt2:∀b,b<s2.heap.objs.size→b≠s3.heap.objs.size:=fun b hb=>BH (AW hb (by omega))
    refine fin s6 s3.heap.objs.size s2.heap.objs.size (Ao H5 s2.heap.objs.size (.lst acc)) m6 hn6 ?_ (BU I2.sz (by omega)) ?_ ?_ ?_ ?_ (qn _ hD6)
    ·rw [Av (Fy (by omega))]
     have:=I6.free
     rw [xL] at this
     exact this
    ·obtain ⟨m2,hn2,_⟩:=I2.loc
     exact Ne.symm (lt2 _ hn2.lt)
    ·intro x c hx
     obtain ⟨v,hv⟩:=I2.cell x c hx
     obtain ⟨o,ho,_⟩:=hv
     exact lt2 _ (AF ho)
    ·intro p hp
     exact lt2 _ (AF (I2.pin p hp).1)
    ·intro h' sb
     subst eX
     exact XN I2 f2 e3.symm rfl I6 hD6 hlen rv5 ho6 sb
   ·have z1:=T.item Xc xP xw xK xc i _ s5 (BB cs σ) H5 (fun _ _=>False) pin1 (fpC fr5 pone) FS go
    rw [xA] at z1
    refine wpAny_mono z1 (fun r s6 z2_=>?_) fun _ _ z=>False.elim z
    obtain ⟨u,hr,h6⟩:=z2_
    subst hr
    refine wpAny_mono h6 (fun _ s7 z3_=>?_) fun _ _ z=>False.elim z
    obtain ⟨x,H7,I7,r7,y7,Jk,fr7⟩:=z3_
    have I7':=I7.pinned (fp:=fp) (fpC fr7 pone) (T.obj _ _ Jk)
    have z2:=pg _ s7 (BB cs σ) H7 x u _ I7' r7 (step x H7 y7)
    rw [xP,xw,xA,xe] at z2
    refine wpAny_mono z2 (fun _ s8 z4_=>?_) fun _ _ z=>False.elim z
    obtain ⟨σ8,H8,I8,sub8,q8⟩:=z4_
    have z3:=pt _ s8 σ8 H8 _ I8 q8
    rw [xP,xw,xA,xe] at z3
    refine wpAny_mono z3 (fun ok s9 z5_=>?_) fun _ _ z=>False.elim z
    obtain ⟨H9,I9,q9⟩:=z5_
    have back:∀{sy:Shared} {Hy:Hp},Inv Xc ([(s2.heap.objs.size,{cls:=.type "list",data:=.seq its.toArray k})]++HP fp s7.heap) σ8 Hy sy→
     Inv Xc [] (BB cs σ) Hy sy∧tn (i+1) sy.heap∧(∀b∈fp,Hy b=none)∧Hy s2.heap.objs.size=none∧sy.heap.get? s2.heap.objs.size=some {cls:=.type "list",data:=.seq its.toArray k}:=fun {sy Hy} Iy=>by
     obtain ⟨ho,hD,_⟩:=Iy.pin _ (Be _ (Cj _ AZ))
     refine ⟨(Iy.pins_of fun p hp=>absurd hp (by simp)).weak (sub8.1) (fun j v z=>sub8.2 j v z),T.keep _ _ _ Jk fun b hb o e=>(Iy.pin (b,o) (Be _ (Be _ (JB hb e)))).1,fun b hb=>?_,hD,ho⟩
     obtain ⟨o,e,_⟩:=T.obj _ _ Jk b hb
     exact (Iy.pin (b,o) (Be _ (Be _ (JB hb e)))).2.1
    cases ok with
    |false=>
     simp only [CH,if_false] at q9 ⊢
     obtain ⟨n',hn',w'⟩:=q9
     obtain ⟨a1,a2,a3,a4,a5⟩:=back I9
     exact ⟨n',hn',i+1,acc,H9,its,k,w',a1,a2,a3,a4,rv5,a5⟩
    |true=>
     simp only [if_true] at q9 ⊢
     have z4:=pe _ s9 σ8 H9 _ I9 q9
     rw [xP,xw,xA,xe] at z4
     refine wpAny_mono z4 (fun y s10 z6_=>?_) fun _ _ z=>False.elim z
     obtain ⟨yv,H10,I10,r10,n',hn',w'⟩:=z6_
     obtain ⟨a1,a2,a3,a4,a5⟩:=back I10
     have hlen':=rv5.length
     refine wpAny_list_append_plain ⟨k,a5⟩ (fun h' ⟨k',hl'⟩ sb=>?_) (by rw [AX];omega)
     have tu:Inv Xc [] (BB cs σ) H10 {s10 with heap:=h'}:=a1.turned (t':=s10.toks) (it:=s2.heap.objs.size) (fun b o hb e=>(sb.2 b hb).trans e) a4 hDC (.inl hDex) hDcell (fun p hp=>by
      rcases qaG.mp hp with z |z
      ·exact hDpin p z
      ·exact absurd z (by simp))
     refine ⟨n',hn',i+1,acc++[yv],H10,its++[y],k',w',tu,T.keep _ _ _ a2 (fun b hb o e=>(sb.2 b (fun z=>hDfp (z ▸ hb))).trans e),a3,a4,rv5.append (.cons r10 .nil),?_⟩
     rw [hl']
     simp
  ·exact T.keep _ _ _ Dm fun b hb o e=>k34 b o (k3 b o e)
  ·refine k34 _ _ ?_
   subst e3
   exact Bi _ rfl
 have fin:=loop s4 rfl
 have hst4:tn 0 s4.heap:=T.keep _ _ _ Dm fun b hb o e=>k34 b o (k3 b o e)
 rw [xE] at fin
 have:=codeAny_compStart_list fin (T.self X.A 0 s4 _ _ hst4 fin)
 exact this
theorem XO (hcalm:X.calm=true) (S:GY X scope Nc cs) (hi:PI X tg iter wi)
 (hb:∀(C D:Addr) (cells:List (Str×Addr)) (fp:List Addr) (s₀:Shared) (H₀:Hp) (pins:List (Addr×Obj)),PG (BO X Nc scope C D cells fp s₀ H₀ pins) tg g∧Ik (BO X Nc scope C D cells fp s₀ H₀ pins) ifs tc∧PE (BO X Nc scope C D cells fp s₀ H₀ pins) elt te)
 (hsf:∀x,foldedSetIterable iter X.env x=pure x:=by intro _;rfl):PE X (.ListComp elt [⟨tg,iter,ifs,0⟩] scope pos) (JY cs wi g tc te):=by
 intro pins s σ H Q I h
 rw [eval_ListComp]
 exact O3 (use:=none) hcalm S hi hb hsf I h fun s6 C D H7 m6 hn _ _ _ _ _ inv q=>⟨m6,hn,fun h' sb=>⟨.ref D,H7,inv h' sb,rfl,q⟩⟩
end
def noErr {α:Type}:Out α→Out α
 |.ok a h=>.ok a h
 |_=>.stuck
@[simp] theorem Zdo {α:Type} (a:α) (h:HD):noErr (.ok a h)=.ok a h:=rfl
theorem O4 {α β γ δ:Type} {K:PySem.W.Frag} {R:List Addr→Hp→α→β→Prop} {R':List Addr→Hp→γ→δ→Prop} {m:List Addr} {H:Hp} {E:XK} {Q:δ→Hp→Prop} {Q':β→Hp→Prop} {o:Out α} {k:α→HD→Out γ}
 (h:Post K R' m H E Q ((noErr o).bind k)) (f:∀a h1 v m1 H1,o=.ok a h1→m <+:m1→Kp H H1→HR K m1 h1 H1→R m1 H1 a v→Post K R' m1 H1 E Q (k a h1)→Q' v H1):Post K R m H E0 Q' o:=by
 cases o with
 |ok a h1=>exact fun v m1 H1 p kk hr r=>f a h1 v m1 H1 rfl p kk hr r (Post.ahead p kk h)
 |err C fs h1=>exact False.elim h
 |stuck=>exact False.elim h
def Cs (cs:List (Option Nat)) (ρ:Ah):Ah:=cs.map fun o=>o.bind fun j=>(ρ[j]?).join
theorem join_some {α:Type} {l:List (Option α)} {j:Nat} {a:α}:(l[j]?).join=some a↔l[j]?=some (some a):=by
 cases h:l[j]? with
 |none=>simp
 |some o=>simp
theorem ER.comp {K:PySem.W.Frag} {m:List Addr} {H:Hp} {ρ:Ah} {σ:L2.St} (cs:List (Option Nat)) (er:ER K m H ρ σ):ER K m H (Cs cs ρ) (BB cs σ):=by
 refine ⟨by simp [Cs,BB],fun i d e=>?_⟩
 unfold Cs at e
 rw [B8] at e
 cases ec:cs[i]? with
 |none=>rw [ec] at e;cases e
 |some o=>
  rw [ec] at e
  cases o with
  |none=>cases e
  |some j=>
   simp only [Do,Option.bind_some,Option.some.injEq] at e
   obtain ⟨v,e1,r⟩:=er.2 j d (join_some.mp e)
   refine ⟨v,?_,r⟩
   unfold BB
   rw [B8,ec]
   simp only [Do,Option.bind_some,Option.some.injEq]
   exact join_some.mpr e1
theorem Sub.set {cs:List (Option Nat)} {σ:L2.St} {σ':L2.St} {i:Nat} {v:V} (h:cs[i]?=some none) (s:Sub (BB cs σ) σ'):Sub (BB cs σ) (σ'.set i (some v)):=by
 refine ⟨by rw [s.1];simp,fun j w e=>?_⟩
 have hj:i≠j:=by
  rintro rfl
  unfold BB at e
  rw [B8,h] at e
  cases e
 rw [Bp hj]
 exact s.2 j w e
theorem Sub.refl (σ:L2.St):Sub σ σ:=⟨rfl,fun _ _ h=>h⟩
def Fz (K:PySem.W.Frag) (cs:List (Option Nat)) (gg:TG) (sg:MG):Prop:=
 ∀m H d v ρ σ0 ρ' Q,DV K m H d v→ER K m H ρ (BB cs σ0)→sg d ρ=some ρ'→(∀σ',Sub (BB cs σ0) σ'→ER K m H ρ' σ'→Q σ' H)→gg v (BB cs σ0) H Q
theorem O5 {K:PySem.W.Frag} {cs:List (Option Nat)} {i:Nat} (h:cs[i]?=some none):Fz K cs (Cb i) (A9 i):=fun m H d v ρ σ0 ρ' Q r er e q=>by
 simp only [A9,Option.some.injEq] at e
 subst e
 exact q _ ((Sub.refl _).set h) (er.set r)
theorem O6 {K:PySem.W.Frag} {cs:List (Option Nat)} {i j:Nat} (h:cs[i]?=some none) (h':cs[j]?=some none):Fz K cs (D3 K 2 (Cp (Cb i) (Cp (Cb j) EJ))) (Di i j):=fun m H d v ρ σ0 ρ' Q r er e q=>by
 unfold Di at e
 split at e
 ·rename_i a b
  cases e
  simp only [DV,DVs] at r
  obtain ⟨p,vs,rfl,hp,v1,w1,rfl,r1,v2,w2,rfl,r2,rfl⟩:=r
  exact ⟨p,_,rfl,SqT.of hp,rfl,v1,_,rfl,v2,_,rfl,rfl,q _ (((Sub.refl _).set h).set h') ((er.set r1).set r2)⟩
 ·cases e
abbrev GZ (X:Cx) (E:XK) (ifs:List Expr) (t:MT):Prop:=Ik X ifs (GS X.K E t)
def Bw:MT:=fun _ h=>.ok true h
theorem XQ {X:Cx} {E:XK}:GZ X E [] Bw:=fun pins s σ H Q I z1_=>by obtain ⟨m,ρ,h,hr,er,p⟩:=z1_;exact (XG pins s σ H Q I (p true m H (AB _) (.refl _) hr rfl))
theorem XR {X:Cx} {E:XK} {c:Expr} {t:MT} (h:Dg X E c t):GZ X E [c] t:=XH h
open Classical in
noncomputable def Ck (src:A1) (items:List D) (sg:MG) (t:MT) (f:ME) (ρc:Ah):List D→HD→Out (List D)
 |[],h=>if BM src items h then .ok [] h else .stuck
 |d::ds,h=>if BM src items h then match sg d ρc with
   |none=>.stuck
   |some ρ1=>(noErr (t ρ1 h)).bind fun b h1=>if b=true then (noErr (f ρ1 h1)).bind fun y h2=>(Ck src items sg t f ρc ds h2).bind fun ys h3=>.ok (y::ys) h3 else Ck src items sg t f ρc ds h1
  else .stuck
noncomputable def AY (cs:List (Option Nat)) (it:MI) (sg:MG) (t:MT) (f:ME):ME:=fun ρ h=>(it ρ h).bind fun x h1=>if x.1.length≤sizeLine then (Ck x.2 x.1 sg t f (Cs cs ρ) x.1 h1).bind Cq else .stuck
theorem Out.bind_assoc {α β γ:Type} (o:Out α) (k:α→HD→Out β) (l:β→HD→Out γ):(o.bind k).bind l=o.bind fun a h=>(k a h).bind l:=by cases o<;>rfl
section
variable {X:Cx} {E:XK} {elt tg iter:Expr} {ifs:List Expr} {scope:Scope} {pos:Pos} {Nc:List Str} {cs:List (Option Nat)} {it:MI} {gg:TG} {sg:MG} {t:MT} {f:ME}
inductive O7 (K:PySem.W.Frag) (E:XK) (Q:VK) (src:A1) (items:List D) (sg:MG) (t:MT) (f:ME) (ρc:Ah) (m1:List Addr) (H1:Hp) (i n:Nat) (acc:List V) (H2:Hp):Prop where
 |mk (e:n=items.length - i) (l:i≤items.length) (a:acc.length≤i) (m2:List Addr) (h2:HD) (dacc:List D) (p:m1 <+:m2) (k:Kp H1 H2) (hr:HR K m2 h2 H2) (da:DVs K m2 H2 dacc acc) (q:Post K (rD K) m2 H2 E Q ((Ck src items sg t f ρc (items.drop i) h2).bind fun ys h3=>Cq (dacc++ys) h3)):O7 K E Q src items sg t f ρc m1 H1 i n acc H2
theorem O8 (hg:Fz X.K cs gg sg):∀σ H Q,tD X.K E (AY cs it sg t f) σ H Q→JY cs (tM X.K (JW X.K) E it) gg (GS X.K E0 t) (tD X.K E0 f) σ H Q:=by
 refine ?_
 rintro σ H Q ⟨m,ρ,h,hr,er,p⟩
 refine ⟨m,ρ,h,hr,er,Post.bind p fun x h1 J m1 H1 _ p1 k1 hr1 r1 q1=>?_⟩
 obtain ⟨items,src⟩:=x
 dsimp only at q1
 split at q1
 ·rename_i hz
  have er1:ER X.K m1 H1 (Cs cs ρ) (BB cs σ):=(er.keep p1 k1).comp cs
  refine ⟨O7 X.K E Q src items sg t f (Cs cs ρ) m1 H1,
   ⟨items.length,rfl,Bu _,Ax _,m1,h1,[],AB _,.refl _,hr1,.nil,by simpa using q1⟩,?_⟩
  rintro i n acc H2 ⟨rfl,hi',ha,m2,h2,dacc,p2,k2,hr2,da,q2⟩
  by_cases hlt:i<items.length
  ·rw [Lf hlt] at q2
   unfold Ck at q2
   split at q2
   ·rename_i hs
    obtain ⟨hgo,hy⟩:=(r1 i m2 h2 H2 p2 k2 hr2 hs).1 hlt
    refine .inr ⟨hgo,by omega,fun y H3 hyl=>?_⟩
    obtain ⟨k3,hr3,d,ed,rd⟩:=hy y H3 hyl
    have ed':d=items[i]:=by rw [AQ hlt] at ed;exact (Option.some.inj ed).symm
    subst ed'
    split at q2
    ·exact q2.elim
    ·rename_i ρ3 es
     have er3:ER X.K m2 H3 (Cs cs ρ) (BB cs σ):=er1.keep p2 (k2.trans k3)
     refine hg m2 H3 _ y (Cs cs ρ) σ ρ3 _ rd er3 es fun σ4 sub4 er4=>⟨sub4,m2,ρ3,h2,hr3,er4,?_⟩
     rw [Out.bind_assoc] at q2
     refine O4 (Post.ahead (AB _) k3 q2) fun b h5 v m5 H5 _ p5 k5 hr5 r5 q5=>?_
     cases r5
     cases b with
     |false=>
      simp only [CH,if_false] at q5 ⊢
      exact ⟨items.length - (i+1),by omega,rfl,hlt,by omega,m5,h5,dacc,p2.trans p5,(k2.trans k3).trans k5,hr5,DVs.keep p5 (k3.trans k5) da,q5⟩
     |true=>
      simp only [if_true] at q5 ⊢
      rw [Out.bind_assoc] at q5
      refine ⟨m5,ρ3,h5,hr5,er4.keep p5 k5,O4 q5 fun z h6 w m6 H6 _ p6 k6 hr6 r6 q6=>?_⟩
      refine ⟨items.length - (i+1),by omega,rfl,hlt,by simp;omega,m6,h6,dacc++[z],(p2.trans p5).trans p6,((k2.trans k3).trans k5).trans k6,hr6,(DVs.keep (p5.trans p6) ((k3.trans k5).trans k6) da).app (.cons r6 .nil),?_⟩
      rw [Out.bind_assoc] at q6
      simp only [Out.bind_ok] at q6
      simpa using q6
   ·exact q2.elim
  ·have he:i=items.length:=Nat.le_antisymm hi' (HF hlt)
   subst he
   rw [List.drop_length] at q2
   unfold Ck at q2
   split at q2
   ·rename_i hs
    simp only [Out.bind_ok,B9] at q2
    obtain ⟨z1,z2⟩:=H0 hr2 da q2
    exact .inl ⟨(r1 _ m2 h2 H2 p2 k2 hr2 hs).2 rfl,z1,z2⟩
   ·exact q2.elim
 ·exact q1.elim
theorem XS (hcalm:X.calm=true) (S:GY X scope Nc cs) (hi:Ec X E tg iter it) (hg:Fz X.K cs gg sg)
 (hb:∀(C D:Addr) (cells:List (Str×Addr)) (fp:List Addr) (s₀:Shared) (H₀:Hp) (pins:List (Addr×Obj)),PG (BO X Nc scope C D cells fp s₀ H₀ pins) tg gg∧GZ (BO X Nc scope C D cells fp s₀ H₀ pins) E0 ifs t∧Ev (BO X Nc scope C D cells fp s₀ H₀ pins) E0 elt f)
 (hsf:∀x,foldedSetIterable iter X.env x=pure x:=by intro _;rfl):Ev X E (.ListComp elt [⟨tg,iter,ifs,0⟩] scope pos) (AY cs it sg t f):=by
 exact B4 (XO (g:=gg) (tc:=GS X.K E0 t) (te:=tD X.K E0 f) hcalm S hi hb hsf) (O8 hg)
theorem XT {i:Nat} {x:Str} {pos' pos2:Pos} (hcalm:X.calm=true) (hN:X.N.Nodup) (hix:X.N[i]?=some x) (hx:FX X.env.scope x) (S:GY X scope Nc cs) (hi:Ec X E tg iter it) (hg:Fz X.K cs gg sg)
 (hb:∀(C D:Addr) (cells:List (Str×Addr)) (fp:List Addr) (s₀:Shared) (H₀:Hp) (pins:List (Addr×Obj)),PG (BO X Nc scope C D cells fp s₀ H₀ pins) tg gg∧GZ (BO X Nc scope C D cells fp s₀ H₀ pins) E0 ifs t∧Ev (BO X Nc scope C D cells fp s₀ H₀ pins) E0 elt f)
 (hsf:∀x,foldedSetIterable iter X.env x=pure x:=by intro _;rfl) (hsw:swapsWith (.ListComp elt [⟨tg,iter,ifs,0⟩] scope pos) (some (.Name x pos')) pos2.line X.env=pure true:=by rfl)
 (hf:X.fn x=true∨X.env.scope.names.lookup x=some .local:=by first |exact .inl rfl |exact .inr rfl |assumption):Ex X E (.Assign [.Name x pos'] (.ListComp elt [⟨tg,iter,ifs,0⟩] scope pos) pos2) (An i (AY cs it sg t f)):=by
 rintro pins s σ H D I ⟨m,ρ,h,hr,er,p⟩
 have hq:JY cs (tM X.K (JW X.K) E it) gg (GS X.K E0 t) (tD X.K E0 f) σ H (fun v H1=>D.nx (σ.set i (some v)) H1):=O8 hg σ H _ ⟨m,ρ,h,hr,er,PostS.bind p fun y h1 v m1 H1 _ p1 k1 hr1 r1 q1=>(q1.here hr1) _ ((er.keep p1 k1).set r1)⟩
 rw [exec_Assign_Name_used _ _ _ _ hsw]
 refine wpAny_bind (wpAny_standAt (wpAny_bind ?_))
 show wpAny _ X.A (do let _ ←comprehension (.ListComp elt [⟨tg,iter,ifs,0⟩] scope pos) scope X.env _ (newList []) false (eval iter X.env) (some (assign (.Name x pos') X.env))) _ _ s
 refine wpAny_bind (wpAny_mono (O3 (QQ:=fun _ s'=>SP X pins D .next s') hcalm S hi hb hsf I hq fun s6 C Dd H7 m6 hn hC h0 hL hc hp inv q=>?_) (fun _ s' z=>wpAny_pure (wpAny_pure z)) fun _ _ z=>z)
 have I6:Inv X pins σ H7 s6:=inv s6.heap ⟨rfl,fun _ _=>rfl⟩
 refine wpAny_assign_Name (Jt I6 hN hix hx (v:=.ref Dd) rfl (fun s7 I7 z3_=>?_) hf)
 obtain ⟨a,sb7,ha⟩:=z3_
 have nCa:C≠a:=by
  rcases ha with z |z
  ·rw [z];exact hL
  ·exact Ne.symm (hc x a z)
 obtain ⟨o,es,ep,e1,e2⟩:=hn
 refine ⟨m6,⟨o,es,ep,(sb7.2 C nCa).trans e1,e2⟩,fun h' sb=>?_⟩
 exact ⟨_,H7,I7.turned (t':=s7.toks) (it:=C) (fun b o hb e=>(sb.2 b hb).trans e) hC hL (.inr h0) hc hp,q⟩
end
section
variable {X:Cx} {E:XK}
def DN:D→HD→Option String
 |.non,_=>some "NoneType"
 |.bl _,_=>some "bool"
 |.int _,_=>some "int"
 |.str _,_=>some "str"
 |.tup _,_=>some "tuple"
 |.loc l,h=>match h[l]? with
  |some (.lst _)=>some "list"
  |_=>none
 |_,_=>none
theorem XU {m:List Addr} {H:Hp} {h:HD} {d:D} {v:V} {t:String} (hr:HR X.K m h H) (r:DV X.K m H d v) (e:DN d h=some t):D8 X.K H v (.type t):=by
 cases d with
 |non=>simp only [DN,Option.some.injEq,DV] at e r;subst e r;exact .non
 |bl b=>simp only [DN,Option.some.injEq,DV] at e r;subst e r;exact .bl _
 |int i=>simp only [DN,Option.some.injEq,DV] at e r;subst e r;exact .int _
 |str x=>simp only [DN,Option.some.injEq,DV] at e r;subst e r;exact .str _
 |tup ds=>simp only [DN,Option.some.injEq,DV] at e r;subst e;obtain ⟨a,vs,rfl,ha,_⟩:=r;exact .tup ha
 |loc l=>
  simp only [DV] at r
  obtain ⟨a,rfl,ha⟩:=r
  simp only [DN] at e
  split at e
  ·rename_i ds el
   cases e
   obtain ⟨vs,hv,_⟩:=hr.cells l _ a el ha
   exact .lst hv
  ·cases e
 |_=>simp [DN] at e
def subL:List (String×String×Bool):=[("NoneType","int",false),("bool","int",true),("int","int",true),("str","int",false),("tuple","int",false),("list","int",false),("NoneType","bool",false),("bool","bool",true),("int","bool",false),("str","bool",false),("tuple","bool",false),("list","bool",false),("NoneType","tuple",false),("bool","tuple",false),("int","tuple",false),("str","tuple",false),("tuple","tuple",true),("list","tuple",false),("NoneType","str",false),("bool","str",false),("int","str",false),("str","str",true),("tuple","str",false),("list","str",false),("NoneType","list",false),("bool","list",false),("int","list",false),("str","list",false),("tuple","list",false),("list","list",true),("dict","int",false),("dict","bool",false),("dict","tuple",false),("dict","str",false),("dict","list",false)]
def JZ (t c:String):Option Bool:=(subL.find? fun p=>p.1==t&&p.2.1==c).map fun p=>p.2.2
theorem XW {K:PySem.W.Frag}:∀p∈subL,PySem.W.kitOne K (.type p.1) (.type p.2.1)=some p.2.2:=by
 unfold subL
 simp only [List.forall_mem_cons]
 exact ⟨rfl,rfl,rfl,rfl,rfl,rfl,rfl,rfl,rfl,rfl,rfl,rfl,rfl,rfl,rfl,rfl,rfl,rfl,rfl,rfl,rfl,rfl,rfl,rfl,rfl,rfl,rfl,rfl,rfl,rfl,rfl,rfl,rfl,rfl,rfl,fun _ h=>nomatch h⟩
theorem O9 {K:PySem.W.Frag} {t c:String} {b:Bool} (h:JZ t c=some b):PySem.W.kitOne K (.type t) (.type c)=some b:=by
 unfold JZ at h
 rw [qaT] at h
 obtain ⟨p,hp,rfl⟩:=h
 have e:=FV hp
 rw [BS,beq_iff_eq,beq_iff_eq] at e
 rw [←e.1,←e.2]
 exact XW p (GD hp)
def BC:D→D→HD→Out D:=fun x y h=>match y,DN x h with
 |.ty T,some t=>match JZ t T with
  |some b=>.ok (.bl b) h
  |none=>.stuck
 |_,_=>.stuck
theorem XX {x:Str} {T:String} {pos:Pos} (hg:Gl X x) (hm:X.mg x=none) (hv:bootBuiltins x=some (.type T)) (hn:x≠"__name__":=by decide) (hd:(x==("__debug__":Str))=false:=by decide):Ev X E (.Name x pos) (mC (.ty T)):=
 GU (Uz (v:=.ty T) hg hm hv rfl hn hd) fun _ _=>by simp [DV]
theorem LY (ns:List Int):∀j,j≤ns.length→preSum (fun i=>ns.getD i 0) j=(ns.take j).sum
 |0,_=>by simp [preSum]
 |j+1,h=>by
  rw [preSum,LY ns j (by omega),List.take_succ_eq_append_getElem (by omega),List.sum_append]
  simp [Fb,AQ (show j<ns.length by omega)]
theorem J0 {h h2 h':Heap} {it:Addr} (k:∀b o,h.get? b=some o→h2.get? b=some o) (hit:h.objs.size≤it) (hk:∀b o,b∉[it]→h2.get? b=some o→h'.get? b=some o):∀b o,h.get? b=some o→h'.get? b=some o:=fun b o e=>
 hk b o (by rw [qa4];exact BH (AW (AF e) hit)) (k b o e)
theorem Pa {ns:List Int} {its:List Value} (r:Vals (ns.map V.int) its) {i:Nat} {v:Value} (e:its.toArray[i]?=some v):∃t,v=.int (ns.getD i 0) t:=by
 have e':its[i]?=some v:=by simpa using e
 have hi:i<its.length:=(qa3.mp e').1
 have hl:ns.length=its.length:=by have:=r.length;simpa using this
 have hn:(ns.map V.int)[i]?=some (V.int (ns.getD i 0)):=by
  rw [B8,AQ (by omega)]
  simp [Fb,AQ (show i<ns.length by omega)]
 obtain ⟨u,h1,t,h2⟩:=r.get hn
 rw [e'] at h1
 cases h1
 exact ⟨t,h2⟩
theorem XY (hc:X.calm=true):De X (.builtin "sum") (fun xs H Q=>∃(p:Addr) (ns:List Int),xs=[.ref p]∧(SqL X.K H p (ns.map V.int)∨SqT X.K H p (ns.map V.int))∧Q (.int ns.sum) H):=by
 intro pins s σ H xs us Q I r h
 obtain ⟨p,ns,rfl,hs,q⟩:=h
 obtain ⟨u,rfl,rx⟩:=DH r
 cases rx
 have hh:X.A.in1.handled=none:=I.ok.hd hc
 rcases hs with hs |hs
 ·obtain ⟨its,rv,pl,hz⟩:=I.list hs
  have hl:=rv.length
  rw [Bc] at hl
  have hlt:p<s.heap.objs.size:=by obtain ⟨_,e,_⟩:=pl.isList;exact AF e
  refine call_sum_walkG (wpAny_pyIter_list pl.isList ?_)
  refine ⟨s.heap.objs.size,[s.heap.objs.size,p],[s.heap.objs.size],its.toArray.size,_,_,fun i=>ns.getD i 0,rfl,Walks.list (A:=X.A.in1) hh _ p (BH hlt) its.toArray,⟨⟨_,Bi _ rfl,rfl,rfl⟩,pl.isList.push _⟩,fun b hb=>?_,fun i v e=>Pa rv e,fun h' tk t' hk=>?_⟩
  ·show b<(s.heap.push _).objs.size
   rw [CI]
   rcases qa5.mp hb with z |z
   ·rw [z];exact HG _
   ·rw [qa4.mp z];exact GG hlt
  ·have e:preSum (fun i=>ns.getD i 0) its.toArray.size=ns.sum:=by
    rw [AX,←hl,LY ns _ (Ax _),List.take_length]
   rw [e]
   exact ⟨.int ns.sum,H,I.kept (J0 (fun b o e=>AG _ e) (Ax _) hk),⟨t',rfl⟩,q⟩
 ·obtain ⟨its,rv,pl,hz⟩:=I.tuple hs
  have hl:=rv.length
  rw [Bc] at hl
  have hT:s.heap.IsTuple p its.toArray:=pl
  have hlt:p<s.heap.objs.size:=pl.lt
  refine call_sum_walkG (wpAny_pyIter_tuple hT ?_)
  refine ⟨s.heap.objs.size,[s.heap.objs.size,p],[s.heap.objs.size],its.toArray.size,_,_,fun i=>ns.getD i 0,rfl,Walks.tuple (A:=X.A.in1) hh _ p (BH hlt) its.toArray,⟨⟨_,Bi _ rfl,rfl,rfl⟩,hT.push _⟩,fun b hb=>?_,fun i v e=>Pa rv e,fun h' tk t' hk=>?_⟩
  ·show b<(s.heap.push _).objs.size
   rw [CI]
   rcases qa5.mp hb with z |z
   ·rw [z];exact HG _
   ·rw [qa4.mp z];exact GG hlt
  ·have e:preSum (fun i=>ns.getD i 0) its.toArray.size=ns.sum:=by
    rw [AX,←hl,LY ns _ (Ax _),List.take_length]
   rw [e]
   exact ⟨.int ns.sum,H,I.kept (J0 (fun b o e=>AG _ e) (Ax _) hk),⟨t',rfl⟩,q⟩
def Gd:D→Option Int
 |.int i=>some i
 |_=>none
def G0:D→HD→Out D:=fun x h=>match Bg x h with
 |some ds=>match AC (ds.map Gd) with
  |some ns=>.ok (.int ns.sum) h
  |none=>.stuck
 |none=>.stuck
theorem LZ {m:List Addr} {H:Hp}:∀{ds:List D} {vs:List V} {ns:List Int},DVs X.K m H ds vs→AC (ds.map Gd)=some ns→vs=ns.map V.int
 |[],vs,ns,r,e=>by
  simp only [DVs] at r
  simp [AC] at e
  subst r e
  rfl
 |d::ds,vs,ns,r,e=>by
  simp only [DVs] at r
  obtain ⟨v,w,rfl,rv,rw'⟩:=r
  rw [BE] at e
  cases d with
  |int i=>
   simp only [Gd,AC,qaT] at e
   obtain ⟨ns',e1,rfl⟩:=e
   simp only [DV] at rv
   subst rv
   rw [LZ rw' e1]
   rfl
  |_=>simp [Gd,AC] at e
theorem XZ (hc:X.calm=true):CC X (.builtin "sum") (Aw G0):=by
 refine ⟨_,XY hc,fun m H h E ds vs Q hr r q=>EN r q fun d v ev rv q=>?_⟩
 unfold G0 at q
 split at q
 ·rename_i xs e
  split at q
  ·rename_i ns en
   obtain ⟨p,ws,rfl,hs,dv⟩:=Ig hr rv e
   have:=LZ dv en
   subst this
   exact ⟨p,ns,ev,hs,A5 hr q (by simp [DV])⟩
  ·exact q.elim
 ·exact q.elim
theorem X0 (hc:X.calm=true):De X (.builtin "all") (fun xs H Q=>∃(p:Addr) (bs:List Bool),xs=[.ref p]∧SqL X.K H p (bs.map V.bl)∧Q (.bl (bs.all id)) H):=by
 intro pins s σ H xs us Q I r h
 obtain ⟨p,bs,rfl,hs,q⟩:=h
 obtain ⟨u,rfl,rx⟩:=DH r
 cases rx
 have hh:X.A.in1.handled=none:=I.ok.hd hc
 obtain ⟨its,rv,pl,hz⟩:=I.list hs
 have hl:=rv.length
 rw [Bc] at hl
 have hlt:p<s.heap.objs.size:=by obtain ⟨_,e,_⟩:=pl.isList;exact AF e
 have item:∀(i:Nat) (v:Value),its.toArray[i]?=some v→v=.bool (bs.getD i true):=fun i v e=>by
  have e':its[i]?=some v:=by simpa using e
  have hi:i<its.length:=(qa3.mp e').1
  have hn:(bs.map V.bl)[i]?=some (V.bl (bs.getD i true)):=by
   rw [B8,AQ (by omega)]
   simp [Fb,AQ (show i<bs.length by omega)]
  obtain ⟨u,h1,h2⟩:=rv.get hn
  rw [e'] at h1
  cases h1
  exact h2
 refine call_all_walk (wpAny_pyIter_list pl.isList ?_)
 refine ⟨s.heap.objs.size,[s.heap.objs.size,p],[s.heap.objs.size],its.toArray.size,_,_,fun i=>bs.getD i true,rfl,Walks.list (A:=X.A.in1) hh _ p (BH hlt) its.toArray,⟨⟨_,Bi _ rfl,rfl,rfl⟩,pl.isList.push _⟩,fun i v s' Q' E' e hQ=>?_,fun h' tk hk=>?_⟩
 ·rw [item i v e]
  exact wpAny_truthy_bool hQ
 ·have e:(List.range its.toArray.size).all (fun i=>bs.getD i true)=bs.all id:=by
   rw [AX,←hl]
   apply qaU.mpr
   simp only [qaO,qbR,id]
   constructor
   ·intro h b hb
    obtain ⟨i,hi,rfl⟩:=HB hb
    have:=h i hi
    simpa [Fb,AQ hi] using this
   ·intro h i hi
    have:=h bs[i] (DY hi)
    simpa [Fb,AQ hi] using this
  rw [e]
  exact ⟨.bl _,H,I.kept (J0 (fun b o e=>AG _ e) (Ax _) hk),rfl,q⟩
def Ge:D→Option Bool
 |.bl b=>some b
 |_=>none
def Du:D→HD→Out D:=fun x h=>match x with
 |.loc l=>match h[l]? with
  |some (.lst ds)=>match AC (ds.map Ge) with
   |some bs=>.ok (.bl (bs.all id)) h
   |none=>.stuck
  |_=>.stuck
 |_=>.stuck
theorem L4 {m:List Addr} {H:Hp}:∀{ds:List D} {vs:List V} {bs:List Bool},DVs X.K m H ds vs→AC (ds.map Ge)=some bs→vs=bs.map V.bl
 |[],vs,ns,r,e=>by
  simp only [DVs] at r
  simp [AC] at e
  subst r e
  rfl
 |d::ds,vs,ns,r,e=>by
  simp only [DVs] at r
  obtain ⟨v,w,rfl,rv,rw'⟩:=r
  rw [BE] at e
  cases d with
  |bl i=>
   simp only [Ge,AC,qaT] at e
   obtain ⟨ns',e1,rfl⟩:=e
   simp only [DV] at rv
   subst rv
   rw [L4 rw' e1]
   rfl
  |_=>simp [Ge,AC] at e
theorem X3 (hc:X.calm=true):CC X (.builtin "all") (Aw Du):=by
 refine ⟨_,X0 hc,fun m H h E ds vs Q hr r q=>EN r q fun d v ev rv q=>?_⟩
 unfold Du at q
 split at q
 ·rename_i l
  split at q
  ·rename_i xs el
   split at q
   ·rename_i bs eb
    simp only [DV] at rv
    obtain ⟨a,rfl,ha⟩:=rv
    obtain ⟨ws,hv,dv⟩:=hr.cells _ _ a el ha
    have:=L4 dv eb
    subst this
    exact ⟨a,bs,ev,SqL.of hv,A5 hr q (by simp [DV])⟩
   ·exact q.elim
  ·exact q.elim
 ·exact q.elim
def G1:D→D→HD→Out D:=fun x y h=>match x with
 |.loc l=>match h[l]? with
  |some (.lst ds)=>if ds.length<sizeLine then .ok .non (h.set l (.lst (ds++[y]))) else .stuck
  |_=>.stuck
 |_=>.stuck
def B2:D→HD→Out D:=fun x h=>match x with
 |.loc l=>match h[l]? with
  |some (.lst _)=>.ok x h
  |_=>.stuck
 |_=>.stuck
def DO (f g:ME):ME:=fun ρ h=>((f ρ h).bind B2).bind fun x h1=>(g ρ h1).bind fun y h2=>G1 x y h2
theorem X4 {o e:Expr} {f g:ME} {apos cpos:Pos} (ho:Ev X E o f) (he:Ev X E e g)
 (hbase:attributeBase o "append" X.env (eval o X.env)=eval o X.env:=by rfl)
 (hfew:((backTo cpos (starEach [e] X.env)).all (fun x=>!x.1)&&(backToKw cpos (keywordEach [] X.env)).all (fun x=>x.1.isSome)
  &&decide ([e].length+([]:List Keyword).length+(if ([]:List Keyword).isEmpty then 0 else 1)<30))=true:=by rfl)
 (hline:(apos.endLine==cpos.line)=true:=by rfl) (hs:starEach [e] X.env=(false,eval e X.env)::starEach [] X.env:=by rfl) (hplain:(backTo cpos (starEach [] X.env)).any (·.1)=false:=by rfl):
 Ev X E (.Call (.Attribute o "append" apos) [e] [] cpos) (DO f g):=
 B4 (Ot PySem.F.plainAttrs_list PySem.F.slot_list_append PySem.F.type_list_append Ww ho (HZ he HY hs) hbase hfew hline hs hplain) fun σ H Q z1_=>by
  obtain ⟨m,ρ,h,hr,er,p⟩:=z1_
  refine ⟨m,ρ,h,hr,er,?_⟩
  unfold DO at p
  rw [Out.bind_assoc] at p
  refine Post.bind p fun x h1 v m1 H1 eo p1 k1 hr1 r1 q1=>?_
  clear eo
  unfold B2 at q1
  split at q1
  ·rename_i l
   split at q1
   ·rename_i ds el
    simp only [Out.bind_ok] at q1
    have r1':=r1
    simp only [rD,DV] at r1'
    obtain ⟨a,rfl,ha⟩:=r1'
    obtain ⟨ws,hv,dv⟩:=hr1.cells l _ a el ha
    refine ⟨.inl ⟨rfl,ws,SqL.of hv⟩,m1,ρ,h1,hr1,er.keep p1 k1,?_⟩
    have q2:Post X.K (rD X.K) m1 H1 E Q ((Ab g Ac ρ h1).bind fun ys h2=>match ys with
     |[y]=>G1 (.loc l) y h2
     |_=>.stuck):=by
     unfold Ab Ac
     rw [Out.bind_assoc]
     exact q1
    refine Post.bind q2 fun ys h2 vs m2 H2 eo p2 k2 hr2 r2 q3=>?_
    clear eo
    split at q3
    ·rename_i y
     simp only [DK,DVs] at r2
     obtain ⟨yv,w,rfl,ry,rfl⟩:=r2
     unfold G1 at q3
     simp only at q3
     split at q3
     ·rename_i ds2 el2
      split at q3
      ·rename_i hz
       have ha2:=GQ p2 ha
       obtain ⟨ws2,hv2,dv2⟩:=hr2.cells l _ a el2 ha2
       refine ⟨a,ws2,yv,rfl,rfl,hv2,by rw [←dv2.len];exact hz,?_⟩
       refine q3 .non m2 _ (AB _) (.set hv2 rfl) (hr2.setCell ha2 hv2 rfl ⟨_,BL,?_⟩) (by simp [rD,DV])
       exact (dv2.app (.cons ry .nil)).keep (AB _) (.set hv2 rfl)
      ·exact q3.elim
     ·exact q3.elim
    ·exact q3.elim
   ·exact q1.elim
  ·exact q1.elim
def G2:D→D→D→HD→Out (Fl×Ah)→Out (Fl×Ah):=fun o i v h k=>match o,i with
 |.loc l,.int n=>match h[l]? with
  |some (.lst ds)=>match Cz ds.length n with
   |some j=>match k with
    |.ok a _=>.ok a (h.set l (.lst (ds.set j v)))
    |_=>.stuck
   |none=>.stuck
  |_=>.stuck
 |_,_=>.stuck
def J1 (fo fi fv:ME):MS:=fun ρ h=>(fv ρ h).bind fun v h1=>(fo ρ h1).bind fun o h2=>(fi ρ h2).bind fun i h3=>G2 o i v h3 (.ok (.nx,ρ) h3)
theorem X5 {o i e:Expr} {fo fi fv:ME} {pos pos':Pos} (ho:Ev X E o fo) (hi:Ev X E i fi) (he:Ev X E e fv)
 (ha:∀v,assign (.Subscript o i pos') X.env v=(do
  let ov ←holding [v] (eval o X.env)
  let iv ←holding [v,ov] (eval i X.env)
  standAt pos'
  holding [v,ov,iv] (setItem ov iv v)
  release [v,ov,iv] []):=by intro _;rfl)
 (hs:swapsWithSole [.Subscript o i pos'] e pos.line X.env=pure false:=by rfl) (hw:swappedStores [.Subscript o i pos'] e X.env=pure none:=by rfl)
 (h1:(assignEach [.Subscript o i pos'] X.env).map (·.2)=[assign (.Subscript o i pos') X.env]:=by rfl):Ex X E (.Assign [.Subscript o i pos'] e pos) (J1 fo fi fv):=
 DL (JA he (Lm ho hi Wj ha) hs hw h1) fun Dn σ H ⟨m,ρ,h,hr,er,p⟩=>⟨m,ρ,h,hr,er,PostS.bind p fun v h1 vv m1 H1 eo1 p1 k1 hr1 r1 q1=>by
  refine ⟨m1,ρ,h1,hr1,er.keep p1 k1,PostS.bind q1 fun ov h2 vo m2 H2 eo2 p2 k2 hr2 r2 q2=>?_⟩
  refine ⟨m2,ρ,h2,hr2,(er.keep p1 k1).keep p2 k2,PostS.bind q2 fun iv h3 vi m3 H3 eo3 p3 k3 hr3 r3 q3=>?_⟩
  clear eo1 eo2 eo3
  unfold G2 at q3
  split at q3
  ·rename_i l n
   split at q3
   ·rename_i ds el
    split at q3
    ·rename_i j ej
     have ro:=DV.keep p3 k3 r2
     simp only [DV] at ro
     obtain ⟨a,rfl,ha⟩:=ro
     have ri:=r3
     simp only [rD,DV] at ri
     subst ri
     obtain ⟨ws,hv,dv⟩:=hr3.cells l _ a el ha
     refine ⟨a,ws,n,j,rfl,rfl,hv,by rw [←dv.len];exact ej,?_⟩
     have rvv:=DV.keep p3 k3 (DV.keep p2 k2 r1)
     have hr4:HR X.K m3 (h3.set l (.lst (ds.set j v))) (Ao H3 a (.lst (ws.set j vv))):=hr3.setCell ha hv rfl ⟨_,BL,(dv.set j rvv).keep (AB _) (.set hv rfl)⟩
     exact q3 m3 _ (AB _) (.set hv rfl) hr4 σ ((((er.keep p1 k1).keep p2 k2).keep p3 k3).keep (AB _) (.set hv rfl))
    ·exact q3.elim
   ·exact q3.elim
  ·exact q3.elim⟩
end
def AS (n:Nat) (g:MS):List D→HD→Out D:=fun ds h=>(g (ds.map some++List.replicate (n - ds.length) none) h).bind fun x h1=>match x with
 |(.nx,_)=>.ok .non h1
 |(.rt d,_)=>.ok d h1
 |_=>.stuck
open AutoSeq1 (wpAny_loadPart')
section
variable {prog:Program} {w:World} {A:Around} {E:Value→Shared→Prop} {s:Shared}
theorem X6 {it l:Addr} {i:Nat} {items:Array Value} {x:Value} {Q:Value→Shared→Prop} (hit:s.heap.IsTupleIter it l i)
 (hl:s.heap.IsTuple l items) (hx:items[i]?=some x)
 (hQ:∀h',h'.IsTupleIter it l (i+1)→Heap.SameBut it s.heap h'→Q x {s with heap:=h'}):
 wpAny (model prog w) A (Builtin.SmallTypes.nextOf (.ref it)) Q E s:=by
 obtain ⟨o,ho,hc,hd⟩:=id hit
 obtain ⟨ol,hol,_,nl,hdl⟩:=hl
 unfold Builtin.SmallTypes.nextOf
 refine wpAny_bind (wpAny_callSpecial?_slot (name:=Str.ofString "__next__") hit.typeIs F.slot_tuple_iterator_next
  (wpAny_call_entry F.slot_tuple_iterator_next hit.typeIs F.entry_tuple_iterator_next ?_ (F.args_tuple_iterator_next_1 _)))
 show wpAny _ _ (field (.ref it) 0 >>=_) _ _ s
 refine wpAny_bind (wpAny_field ho hd (x:=.ref l) rfl ?_)
 show wpAny _ _ (if (Value.ref l==Value.none)=true then _ else _) _ _ s
 rw [if_neg (show ¬((Value.ref l==Value.none)=true) from Bf)]
 show wpAny _ _ (field (.ref it) 1 >>=_) _ _ s
 refine wpAny_bind (wpAny_field ho hd (x:=.int i 0) rfl ?_)
 show wpAny _ _ (seqItems? (.ref l) >>=_) _ _ s
 refine wpAny_bind (wpAny_seqItems hol hdl ?_)
 simp only [HC,hx]
 refine wpAny_bind (wpAny_setField ho hd (by simp) (wpAny_pure ⟨x,rfl,wpAny_pure (hQ _ ?_ (Heap.SameBut.update ..))⟩))
 exact ⟨_,Li _ ho (Obj.isFreed_of_fields (Obj.data_mapFields hd _)),(Obj.cls_mapFields ..).trans hc,by
  rw [Obj.data_mapFields hd];simp [rawInt]⟩
theorem X7 {it l:Addr} {i:Nat} {items:Array Value} {Q:Value→Shared→Prop} (hh:A.handled=none)
 (hit:s.heap.IsTupleIter it l i) (hl:s.heap.IsTuple l items) (hx:items[i]?=none)
 (hE:∀h' e,Heap.ExtBut it s.heap h'→(∃o,h'.get? e=some o∧o.cls=.type "StopIteration")→E (.ref e) {s with heap:=h'}):
 wpAny (model prog w) A (Builtin.SmallTypes.nextOf (.ref it)) Q E s:=by
 obtain ⟨o,ho,hc,hd⟩:=id hit
 obtain ⟨ol,hol,_,nl,hdl⟩:=hl
 unfold Builtin.SmallTypes.nextOf
 refine wpAny_bind (wpAny_callSpecial?_slot (name:=Str.ofString "__next__") hit.typeIs F.slot_tuple_iterator_next
  (wpAny_call_entry F.slot_tuple_iterator_next hit.typeIs F.entry_tuple_iterator_next ?_ (F.args_tuple_iterator_next_1 _)))
 show wpAny _ _ (field (.ref it) 0 >>=_) _ _ s
 refine wpAny_bind (wpAny_field ho hd (x:=.ref l) rfl ?_)
 show wpAny _ _ (if (Value.ref l==Value.none)=true then _ else _) _ _ s
 rw [if_neg (show ¬((Value.ref l==Value.none)=true) from Bf)]
 show wpAny _ _ (field (.ref it) 1 >>=_) _ _ s
 refine wpAny_bind (wpAny_field ho hd (x:=.int i 0) rfl ?_)
 show wpAny _ _ (seqItems? (.ref l) >>=_) _ _ s
 refine wpAny_bind (wpAny_seqItems hol hdl ?_)
 simp only [HC,hx]
 refine wpAny_bind (wpAny_rule (wpAny_bind (wpAny_setField ho hd (by simp) ?_)))
 show wpAny _ _ (newExc (.type "StopIteration") [] >>=_) _ _ _
 refine wpAny_bind ?_
 simp only [newExc,newTuple]
 refine wpAny_bind (wpAny_newObj_type ?_ (by size_fits))
 refine wpAny_bind (m:=firstArgMember _ _) (wpAny_of_eq (a:=Value.none) (by first |rfl |(simp only [firstArgMember];rfl)) ?_)
 refine wpAny_newObj_type ?_ (by size_fits)
 simp only [raiseNew]
 refine wpAny_bind (wpAny_handled ?_)
 first |rw [show A.in1.handled=none from hh] |rw [hh]
 refine wpAny_bind (wpAny_pure (wpAny_throw ?_))
 exact hE _ _ (((Heap.SameBut.update ..).extBut.push _).push _) ⟨_,Bi _ rfl,rfl⟩
end
theorem L5 {prog:Program} {w:World} {A:Around} (hh:A.handled=none) (it l:Addr) (hne:l≠it) (items:Array Value):
 Draws prog w A it [it,l] items.size (fun i v=>items[i]?=some v) (fun i h=>h.IsTupleIter it l i∧h.IsTuple l items) where
 live:=fun _ _ st=>let ⟨o,ho,_⟩:=st.1;⟨o,ho⟩
 frame:=fun _ _ _ st hk=>⟨st.1.at fun o e=>hk it (by simp) o e,st.2.at fun o e=>hk l (by simp) o e⟩
 item:=fun i s Q E hi st hQ=>by
  refine X6 st.1 st.2 (x:=items[i]) (by simp [hi]) fun h' hit' hs'=>?_
  exact hQ _ h' s.toks (by simp [hi]) ⟨hit',st.2.extBut hs'.extBut hne⟩ hs'
 done:=fun s Q E st hE=>X7 hh st.1 st.2 (by simp) hE
theorem X8 (l:Addr) (items:Array Value) (n:Nat) (dct:Option Addr) (sl:Array (Option Value)):
 Meets (Builtin.«enumerate.__new__» ⟨[.type "enumerate",.ref l],[]⟩) (fun _ R s=>s.heap.get? l=some {cls:=.type "tuple",dict:=dct,data:=.seq items n,slots:=sl}∧
  R (.ok (.ret (.ref (s.heap.push {cls:=.type "tuple_iterator",data:=.fields #[.ref l,.int 0 0]}).objs.size)))
    {s with heap:=(s.heap.push {cls:=.type "tuple_iterator",data:=.fields #[.ref l,.int 0 0]}).push {cls:=.type "enumerate",data:=.fields #[.none,.bool false,.ref s.heap.objs.size,rawInt 0,.none,.none]}}):=
 .of_wp fun prog w A R s h=>by
  obtain ⟨hp,g,d,tk,os⟩:=s;obtain ⟨hl,h⟩:=h
  have hsub:=sub_enumerate
  have hL:Heap.IsTuple (Shared.heap ⟨hp,g,d,tk,os⟩) l items:=⟨_,hl,rfl,n,rfl⟩
  wp_walk using wpAny_loadPart' hl
  refine wpAny_stack_any fun st=>wpAny_pure ?_
  split
  ·rename_i c _ _ _ _ _
   cases (c==Value.type "enumerate")
   ·wp_walk using wpAny_loadPart' hl,wpAny_pyIter_tuple hL
    exact ⟨_,rfl,h⟩
   ·wp_walk using wpAny_loadPart' hl,wpAny_pyIter_tuple hL
    exact ⟨_,rfl,h⟩
  ·wp_walk using wpAny_loadPart' hl,wpAny_pyIter_tuple hL
   exact ⟨_,rfl,h⟩
section
variable {prog:Program} {w:World} {A:Around} {E:Value→Shared→Prop} {s:Shared}
theorem X9 {l:Addr} {items:Array Value} {Q:Value→Shared→Prop} (hL:s.heap.IsTuple l items)
 (h:∀h',IsEnum h' (s.heap.objs.size+1) s.heap.objs.size 0 .none→h'.IsTupleIter s.heap.objs.size l 0→h'.objs.size=s.heap.objs.size+2→
  (∀b o,s.heap.get? b=some o→h'.get? b=some o)→Q (.ref (s.heap.objs.size+1)) {s with heap:=h'}):
 wpAny (model prog w) A (call (.type "enumerate") [.ref l]) Q E s:=by
 obtain ⟨⟨c,dct,dt,sl⟩,hl,hc,n,hd⟩:=hL
 replace hc:c=.type "tuple":=hc
 replace hd:dt=.seq items n:=hd
 subst hc hd
 refine callType_new F.called_enumerate (by decide) (F.typeCall_enumerate_1 _) (F.newCall_enumerate_1 _) (fun obj=>F.args_object_init_2 obj _) F.entry_enumerate_new
  (X8 l items n dct sl) ⟨hl,?_⟩
 have hz:(s.heap.push {cls:=.type "tuple_iterator",data:=.fields #[.ref l,.int 0 0]}).objs.size=s.heap.objs.size+1:=CI ..
 show _∧_
 rw [hz]
 have he:IsEnum ((s.heap.push {cls:=.type "tuple_iterator",data:=.fields #[.ref l,.int 0 0]}).push
  {cls:=.type "enumerate",data:=.fields #[.none,.bool false,.ref s.heap.objs.size,rawInt 0,.none,.none]}) (s.heap.objs.size+1) s.heap.objs.size 0 .none:=by
  have:=Bi (s.heap.push {cls:=.type "tuple_iterator",data:=.fields #[.ref l,.int 0 0]})
   (o:={cls:=.type "enumerate",data:=.fields #[.none,.bool false,.ref s.heap.objs.size,rawInt 0,.none,.none]}) rfl
  rw [hz] at this;exact this
 refine ⟨⟨_,he,rfl⟩,h _ he ⟨_,AG _ (Bi _ rfl),rfl,rfl⟩ (by rw [CI,hz]) fun b o x=>AG _ (AG _ x)⟩
end
def Pb (K:PySem.W.Frag) (t:Addr) (xs:List V):It:=⟨fun i H=>i<xs.length∧SqT K H t xs,fun i H x H'=>∃p v,H p=none∧x=.ref p∧xs[i]?=some v∧H'=Ao H p (.tup [.int i,v]),fun i H=>i=xs.length∧SqT K H t xs⟩
theorem Yb {P:Program} {w:World} {K:PySem.W.Frag} {elts:List Expr} {kt:Nat} {tpos:Pos} (e it t:Addr) (hei:e≠it) (hte:t≠e) (hti:t≠it) (xs:List V):
 FZ P w K (.Tuple elts kt tpos) (Pb K t xs) [e,it] e (fun i h=>(∃old,IsEnum h e it i old)∧h.IsTupleIter it t i) where
 mem:=by simp
 obj:=fun i h st b hb=>by
  obtain ⟨⟨old,h1⟩,o,h2,hc,hd⟩:=st
  rcases qa5.mp hb with z |z
  ·subst z;exact ⟨_,h1,fun v z=>by cases z⟩
  ·rw [qa4] at z
   subst z
   exact ⟨o,h2,fun v z=>by rw [hd] at z;cases z⟩
 keep:=fun i h h' st k=>by
  obtain ⟨⟨old,h1⟩,h2⟩:=st
  exact ⟨⟨old,k e (by simp) _ h1⟩,h2.at fun o z=>k it (by simp) o z⟩
 item:=by
  intro X hP hw hK hc i pins s σ H E I hf st hg
  subst hP hw hK
  obtain ⟨⟨old,he⟩,hit⟩:=st
  obtain ⟨hi,hq⟩:=hg
  obtain ⟨its,rv,p,hz⟩:=I.tuple hq
  have hT:s.heap.IsTuple t its.toArray:=p
  have hl:=rv.length
  obtain ⟨e0,e1,e2,e3,e4,e5⟩:=hf e (by simp)
  obtain ⟨i0,i1,i2,i3,i4,i5⟩:=hf it (by simp)
  have hx:xs[i]?=some xs[i]:=AQ hi
  refine wpAny_pyNext_enum_itemD (L5 (A:=X.A.in1) (I.ok.hd hc) it t hti its.toArray) he ⟨hit,hT⟩ (by rw [AX];omega) hei (by simp [hei,Ne.symm hte]) fun x h1 tk hPx ho hs1 hTup hsz hk=>?_
  obtain ⟨u,hu,ru⟩:=rv.get hx
  have hux:u=x:=by
   have:its[i]?=some x:=by simpa using hPx
   rw [hu] at this
   exact Option.some.inj this
  subst hux
  refine ⟨.ref s.heap.objs.size,rfl,wpAny_letOwnedTupleGo_enum ho fun h2 he2 sb=>?_⟩
  have hfr:H s.heap.objs.size=none:=I.hok.fresh (Ax _)
  have kk:∀b o,b∉[e,it]→s.heap.get? b=some o→h2.get? b=some o:=fun b o hb z=>by
   have n1:b≠e:=fun q=>hb (by simp [q])
   have n2:b≠it:=fun q=>hb (by simp [q])
   exact (sb.2 b n1).trans (hk b o n1 n2 z)
  have na:s.heap.objs.size≠e:=Fy (AF he)
  have hnew:h2.get? s.heap.objs.size=some {cls:=.type "tuple",data:=.seq #[.int i tk,u]}:=(sb.2 _ na).trans hTup
  have ntr:∀b w,H b=some w→b∉[e,it]:=fun b w z hb=>by
   rcases qa5.mp hb with q |q
   ·rw [q,e0] at z;cases z
   ·rw [qa4.mp q,i0] at z;cases z
  have nal:∀b o,s.heap.get? b=some o→b≠s.heap.objs.size:=fun b o z=>BH (AF z)
  have it2:h2.IsTupleIter it t (i+1):=by
   obtain ⟨o,q,r⟩:=hs1.1
   exact ⟨o,(sb.2 it (Ne.symm hei)).trans q,r⟩
  refine ⟨.ref s.heap.objs.size,Ao H s.heap.objs.size (.tup [.int i,xs[i]]),?_,rfl,⟨s.heap.objs.size,xs[i],hfr,rfl,hx,rfl⟩,⟨⟨u,he2⟩,it2⟩,fun b hb=>?_⟩
  ·show Inv X pins σ _ {s with heap:=h2,gens:=s.gens,drawn:=s.drawn,toks:=tk+1}
   refine I.step (g':=s.gens) (d':=s.drawn) (t':=tk+1) (h':=h2) (ch:=[e,it]) (fun b hb=>?_) (fun b o _ _ hc z _=>kk b o hc z) (fun b o _ _ hc z _=>⟨o.slots,kk b o hc z⟩) (fun b o _ z n=>by rw [Av (nal b o z)];exact n)
    (fun b o hc z=>⟨o,kk b o hc z⟩) (fun b ys z=>by rw [Av (Bz z hfr)];exact z) (fun b o u z=>by rw [Av (Bz z hfr)];exact z) (fun b ps z=>⟨#[],by rw [Av (Bz z hfr),z];simp⟩) (fun m hm=>?_) (fun b w z=>?_) I.bare
   ·rcases qa5.mp hb with q |q
    ·subst q;exact ⟨e3,e1,e4,e5⟩
    ·rw [qa4] at q;subst q;exact ⟨i3,i1,i4,i5⟩
   ·obtain ⟨o,es,ep,q,r⟩:=hm
    exact ⟨o,es,ep,kk _ o (by simp [Ne.symm e1,Ne.symm i1]) q,r⟩
   ·by_cases hb:b=s.heap.objs.size
    ·subst hb
     rw [BL] at z
     cases z
     exact ⟨by simp only [DF,Fg];rw [sizeLine_eq];decide,[.int i tk,u],.cons ⟨tk,rfl⟩ (.cons ru .nil),⟨_,hnew,rfl,0,rfl⟩,fun o e=>by rw [hnew] at e;cases e;rfl⟩
    ·rw [Av hb] at z
     refine (I.hok b w z).stay (fun c v hc q=>kk c v ?_ q) (fun c q=>by rw [Av (Bz q hfr)];exact q) fun c ys q=>by rw [Av (Bz q hfr)];exact q
     rcases hc with rfl |hc
     ·exact ntr c _ z
     ·exact ntr c _ hc
  ·have nb:b≠s.heap.objs.size:=by
    rcases qa5.mp hb with q |q
    ·rw [q];exact na.symm
    ·rw [qa4.mp q]
     obtain ⟨o,z,_⟩:=hit
     exact nal _ _ z
   rw [Av nb]
   exact (hf b hb).1
 done:=by
  intro X hP hw hK hc i pins s σ H E I hf st hg
  subst hP hw hK
  obtain ⟨⟨old,he⟩,hit⟩:=st
  obtain ⟨hi,hq⟩:=hg
  obtain ⟨its,rv,p,hz⟩:=I.tuple hq
  have hT:s.heap.IsTuple t its.toArray:=p
  have hl:=rv.length
  obtain ⟨i0,i1,i2,i3,i4,i5⟩:=hf it (by simp)
  have hin:i=its.toArray.size:=by rw [AX];omega
  refine wpAny_pyNext_enum_endD (L5 (A:=X.A.in1) (I.ok.hd hc) it t hti its.toArray) he (hin ▸ ⟨hit,hT⟩) fun h' eb=>⟨rfl,I.turned (t':=s.toks) (fun b o hb z=>eb b o hb z) i0 i1 i3 i4 i5⟩
 self:=fun A i s Q E st h=>by
  obtain ⟨⟨old,he⟩,_⟩:=st
  exact wpAny_pyIter_enum he h
section
variable {X:Cx} {E:XK}
def DP (ds:List D):List D:=ds.mapIdx fun i d=>.tup [.int (i:Nat),d]
def Pc:List D→HD→Out (List D×A1):=fun ds h=>match ds with
 |[.tup xs]=>.ok (DP xs,[]) h
 |_=>.stuck
def Pd (fa:MA):MI:=fun ρ h=>(fa ρ h).bind Pc
end
end LS
namespace LS
open PySem PySem.Spec PyProof.Rows L2
section
variable {prog:Program} {w:World} {A:Around} {E:Value→Shared→Prop} {s:Shared}
end
section
variable {X:Cx} {E:XK} {e:Expr} {f:ME}
def L6:D→HD→Out D:=fun x h=>match x with
 |.tup [a,b]=>.ok (.tup [b,a]) h
 |_=>.stuck
def Pe (f:ME):ME:=fun ρ h=>(f ρ h).bind L6
end
structure CSc (X:Cx) (scope:Scope) (Nc:List Str) (cs:List (Option Nat)):Prop where
 kind:scope.kind=.function
 loc:(scope.names.all fun y=>y.2 != .local||scope.names.lookup y.1==some .local)=true
 free:(scope.names.all fun y=>y.2 != .free||(X.env.kindOf y.1==some .cell||X.env.kindOf y.1==some .free))=true
 nd:(scope.names.map (·.1)).Nodup
 len:cs.length=Nc.length
 out:((Nc.zip cs).all fun p=>match p.2 with
  |none=>true
  |some j=>X.N[j]?==some p.1&&scope.names.lookup p.1==some .free)=true
theorem CSc.ok {X:Cx} {scope:Scope} {Nc:List Str} {cs:List (Option Nat)} (S:CSc X scope Nc cs):GY X scope Nc cs:=by
 refine ⟨S.kind,fun y hy e=>?_,fun y hy e=>?_,S.nd,S.len,fun i x j h1 h2=>?_⟩
 ·have:=qaO.mp S.loc y hy
  rw [e] at this
  simpa using this
 ·have:=qaO.mp S.free y hy
  rw [e] at this
  simpa using this
 ·have hz:(Nc.zip cs)[i]?=some (x,some j):=by
   rw [List.getElem?_zip_eq_some]
   exact ⟨h1,h2⟩
  have:=qaO.mp S.out (x,some j) (Fd hz)
  simpa using this
structure Dn (K:PySem.W.Frag) (mg:Str→Option Value) (x:Str) (ps:List Str) (st:Stmt) (f:Addr) (fd:FuncData):Prop where
 fn:Fun K x x st f fd
 bd:Binds K fd ps []
 mg:mg x=some (.ref f)
section
variable {X:Cx} {E:XK}
theorem Yc {a:Expr} {f:ME} {pos:Pos} (ha:Ev X E a f):Ev X E (.UnaryOp .USub a pos) (fun ρ h=>(f ρ h).bind fun x h1=>match x with
 |.int i=>.ok (.int (-i)) h1
 |_=>.stuck):=
 B4 (N4 N7 ha) fun σ H Q z1_=>by obtain ⟨m,ρ,h,hr,er,p⟩:=z1_;exact (⟨m,ρ,h,hr,er,Post.bind p fun x h1 v m1 H1 eo p1 k1 hr1 r1 q1=>by
  clear eo
  split at q1
  ·simp only [rD,DV] at r1
   subst r1
   exact ⟨_,rfl,A5 hr1 q1 (by simp [DV])⟩
  ·exact q1.elim⟩)
def ES (f:ME):ME:=fun ρ h=>(f ρ h).bind fun x h1=>match x with
    |.int i=>.ok (.int (-i)) h1
    |_=>.stuck
theorem Pf {i j:Nat} {x y:Str} {px py tp:Pos} {kt:Nat} (hc:X.calm=true) (h1:PG X (.Name x px) (Cb i)) (h2:PG X (.Name y py) (Cb j)):PG X (.Tuple [.Name x px,.Name y py] kt tp) (D3 X.K 2 (Cp (Cb i) (Cp (Cb j) EJ))):=
 Jz hc (D0 h1 (D0 h2 Jy))
end
def CMl (i j:Int):Prop:=CMul i j∨(Builtin.Int.intBits i≤16777216∧Builtin.Int.intBits j≤16777216)
instance (i j:Int):Decidable (CMl i j):=by unfold CMl;infer_instance
theorem CMl.ok {i j:Int} (h:CMl i j):IntMulOk i j:=by
 rcases h with h |⟨h1,h2⟩
 ·exact h.ok
 ·unfold IntMulOk
  intro z
  simp only [BS,decide_eq_true_eq] at z
  have:=z.2
  unfold Builtin.Int.intTooBig at this
  simp only [decide_eq_true_eq] at this
  have hb:(bitsLine:Int)=134217728:=by first |rfl |decide
  omega
variable {X:Cx}
theorem op_mul':OpR X (binaryOp .Mult) (rI CMl fun i j=>.int (i*j)):=JD fun _ _ _ _ _ _ _ hc q=>mul_int q hc.ok
def DQ:D→D→HD→Out D
 |.int i,.int j,h=>if CMl i j then .ok (.int (i*j)) h else .stuck
 |.loc l,.int k,h=>match h[l]? with
  |some (.lst xs)=>if -(2^63)≤k∧k<2^63 then Cq (List.replicate k.toNat xs).flatten h else .stuck
  |_=>.stuck
 |_,_,_=>.stuck
theorem Yd:Bk X (binaryOp .Mult) DQ:=by
 refine ⟨_,op_mul'.or WD,fun m H h E x y v u Q hr rx ry q=>?_⟩
 unfold DQ at q
 split at q
 ·simp only [DV] at rx ry
  subst rx ry
  split at q
  ·rename_i hc
   exact .inl ⟨_,_,rfl,rfl,hc,A5 hr q (by simp [DV])⟩
  ·exact q.elim
 ·simp only [DV] at rx ry
  obtain ⟨a,rfl,ha⟩:=rx
  subst ry
  split at q
  ·rename_i k _ xs e
   split at q
   ·rename_i hk
    obtain ⟨vs,h1,d1⟩:=hr.cells _ _ a e ha
    obtain ⟨z,q'⟩:=H0 hr (d1.rep k.toNat) q
    refine .inr ⟨a,k,vs,rfl,rfl,h1,hk.1,hk.2,?_,q'⟩
    rw [JK] at z
    rw [Nat.mul_comm];exact z
   ·exact q.elim
  ·exact q.elim
 ·exact q.elim
end LS
namespace Att
open PySem PySem.W PySem.Calls PyProof.Rows
theorem Ye {ns:List Int} (h:WData.layable (.list (ns.map WData.int))=true):∀n∈ns,Builtin.Int.intBits n≤2^20:=by
 have hw:WData.weight (.list (ns.map WData.int))≤2^20:=(layableW_iff.mp h).2.2
 have key:∀(ns:List Int) (b:Nat),WData.weightAll (ns.map WData.int)≤b→∀n∈ns,Builtin.Int.intBits n≤b:=by
  intro ns
  induction ns with
  |nil=>intro b _ n hn;cases hn
  |cons m r ih=>
   intro b hb n hn
   have e:WData.weightAll ((m::r).map WData.int)=Builtin.Int.intBits m+1+WData.weightAll (r.map WData.int):=by
    simp only [BE,WData.weightAll,WData.weight]
    rfl
   rw [e] at hb
   rcases qa5.mp hn with z |z
   ·subst z;omega
   ·exact ih b (by omega) n z
 exact key ns _ (by simpa only [WData.weight] using hw)
theorem attach_bits {l:OpenLaw} {n:Nat} {q:Program} {loose:List Str} {XP:(Str→Option Value)→Heap→Prop} {YP:World→Heap→Prop} {d:DefRec}
 (hn:l.most=some n) (hdf:d.params.defaults=[])
 (call:∀(w:World) (s₀ s₁:Shared) (mg mb:Str→Option Value) (fa:Addr) (o:Obj) (pm cd doc:Value) (a:Addr) (vs:List Value) (ns:List Int),(∀n∈ns,Builtin.Int.intBits n≤2^20)→
  Ground q loose [] XP w s₀ mg mb s₁.heap→YP w s₁.heap→
  s₁.heap.get? fa=some o→o.data=.func (docDef d.name d.params d.body d.scope pm cd doc)→s₁.heap.CodeRec cd d.name→mg d.name=some (.ref fa)→
  s₁.heap.get? a=some {cls:=.type "list",data:=.seq vs.toArray}→IntsAre vs ns→ns.length≤n→s₁.gens=#[]→
  codeAny (model l.prog w) callerA (.call (.ref fa) ⟨[.ref a],[]⟩) (fun r s'=>r=.ok (.ret (.bool true))∧OldK s₁.heap s'.heap∧s'.os=s₁.os∧AllBare s'.gens) s₁):
 WalkO q loose XP YP l.row.toRowW d [] (fun f vs=>PySem.call f vs):=by
 intro w s₀ s₁ mg mb G Y fa o pm cd doc dV kV ho hd hcd hD hmg hg args vals as hpre hlay hrd hwl hlo
 obtain rfl:dV=.none:=Dflts.none hD hdf
 obtain rfl:kV=.none:=Dflts.noKw hD
 obtain ⟨a,vs,ns,rfl,rfl,hobj,hints,hlen⟩:=WG hn hpre hwl
 have hb:=Ye (layableW_arg hlay _ AZ)
 refine enter_call (codeAny_mono (call w s₀ s₁ mg mb fa o pm cd doc a vs ns hb G Y ho (fd_plain hd) hcd hmg hobj hints hlen hg) fun r s' hq=>?_)
 obtain ⟨rfl,h2,h3,h4⟩:=hq
 exact ⟨.inl ⟨.bool true,.bool true,[],rfl,fun _=>rfl,.bool true,WH l _,fun _=>⟨List.Pairwise.nil,fun _ hm=>(nomatch hm)⟩⟩,h2,h3,h4⟩
end Att
namespace LS
open PySem PySem.Spec PyProof.Rows L2
def Wp {α:Type} (o:Out α) (Q:α→HD→Prop):Prop:=match o with
 |.ok a h=>Q a h
 |_=>False
section
variable {α β:Type} {o:Out α} {Q Q':α→HD→Prop}
@[simp] theorem Am (a:α) (h:HD):Wp (.ok a h) Q=Q a h:=rfl
@[simp] theorem Zdp:Wp .stuck Q=False:=rfl
theorem Aj {o':Out α} (e:o=o') (h:Wp o' Q):Wp o Q:=e ▸ h
theorem Az {k:α→HD→Out β} {Q:β→HD→Prop}:Wp (o.bind k) Q=Wp o fun a h=>Wp (k a h) Q:=by cases o<;>rfl
theorem Wp.mono (h:Wp o Q) (f:∀a h,Q a h→Q' a h):Wp o Q':=by
 cases o with
 |ok a h'=>exact f _ _ h
 |_=>exact h.elim
theorem Wp.ex (h:Wp o Q):∃a h',o=.ok a h'∧Q a h':=by
 cases o with
 |ok a h'=>exact ⟨a,h',rfl,h⟩
 |_=>exact h.elim
end
def Sm (h h':HD):Prop:=∀(l:Nat) (c:Cell),h[l]?=some c→h'[l]?=some c
theorem Sm.refl (h:HD):Sm h h:=fun _ _ e=>e
theorem Sm.trans {h h1 h2:HD} (a:Sm h h1) (b:Sm h1 h2):Sm h h2:=fun l c e=>b l c (a l c e)
theorem Sm.app (h t:HD):Sm h (h++t):=fun l c e=>by
 rw [Fc (qa3.mp e).1];exact e
def Pu {α:Type} (o:Out α) (h:HD) (a:α):Prop:=Wp o fun x h'=>x=a∧Sm h h'
section
variable {α β:Type} {o:Out α} {h:HD} {a:α}
theorem Pu.wp {Q:α→HD→Prop} (p:Pu o h a) (k:∀h',Sm h h'→Q a h'):Wp o Q:=Wp.mono p fun x h' z1_=>by obtain ⟨e,s⟩:=z1_;subst e;exact k h' s
theorem Pu.ok:Pu (.ok a h) h a:=⟨rfl,.refl _⟩
theorem Pu.bind {k:α→HD→Out β} {b:β} (p:Pu o h a) (q:∀h',Sm h h'→Pu (k a h') h' b):Pu (o.bind k) h b:=by
 unfold Pu
 rw [Az]
 exact p.wp fun h' s=>Wp.mono (q h' s) fun x h2 z2_=>by obtain ⟨e,s2⟩:=z2_;exact (⟨e,s.trans s2⟩)
theorem Pu.noErr (p:Pu o h a):Pu (noErr o) h a:=by
 obtain ⟨x,h',e,q⟩:=Wp.ex p
 rw [e];exact q
end
def Pg (i j:Nat) (ρ:Ah) (ds:List D) (h:HD):Out (Fl×Ah):=match ds with
 |[x,y]=>.ok (.nx,(ρ.set i (some x)).set j (some y)) h
 |_=>.stuck
def Ph (o:Option Ah) (h:HD):Out (Fl×Ah):=match o with
 |some ρ1=>.ok (.nx,ρ1) h
 |none=>.stuck
def J2 (g:HD→Out D) (x:D) (h:HD):Out D:=match x with
 |.bl true=>g h
 |.bl false=>.ok (.bl false) h
 |_=>.stuck
def L7 (g:HD→Out D) (x:D) (h:HD):Out D:=match x with
 |.bl true=>.ok (.bl true) h
 |.bl false=>g h
 |_=>.stuck
def Pi (x:D) (h:HD):Out D:=match x with
 |.bl b=>.ok (.bl (!b)) h
 |_=>.stuck
def Pj (x:D) (h:HD):Out D:=match x with
 |.int i=>.ok (.int (-i)) h
 |_=>.stuck
@[simp] theorem Zdq {i j:Nat} {ρ:Ah} {x y:D} {h:HD} {Q:Fl×Ah→HD→Prop}:Wp (Pg i j ρ [x,y] h) Q=Q (.nx,(ρ.set i (some x)).set j (some y)) h:=rfl
@[simp] theorem Zdr {ρ:Ah} {h:HD} {Q:Fl×Ah→HD→Prop}:Wp (Ph (some ρ) h) Q=Q (.nx,ρ) h:=rfl
@[simp] theorem Zds {g:HD→Out D} {h:HD}:J2 g (.bl true) h=g h:=rfl
@[simp] theorem Zdt {g:HD→Out D} {h:HD}:J2 g (.bl false) h=.ok (.bl false) h:=rfl
@[simp] theorem Zdu {g:HD→Out D} {h:HD}:L7 g (.bl true) h=.ok (.bl true) h:=rfl
@[simp] theorem Zdv {g:HD→Out D} {h:HD}:L7 g (.bl false) h=g h:=rfl
@[simp] theorem Zdw {b:Bool} {h:HD}:Pi (.bl b) h=.ok (.bl (!b)) h:=rfl
@[simp] theorem Zdx {i:Int} {h:HD}:Pj (.int i) h=.ok (.int (-i)) h:=rfl
def L9 (g:MS) (Q:Fl×Ah→HD→Prop):Fl×Ah→HD→Prop
 |(.nx,ρ),h=>Wp (g ρ h) Q
 |y,h=>Q y h
def Gf (Q:D→HD→Prop):Fl×Ah→HD→Prop
 |(.nx,_),h=>Q .non h
 |(.rt d,_),h=>Q d h
 |_,_=>False
section
variable {ρ:Ah} {h:HD} {Q:Fl×Ah→HD→Prop} {QB:D→HD→Prop} {g g1 g2:MS} {f:ME} {t:MT}
@[simp] theorem Ag:L9 g Q (.nx,ρ) h=Wp (g ρ h) Q:=rfl
@[simp] theorem Zdy {d:D}:L9 g Q (.rt d,ρ) h=Q (.rt d,ρ) h:=rfl
@[simp] theorem Zdz:Gf QB (.nx,ρ) h=QB .non h:=rfl
@[simp] theorem ZdA {d:D}:Gf QB (.rt d,ρ) h=QB d h:=rfl
@[simp] theorem Bb:Wp (Ai g1 g2 ρ h) Q=Wp (g1 ρ h) (L9 g2 Q):=by
  unfold Ai
  rw [Az]
  congr 1
  funext x h'
  obtain ⟨fl,ρ1⟩:=x
  cases fl<;>rfl
theorem Bd {n:Nat} {ds:List D}:Wp (AS n g ds h) QB=Wp (g (ds.map some++List.replicate (n - ds.length) none) h) (Gf QB):=by
 unfold AS
 rw [Az]
 congr 1
 funext x h'
 obtain ⟨fl,ρ1⟩:=x
 cases fl<;>rfl
@[simp] theorem ZdB:Wp (AV ρ h) Q=Q (.nx,ρ) h:=rfl
@[simp] theorem ZdC:Wp (CK f ρ h) Q=Wp (f ρ h) fun _ h1=>Q (.nx,ρ) h1:=by unfold CK;rw [Az];rfl
@[simp] theorem ZdD:Wp (AD f ρ h) Q=Wp (f ρ h) fun d h1=>Q (.rt d,ρ) h1:=by unfold AD;rw [Az];rfl
@[simp] theorem EU {i:Nat}:Wp (An i f ρ h) Q=Wp (f ρ h) fun d h1=>Q (.nx,ρ.set i (some d)) h1:=by unfold An;rw [Az];rfl
@[simp] theorem Yg:Wp (AR t g1 g2 ρ h) Q=Wp (t ρ h) fun b h1=>Wp (if b=true then g1 ρ h1 else g2 ρ h1) Q:=by unfold AR;rw [Az]
@[simp] theorem ZdE {i j:Nat} {fa:MA}:Wp (Ga i j fa ρ h) Q=Wp (fa ρ h) fun ds h1=>Wp (Pg i j ρ ds h1) Q:=by unfold Ga;rw [Az];rfl
@[simp] theorem ZdF {sg:MG}:Wp (EO sg f ρ h) Q=Wp (f ρ h) fun d h1=>Wp (Ph (sg d ρ) h1) Q:=by unfold EO;rw [Az];rfl
@[simp] theorem ZdG {fo fi fv:ME}:Wp (J1 fo fi fv ρ h) Q=Wp (fv ρ h) fun v h1=>Wp (fo ρ h1) fun o h2=>Wp (fi ρ h2) fun i h3=>Wp (G2 o i v h3 (.ok (.nx,ρ) h3)) Q:=by
  unfold J1;simp only [Az]
end
section
variable {ρ:Ah} {h:HD} {Q:D→HD→Prop} {QB:Bool→HD→Prop} {QA:List D→HD→Prop} {f g k:ME} {t u:MT} {fa:MA} {op op':D→D→HD→Out D} {F:List D→HD→Out D}
@[simp] theorem J3 {d:D} {r:Ah}:Wp (Aa 0 (some d::r) h) Q=Q d h:=rfl
@[simp] theorem J4 {i:Nat} {x:Option D} {r:Ah}:Wp (Aa (i+1) (x::r) h) Q=Wp (Aa i r h) Q:=rfl
@[simp] theorem ZdH {d:D}:Wp (mC d ρ h) Q=Q d h:=rfl
@[simp] theorem Ma:Wp (Ad op f g ρ h) Q=Wp (f ρ h) fun x h1=>Wp (g ρ h1) fun y h2=>Wp (op x y h2) Q:=by unfold Ad;simp only [Az]
@[simp] theorem J5:Wp (Ae F fa ρ h) Q=Wp (fa ρ h) fun ds h1=>Wp (F ds h1) Q:=by unfold Ae;rw [Az]
@[simp] theorem FA:Wp (Ac ρ h) QA=QA [] h:=rfl
@[simp] theorem Gg:Wp (Ab f fa ρ h) QA=Wp (f ρ h) fun x h1=>Wp (fa ρ h1) fun xs h2=>QA (x::xs) h2:=by unfold Ab;simp only [Az];rfl
@[simp] theorem ZdI:Wp (Au fa ρ h) Q=Wp (fa ρ h) fun xs h1=>Wp (if xs.length≤sizeLine then .ok (.tup xs) h1 else .stuck) Q:=by unfold Au;simp only [Az]
@[simp] theorem Mb:Wp (A7 fa ρ h) Q=Wp (fa ρ h) fun xs h1=>Wp (Cq xs h1) Q:=by unfold A7;simp only [Az]
@[simp] theorem Yh:Wp (AM f ρ h) QB=Wp (f ρ h) fun x h1=>Wp (F4 x h1) QB:=by unfold AM;rw [Az]
@[simp] theorem ZdJ:Wp (Bq f ρ h) QB=Wp (f ρ h) fun x h1=>Wp (Dr x h1) QB:=by unfold Bq;rw [Az]
@[simp] theorem ZdK:Wp (BF t ρ h) QB=Wp (t ρ h) fun b h1=>QB (!b) h1:=by unfold BF;rw [Az];rfl
@[simp] theorem ZdL:Wp (F5 t u ρ h) QB=Wp (t ρ h) fun b h1=>Wp (if b=true then u ρ h1 else .ok false h1) QB:=by unfold F5;rw [Az]
@[simp] theorem ZdM:Wp (BA t u ρ h) QB=Wp (t ρ h) fun b h1=>Wp (if b=true then .ok true h1 else u ρ h1) QB:=by unfold BA;rw [Az]
@[simp] theorem ZdN:Wp (GW f g ρ h) Q=Wp (f ρ h) fun x h1=>Wp (J2 (g ρ) x h1) Q:=by unfold GW;rw [Az];rfl
@[simp] theorem ZdO:Wp (OI f g ρ h) Q=Wp (f ρ h) fun x h1=>Wp (L7 (g ρ) x h1) Q:=by unfold OI;rw [Az];rfl
@[simp] theorem ZdP:Wp (JO f ρ h) Q=Wp (f ρ h) fun x h1=>Wp (Pi x h1) Q:=by unfold JO;rw [Az];rfl
@[simp] theorem ZdQ:Wp (ES f ρ h) Q=Wp (f ρ h) fun x h1=>Wp (Pj x h1) Q:=by unfold ES;rw [Az];rfl
@[simp] theorem ZdR:Wp (OJ t f g ρ h) Q=Wp (t ρ h) fun b h1=>Wp (if b=true then f ρ h1 else g ρ h1) Q:=by unfold OJ;rw [Az]
@[simp] theorem ZdS:Wp (DM op op' f g k ρ h) Q=Wp (f ρ h) fun x h1=>Wp (g ρ h1) fun y h2=>Wp (op x y h2) fun z h3=>Wp (J2 (fun h=>(k ρ h).bind fun w h4=>op' y w h4) z h3) Q:=by unfold DM;simp only [Az];rfl
@[simp] theorem ZdT:Wp (Pe f ρ h) Q=Wp (f ρ h) fun x h1=>Wp (L6 x h1) Q:=by unfold Pe;rw [Az]
@[simp] theorem ZdU:Wp (DO f g ρ h) Q=Wp (f ρ h) fun x h1=>Wp (B2 x h1) fun x h1=>Wp (g ρ h1) fun y h2=>Wp (G1 x y h2) Q:=by unfold DO;simp only [Az]
@[simp] theorem ZdV:Wp (Bw ρ h) QB=QB true h:=rfl
theorem A0 {xs:List D} (hn:xs.length≤sizeLine) (q:∀l h',Sm h h'→h'[l]?=some (.lst xs)→l=h.length→h'=h++[.lst xs]→Q (.loc l) h'):Wp (Cq xs h) Q:=by
 unfold Cq
 rw [if_pos hn]
 exact q h.length _ (.app _ _) (by simp) rfl rfl
end
section
variable {ρ:Ah} {h:HD} {QI:(List D×A1)→HD→Prop} {f:ME} {fa:MA}
@[simp] theorem ZdW:Wp (BG f ρ h) QI=Wp (f ρ h) fun d h1=>Wp (Gb d h1) QI:=by unfold BG;rw [Az]
@[simp] theorem ZdX:Wp (CL fa ρ h) QI=Wp (fa ρ h) fun d h1=>Wp (Gc d h1) QI:=by unfold CL;rw [Az]
@[simp] theorem ZdY:Wp (JX fa ρ h) QI=Wp (fa ρ h) fun d h1=>Wp (Ij d h1) QI:=by unfold JX;rw [Az]
@[simp] theorem ZdZ:Wp (Pd fa ρ h) QI=Wp (fa ρ h) fun d h1=>Wp (Pc d h1) QI:=by unfold Pd;rw [Az]
theorem EV {n:Nat} (hn:n≤1000):Gc [.int (n:Int)] h=.ok ((List.range n).map fun k=>D.int ((k:Nat):Int),[]) h:=by
 have:(-(2^62):Int)≤(n:Int)∧(n:Int)<2^62:=by omega
 unfold Gc
 simp only
 rw [if_pos this]
 simp [Fx]
end
theorem Mc {α:Type} {src:A1} {items:List D} {sg:MG} {t:MT} {f:ME} {ρc:Ah} (φ:α→D) (g:α→Bool) (e:α→D) (ρ1:α→Ah):
 ∀(xs:List α) (h:HD),(∀h',Sm h h'→BM src items h')→(∀x∈xs,sg (φ x) ρc=some (ρ1 x))→(∀x∈xs,∀h',Sm h h'→Pu (t (ρ1 x) h') h' (g x))→(∀x∈xs,g x=true→∀h',Sm h h'→Pu (f (ρ1 x) h') h' (e x))→
  Pu (Ck src items sg t f ρc (xs.map φ) h) h ((xs.filter g).map e)
 |[],h,hs,_,_,_=>by
  simp only [GL,List.filter_nil,Ck]
  rw [if_pos (hs h (.refl _))]
  exact .ok
 |x::xs,h,hs,hg,ht,hf=>by
  simp only [BE,Ck]
  rw [if_pos (hs h (.refl _)),hg x AZ]
  simp only
  refine Pu.bind (ht x AZ h (.refl _)).noErr fun h1 s1=>?_
  have ih:∀h2,Sm h h2→Pu (Ck src items sg t f ρc (xs.map φ) h2) h2 ((xs.filter g).map e):=fun h2 s2=>Mc φ g e ρ1 xs h2 (fun h' s'=>hs h' (s2.trans s'))
   (fun y hy=>hg y (A6 _ hy)) (fun y hy h' s'=>ht y (A6 _ hy) h' (s2.trans s')) (fun y hy gy h' s'=>hf y (A6 _ hy) gy h' (s2.trans s'))
  cases hgx:g x with
  |false=>
   rw [if_neg Bf,List.filter_cons_of_neg (by simp [hgx])]
   exact ih h1 s1
  |true=>
   rw [if_pos rfl,List.filter_cons_of_pos hgx]
   refine Pu.bind (hf x AZ hgx h1 s1).noErr fun h2 s2=>?_
   exact Pu.bind (ih h2 (s1.trans s2)) fun h3 _=>.ok
theorem G3 {α:Type} {xs:List α}:xs.filter (fun _=>true)=xs:=List.filter_eq_self.mpr fun _ _=>rfl
section
variable {α:Type} {cs:List (Option Nat)} {it:MI} {sg:MG} {t:MT} {f:ME} {ρ:Ah} {h:HD} {src:A1} {xs:List α} {φ:α→D}
theorem EW {Q:D→HD→Prop} (g:α→Bool) (e:α→D) (ρ1:α→Ah) (hi:Wp (it ρ h) fun x h'=>x=(xs.map φ,src)∧Sm h h'∧∀h2,Sm h' h2→BM src (xs.map φ) h2) (hn:xs.length≤sizeLine)
 (hg:∀x∈xs,sg (φ x) (Cs cs ρ)=some (ρ1 x)) (ht:∀x∈xs,∀h',Sm h h'→Pu (t (ρ1 x) h') h' (g x)) (hf:∀x∈xs,g x=true→∀h',Sm h h'→Pu (f (ρ1 x) h') h' (e x))
 (q:∀l h',Sm h h'→h'[l]?=some (.lst ((xs.filter g).map e))→Q (.loc l) h'):Wp (AY cs it sg t f ρ h) Q:=by
 unfold AY
 rw [Az]
 refine Wp.mono hi fun x h1 z4_=>?_
 obtain ⟨ex,s1,hs⟩:=z4_
 subst ex
 rw [if_pos (by simpa using hn),Az]
 refine (Mc φ g e ρ1 xs h1 hs hg (fun x hx h' s'=>ht x hx h' (s1.trans s')) (fun x hx gx h' s'=>hf x hx gx h' (s1.trans s'))).wp fun h2 s2=>?_
 refine A0 ?_ fun l h3 s3 e3 _ _=>q l h3 ((s1.trans s2).trans s3) e3
 rw [Bc]
 exact BU (Hw _ _) hn
theorem Ee {β γ:Type} {f:β→Option γ} {g:β→γ}:∀{xs:List β},(∀x∈xs,f x=some (g x))→AC (xs.map f)=some (xs.map g)
 |[],_=>rfl
 |x::xs,hf=>by
  simp only [BE,hf x AZ,AC,Ee (fun y hy=>hf y (A6 _ hy)),Do]
theorem Yi (b:α→Bool) (ρ1:α→Ah) (hi:Wp (it ρ h) fun x h'=>x=(xs.map φ,src)∧Sm h h'∧∀h2,Sm h' h2→BM src (xs.map φ) h2) (hn:xs.length≤sizeLine)
 (hg:∀x∈xs,sg (φ x) (Cs cs ρ)=some (ρ1 x)) (hf:∀x∈xs,∀h',Sm h h'→Pu (f (ρ1 x) h') h' (.bl (b x))):
 Pu (Ae (Aw Du) (Ab (AY cs it sg Bw f) Ac) ρ h) h (.bl (xs.all b)):=by
 unfold Pu
 rw [J5,Gg]
 refine EW (fun _=>true) (fun x=>.bl (b x)) ρ1 hi hn hg (fun x hx h' s'=>(.ok:Pu (.ok true h') h' true)) (fun x hx _ h' s'=>hf x hx h' s') fun l h' s' e'=>?_
 rw [FA]
 rw [G3] at e'
 simp only [Aw,Du,e',Cy]
 rw [Ee (f:=Ge∘fun x=>D.bl (b x)) (g:=b) (fun x _=>rfl)]
 refine ⟨?_,s'⟩
 simp [List.all_map]
end
def Bh (I:Ah→HD→Prop) (Q:Fl×Ah→HD→Prop):Fl×Ah→HD→Prop
 |(.nx,ρ),h=>I ρ h
 |(.ct,ρ),h=>I ρ h
 |(.bk,ρ),h=>Q (.nx,ρ) h
 |(.rt d,ρ),h=>Q (.rt d,ρ) h
theorem Md {α:Type} {src:A1} {items:List D} {sg:MG} {body:MS} {Q:Fl×Ah→HD→Prop} (φ:α→D) (I:List α→Ah→HD→Prop) (ho:∀xs ρ h,I xs ρ h→BM src items h)
 (step:∀x xs ρ h,I (x::xs) ρ h→∃ρ1,sg (φ x) ρ=some ρ1∧Wp (body ρ1 h) (Bh (I xs) Q)) (done:∀ρ h,I [] ρ h→Q (.nx,ρ) h):∀(xs:List α) (ρ:Ah) (h:HD),I xs ρ h→Wp (Ed src items sg body (xs.map φ) ρ h) Q
 |[],ρ,h,i=>by
  simp only [GL,Ed]
  rw [if_pos (ho _ _ _ i)]
  exact done ρ h i
 |x::xs,ρ,h,i=>by
  simp only [BE,Ed]
  rw [if_pos (ho _ _ _ i)]
  obtain ⟨ρ1,e,w⟩:=step x xs ρ h i
  rw [e]
  simp only
  rw [Az]
  refine Wp.mono w fun y h' k=>?_
  obtain ⟨fl,ρ2⟩:=y
  cases fl with
  |nx=>exact Md φ I ho step done xs ρ2 h' k
  |ct=>exact Md φ I ho step done xs ρ2 h' k
  |bk=>exact k
  |rt d=>exact k
theorem Ct {α:Type} {src:A1} {it:MI} {sg:MG} {body:MS} {Q:Fl×Ah→HD→Prop} {ρ:Ah} {h:HD} {xs:List α} (φ:α→D) (I:List α→Ah→HD→Prop) (hi:Wp (it ρ h) fun x h'=>x=(xs.map φ,src)∧I xs ρ h') (ho:∀ys ρ h,I ys ρ h→BM src (xs.map φ) h)
 (step:∀x xs ρ h,I (x::xs) ρ h→∃ρ1,sg (φ x) ρ=some ρ1∧Wp (body ρ1 h) (Bh (I xs) Q)) (done:∀ρ h,I [] ρ h→Q (.nx,ρ) h):Wp (BV it sg body ρ h) Q:=by
 unfold BV
 rw [Az]
 refine Wp.mono hi fun x h1 z5_=>?_
 obtain ⟨e,i⟩:=z5_
 subst e
 exact Md φ I ho step done xs ρ h1 i
theorem Yj {α β:Type} {f:α→Option β} {ys:List β}:∀{xs:List α},AC (xs.map f)=some ys→∀{g:α→Option β},(∀x∈xs,∀y,f x=some y→g x=some y)→AC (xs.map g)=some ys:=by
 intro xs
 induction xs generalizing ys with
 |nil=>intro e g _;exact e
 |cons x xs ih=>
  intro e g hg
  simp only [BE] at e ⊢
  cases hx:f x with
  |none=>rw [hx] at e;simp [AC] at e
  |some y=>
   rw [hx] at e
   rw [hg x AZ y hx]
   simp only [AC] at e ⊢
   cases hr:AC (xs.map f) with
   |none=>rw [hr] at e;cases e
   |some zs=>rw [hr] at e;rw [ih hr (fun z hz=>hg z (A6 _ hz))];exact e
theorem J6 {h:HD}:∀{n:Nat} {d:D} {p:PyData},AN [] n d=some p→AN h n d=some p
 |n,.non,p,e=>by simpa [AN] using e
 |n,.bl _,p,e=>by simpa [AN] using e
 |n,.int _,p,e=>by simpa [AN] using e
 |n,.str _,p,e=>by simpa [AN] using e
 |n+1,.tup ds,p,e=>by
  simp only [AN] at e ⊢
  cases hr:AC (ds.map (AN [] n)) with
  |none=>rw [hr] at e;cases e
  |some zs=>rw [hr] at e;rw [Yj hr (fun x _ y hy=>J6 hy)];exact e
 |0,.tup ds,p,e=>by simp [AN] at e
 |n+1,.loc l,p,e=>by simp [AN] at e
 |0,.loc l,p,e=>by simp [AN] at e
 |n,.scr _,p,e=>by cases n<;>simp [AN] at e
 |n,.adr _,p,e=>by cases n<;>simp [AN] at e
 |n,.ty _,p,e=>by cases n<;>simp [AN] at e
 |n,.exc _ _,p,e=>by cases n<;>simp [AN] at e
 |n,.edic,p,e=>by cases n<;>simp [AN] at e
 |n,.glo _,p,e=>by cases n<;>simp [AN] at e
 |n,.clo _ _ _,p,e=>by cases n<;>simp [AN] at e
def Py (d:D) (p:PyData):Prop:=AN [] 8 d=some p∧SeqAt.shaped p=true
theorem Yk {x y:D} {p q:PyData} {h:HD} (hx:Py x p) (hy:Py y q):Dh x y h=.ok (.bl (!PyData.eqv p q)) h:=by
 simp only [Dh,EL,J6 hx.1,J6 hy.1]
 rw [if_pos ⟨hx.2,hy.2⟩]
theorem Yl {x:D} {p:PyData} {h:HD} (hx:Py x p):Dh x x h=.ok (.bl false) h:=by
 rw [Yk hx hx,SeqAt.eqv_refl p (SeqAt.canLay_of_shaped hx.2)];rfl
@[simp] theorem sz0:(0≤sizeLine)=True:=eq_true (Bu _)
@[simp] theorem sz1:(1≤sizeLine)=True:=eq_true (by unfold sizeLine;omega)
@[simp] theorem sz2:(2≤sizeLine)=True:=eq_true (by unfold sizeLine;omega)
@[simp] theorem J7:(3≤sizeLine)=True:=eq_true (by unfold sizeLine;omega)
@[simp] theorem sz4:(4≤sizeLine)=True:=eq_true (by unfold sizeLine;omega)
@[simp] theorem sz5:(5≤sizeLine)=True:=eq_true (by unfold sizeLine;omega)
section
variable {h:HD} {a b c:D} {ds es:List D} {i j:Int} {F1:D→HD→Out D} {F2:D→D→HD→Out D} {F3:D→D→D→HD→Out D}
@[simp] theorem Ym:Aw F1 [a] h=F1 a h:=rfl
@[simp] theorem Zd0:A3 F2 [a,b] h=F2 a b h:=rfl
@[simp] theorem Zd1:WZ F3 [a,b,c] h=F3 a b c h:=rfl
@[simp] theorem Yn {b:Bool}:F4 (.bl b) h=.ok b h:=rfl
@[simp] theorem Zd2 {b:Bool}:Dr (.bl b) h=.ok b h:=rfl
@[simp] theorem Zd3:Dr .non h=.ok false h:=rfl
@[simp] theorem Zd4:Dr (.int i) h=.ok (i != 0) h:=rfl
@[simp] theorem Zd5:Dr (.tup ds) h=.ok (!ds.isEmpty) h:=rfl
@[simp] theorem Zd6:BC (.int i) (.ty "int") h=.ok (.bl true) h:=rfl
@[simp] theorem Zd7:BC (.int i) (.ty "bool") h=.ok (.bl false) h:=rfl
@[simp] theorem Zd8:BC (.int i) (.ty "tuple") h=.ok (.bl false) h:=rfl
@[simp] theorem Zd9:BC (.tup ds) (.ty "tuple") h=.ok (.bl true) h:=rfl
@[simp] theorem Zea:BC (.tup ds) (.ty "int") h=.ok (.bl false) h:=rfl
@[simp] theorem Zeb:Al (.int i) (.int j) h=.ok (.int (i+j)) h:=rfl
@[simp] theorem Zec {f:Int→Int→D}:Fs f (.int i) (.int j) h=.ok (f i j) h:=rfl
@[simp] theorem Zed {b c:Bool}:W6 (.bl b) (.bl c) h=.ok (.bl (b==c)) h:=rfl
@[simp] theorem Zee {b c:Bool}:Eb (.bl b) (.bl c) h=.ok (.bl (!(b==c))) h:=rfl
@[simp] theorem Zef:B5 (.tup ds) h=.ok (.int ds.length) h:=rfl
@[simp] theorem Zeg {ns:List Int}:B5 (.scr ns) h=.ok (.int ns.length) h:=by simp [B5,Bg]
@[simp] theorem Zeh:Gb (.tup ds) h=.ok (ds,[]) h:=rfl
@[simp] theorem Zei:Ds (.tup ds) h=.ok (.tup ds) h:=rfl
@[simp] theorem Zej:L6 (.tup [a,b]) h=.ok (.tup [b,a]) h:=rfl
@[simp] theorem Yo:Ft (.int i) (.int j) h=.ok (.int (if j>i then j else i)) h:=rfl
@[simp] theorem Yp:Fu (.int i) (.int j) h=.ok (.int (if j<i then j else i)) h:=rfl
@[simp] theorem Zek {b:Bool}:Fv (.bl b) h=.ok (.int (if b then 1 else 0)) h:=rfl
@[simp] theorem Zel:Fv (.int i) h=.ok (.int i) h:=rfl
@[simp] theorem Zem {ρ:Ah} {k:Nat}:A9 k a ρ=some (ρ.set k (some a)):=rfl
@[simp] theorem Zen {ρ:Ah} {k l:Nat}:Di k l (.tup [a,b]) ρ=some ((ρ.set k (some a)).set l (some b)):=rfl
@[simp] theorem Zeo {b c:Bool}:F9 (.bl b) (.bl c) h=.ok (.bl (b==c)) h:=rfl
@[simp] theorem Zep {b c:Bool}:Dh (.bl b) (.bl c) h=.ok (.bl (!(b==c))) h:=rfl
@[simp] theorem Zeq:F9 (.int i) (.int j) h=.ok (.bl (i==j)) h:=rfl
@[simp] theorem Zer:Dh (.int i) (.int j) h=.ok (.bl (!(i==j))) h:=rfl
theorem Me {l:Nat} (e:h[l]?=some (.lst ds)):Ds (.loc l) h=.ok (.tup ds) h:=by simp only [Ds,e]
theorem Ef {l:Nat} (e:h[l]?=some (.lst ds)):B2 (.loc l) h=.ok (.loc l) h:=by simp only [B2,e]
theorem G4 {l:Nat} (e:h[l]?=some (.lst ds)) (hn:ds.length<sizeLine):G1 (.loc l) a h=.ok .non (h.set l (.lst (ds++[a]))):=by simp only [G1,e];rw [if_pos hn]
theorem ix_tup {k:Nat} (e:ds[k]?=some a):As (.tup ds) (.int (k:Nat)) h=.ok a h:=by
 have hk:k<ds.length:=(qa3.mp e).1
 have e1:BZ ds ((k:Nat):Int)=some a:=by
  unfold BZ Cz
  rw [if_pos (by omega),if_pos (by omega)]
  simpa using e
 simp only [As,Bg,e1]
theorem Yq {n k:Nat} {e:Nat→D} (hk:k<n):As (.tup ((List.range n).map e)) (.int (k:Nat)) h=.ok (e k) h:=ix_tup (by simp [Jl,hk])
@[simp] theorem Zes:As (.tup [a,b]) (.int 0) h=.ok a h:=rfl
@[simp] theorem Zet:As (.tup [a,b]) (.int 1) h=.ok b h:=rfl
theorem Yr {ns:List Int} {k:Nat} (e:ns[k]?=some i):As (.scr ns) (.int (k:Nat)) h=.ok (.int i) h:=by
 have hk:k<ns.length:=(qa3.mp e).1
 have e1:BZ (ns.map D.int) ((k:Nat):Int)=some (.int i):=by
  unfold BZ Cz
  rw [if_pos (by omega),if_pos (by simpa using hk)]
  simp [e]
 simp only [As,Bg,e1]
theorem EX {l k:Nat} (el:h[l]?=some (.lst ds)) (e:ds[k]?=some a):As (.loc l) (.int (k:Nat)) h=.ok a h:=by
 have hk:k<ds.length:=(qa3.mp e).1
 have e1:BZ ds ((k:Nat):Int)=some a:=by
  unfold BZ Cz
  rw [if_pos (by omega),if_pos (by omega)]
  simpa using e
 simp only [As,Bg,el,e1]
theorem Ys {l k:Nat} {ρ:Ah} (el:h[l]?=some (.lst ds)) (hk:k<ds.length):G2 (.loc l) (.int (k:Nat)) a h (.ok (.nx,ρ) h)=.ok (.nx,ρ) (h.set l (.lst (ds.set k a))):=by
 have:Cz ds.length ((k:Nat):Int)=some k:=by
  unfold Cz
  rw [if_pos (by omega),if_pos (by omega)]
  simp
 simp only [G2,el,this]
theorem J8 {neg:Bool} {k:Nat} {ks:List Nat}:CJ neg (.int (k:Nat)) (.tup (ks.map fun i=>.int ((i:Nat):Int))) h=.ok (.bl (if neg then !ks.contains k else ks.contains k)) h:=by
 have e:AC ((ks.map fun i=>D.int ((i:Nat):Int)).map B1)=some (ks.map fun i=>V.int ((i:Nat):Int)):=by
  rw [Cy]
  exact Ee (f:=B1∘fun i=>D.int ((i:Nat):Int)) (fun x _=>rfl)
 have e2:GP (V.int ((k:Nat):Int)) (ks.map fun i=>V.int ((i:Nat):Int))=ks.contains k:=by
  unfold GP
  rw [List.any_map,List.contains_eq_any_beq]
  congr 1
  funext i
  change (((i:Nat):Int)==((k:Nat):Int))=_
  rw [qaU]
  simp
  omega
 simp only [CJ,Bg,e,B1,e2]
end
noncomputable def Yt (cs:List (Option Nat)) (it:MI) (sg:MG) (t:MT) (f:ME):ME:=Ae (Aw Ds) (Ab (AY cs it sg t f) Ac)
noncomputable def Pk (cs:List (Option Nat)) (it:MI) (sg:MG) (t:MT) (f:ME):ME:=Ae (Aw Du) (Ab (AY cs it sg t f) Ac)
section
variable {α:Type} {cs:List (Option Nat)} {it:MI} {sg:MG} {t:MT} {f:ME} {ρ:Ah} {h:HD} {src:A1} {xs:List α} {φ:α→D}
@[simp] theorem Zeu:Ae (Aw Ds) (Ab (AY cs it sg t f) Ac) ρ h=Yt cs it sg t f ρ h:=rfl
@[simp] theorem Zev:Ae (Aw Du) (Ab (AY cs it sg t f) Ac) ρ h=Pk cs it sg t f ρ h:=rfl
def FB (o:Out (List D×A1)) (h:HD) (ds:List D) (src:A1):Prop:=Wp o fun x h'=>x=(ds,src)∧Sm h h'∧∀h2,Sm h' h2→BM src ds h2
theorem Il (b:α→Bool) (ρ1:α→Ah) (hi:FB (it ρ h) h (xs.map φ) src) (hg:∀x∈xs,sg (φ x) (Cs cs ρ)=some (ρ1 x)) (hf:∀x∈xs,∀h',Sm h h'→Pu (f (ρ1 x) h') h' (.bl (b x))) (hn:xs.length≤sizeLine):
 Pu (Pk cs it sg Bw f ρ h) h (.bl (xs.all b)):=Yi b ρ1 hi hn hg hf
theorem Mf {ds:List D} {o:Out (List D×A1)} (e:o=.ok (ds,[]) h):FB o h ds []:=by
 rw [e];simp [FB,Sm.refl,BM]
end
section
variable {h:HD} {i j:Int}
theorem J9 (h1:-18446744073709551616<j) (h2:j<18446744073709551616):DQ (.int i) (.int j) h=.ok (.int (i*j)) h:=by
 have:CMl i j:=.inl (.inr ⟨by omega,by omega⟩)
 simp only [DQ];rw [if_pos this]
theorem Mg (h1:-18446744073709551616<i) (h2:i<18446744073709551616):DQ (.int i) (.int j) h=.ok (.int (i*j)) h:=by
 have:CMl i j:=.inl (.inl ⟨by omega,by omega⟩)
 simp only [DQ];rw [if_pos this]
theorem Yu (h1:Builtin.Int.intBits i≤16777216) (h2:Builtin.Int.intBits j≤16777216):DQ (.int i) (.int j) h=.ok (.int (i*j)) h:=by
 have:CMl i j:=.inr ⟨h1,h2⟩
 simp only [DQ];rw [if_pos this]
theorem EY (h1:0<j):Cr (.int i) (.int j) h=.ok (.int (i % j)) h:=by
 simp only [Cr,intD];rw [if_pos h1]
theorem Yv (h1:0<j) (h2:j<18446744073709551616):JT (.int i) (.int j) h=.ok (.int (i / j)) h:=by
 have:CDv i j:=⟨h1,h2⟩
 simp only [JT,intD];rw [if_pos this]
theorem Yw (h1:0<j) (h2:j<18446744073709551616):Ih (.int i) (.int j) h=.ok (.tup [.int (i / j),.int (i % j)]) h:=by
 have:CDv i j:=⟨h1,h2⟩
 simp only [Ih];rw [if_pos this]
end
theorem Pl {α:Type} {o:Out α} {Q:α→HD→Prop}:Wp (noErr o) Q=Wp o Q:=by cases o<;>rfl
theorem Pm {src:A1} {items:List D} {sg:MG} {t:MT} {f:ME} {ρc:Ah} (φ:Nat→D) (I:HD→Prop) (T:Nat→Bool→Prop) (R:Nat→D→Prop) (ρ1:Nat→Ah) (hs:∀h,I h→BM src items h):
 ∀(xs:List Nat) (h:HD),xs.Nodup→I h→(∀x∈xs,sg (φ x) ρc=some (ρ1 x))→(∀x∈xs,∀h,I h→Wp (t (ρ1 x) h) fun b h1=>T x b∧if b=true then Wp (f (ρ1 x) h1) (fun y h2=>I h2∧R x y) else I h1)→
  Wp (Ck src items sg t f ρc (xs.map φ) h) fun ys h'=>I h'∧∃(g:Nat→Bool) (e:Nat→D),ys=(xs.filter g).map e∧(∀x∈xs,g x=true→R x (e x))∧∀x∈xs,T x (g x)
 |[],h,_,i,_,_=>by
  simp only [GL,Ck]
  rw [if_pos (hs h i)]
  exact ⟨i,fun _=>true,fun _=>.non,rfl,by simp,by simp⟩
 |x::xs,h,hd,i,hg,ht=>by
  simp only [BE,Ck]
  rw [if_pos (hs h i),hg x AZ]
  simp only
  rw [Az,Pl]
  rw [qbN] at hd
  refine Wp.mono (ht x AZ h i) fun b h1 z1_=>?_
  obtain ⟨tb,w⟩:=z1_
  have ih:∀h2,I h2→_:=fun h2 i2=>Pm φ I T R ρ1 hs xs h2 hd.2 i2 (fun y hy=>hg y (A6 _ hy)) (fun y hy=>ht y (A6 _ hy))
  cases b with
  |false=>
   rw [if_neg Bf] at w ⊢
   refine Wp.mono (ih h1 w) ?_
   rintro ys h' ⟨i',g,e,ey,hr,tr⟩
   refine ⟨i',fun y=>if y=x then false else g y,e,?_,?_,?_⟩
   ·rw [List.filter_cons_of_neg (by simp),ey]
    congr 1
    refine List.filter_congr fun y hy=>?_
    rw [if_neg]
    intro z;subst z;exact hd.1 hy
   ·intro y hy gy
    rcases qa5.mp hy with z |z
    ·subst z;simp at gy
    ·refine hr y z ?_
     by_cases hz:y=x
     ·subst hz;exact absurd z hd.1
     ·simpa [hz] using gy
   ·intro y hy
    by_cases hz:y=x
    ·subst hz;simpa using tb
    ·simp only [if_neg hz]
     exact tr y (by rcases qa5.mp hy with z |z;exact absurd z hz;exact z)
  |true=>
   rw [if_pos rfl] at w ⊢
   rw [Az,Pl]
   refine Wp.mono w fun y h2 z3_=>?_
   obtain ⟨i2,ry⟩:=z3_
   rw [Az]
   refine Wp.mono (ih h2 i2) ?_
   rintro ys h' ⟨i',g,e,ey,hr,tr⟩
   refine ⟨i',fun z=>if z=x then true else g z,fun z=>if z=x then y else e z,?_,?_,?_⟩
   ·rw [List.filter_cons_of_pos (by simp),BE,if_pos rfl,ey]
    congr 1
    rw [show xs.filter (fun z=>if z=x then true else g z)=xs.filter g from List.filter_congr fun z hz=>by
     rw [if_neg]
     intro q;subst q;exact hd.1 hz]
    refine ED fun z hz=>?_
    rw [if_neg]
    intro q;subst q;exact hd.1 (qc8.mp hz).1
   ·intro z hz gz
    by_cases q:z=x
    ·subst q;simpa using ry
    ·rcases qa5.mp hz with w |w
     ·exact absurd w q
     ·simp only [if_neg q] at gz ⊢
      exact hr z w gz
   ·intro z hz
    by_cases q:z=x
    ·subst q;simpa using tb
    ·simp only [if_neg q]
     exact tr z (by rcases qa5.mp hz with w |w;exact absurd w q;exact w)
theorem Ka {α:Type} {g:α→PyData}:∀{xs:List α},(∀x∈xs,(g x).canLay0=true)→PyData.canLayAll0 (xs.map g)=true
 |[],_=>rfl
 |x::xs,hx=>by
  rw [BE,PyData.canLayAll0,hx x AZ,Ka fun y hy=>hx y (A6 _ hy)];rfl
theorem Kb {α:Type} {g:α→PyData} {n:Nat}:∀{xs:List α},(∀x∈xs,(g x).depth≤n)→PyData.depthAll (xs.map g)≤n
 |[],_=>Bu _
 |x::xs,hx=>by
  rw [BE,PyData.depthAll]
  exact Nat.max_le.mpr ⟨hx x AZ,Kb fun y hy=>hx y (A6 _ hy)⟩
structure PyN (n:Nat) (d:D) (p:PyData):Prop where
 rd:∀k,n≤k→AN [] k d=some p
 ly:p.canLay0=true
 dp:p.depth≤n
theorem PyN.py {n:Nat} {d:D} {p:PyData} (h:PyN n d p) (hn:n≤8):Py d p:=⟨h.rd 8 hn,by
 unfold SeqAt.shaped
 rw [h.ly]
 have:=h.dp
 simp
 omega⟩
theorem Pn {i:Int}:PyN 0 (.int i) (.int i):=⟨fun k _=>by cases k<;>rfl,rfl,Ax _⟩
theorem Po {α:Type} {n:Nat} {xs:List α} {e:α→D} {g:α→PyData} (hx:∀x∈xs,PyN n (e x) (g x)):PyN (n+1) (.tup (xs.map e)) (.tuple (xs.map g)):=by
 refine ⟨fun k hk=>?_,?_,?_⟩
 ·obtain ⟨k,rfl⟩:∃m,k=m+1:=⟨k - 1,by omega⟩
  simp only [AN,Cy]
  rw [Ee (f:=AN [] k∘e) (g:=g) (fun x h=>(hx x h).rd k (by omega))]
  rfl
 ·rw [PyData.canLay0];exact Ka fun x h=>(hx x h).ly
 ·rw [PyData.depth]
  exact Jn (Kb fun x h=>(hx x h).dp)
def KD {α:Type}:Sem α→Prop
 |.pure _=>True
 |.raise _=>True
 |.unsupported _=>True
 |.finish _=>True
 |.rule _ k=>KD (k ())
 |.at _ k=>KD (k ())
 |.load _ _ k=>∀o,KD (k o)
 |.update _ _ f k=>(∀o,(f o).dict=o.dict∧(o.isFreed=false→(f o).isFreed=false))∧KD (k ())
 |.loadIfAlive _ k=>∀o,KD (k o)
 |.point _ k=>KD (k ())
 |.register _ _=>True
 |.alloc _ k=>∀a,KD (k a)
 |.fresh k=>∀a,KD (k a)
 |.ask k=>∀a,KD (k a)
 |.choose _ _ k=>∀a,KD (k a)
 |.os _ _ k=>∀a,KD (k a)
 |.call ..=>False
 |.handled _ k=>∀a,KD (k a)
 |.genState _ k=>∀a,KD (k a)
 |.newGen _ k=>∀a,KD (k a)
 |.resume ..=>False
 |.yield ..=>True
 |.stack k=>∀a,KD (k a)
 |.fork ..=>True
 |.thread k=>∀a,KD (k a)
 |.await ..=>True
def Dicts (h h':Heap):Prop:=∀b o,h.get? b=some o→∃o',h'.get? b=some o'∧o'.dict=o.dict
theorem Dicts.refl (h:Heap):Dicts h h:=fun _ o e=>⟨o,e,rfl⟩
theorem Dicts.trans {h h1 h2:Heap} (a:Dicts h h1) (b:Dicts h1 h2):Dicts h h2:=fun c o e=>by
 obtain ⟨o1,e1,d1⟩:=a c o e
 obtain ⟨o2,e2,d2⟩:=b c o1 e1
 exact ⟨o2,e2,d2.trans d1⟩
theorem Yx {α:Type} {M:Model} {Γ:PySem.Ctx} {Q:α→Pos→Shared→Prop} {E:Value→Pos→Shared→Prop}:∀(t:Sem α) (p:Pos) (s:Shared),KD t→Sem.wp M Γ t Q E p s→Sem.wp M Γ t (fun a p s'=>Q a p s'∧Dicts s.heap s'.heap) (fun a p s'=>E a p s'∧Dicts s.heap s'.heap) p s:=by
 have lift:∀(t:Sem α) (p:Pos) (h0:Heap) (s:Shared),Dicts h0 s.heap→Sem.wp M Γ t (fun a p s'=>Q a p s'∧Dicts s.heap s'.heap) (fun a p s'=>E a p s'∧Dicts s.heap s'.heap) p s→Sem.wp M Γ t (fun a p s'=>Q a p s'∧Dicts h0 s'.heap) (fun a p s'=>E a p s'∧Dicts h0 s'.heap) p s:=
  fun t p h0 s d w=>Sem.wp_mono M Γ t (fun a p s' z=>⟨z.1,d.trans z.2⟩) (fun a p s' z=>⟨z.1,d.trans z.2⟩) p s w
 intro t
 induction t with
 |pure a=>exact fun p s _ w=>⟨w,.refl _⟩
 |raise e=>exact fun p s _ w=>⟨w,.refl _⟩
 |unsupported w=>exact fun p s _ w=>w.elim
 |finish w=>exact fun p s _ w=>w.elim
 |rule t k ih=>exact fun p s kd w=>ih () p s kd w
 |«at» t k ih=>exact fun p s kd w=>ih () t s kd w
 |load a x k ih=>exact fun p s kd ⟨o,e,w⟩=>⟨o,e,ih o p s (kd o) w⟩
 |update a x f k ih=>
  refine fun p s kd ⟨e,w⟩=>⟨e,lift _ p s.heap {s with heap:=s.heap.update a f} (fun b o eb=>?_) (ih () p _ kd.2 w)⟩
  by_cases hb:b=a
  ·subst hb
   obtain ⟨d1,d2⟩:=kd.1 o
   exact ⟨f o,Li f eb (d2 (Heap.get?_some_iff.mp eb).2),d1⟩
  ·exact ⟨o,(Lh s.heap f (Ne.symm hb)).trans eb,rfl⟩
 |alloc o k ih=>exact fun p s kd w=>lift _ p s.heap {s with heap:=s.heap.push o} (fun b ob eb=>⟨ob,AG _ eb,rfl⟩) (ih _ p {s with heap:=s.heap.push o} (kd _) w)
 |loadIfAlive a k ih=>exact fun p s kd w=>ih _ p s (kd _) w
 |point l k ih=>exact fun p s kd w=>ih () p s kd w
 |register a k ih=>exact fun p s kd w=>w.elim
 |fresh k ih=>exact fun p s kd w=>ih _ p {s with toks:=s.toks+1} (kd _) w
 |ask k ih=>exact fun p s kd w=>ih _ p s (kd _) w
 |choose src n k ih=>exact fun p s kd ⟨z,w⟩=>⟨z,ih _ p {s with drawn:=s.drawn.bump src} (kd _) w⟩
 |os q l k ih=>exact fun p s kd w=>ih _ p {s with os:=(Os.step s.os q).1} (kd _) w
 |call c h g l k ih=>exact fun p s kd w=>kd.elim
 |handled o k ih=>exact fun p s kd w=>ih _ p s (kd _) w
 |newGen c k ih=>exact fun p s kd w=>ih _ p {s with gens:=s.gens.push (.fresh c)} (kd _) w
 |genState g k ih=>exact fun p s kd ⟨st,e,w⟩=>⟨st,e,ih _ p s (kd _) w⟩
 |resume g r l k ih=>exact fun p s kd w=>kd.elim
 |yield v g l k ih=>exact fun p s kd w=>w.elim
 |stack k ih=>exact fun p s kd w=>ih _ p s (kd _) w
 |fork c k ih=>exact fun p s kd w=>w.elim
 |thread k ih=>exact fun p s kd w=>ih _ p s (kd _) w
 |await a t b l k ih=>exact fun p s kd w=>w.elim
theorem Im {α:Type} {M:Model} {A:Around} {t:Sem α} {Q:α→Shared→Prop} {E:Value→Shared→Prop} {s:Shared} (kd:KD t) (h:wpAny M A t Q E s):wpAny M A t (fun a s'=>Q a s'∧Dicts s.heap s'.heap) (fun a s'=>E a s'∧Dicts s.heap s'.heap) s:=
 fun Γ p hΓ=>Yx t p s kd (h Γ p hΓ)
theorem KD.bind {α β:Type} {f:α→Sem β}:∀{t:Sem α},KD t→(∀a,KD (f a))→KD (t >>=f):=by
 intro t
 induction t with
 |pure a=>exact fun _ h=>h a
 |raise e=>exact fun _ _=>True.intro
 |unsupported w=>exact fun _ _=>True.intro
 |finish w=>exact fun _ _=>True.intro
 |rule t k ih=>exact fun kd h=>ih () kd h
 |«at» t k ih=>exact fun kd h=>ih () kd h
 |load a x k ih=>exact fun kd h o=>ih o (kd o) h
 |update a x g k ih=>exact fun kd h=>⟨kd.1,ih () kd.2 h⟩
 |alloc o k ih=>exact fun kd h a=>ih a (kd a) h
 |loadIfAlive a k ih=>exact fun kd h a=>ih a (kd a) h
 |point l k ih=>exact fun kd h=>ih () kd h
 |register a k ih=>exact fun kd h=>True.intro
 |fresh k ih=>exact fun kd h a=>ih a (kd a) h
 |ask k ih=>exact fun kd h a=>ih a (kd a) h
 |choose src n k ih=>exact fun kd h a=>ih a (kd a) h
 |os q l k ih=>exact fun kd h a=>ih a (kd a) h
 |call c h g l k ih=>exact fun kd h=>kd.elim
 |handled o k ih=>exact fun kd h a=>ih a (kd a) h
 |newGen c k ih=>exact fun kd h a=>ih a (kd a) h
 |genState g k ih=>exact fun kd h a=>ih a (kd a) h
 |resume g r l k ih=>exact fun kd h=>kd.elim
 |yield v g l k ih=>exact fun kd h=>True.intro
 |stack k ih=>exact fun kd h a=>ih a (kd a) h
 |fork c k ih=>exact fun kd h=>True.intro
 |thread k ih=>exact fun kd h a=>ih a (kd a) h
 |await a t b l k ih=>exact fun kd h=>True.intro
theorem FC {α:Type} {c:Prop} [Decidable c] {a b:Sem α} (ha:KD a) (hb:KD b):KD (if c then a else b):=by split<;>assumption
theorem Mh {a:Addr}:KD (load a):=fun _=>True.intro
theorem Yy {f:Array Value→Array Value} (o:Obj):(Obj.mapFields f o).dict=o.dict∧(o.isFreed=false→(Obj.mapFields f o).isFreed=false):=by
 obtain ⟨c,d,dt,sl⟩:=o
 cases dt<;>exact ⟨rfl,fun h=>h⟩
theorem Yz {v:Value}:KD (fieldsOf v):=by
 unfold fieldsOf
 split
 ·exact KD.bind Mh fun o=>by split<;>exact True.intro
 ·exact True.intro
theorem Kc {v:Value} {i:Nat}:KD (field v i):=by
 unfold field
 exact KD.bind Yz fun o=>by split<;>exact True.intro
theorem Mi {v x:Value} {i:Nat}:KD (setField v i x):=by
 unfold setField
 split
 ·unfold updateField
  refine KD.bind Mh fun o=>?_
  split
  ·exact FC ⟨Yy,True.intro⟩ True.intro
  ·exact True.intro
 ·exact True.intro
theorem Mj {v:Value} {o:Option Addr}:KD (setFlight v o):=by
 unfold setFlight
 exact KD.bind Kc fun o=>FC Mi True.intro
theorem YA {n:String} {vs:List Value}:KD (newFields n vs):=by
 unfold newFields newObj
 unfold newObjAsIs
 dsimp only
 split
 ·exact True.intro
 ·exact fun a=>True.intro
theorem Pp:∀{l:List Env},KD (readyFrames l)
 |[]=>True.intro
 |env::outer=>by
  unfold readyFrames
  split
  ·refine KD.bind Mh fun o=>FC True.intro (KD.bind ?_ fun b=>KD.bind ?_ fun v=>KD.bind ⟨fun o=>⟨rfl,fun h=>?_⟩,True.intro⟩ fun _=>Pp)
   ·unfold behindIsImport
    exact FC True.intro (FC True.intro (KD.bind Kc fun _=>True.intro))
   ·unfold keptBack
    split
    ·exact FC True.intro fun _=>True.intro
    ·exact True.intro
   ·obtain ⟨c,d,dt,sl⟩:=o
    cases dt<;>exact h
  ·exact True.intro
theorem YB {env:Env}:KD (PySem.frameOf env):=by
 unfold PySem.frameOf
 refine KD.bind (fun _=>True.intro) fun l=>KD.bind ?_ fun o=>?_
 ·unfold frameObject
  split
  ·exact True.intro
  ·exact KD.bind Pp fun _=>True.intro
 ·split<;>exact True.intro
theorem YC {f:Addr} {b:Bool}:KD (entryPlaceOf f b):=by
 unfold entryPlaceOf
 intro l
 show KD (match l.find? _ with |some (_,pos)=>_ |none=>_)
 split<;>exact True.intro
theorem Pq {e:Value} {env:Env}:KD (noteFrame e env):=by
 unfold noteFrame
 split
 ·refine KD.bind Kc fun hd=>?_
  have fin:∀f:Addr,KD (do setField e 1 (←EntryCells.newEntry hd (←PySem.frameOf env) .none (rawInt f) .none (←entryPlaceOf f (hd != .none)))):=fun f=>
   KD.bind YB fun _=>KD.bind YC fun _=>KD.bind YA fun _=>Mi
  refine FC (KD.bind Kc fun x=>FC True.intro (KD.bind Mi fun _=>?_)) ?_
  ·exact fin _
  ·exact fin _
 ·exact True.intro
theorem Pr {e:Value} {env:Env}:KD (leaving env e):=by
 unfold leaving
 exact KD.bind Pq fun _=>Mj
open Classical in
noncomputable def blank (p:Addr→Prop) (h:Heap):Heap:=⟨h.objs.mapIdx fun i o=>if p i then {o with data:=.freed} else o,h.life⟩
theorem Gh {p:Addr→Prop} {h:Heap} {b:Addr} (hp:p b):(blank p h).get? b=none:=by
 unfold blank Heap.get?
 simp only [Array.getElem?_mapIdx]
 cases e:h.objs[b]? with
 |none=>rfl
 |some o=>simp [hp]
theorem Gi {p:Addr→Prop} {h:Heap} {b:Addr} (hp:¬p b):(blank p h).get? b=h.get? b:=by
 unfold blank Heap.get?
 simp only [Array.getElem?_mapIdx]
 cases e:h.objs[b]? with
 |none=>rfl
 |some o=>simp [hp]
theorem Mk {p:Addr→Prop} {h:Heap}:(blank p h).StaysIn h:=fun b o e=>by
 by_cases hp:p b
 ·rw [Gh hp] at e;cases e
 ·rw [Gi hp] at e;exact e
inductive Kd (h0 h:Heap) (H:Hp) (a:Addr) (C:Value) (da:Option Addr):Prop where
 |mk (new:h0.get? a=none) (no:H a=none) (oe:Obj) (vs:Array Value) (a0:Value) (T:Addr) (oT:Obj) (ts:Array Value) (e1:h.get? a=some oe) (e2:oe.cls=C∧vs[0]?=some a0) (e3:oe.data=.fields vs) (e4:vs[1]?=some (.ref T)) (e5:h0.get? T=none) (e6:H T=none) (e7:T≠a) (e8:h.get? T=some oT) (e9:oT.data=.fields ts) (e10:ts[3]?=some .none) (e11:oe.dict=da):Kd h0 h H a C da
abbrev Eg (n:Str):Value:=.str n 0
inductive Ba (P:Program) (w:World) (K:PySem.W.Frag) (outer:List Env) (H:Hp) (s:Shared) (E:XK) (e:Value) (s':Shared):Prop where
 |mk (a C:Addr) (n:Str) (da:Option Addr) (H':Hp) (ee:e=.ref a) (os:s'.os=s.os) (bare:AllBare s'.gens) (un:Un (frs outer) [] H H' s.heap s'.heap) (hok:HOk P w H' s'.heap) (fly:Kd s.heap s'.heap H' a (.ref C) da) (nm:PySem.W.nsIn K mainGlobals n=some (some (.ref C))) (q:E (Eg n) da H'):Ba P w K outer H s E e s'
theorem Ke {h base:Heap} {p:Addr→Prop}:∀{l:List Env},h.FunFrames base l→(∀b∈frs l,p b)→h.FunFrames (blank p h) l
 |[],_,_=>trivial
 |env::rest,⟨k,⟨L,o,hf,_,ho,hd⟩,r⟩,hp=>⟨k,⟨L,o,hf,Gh (hp L (by unfold frs;rw [Ff,hf];exact AZ)),ho,hd⟩,
  Ke r fun b hb=>hp b (by
   unfold frs at hb ⊢
   rw [Ff,hf]
   exact A6 _ hb)⟩
theorem Ml {P:Program} {w:World} {H:Hp} {h:Heap} {a:Addr} {o:HO} (x:ObjOk P w H h a o):∃ob,h.get? a=some ob:=by
 cases o with
 |lst xs=>obtain ⟨_,_,_,_,e⟩:=x;exact ⟨_,e⟩
 |tup xs=>obtain ⟨_,_,_,⟨_,e,_⟩,_⟩:=x;exact ⟨_,e⟩
 |own y=>exact x
 |xd fs=>obtain ⟨_,⟨_,_,_,e,_⟩,_⟩:=x;exact ⟨_,e⟩
 |frz ob u=>obtain ⟨e,_⟩:=x;exact ⟨_,e⟩
 |tbl ps=>exact ⟨_,x⟩
 |ext φ=>exact x.2.1
 |mex φ=>exact x.2.1
 |dct φ=>exact x.2.1
structure Lv (X:Cx) (E:XK):Prop where
 xe:∀e s',wpAny (model X.prog X.w) X.A (leaving X.env e) (fun _ s''=>Ba X.prog X.w X.K X.outer X.H₀ X.s₀ E e s'') (fun e' s''=>Ba X.prog X.w X.K X.outer X.H₀ X.s₀ E e' s'') s'→X.xe e s'
 stk:X.stack=X.env::X.outer
 fr:X.env.frame=some X.env.locals
 ex:X.ex=[]
theorem Kf {P:Program} {w:World} {K:PySem.W.Frag} {mg:Str→Option Value} {base:Heap} {N:List Str} {qual:Str} {scope:Scope} {f:Addr} {cd:Value} {A:Around} {outer:List Env} {s:Shared} {H:Hp} {E:XK}:Lv (BY (Ba P w K) P w K mg base N qual scope f cd A outer s H E) E:=
 ⟨fun _ _ h=>h,rfl,rfl,rfl⟩
section
variable {X:Cx} {E:XK}
theorem Lv.frs (lv:Lv X E):L2.frs X.stack=X.env.locals::X.fs:=by
 rw [lv.stk];unfold L2.frs;rw [Ff,lv.fr];rfl
theorem Pt {pins:List (Addr×Obj)} {σ:L2.St} {H':Hp} {s':Shared} {h':Heap} {a T:Addr} {C:Value} (lv:Lv X E)
 (I:Inv X pins σ H' s')
 (na:X.s₀.heap.get? a=none) (nT:X.s₀.heap.get? T=none) (ha:H' a=none) (hT:H' T=none) {a0:Value}
 (L:Heap.LeftW (blank (fun b=>b=a∨b=T∨b∈frs X.stack) s'.heap) X.stack a C a0 s'.heap h') {da:Option Addr} {oa:Obj} (ea:s'.heap.get? a=some oa) (ed:oa.dict=da) (dd:Dicts s'.heap h'):
 Un X.fs [] X.H₀ H' X.s₀.heap h'∧HOk X.prog X.w H' h'∧Kd X.s₀.heap h' H' a C da:=by
 obtain ⟨stay,ff,⟨oe,vs,T2,oT,ts,e1,e2,e3,e4,e5,e6,e7,e8,e9⟩,ups⟩:=L
 have e11:oe.dict=da:=by
  obtain ⟨o',q1,q2⟩:=dd a oa ea
  rw [e1] at q1
  cases q1
  exact q2.trans ed
 have B:Un X.fs [] X.H₀ H' X.s₀.heap s'.heap:=by have:=I.base;rw [lv.ex] at this;exact this
 have stk:=I.stack
 have frNone:∀b∈frs X.stack,H' b=none:=fun b hb=>I.stkFree b hb
 have keepOf:∀b o,¬(b=a∨b=T∨b∈frs X.stack)→s'.heap.get? b=some o→h'.get? b=some o:=fun b o hb e=>stay b o (by rw [Gi hb];exact e)
 have notL:∀b o,X.s₀.heap.get? b=some o→b∉X.fs→b∉frs X.stack:=fun b o e hb z=>by
  rw [lv.frs] at z
  rcases qa5.mp z with z |z
  ·have:=AF e
   rw [z] at this
   exact absurd (AW this I.ok.above) (CO _)
  ·exact hb z
 have old:∀b o,X.s₀.heap.get? b=some o→b≠a∧b≠T:=fun b o e=>⟨fun z=>(by rw [z,na] at e;cases e),fun z=>(by rw [z,nT] at e;cases e)⟩
 have noFields:∀b,b∈frs X.stack→∃o,s'.heap.get? b=some o∧∀vs,o.data≠.fields vs:=fun b hb=>(stk.mem hb).2
 have any:∀b o,X.s₀.heap.get? b=some o→s'.heap.get? b≠none→∃o',h'.get? b=some o':=fun b o e hn=>by
  cases e':s'.heap.get? b with
  |none=>exact absurd e' hn
  |some o'=>
   by_cases hb:b∈frs X.stack
   ·obtain ⟨o2,h2,d2⟩:=noFields b hb
    obtain ⟨sl,h3⟩:=ups b o2 h2 d2
    exact ⟨_,h3⟩
   ·exact ⟨o',keepOf b o' (fun z=>by rcases z with z |z |z;exact (old b o e).1 z;exact (old b o e).2 z;exact hb z) e'⟩
 refine ⟨⟨fun b o e n hb hx=>?_,fun b o e n hb hx=>?_,B.free,fun b o e hx=>?_,B.tups,B.frzs,B.tbls⟩,fun b o e=>?_,na,ha,oe,vs,a0,T2,oT,ts,e1,e2,e3,e4,?_,?_,e6,e7,e8,e9,e11⟩
 ·exact keepOf b o (fun z=>by rcases z with z |z |z;exact (old b o e).1 z;exact (old b o e).2 z;exact notL b o e hb z) (B.keep b o e n hb hx)
 ·obtain ⟨sl,h1⟩:=B.slot b o e n hb hx
  have hb':b∈frs X.stack:=by rw [lv.frs];exact A6 _ hb
  obtain ⟨o2,h2,d2⟩:=noFields b hb'
  rw [h1] at h2
  cases h2
  obtain ⟨sl2,h3⟩:=ups b _ h1 d2
  exact ⟨sl2,h3⟩
 ·obtain ⟨o',h1⟩:=B.there b o e hx
  exact any b o e (by rw [h1];simp)
 ·refine (I.hok b o e).stay (fun c u hc q=>keepOf c u (fun z=>?_) q) (fun _ q=>q) fun _ _ q=>q
  have hc':H' c≠none:=by
   rcases hc with rfl |hc
   ·rw [e];simp
   ·rw [hc];simp
  rcases z with z |z |z
  ·exact hc' (z ▸ ha)
  ·exact hc' (z ▸ hT)
  ·exact hc' (frNone c z)
 ·cases q:X.s₀.heap.get? T2 with
  |none=>rfl
  |some o=>
   exfalso
   obtain ⟨o',h1⟩:=B.there T2 o q (by simp)
   by_cases hb:T2∈frs X.stack
   ·obtain ⟨o2,h2,d2⟩:=noFields T2 hb
    obtain ⟨sl,h3⟩:=ups T2 o2 h2 d2
    rw [h3] at e7
    cases e7
    exact d2 _ e8
   ·rw [Gi (fun z=>by rcases z with z |z |z;exact (old T2 o q).1 z;exact (old T2 o q).2 z;exact hb z),h1] at e5
    cases e5
 ·cases q:H' T2 with
  |none=>rfl
  |some o=>
   exfalso
   by_cases hb:T2=a∨T2=T∨T2∈frs X.stack
   ·rcases hb with z |z |z
    ·rw [z,ha] at q;cases q
    ·rw [z,hT] at q;cases q
    ·rw [frNone T2 z] at q;cases q
   ·rw [Gi hb] at e5
    obtain ⟨ob,eb⟩:=Ml (I.hok T2 o q)
    rw [eb] at e5
    cases e5
theorem Lv.older (lv:Lv X E) {pins:List (Addr×Obj)} {σ:L2.St} {H1:Hp} {s1:Shared} (I:Inv X pins σ H1 s1):∀b,s1.heap.get? b=none→X.s₀.heap.get? b=none:=fun b hb=>by
 cases q:X.s₀.heap.get? b with
 |none=>rfl
 |some o=>
  obtain ⟨o',h1⟩:=I.base.there b o q (by rw [lv.ex];simp)
  rw [hb] at h1;cases h1
theorem Mm (lv:Lv X E):F0 (Ba X.prog X.w X.K) X E:=by
 rintro pins σ H1 s1 e s' I ⟨a,C,n,da,H',ee,os,bare,un,hok,fly,nm,q⟩
 subst ee
 have I':Inv X pins σ H' s':=I.call' os un hok bare (fun b hb=>absurd hb (by simp))
 obtain ⟨fnew,fno,oe,vs,a0,T,oT,ts,e1,e2,e3,e4,e5,e6,e7,e8,e9,e10,e11⟩:=fly
 have fro:X.A.frames=some (X.env::X.outer):=by rw [←lv.stk];exact I'.ok.frames
 have stk:s'.heap.FunFrames X.base (X.env::X.outer):=by have:=I'.stack;rw [lv.stk] at this;exact this
 have run:=Im Pr (wpAny_leaving_nextW (M:=model X.prog X.w) (E:=fun _ _=>False) (Q:=fun _ s''=>∃h',s''={s' with heap:=h'}∧Heap.LeftW (blank (fun b=>b=a∨b=T∨b∈frs X.stack) s'.heap) (X.env::X.outer) a (.ref C) a0 s'.heap h') (base:=blank (fun b=>b=a∨b=T∨b∈frs X.stack) s'.heap) (cls:=.ref C) (a0:=a0) fro (Ke stk fun b hb=>.inr (.inr (by rw [lv.stk];exact hb))) lv.fr
  ⟨oe,vs,T,oT,ts,e1,e2,e3,e4,Gh (.inr (.inl rfl)),e7,e8,e9,e10⟩ Mk (Gh (.inl rfl)) fun h' L=>⟨h',rfl,L⟩)
 refine lv.xe _ _ (wpAny_mono run (fun _ s'' z=>?_) fun _ _ z=>z.1.elim)
 obtain ⟨⟨h',rfl,L⟩,D⟩:=z
 obtain ⟨u1,u2,u3⟩:=Pt lv I' (lv.older I a fnew) (lv.older I T e5) fno e6 (by rw [lv.stk] at *;exact L) e1 e11 D
 exact ⟨a,C,n,da,H',rfl,I'.os,bare,u1,u2,u3,nm,q⟩
theorem YD (lv:Lv X E) {pins:List (Addr×Obj)} {σ:L2.St} {H1:Hp} {s1:Shared} {a C:Addr} {n:Str} {da:Option Addr} {oe:Obj} {vs:Array Value} {a0:Value} (I':Inv X pins σ H1 s1)
 (e1:s1.heap.get? a=some oe) (ec:oe.cls=.ref C) (e3:oe.data=.fields vs) (v0:vs[0]?=some a0) (v1:vs[1]?=some .none) (ed:oe.dict=da) (new:X.s₀.heap.get? a=none) (fresh:H1 a=none) (nm:PySem.W.nsIn X.K mainGlobals n=some (some (.ref C))) (q:E (Eg n) da H1):X.xe (.ref a) s1:=by
 have fro:X.A.frames=some (X.env::X.outer):=by rw [←lv.stk];exact I'.ok.frames
 have stk:s1.heap.FunFrames X.base (X.env::X.outer):=by have:=I'.stack;rw [lv.stk] at this;exact this
 have run:=Im Pr (wpAny_leaving_firstW (M:=model X.prog X.w) (E:=fun _ _=>False) (Q:=fun _ s''=>∃h',s''={s1 with heap:=h'}∧Heap.LeftW (blank (fun b=>b=a∨b=a∨b∈frs X.stack) s1.heap) (X.env::X.outer) a oe.cls a0 s1.heap h') (base:=blank (fun b=>b=a∨b=a∨b∈frs X.stack) s1.heap) (a0:=a0) fro (Ke stk fun b hb=>.inr (.inr (by rw [lv.stk];exact hb))) lv.fr
  e1 Mk (Gh (.inl rfl)) e3 v1 v0 fun h2 L=>⟨h2,rfl,L⟩)
 refine lv.xe _ _ (wpAny_mono run (fun _ s'' z=>?_) fun _ _ z=>z.1.elim)
 obtain ⟨⟨h',rfl,L⟩,D⟩:=z
 obtain ⟨u1,u2,u3⟩:=Pt lv I' new new fresh fresh (by rw [lv.stk] at *;exact L) e1 ed D
 rw [ec] at u3
 exact ⟨a,C,n,da,H1,rfl,I'.os,I'.bare,u1,u2,u3,nm,q⟩
theorem YE (lv:Lv X E) {pins:List (Addr×Obj)} {σ:L2.St} {H1:Hp} {s1:Shared} {h':Heap} {a C:Addr} {n:Str} {vs:List Value} (I:Inv X pins σ H1 s1)
 (m:Heap.MadeExcOf s1.heap h' a (.ref C) vs) (nm:PySem.W.nsIn X.K mainGlobals n=some (some (.ref C))) (q:E (Eg n) none H1):X.xe (.ref a) {s1 with heap:=h'}:=by
 have I':Inv X pins σ H1 {s1 with heap:=h'}:=I.kept m.keeps
 obtain ⟨t,e1,e2,e3⟩:=m.there
 have fresh:H1 a=none:=by
  cases q:H1 a with
  |none=>rfl
  |some o=>
   obtain ⟨ob,eb⟩:=Ml (I.hok a o q)
   rw [m.new] at eb;cases eb
 exact YD lv I' e1 rfl rfl rfl rfl rfl (lv.older I a m.new) fresh nm q
end
section
variable {P:Program} {w:World} {K:PySem.W.Frag} {mg:Str→Option Value} {base:Heap} {N:List Str} {qual:Str} {scope:Scope} {f:Addr} {cd:Value} {A:Around} {outer:List Env} {s:Shared} {H:Hp} {E:XK}
theorem YF:F0 (Ba P w K) (BY (Ba P w K) P w K mg base N qual scope f cd A outer s H E) E:=Mm Kf
theorem YG {pins:List (Addr×Obj)} {σ:L2.St} {H1:Hp} {s1:Shared} {h':Heap} {a C:Addr} {n:Str} {vs:List Value} (I:Inv (BY (Ba P w K) P w K mg base N qual scope f cd A outer s H E) pins σ H1 s1)
 (m:Heap.MadeExcOf s1.heap h' a (.ref C) vs) (nm:PySem.W.nsIn K mainGlobals n=some (some (.ref C))) (q:E (Eg n) none H1):(BY (Ba P w K) P w K mg base N qual scope f cd A outer s H E).xe (.ref a) {s1 with heap:=h'}:=YE Kf I m nm q
end
inductive Pv (h:Heap) (C:Addr) (bmB:List Value) (newId:String):Prop where
 |mk (bm:List Value) (N:Addr) (nm q:Str) (bs:List Value) (hdct:Bool) (sn:List Str) (sub:List Value) (ab:Bool) (col:Option Bool) (dd:Option Addr) (k0 k1 k2 k3 k5:Option Value) (mN:Str→Option Value)
  (hC:h.get? C=some (excClassObj nm q C N bs bm hdct sn sub ab col dd k0 k1 k2 k3 k5 newId)) (hN:h.Ns N mN) (hni:mN "__init__"=none) (T:OwnTail h bmB bm):Pv h C bmB newId
def Mn (K:PySem.W.Frag) (C:Addr) (bmB:List Value) (newId:String):Prop:=∀h:Heap,K.In h→Pv h C bmB newId
def clsOf:Data→Option ClassData
 |.cls c=>some c
 |_=>none
theorem YH {d:Data} {c:ClassData} (h:clsOf d=some c):d=.cls c:=by
 cases d<;>first |(cases h;rfl) |cases h
inductive Pw {α:Type} (l:List α):Prop where
 |mk (a b c d e f:α) (q:l=[a,b,c,d,e,f]):Pw l
theorem YI {α:Type} {l:List α} (h:l.length=6):Pw l:=by
 cases l with
 |nil=>cases h
 |cons a l=>cases l with
  |nil=>cases h
  |cons b l=>cases l with
   |nil=>cases h
   |cons c l=>cases l with
    |nil=>cases h
    |cons d l=>cases l with
     |nil=>cases h
     |cons e l=>cases l with
      |nil=>cases h
      |cons f l=>cases l with
       |nil=>exact ⟨a,b,c,d,e,f,rfl⟩
       |cons g l=>cases h
def Kg (K:PySem.W.Frag) (C:Addr) (bmB:List Value) (newId:String) (o:Obj) (cd:ClassData):Bool:=
 decide (o.cls=.type "type")&&(decide (cd.mro=.ref C::cd.mro.tail)&&(!cd.hasDel&&(PySem.W.tailIn K bmB cd.mro.tail&&(PySem.W.nsOkIn K cd.ns&&(PySem.W.nsIn K cd.ns "__init__"==some none&&(decide (o.slots.toList.length=6)&&decide (o.slots.toList[4]?=some (some (.builtin newId)))))))))
def Mo (K:PySem.W.Frag) (C:Addr) (bmB:List Value) (newId:String):Bool:=match K.lookup C with
 |some o=>(match clsOf o.data with
  |some cd=>Kg K C bmB newId o cd
  |none=>false)
 |none=>false
theorem YJ {K:PySem.W.Frag} {C:Addr} {bmB:List Value} {newId:String} (q:Mo K C bmB newId=true):Mn K C bmB newId:=by
 intro h X
 unfold Mo at q
 cases lk:K.lookup C with
 |none=>rw [lk] at q;cases q
 |some o=>
  rw [lk] at q
  replace q:(match clsOf o.data with |some cd=>Kg K C bmB newId o cd |none=>false)=true:=q
  cases ec:clsOf o.data with
  |none=>rw [ec] at q;cases q
  |some cd=>
   rw [ec] at q
   replace q:Kg K C bmB newId o cd=true:=q
   unfold Kg at q
   simp only [BS,decide_eq_true_eq,Bool.not_eq_true',beq_iff_eq] at q
   obtain ⟨e1,e2,e3,e4,e5,e6,e7,e8⟩:=q
   obtain ⟨cls,od,dt,⟨sl⟩⟩:=o
   obtain ⟨nm,bs,mro,ns,qn,hd,sn,sub,ab,col,del⟩:=cd
   replace ec:=YH ec
   simp only at ec e1 e2 e3 e4 e5 e6 e7 e8
   obtain ⟨k0,k1,k2,k3,k4,k5,rfl⟩:=YI e7
   cases mro with
   |nil=>cases e2
   |cons c bm=>
    cases e2
    cases Option.some.inj e8
    subst ec e1 e3
    exact ⟨_,_,_,_,_,_,_,_,_,_,_,_,_,_,_,_,h.nsMap ns,X _ _ lk,.of_isNs (PySem.W.isNs_of_in X e5),PySem.W.nsMap_none_of_in X e5 e6,PySem.W.tail_of_in X e4⟩
abbrev Io:List Value:=[.type "ValueError",.type "Exception",.type "BaseException",.type "object"]
def Mp (X:Cx) (E:XK):Prop:=∀(pins:List (Addr×Obj)) (σ:L2.St) (H1:Hp) (s1:Shared) (h':Heap) (a C:Addr) (n:Str) (vs:List Value),Inv X pins σ H1 s1→Heap.MadeExcOf s1.heap h' a (.ref C) vs→PySem.W.nsIn X.K mainGlobals n=some (some (.ref C))→E (Eg n) none H1→X.xe (.ref a) {s1 with heap:=h'}
theorem YK {P:Program} {w:World} {K:PySem.W.Frag} {mg:Str→Option Value} {base:Heap} {N:List Str} {qual:Str} {scope:Scope} {f:Addr} {cd:Value} {A:Around} {outer:List Env} {s:Shared} {H:Hp} {E:XK}:
 Mp (BY (Ba P w K) P w K mg base N qual scope f cd A outer s H E) E:=fun pins σ H1 s1 h' a C n vs I m nm q=>YG I m nm q
section
variable {X:Cx} {E:XK}
def Ip (n:Str) (fa:MA):MS:=fun ρ h=>(fa ρ h).bind fun xs h1=>if xs.length≤sizeLine then .err (Eg n) [] h1 else .stuck
theorem YL {x:Str} {C:Addr} {e:Expr} {es:List Expr} {fa:MA} {np cpos pos:Pos} (O:Mn X.K C Io "ValueError.__new__") (nmC:PySem.W.nsIn X.K mainGlobals x=some (some (.ref C))) (hg:Gl X x) (hc:X.calm=true) (th:Mp X E) (ha:CA X E (e::es) fa)
 (hdb:(x==("__debug__":Str))=false:=by decide) (he:starEach (e::es) X.env=(false,eval e X.env)::starEach es X.env:=by rfl) (hpl:(backTo cpos (starEach (e::es) X.env)).any (·.1)=false:=by rfl):
 Ex X E (.Raise (some (.Call (.Name x np) (e::es) [] cpos)) none pos) (Ip x fa):=by
 rintro pins s σ H D I ⟨m,ρ,h,hr,er,p⟩
 have hm:X.mg x=some (.ref C):=PySem.W.mg_of I.mod.kin I.mod.glob nmC
 obtain ⟨bm,NN,nm,q,bs,hdct,sn,sub,ab,col,dd,k0,k1,k2,k3,k5,mN,hC,hN,hni,T⟩:=O X.base I.mod.kin
 refine wpAny_Raise_call_subT (C:=C) (nm:=nm) (q:=q) (N:=NN) (bs:=bs) (bm:=bm) (hdct:=hdct) (sn:=sn) (sub:=sub) (ab:=ab) (col:=col) (dd:=dd) (k0:=k0) (k1:=k1) (k2:=k2) (k3:=k3) (k5:=k5)
  PySem.F.excBase_ValueError (mN:=mN) (T.hasType PySem.F.excBase_ValueError.hasBase) (I.ok.hd hc) hpl hni (GM I hg hm ⟨rfl,?_⟩ hdb)
 have hh:=ha cpos pins s σ H (fun vs H1=>vs.length≤sizeLine∧E (Eg x) none H1) I ⟨m,ρ,h,hr,er,PostS.bind p fun xs h1 vs m1 H1 _ p1 k1 hr1 r1 q1=>by
  split at q1
  ·rename_i hz
   exact ⟨by rw [←DVs.len r1];exact hz,q1 none m1 H1 (AB _) (.refl _) hr1 (fun f d z=>by cases z)⟩
  ·exact q1.elim⟩
 rw [he] at hh ⊢
 exact Calls.evalArgs_plain (Ay hh fun us s1 z1_=>by obtain ⟨vs,H1,I1,r,hl,q1⟩:=z1_;exact (⟨rfl,by rw [←r.length];exact hl,I1.bk _ _ hC,hN.keeps I1.bk,T.keeps I1.bk,fun h' a z=>th pins σ H1 s1 h' a C x us I1 z nmC q1⟩))
inductive EZ (K:PySem.W.Frag) (F:List D→HD→Out D) (vs:List V) (H:Hp) (Q:VK) (E:XK):Prop where
 |mk (m:List Addr) (ds:List D) (h:HD) (hr:HR K m h H) (r:DVs K m H ds vs) (p:Post K (rD K) m H E Q (F ds h)):EZ K F vs H Q E
theorem YM {P:Program} {w:World} {K:PySem.W.Frag} {X:Cx}:F0 (Ba P w K) X E0:=fun _ _ _ _ _ _ _ z2_=>by obtain ⟨_,_,_,_,_,_,_,_,_,_,_,_,q⟩:=z2_;exact (q.elim)
theorem Kh {K:PySem.W.Frag} {n:Nat} {F:List D→HD→Out D} (ar:Ar n F) {vs:List V} {H:Hp} {Q:VK} {E':XK} (h:EZ K F vs H Q E'):vs.length=n:=by
 obtain ⟨m,ds,hd,hr,r,p⟩:=h
 rw [←r.len]
 by_cases e:ds.length=n
 ·exact e
 ·rw [ar ds hd e] at p;exact p.elim
structure CaE (P:Program) (w:World) (K:PySem.W.Frag) (mg:Str→Option Value) (base:Heap) (x:Str) (k:Nat) (F:List D→HD→Out D):Prop where
 ex:∃(f:Addr) (fd:FuncData) (ps:List Str),FnOk P w K mg base (Ba P w K) k f fd ps (EZ K F)∧Binds K fd ps []∧mg x=some (.ref f)∧PySem.W.keepIn K (.ref f)=true
theorem YN {k k':Nat} {F:List D→HD→Out D} {fa:MA} {x:Str} {p pos:Pos} {e:Expr} {es:List Expr} (C:CaE X.prog X.w X.K X.mg X.base x k F) (hr:Room k' X.A) (hx:F0 (Ba X.prog X.w X.K) X E) (ha:CA X E (e::es) fa) (hk:k≤k':=by decide) (hg:Gl X x:=by rfl)
 (hdb:(x==("__debug__":Str))=false:=by decide) (he:starEach (e::es) X.env=(false,eval e X.env)::starEach es X.env:=by rfl) (hpl:(backTo pos (starEach es X.env)).any (·.1)=false:=by rfl):
 Ev X E (.Call (.Name x p) (e::es) [] pos) (Ae F fa):=by
 obtain ⟨f,fd,ps,G,hb,hm,hkp⟩:=C.ex
 exact B4 (VP (E:=E) G (hr.mono hk) hg hm hkp hb .nil hx ha hdb he hpl) fun σ H Q z3_=>by obtain ⟨m,ρ,hd,hr,er,p⟩:=z3_;exact (⟨m,ρ,hd,hr,er,Post.bind p fun xs h1 vs m1 H1 e1 p1 k1 hr1 r1 q1=>by
  rw [B9]
  exact ⟨m1,xs,h1,hr1,r1,q1⟩⟩)
theorem YO {P:Program} {w:World} {K:PySem.W.Frag} {mg:Str→Option Value} {base:Heap} {x qual:Str} {st:Stmt} {f:Addr} {fd:FuncData} {N ps:List Str} {k:Nat} {F:List D→HD→Out D} {g:MS} (Fn:Fun K x qual st f fd) (S:DJ N ps (defScope st)) (ar:Ar ps.length F)
 (hg:∀ds h,ds.length=ps.length→F ds h=AS N.length g ds h)
 (hbody:∀(cdv:Value) (A:Around) (outer:List Env) (s:Shared) (H:Hp) (E:XK),Room k (A.deeper (envOfC qual (defScope st) s.heap.objs.size f cdv))→CB (BY (Ba P w K) P w K mg base N qual (defScope st) f cdv A outer s H E) E (defBody st) g):FnOk P w K mg base (Ba P w K) (k+1) f fd ps (EZ K F):=by
 obtain ⟨oc,od,kV,doc,pm,an,cdv,ct,osl,rfl,lk,hcd⟩:=Fn.ex
 refine Oh lk hcd S (fun vs H Q E h=>Kh ar h) fun A outer s H vs Q E hr h=>?_
 refine ⟨_,hbody cdv A outer s H E hr,?_⟩
 have hl:=Kh ar h
 obtain ⟨m,ds,hd,hr1,r,p⟩:=h
 have hld:ds.length=ps.length:=by rw [r.len];exact hl
 refine ⟨m,ds.map some++List.replicate (N.length - ds.length) none,hd,hr1,ER.start r,?_⟩
 rw [hg ds hd hld] at p
 unfold AS at p
 cases o:g (ds.map some++List.replicate (N.length - ds.length) none) hd with
 |stuck=>rw [o] at p;exact p
 |err C fs h1=>rw [o] at p;exact p
 |ok a h1=>
  rw [o] at p
  obtain ⟨fl,ρ1⟩:=a
  intro m1 H1 p1 k1 hr1
  cases fl with
  |nx=>exact fun σ er=>p .non m1 H1 p1 k1 hr1 (by simp [rD,DV])
  |bk=>exact False.elim p
  |ct=>exact False.elim p
  |rt d=>exact fun v rv=>p v m1 H1 p1 k1 hr1 rv
end
theorem Px {P:Program} {w:World} {K:PySem.W.Frag} {mg:Str→Option Value} {base:Heap} {N:List Str} {qual:Str} {scope:Scope} {f:Addr} {cd:Value} {A:Around} {outer:List Env} {s:Shared} {H:Hp} {E:XK}:
 PassesOwn (model P w) (BY (Ba P w K) P w K mg base N qual scope f cd A outer s H E).A (BY (Ba P w K) P w K mg base N qual scope f cd A outer s H E).env (BY (Ba P w K) P w K mg base N qual scope f cd A outer s H E).xe:=by
 passes_own
section
variable {X:Cx} {E:XK}
abbrev MO:=Ah→HD→Out (Option Int)
abbrev Ki (X:Cx) (E:XK) (e:Option Expr) (f:MO):Prop:=PO X e (tM X.K (fun _ _ a b=>a=b) E f)
def AL:MO:=fun _ h=>.ok none h
def AJ (f:ME):MO:=fun ρ h=>(f ρ h).bind fun x h1=>match x with
 |.int i=>.ok (some i) h1
 |_=>.stuck
theorem Pz {e:Option Expr} {t t':TO} (h:PO X e t) (i:∀σ H Q,t' σ H Q→t σ H Q):PO X e t':=fun pins s σ H Q I q=>h pins s σ H Q I (i σ H Q q)
theorem YQ:Ki X E none AL:=Pz V4 fun σ H Q z1_=>by obtain ⟨m,ρ,h,hr,er,p⟩:=z1_;exact (p none m H (AB _) (.refl _) hr rfl)
theorem YR {e:Expr} {f:ME} (he:Ev X E e f):Ki X E (some e) (AJ f):=Pz (V5 he) fun σ H Q z2_=>by obtain ⟨m,ρ,h,hr,er,p⟩:=z2_;exact (⟨m,ρ,h,hr,er,Post.bind p fun x h1 v m1 H1 eo p1 k1 hr1 r1 q1=>by
 clear eo
 split at q1
 ·rename_i i
  simp only [rD,DV] at r1
  exact ⟨i,r1,q1 (some i) m1 H1 (AB _) (.refl _) hr1 rfl⟩
 ·exact q1.elim⟩)
def cutD (xs:List D) (lo hi:Option Int):List D:=(xs.drop (HT.sIx xs.length 0 lo)).take (HT.sIx xs.length xs.length hi - HT.sIx xs.length 0 lo)
def PB (x:D) (lo hi:Option Int) (h:HD):Out D:=match x with
 |.tup xs=>if HT.sIx xs.length 0 lo=0∧HT.sIx xs.length xs.length hi=xs.length then .stuck else .ok (.tup (cutD xs lo hi)) h
 |_=>.stuck
def PC (f:ME) (lo hi:MO):ME:=fun ρ h=>(f ρ h).bind fun x h1=>(lo ρ h1).bind fun l h2=>(hi ρ h2).bind fun u h3=>PB x l u h3
theorem DVs.cut {K:PySem.W.Frag} {m:List Addr} {H:Hp} {ds:List D} {vs:List V} (r:DVs K m H ds vs) (lo hi:Option Int):DVs K m H (cutD ds lo hi) (GO vs lo hi):=by
 unfold cutD GO
 rw [r.len]
 exact (r.drop _).take _
def PD (o i x y:D) (ρ:Ah) (h:HD):Out (Fl×Ah):=match x,y with
 |.int a,.int b=>G2 o i (.int (a+b)) h (.ok (.nx,ρ) h)
 |_,_=>.stuck
def PF (o i:D) (h:HD):Out D:=match o,i with
 |.loc l,.int n=>if 0≤n then (match h[l]? with
  |some (.lst ds)=>(match ds[n.toNat]? with
   |some d=>.ok d h
   |none=>.stuck)
  |_=>.stuck) else .stuck
 |_,_=>.stuck
def PH (fo fi fv:ME):MS:=fun ρ h=>(fo ρ h).bind fun o h1=>(fi ρ h1).bind fun i h2=>(PF o i h2).bind fun x h3=>(fv ρ h3).bind fun y h4=>PD o i x y ρ h4
end
theorem vals_ints:∀{ns:List Int} {its:List Value},Vals (ns.map V.int) its→∃ys:List (Int×Tok),its=ys.map (fun p=>Value.int p.1 p.2)∧ys.map (·.1)=ns
 |[],its,r=>by cases r;exact ⟨[],rfl,rfl⟩
 |n::ns,its,r=>by
  cases r with
  |cons r1 r2=>
   obtain ⟨t,rfl⟩:=r1
   obtain ⟨ys,rfl,e⟩:=vals_ints r2
   exact ⟨(n,t)::ys,rfl,by simp [e]⟩
section
variable {X:Cx}
def YS:List Int→Int
 |[]=>0
 |n::ns=>ns.foldl min n
def PJ (f:List Int→Int):D→HD→Out D:=fun x h=>match x with
 |.loc l=>match h[l]? with
  |some (.lst ds)=>match AC (ds.map Gd) with
   |some ns=>if ns=[] then .stuck else .ok (.int (f ns)) h
   |none=>.stuck
  |_=>.stuck
 |_=>.stuck
end
def PK (K:PySem.W.Frag) (t:Addr):It:=⟨fun i H=>∃xs,SqL K H t xs∧i<xs.length,fun i H x H'=>∃p v,H p=none∧x=.ref p∧(∀xs:List V,SqL K H t xs→xs[i]?=some v)∧H'=Ao H p (.tup [.int i,v]),fun i H=>∃xs,SqL K H t xs∧i=xs.length⟩
theorem YT {P:Program} {w:World} {K:PySem.W.Frag} {elts:List Expr} {kt:Nat} {tpos:Pos} (e it t:Addr) (hei:e≠it) (hte:t≠e) (hti:t≠it):
 FZ P w K (.Tuple elts kt tpos) (PK K t) [e,it] e (fun i h=>(∃old,IsEnum h e it i old)∧h.IsListIter it t i) where
 mem:=by simp
 obj:=fun i h st b hb=>by
  obtain ⟨⟨old,h1⟩,o,h2,hc,hd⟩:=st
  rcases qa5.mp hb with z |z
  ·subst z;exact ⟨_,h1,fun v z=>by cases z⟩
  ·rw [qa4] at z
   subst z
   exact ⟨o,h2,fun v z=>by rw [hd] at z;cases z⟩
 keep:=fun i h h' st k=>by
  obtain ⟨⟨old,h1⟩,h2⟩:=st
  exact ⟨⟨old,k e (by simp) _ h1⟩,h2.at fun o z=>k it (by simp) o z⟩
 item:=by
  intro X hP hw hK hc i pins s σ H E I hf st hg
  subst hP hw hK
  obtain ⟨⟨old,he⟩,hit⟩:=st
  obtain ⟨xs,hq,hi⟩:=hg
  obtain ⟨its,rv,p,hz⟩:=I.list hq
  have hT:s.heap.IsList t its.toArray:=p.isList
  have hl:=rv.length
  obtain ⟨e0,e1,e2,e3,e4,e5⟩:=hf e (by simp)
  obtain ⟨i0,i1,i2,i3,i4,i5⟩:=hf it (by simp)
  have hx:xs[i]?=some xs[i]:=AQ hi
  refine wpAny_pyNext_enum_itemD (Draws.list (A:=X.A.in1) (I.ok.hd hc) it t hti its.toArray) he ⟨hit,hT⟩ (by rw [AX];omega) hei (by simp [hei,Ne.symm hte]) fun x h1 tk hPx ho hs1 hTup hsz hk=>?_
  obtain ⟨u,hu,ru⟩:=rv.get hx
  have hux:u=x:=by
   have:its[i]?=some x:=by simpa using hPx
   rw [hu] at this
   exact Option.some.inj this
  subst hux
  refine ⟨.ref s.heap.objs.size,rfl,wpAny_letOwnedTupleGo_enum ho fun h2 he2 sb=>?_⟩
  have hfr:H s.heap.objs.size=none:=I.hok.fresh (Ax _)
  have kk:∀b o,b∉[e,it]→s.heap.get? b=some o→h2.get? b=some o:=fun b o hb z=>by
   have n1:b≠e:=fun q=>hb (by simp [q])
   have n2:b≠it:=fun q=>hb (by simp [q])
   exact (sb.2 b n1).trans (hk b o n1 n2 z)
  have na:s.heap.objs.size≠e:=Fy (AF he)
  have hnew:h2.get? s.heap.objs.size=some {cls:=.type "tuple",data:=.seq #[.int i tk,u]}:=(sb.2 _ na).trans hTup
  have ntr:∀b w,H b=some w→b∉[e,it]:=fun b w z hb=>by
   rcases qa5.mp hb with q |q
   ·rw [q,e0] at z;cases z
   ·rw [qa4.mp q,i0] at z;cases z
  have nal:∀b o,s.heap.get? b=some o→b≠s.heap.objs.size:=fun b o z=>BH (AF z)
  have it2:h2.IsListIter it t (i+1):=by
   obtain ⟨o,q,r⟩:=hs1.1
   exact ⟨o,(sb.2 it (Ne.symm hei)).trans q,r⟩
  refine ⟨.ref s.heap.objs.size,Ao H s.heap.objs.size (.tup [.int i,xs[i]]),?_,rfl,⟨s.heap.objs.size,xs[i],hfr,rfl,fun ys hy=>by rw [I.list_inj hy hq];exact hx,rfl⟩,⟨⟨u,he2⟩,it2⟩,fun b hb=>?_⟩
  ·show Inv X pins σ _ {s with heap:=h2,gens:=s.gens,drawn:=s.drawn,toks:=tk+1}
   refine I.step (g':=s.gens) (d':=s.drawn) (t':=tk+1) (h':=h2) (ch:=[e,it]) (fun b hb=>?_) (fun b o _ _ hc z _=>kk b o hc z) (fun b o _ _ hc z _=>⟨o.slots,kk b o hc z⟩) (fun b o _ z n=>by rw [Av (nal b o z)];exact n)
    (fun b o hc z=>⟨o,kk b o hc z⟩) (fun b ys z=>by rw [Av (Bz z hfr)];exact z) (fun b o u z=>by rw [Av (Bz z hfr)];exact z) (fun b ps z=>⟨#[],by rw [Av (Bz z hfr),z];simp⟩) (fun m hm=>?_) (fun b w z=>?_) I.bare
   ·rcases qa5.mp hb with q |q
    ·subst q;exact ⟨e3,e1,e4,e5⟩
    ·rw [qa4] at q;subst q;exact ⟨i3,i1,i4,i5⟩
   ·obtain ⟨o,es,ep,q,r⟩:=hm
    exact ⟨o,es,ep,kk _ o (by simp [Ne.symm e1,Ne.symm i1]) q,r⟩
   ·by_cases hb:b=s.heap.objs.size
    ·subst hb
     rw [BL] at z
     cases z
     exact ⟨by simp only [DF,Fg];rw [sizeLine_eq];decide,[.int i tk,u],.cons ⟨tk,rfl⟩ (.cons ru .nil),⟨_,hnew,rfl,0,rfl⟩,fun o e=>by rw [hnew] at e;cases e;rfl⟩
    ·rw [Av hb] at z
     refine (I.hok b w z).stay (fun c v hc q=>kk c v ?_ q) (fun c q=>by rw [Av (Bz q hfr)];exact q) fun c ys q=>by rw [Av (Bz q hfr)];exact q
     rcases hc with rfl |hc
     ·exact ntr c _ z
     ·exact ntr c _ hc
  ·have nb:b≠s.heap.objs.size:=by
    rcases qa5.mp hb with q |q
    ·rw [q];exact na.symm
    ·rw [qa4.mp q]
     obtain ⟨o,z,_⟩:=hit
     exact nal _ _ z
   rw [Av nb]
   exact (hf b hb).1
 done:=by
  intro X hP hw hK hc i pins s σ H E I hf st hg
  subst hP hw hK
  obtain ⟨⟨old,he⟩,hit⟩:=st
  obtain ⟨xs,hq,hi⟩:=hg
  obtain ⟨its,rv,p,hz⟩:=I.list hq
  have hT:s.heap.IsList t its.toArray:=p.isList
  have hl:=rv.length
  obtain ⟨i0,i1,i2,i3,i4,i5⟩:=hf it (by simp)
  have hin:i=its.toArray.size:=by rw [AX];omega
  refine wpAny_pyNext_enum_endD (Draws.list (A:=X.A.in1) (I.ok.hd hc) it t hti its.toArray) he (hin ▸ ⟨hit,hT⟩) fun h' eb=>⟨rfl,I.turned (t':=s.toks) (fun b o hb z=>eb b o hb z) i0 i1 i3 i4 i5⟩
 self:=fun A i s Q E st h=>by
  obtain ⟨⟨old,he⟩,_⟩:=st
  exact wpAny_pyIter_enum he h
section
variable {X:Cx} {E:XK}
theorem YU {elts:List Expr} {kt:Nat} {tpos p pos:Pos} {a:Expr} {ta:TA} (hg:Gl X "enumerate") (hm:X.mg "enumerate"=none) (ha:PA X [a] ta) (hs:starEach [a] X.env=[(false,eval a X.env)]:=by rfl):
 PI X (.Tuple elts kt tpos) (.Call (.Name "enumerate" p) [a] [] pos) (fun σ H R=>ta σ H fun vs H1=>(∃t xs,vs=[.ref t]∧SqT X.K H1 t xs∧R (Pb X.K t xs) H1)∨∃t xs,vs=[.ref t]∧SqL X.K H1 t xs∧R (PK X.K t) H1):=by
 intro pins s σ H R I h
 refine Call_ (FY I hg hm boot_enumerate (PyProof.Rows.callWith_type1 (Ay (ha pos pins s σ H _ I h) fun us s1 z1_=>?_) hs rfl))
 obtain ⟨vs,H1,I1,r1,q1⟩:=z1_
 rcases q1 with ⟨t,xs,e,hq,q⟩ |⟨t,xs,e,hq,q⟩
 ·subst e
  cases r1 with
  |cons r rr=>
   cases rr
   cases r
   obtain ⟨its,rv,p,hz⟩:=I1.tuple hq
   have hT:s1.heap.IsTuple t its.toArray:=p
   have hlt:t<s1.heap.objs.size:=p.lt
   refine X9 hT fun h' he hit hsz hk=>wpAny_pyIter_enum (s:={s1 with heap:=h'}) he ?_
   have I2:Inv X pins σ H1 {s1 with heap:=h'}:=I1.kept (t':=s1.toks) hk
   refine ⟨s1.heap.objs.size+1,[s1.heap.objs.size+1,s1.heap.objs.size],_,_,H1,rfl,I2,Yb (s1.heap.objs.size+1) s1.heap.objs.size t (Nat.succ_ne_self _) (BH (GG hlt)) (BH hlt) xs,⟨⟨.none,he⟩,hit⟩,fun b hb=>?_,q⟩
   rcases qa5.mp hb with z |z
   ·subst z;exact I1.fpOk (Nat.le_succ _) (I1.hok.fresh (Nat.le_succ _))
   ·rw [qa4] at z;subst z;exact I1.fpOk (Ax _) (I1.hok.fresh (Ax _))
 ·subst e
  cases r1 with
  |cons r rr=>
   cases rr
   cases r
   obtain ⟨its,rv,p,hz⟩:=I1.list hq
   have hT:s1.heap.IsList t its.toArray:=p.isList
   have hlt:t<s1.heap.objs.size:=by obtain ⟨_,z,_⟩:=hT;exact AF z
   refine call_enumerate_list hT fun h' he hit hsz hk=>wpAny_pyIter_enum (s:={s1 with heap:=h'}) he ?_
   have I2:Inv X pins σ H1 {s1 with heap:=h'}:=I1.kept (t':=s1.toks) hk
   refine ⟨s1.heap.objs.size+1,[s1.heap.objs.size+1,s1.heap.objs.size],_,_,H1,rfl,I2,YT (s1.heap.objs.size+1) s1.heap.objs.size t (Nat.succ_ne_self _) (BH (GG hlt)) (BH hlt),⟨⟨.none,he⟩,hit⟩,fun b hb=>?_,q⟩
   rcases qa5.mp hb with z |z
   ·subst z;exact I1.fpOk (Nat.le_succ _) (I1.hok.fresh (Nat.le_succ _))
   ·rw [qa4] at z;subst z;exact I1.fpOk (Ax _) (I1.hok.fresh (Ax _))
def Iq:List D→HD→Out (List D×A1):=fun ds h=>match ds with
 |[.tup xs]=>.ok (DP xs,[]) h
 |[.loc l]=>match h[l]? with
  |some (.lst xs)=>.ok (DP xs,[(l,xs)]) h
  |_=>.stuck
 |_=>.stuck
def Ir (fa:MA):MI:=fun ρ h=>(fa ρ h).bind Iq
theorem YV {elts:List Expr} {kt:Nat} {tpos p pos:Pos} {a:Expr} {fa:MA} (hg:Gl X "enumerate") (hm:X.mg "enumerate"=none) (ha:CA X E [a] fa) (hs:starEach [a] X.env=[(false,eval a X.env)]:=by rfl):
 Ec X E (.Tuple elts kt tpos) (.Call (.Name "enumerate" p) [a] [] pos) (Ir fa):=
 Ii (YU hg hm ha hs) fun σ H R ⟨m,ρ,h,hr,er,p⟩=>⟨m,ρ,h,hr,er,Post.bind p fun x h1 v m1 H1 eo p1 k1 hr1 r1 q1=>by
  clear eo
  unfold Iq at q1
  split at q1
  ·rename_i xs
   simp only [DK,DVs,DV] at r1
   obtain ⟨v,w,rfl,⟨a,vs,rfl,ha,dv⟩,rfl⟩:=r1
   refine .inl ⟨a,vs,rfl,SqT.of ha,q1 _ m1 H1 (AB _) (.refl _) hr1 fun i m2 h2 H2 p2 k2 hr2 _=>⟨fun hi=>?_,fun hi=>?_⟩⟩
   ·have hi':i<xs.length:=by simpa [DP] using hi
    refine ⟨⟨by rw [←dv.len];exact hi',SqT.of (k2 _ _ ha rfl)⟩,fun y H3 ⟨pp,vv,hp,ey,ev,eH⟩=>?_⟩
    subst ey eH
    have hd:xs[i]?=some xs[i]:=AQ hi'
    obtain ⟨v2,e2,r2⟩:=dv.get hd
    rw [ev] at e2
    cases e2
    refine ⟨.new hp,hr2.new hp,.tup [.int i,xs[i]],?_,?_⟩
    ·simp [DP,hd]
    ·simp only [DV]
     exact ⟨pp,_,rfl,BL,.cons (by simp [DV]) (.cons (DV.keep p2 (k2.trans (.new hp)) r2) .nil)⟩
   ·exact ⟨by rw [←dv.len];simpa [DP] using hi,SqT.of (k2 _ _ ha rfl)⟩
  ·rename_i l
   split at q1
   ·rename_i xs el
    simp only [DK,DVs,DV] at r1
    obtain ⟨v,w,rfl,⟨a,rfl,ha⟩,rfl⟩:=r1
    obtain ⟨vs,hv,dv⟩:=hr1.cells l _ a el ha
    refine .inr ⟨a,vs,rfl,SqL.of hv,q1 _ m1 H1 (AB _) (.refl _) hr1 fun i m2 h2 H2 p2 k2 hr2 hsr=>?_⟩
    obtain ⟨ws,hw,dw⟩:=hr2.cells l _ a (hsr _ AZ) (GQ p2 ha)
    refine ⟨fun hi=>?_,fun hi=>⟨ws,SqL.of hw,by rw [←dw.len];simpa [DP] using hi⟩⟩
    have hi':i<xs.length:=by simpa [DP] using hi
    refine ⟨⟨ws,SqL.of hw,by rw [←dw.len];exact hi'⟩,fun y H3 ⟨pp,vv,hp,ey,ev,eH⟩=>?_⟩
    subst ey eH
    have hd:xs[i]?=some xs[i]:=AQ hi'
    obtain ⟨v2,e2,r2⟩:=dw.get hd
    rw [ev ws (SqL.of hw)] at e2
    cases e2
    refine ⟨.new hp,hr2.new hp,.tup [.int i,xs[i]],?_,?_⟩
    ·simp [DP,hd]
    ·simp only [DV]
     exact ⟨pp,_,rfl,BL,.cons (by simp [DV]) (.cons (DV.keep (AB _) (.new hp) r2) .nil)⟩
   ·exact q1.elim
  ·exact q1.elim⟩
end
structure G5 (z TI TO p q:Addr) (f g:List Addr):Prop where
 a1:TI≠z
 a2:TO≠z
 a3:p≠z
 a4:q≠z
 a5:TI≠TO
 a6:TI≠p
 a7:TI≠q
 a8:TO≠p
 a9:TO≠q
 b1:p≠q
 b2:z∉f
 b3:z∉g
 b4:TO∉f
 b5:TO∉g
 b6:p∉g
 b7:q∉f
section
variable {prog:Program} {w:World} {A:Around} {E:Value→Shared→Prop} {s:Shared} {z TI TO p q:Addr} {f g:List Addr} {n1 n2 k:Nat} {P1 P2:Nat→Value→Prop} {S1 S2:Nat→Heap→Prop} {a b:Value}
end
open AutoSeq1 (wpAny_loadPart')
def ItAt:Bool→Heap→Addr→Addr→Nat→Prop
 |true,h,it,l,i=>h.IsTupleIter it l i
 |false,h,it,l,i=>h.IsListIter it l i
def SqA:Bool→Heap→Addr→Array Value→Prop
 |true,h,l,xs=>h.IsTuple l xs
 |false,h,l,xs=>h.IsList l xs
def Dv:Bool→PySem.W.Frag→Hp→Addr→List V→Prop
 |true,K,H,a,xs=>SqT K H a xs
 |false,K,H,a,xs=>SqL K H a xs
def Gj (k:Bool) (l:Addr):Obj:={cls:=.type (if k then "tuple_iterator" else "list_iterator"),data:=.fields #[.ref l,.int 0 0]}
theorem Kj {prog:Program} {w:World} {A:Around} (k:Bool) (hh:A.handled=none) (it l:Addr) (hne:l≠it) (items:Array Value):
 Draws prog w A it [it,l] items.size (fun i v=>items[i]?=some v) (fun i h=>ItAt k h it l i∧SqA k h l items):=by
 cases k
 ·exact Draws.list hh it l hne items
 ·exact L5 hh it l hne items
theorem ItAt.obj {k:Bool} {h:Heap} {it l:Addr} {i:Nat} (x:ItAt k h it l i):∃o,h.get? it=some o∧∀v,o.data≠.cell v:=by
 cases k
 ·obtain ⟨o,e,c,d⟩:=x
  exact ⟨o,e,fun v z=>by rw [d] at z;cases z⟩
 ·obtain ⟨o,e,c,d⟩:=x
  exact ⟨o,e,fun v z=>by rw [d] at z;cases z⟩
theorem ItAt.at {k:Bool} {h h':Heap} {it l:Addr} {i:Nat} (x:ItAt k h it l i) (f:∀o,h.get? it=some o→h'.get? it=some o):ItAt k h' it l i:=by
 cases k
 ·exact Heap.IsListIter.at x f
 ·exact Heap.IsTupleIter.at x f
section
variable {X:Cx} {pins:List (Addr×Obj)} {σ:L2.St} {H:Hp} {s:Shared}
theorem G6 {k:Bool} {a:Addr} {xs:List V} (I:Inv X pins σ H s) (h:Dv k X.K H a xs):∃its:List Value,Vals xs its∧SqA k s.heap a its.toArray∧a<s.heap.objs.size:=by
 cases k
 ·obtain ⟨its,r,p,_⟩:=I.list h
  have q:=p.isList
  exact ⟨its,r,q,by obtain ⟨_,e,_⟩:=q;exact AF e⟩
 ·obtain ⟨its,r,p,_⟩:=I.tuple h
  exact ⟨its,r,p,p.lt⟩
theorem PM {k:Bool} {a:Addr} {xs ys:List V} (I:Inv X pins σ H s) (h:Dv k X.K H a xs) (h':Dv k X.K H a ys):xs=ys:=by
 cases k
 ·exact I.list_inj h h'
 ·exact I.tuple_inj h h'
end
def PN (K:PySem.W.Frag) (k1 k2:Bool) (t u:Addr):It:=⟨fun i H=>∃xs ys,Dv k1 K H t xs∧Dv k2 K H u ys∧i<xs.length∧i<ys.length,
 fun i H x H'=>∃p v v',H p=none∧x=.ref p∧(∀xs:List V,Dv k1 K H t xs→xs[i]?=some v)∧(∀ys:List V,Dv k2 K H u ys→ys[i]?=some v')∧H'=Ao H p (.tup [v,v']),
 fun i H=>∃xs ys,Dv k1 K H t xs∧Dv k2 K H u ys∧(i=xs.length∨(i<xs.length∧i=ys.length))⟩
abbrev zA (h:Heap) (k1:Bool) (t:Addr):Heap:=h.push (Gj k1 t)
abbrev zB (h:Heap) (k1 k2:Bool) (t u:Addr):Heap:=(zA h k1 t).push (Gj k2 u)
abbrev zC (h:Heap) (k1 k2:Bool) (t u:Addr):Heap:=(zB h k1 k2 t u).push {cls:=.type "tuple",data:=.seq #[.ref h.objs.size,.ref (zA h k1 t).objs.size]}
abbrev zD (h:Heap) (k1 k2:Bool) (t u:Addr):Heap:=(zC h k1 k2 t u).push {cls:=.type "tuple",data:=.seq #[.none,.none]}
abbrev zE (h:Heap) (k1 k2:Bool) (t u:Addr):Heap:=(zD h k1 k2 t u).push {cls:=.type "zip",data:=.fields #[.none,.bool false,.bool false,.ref (zB h k1 k2 t u).objs.size,.ref (zC h k1 k2 t u).objs.size]}
theorem SqA.push {k:Bool} {h:Heap} {l:Addr} {xs:Array Value} (x:SqA k h l xs) (o:Obj):SqA k (h.push o) l xs:=by
 cases k
 ·exact Heap.IsList.push x o
 ·exact Heap.IsTuple.push x o
theorem PP {prog:Program} {w:World} {A:Around} {E:Value→Shared→Prop} {s:Shared} {k:Bool} {l:Addr} {xs:Array Value} {Q:Value→Shared→Prop} (x:SqA k s.heap l xs) (hQ:Q (.ref s.heap.objs.size) {s with heap:=s.heap.push (Gj k l)}):
 wpAny (model prog w) A (pyIter (.ref l)) Q E s:=by
 cases k
 ·exact wpAny_pyIter_list x hQ
 ·exact wpAny_pyIter_tuple x hQ
theorem YW (k1 k2:Bool) (t u:Addr) (xs ys:Array Value):
 Meets (Builtin.«zip.__new__» ⟨[.type "zip",.ref t,.ref u],[]⟩) (fun _ R s=>SqA k1 s.heap t xs∧SqA k2 s.heap u ys∧
  R (.ok (.ret (.ref (zD s.heap k1 k2 t u).objs.size))) {s with heap:=zE s.heap k1 k2 t u}):=
 .of_wp fun prog w A R s h=>by
  obtain ⟨hp,g,d,tk,os⟩:=s;obtain ⟨hl1,hl2,h⟩:=h
  have hsub:=sub_zip
  have hL1:SqA k1 (Shared.heap ⟨hp,g,d,tk,os⟩) t xs:=hl1
  have hL2:SqA k2 (Shared.heap ⟨hp.push (Gj k1 t),g,d,tk,os⟩) u ys:=SqA.push hl2 _
  wp_walk using PP hL1,PP hL2
  exact ⟨_,rfl,h⟩
theorem ItAt.new {k:Bool} {h:Heap} {it l:Addr} (e:h.get? it=some (Gj k l)):ItAt k h it l 0:=by
 cases k
 ·exact ⟨_,e,rfl,rfl⟩
 ·exact ⟨_,e,rfl,rfl⟩
theorem YX {prog:Program} {w:World} {A:Around} {E:Value→Shared→Prop} {s:Shared} {k1 k2:Bool} {t u:Addr} {xs ys:Array Value} {Q:Value→Shared→Prop} (h1:SqA k1 s.heap t xs) (h2:SqA k2 s.heap u ys)
 (h:∀h',IsZip h' (s.heap.objs.size+4) (s.heap.objs.size+2) (s.heap.objs.size+3) .none→IsPair h' (s.heap.objs.size+2) (.ref s.heap.objs.size) (.ref (s.heap.objs.size+1))→
  IsPair h' (s.heap.objs.size+3) .none .none→ItAt k1 h' s.heap.objs.size t 0→ItAt k2 h' (s.heap.objs.size+1) u 0→(∀c o,s.heap.get? c=some o→h'.get? c=some o)→Q (.ref (s.heap.objs.size+4)) {s with heap:=h'}):
 wpAny (model prog w) A (call (.type "zip") [.ref t,.ref u]) Q E s:=by
 refine callType_new F.called_zip (by decide) (F.typeCall_zip_2 _ _) (F.newCall_zip_2 _ _) (fun obj=>F.args_object_init_3 obj _ _) F.entry_zip_new
  (YW k1 k2 t u xs ys) ⟨h1,h2,?_⟩
 have y1:(zA s.heap k1 t).objs.size=s.heap.objs.size+1:=CI ..
 have y2:(zB s.heap k1 k2 t u).objs.size=s.heap.objs.size+2:=by rw [CI,y1]
 have y3:(zC s.heap k1 k2 t u).objs.size=s.heap.objs.size+3:=by rw [CI,y2]
 have y4:(zD s.heap k1 k2 t u).objs.size=s.heap.objs.size+4:=by rw [CI,y3]
 have g5:(zE s.heap k1 k2 t u).get? (zD s.heap k1 k2 t u).objs.size=some _:=Bi _ rfl
 have g4:(zE s.heap k1 k2 t u).get? (zC s.heap k1 k2 t u).objs.size=some _:=AG _ (Bi _ rfl)
 have g3:(zE s.heap k1 k2 t u).get? (zB s.heap k1 k2 t u).objs.size=some _:=AG _ (AG _ (Bi _ rfl))
 have g2:(zE s.heap k1 k2 t u).get? (zA s.heap k1 t).objs.size=some (Gj k2 u):=AG _ (AG _ (AG _ (Bi _ rfl)))
 have g1:(zE s.heap k1 k2 t u).get? s.heap.objs.size=some (Gj k1 t):=AG _ (AG _ (AG _ (AG _ (Bi _ rfl))))
 show _∧_
 rw [y2,y3,y4] at g5
 rw [y1,y2] at g3
 rw [y3] at g4
 rw [y1] at g2
 rw [y4]
 exact ⟨⟨_,g5,rfl⟩,h _ g5 g3 g4 (.new g1) (.new g2) fun c o x=>AG _ (AG _ (AG _ (AG _ (AG _ x))))⟩
section
variable {X:Cx} {E:XK}
def Dw (xs ys:List D):List D:=List.zipWith (fun a b=>.tup [a,b]) xs ys
def Eh:D→HD→Option (List D×A1)
 |.tup xs,_=>some (xs,[])
 |.loc l,h=>match h[l]? with
  |some (.lst xs)=>some (xs,[(l,xs)])
  |_=>none
 |_,_=>none
def G7:List D→HD→Out (List D×A1):=fun ds h=>match ds with
 |[x,y]=>match Eh x h,Eh y h with
  |some (xs,s1),some (ys,s2)=>.ok (Dw xs ys,s1++s2) h
  |_,_=>.stuck
 |_=>.stuck
def G8 (fa:MA):MI:=fun ρ h=>(fa ρ h).bind G7
theorem PQ {m:List Addr} {h:HD} {d:D} {v:V} {H:Hp} {xs:List D} {sr:A1} (hr:HR X.K m h H) (r:DV X.K m H d v) (e:Eh d h=some (xs,sr)):
 ∃k t,v=.ref t∧∀m2 h2 H2,m <+:m2→Kp H H2→HR X.K m2 h2 H2→(∀p∈sr,h2[p.1]?=some (.lst p.2))→∃vs,Dv k X.K H2 t vs∧DVs X.K m2 H2 xs vs:=by
 cases d with
 |tup zs=>
  simp only [Eh,Option.some.injEq,Prod.mk.injEq] at e
  obtain ⟨rfl,rfl⟩:=e
  simp only [DV] at r
  obtain ⟨a,vs,rfl,ha,dv⟩:=r
  exact ⟨true,a,rfl,fun m2 h2 H2 p2 k2 hr2 _=>⟨vs,SqT.of (k2 _ _ ha rfl),dv.keep p2 k2⟩⟩
 |loc l=>
  simp only [Eh] at e
  split at e
  ·rename_i zs el
   simp only [Option.some.injEq,Prod.mk.injEq] at e
   obtain ⟨rfl,rfl⟩:=e
   simp only [DV] at r
   obtain ⟨a,rfl,ha⟩:=r
   refine ⟨false,a,rfl,fun m2 h2 H2 p2 k2 hr2 hs=>?_⟩
   obtain ⟨ws,hw,dw⟩:=hr2.cells l _ a (hs _ AZ) (GQ p2 ha)
   exact ⟨ws,SqL.of hw,dw⟩
  ·cases e
 |_=>simp [Eh] at e
theorem PR {h:HD} {d:D} {xs:List D} {sr:A1} (e:Eh d h=some (xs,sr)):∀p∈sr,h[p.1]?=some (.lst p.2):=by
 cases d with
 |tup zs=>
  simp only [Eh,Option.some.injEq,Prod.mk.injEq] at e
  obtain ⟨rfl,rfl⟩:=e
  exact fun p hp=>nomatch hp
 |loc l=>
  simp only [Eh] at e
  split at e
  ·rename_i zs el
   simp only [Option.some.injEq,Prod.mk.injEq] at e
   obtain ⟨rfl,rfl⟩:=e
   intro p hp
   rw [qa4] at hp
   subst hp
   exact el
  ·cases e
 |_=>simp [Eh] at e
end
end LS
namespace LS
open PySem PySem.Spec PyProof.Rows L2
section
variable {ρ:Ah} {h:HD} {QI:(List D×A1)→HD→Prop} {Q:D→HD→Prop} {QO:Option Int→HD→Prop} {QS:Fl×Ah→HD→Prop} {f fo fi fv:ME} {lo hi:MO} {fa:MA}
@[simp] theorem YY:Wp (Ir fa ρ h) QI=Wp (fa ρ h) fun d h1=>Wp (Iq d h1) QI:=by unfold Ir;rw [Az]
@[simp] theorem Zew:Wp (G8 fa ρ h) QI=Wp (fa ρ h) fun d h1=>Wp (G7 d h1) QI:=by unfold G8;rw [Az]
@[simp] theorem Zex:Wp (PC f lo hi ρ h) Q=Wp (f ρ h) fun x h1=>Wp (lo ρ h1) fun l h2=>Wp (hi ρ h2) fun u h3=>Wp (PB x l u h3) Q:=by unfold PC;simp only [Az]
@[simp] theorem Zey:Wp (AL ρ h) QO=QO none h:=id rfl
@[simp] theorem Zez:Wp (AJ f ρ h) QO=Wp (f ρ h) fun x h1=>Wp (match x with
  |.int i=>(.ok (some i) h1:Out (Option Int))
  |_=>.stuck) QO:=by unfold AJ;rw [Az]<;>rfl
@[simp] theorem ZeA:Wp (PH fo fi fv ρ h) QS=Wp (fo ρ h) fun o h1=>Wp (fi ρ h1) fun i h2=>Wp (PF o i h2) fun x h3=>Wp (fv ρ h3) fun y h4=>Wp (PD o i x y ρ h4) QS:=by unfold PH;simp only [Az]
theorem YZ {n:Nat} {e:Nat→D}:DP ((List.range n).map e)=(List.range n).map fun k=>D.tup [.int ((k:Nat):Int),e k]:=by
 unfold DP
 apply List.ext_getElem
 ·simp
 ·intro i h1 h2;simp
theorem Y0 {n:Nat} {e:Nat→D}:Iq [.tup ((List.range n).map e)] h=.ok ((List.range n).map fun k=>D.tup [.int ((k:Nat):Int),e k],[]) h:=by
 simp only [Iq,YZ]
theorem G9 {l:Nat} {ds:List D} (e:h[l]?=some (.lst ds)):Gb (.loc l) h=.ok (ds,[(l,ds)]) h:=by
 simp only [Gb,Bg,e,OU]
theorem Mq {l:Nat} {ds:List D} (e:h[l]?=some (.lst ds)):B5 (.loc l) h=.ok (.int ds.length) h:=by
 simp only [B5,Bg,e]
end
noncomputable def Mr (cs:List (Option Nat)) (it:MI) (sg:MG) (t:MT) (f:ME):ME:=Ae (Aw G0) (Ab (AY cs it sg t f) Ac)
noncomputable def Y1 (F:List Int→Int) (cs:List (Option Nat)) (it:MI) (sg:MG) (t:MT) (f:ME):ME:=Ae (Aw (PJ F)) (Ab (AY cs it sg t f) Ac)
section
variable {α:Type} {cs:List (Option Nat)} {it:MI} {sg:MG} {t:MT} {f:ME} {ρ:Ah} {h:HD} {src:A1} {xs:List α} {φ:α→D} {F:List Int→Int}
@[simp] theorem ZeB:Ae (Aw G0) (Ab (AY cs it sg t f) Ac) ρ h=Mr cs it sg t f ρ h:=rfl
@[simp] theorem ZeC:Ae (Aw (PJ F)) (Ab (AY cs it sg t f) Ac) ρ h=Y1 F cs it sg t f ρ h:=rfl
theorem Y2 (n:α→Int) (ρ1:α→Ah) (hi:FB (it ρ h) h (xs.map φ) src) (hg:∀x∈xs,sg (φ x) (Cs cs ρ)=some (ρ1 x)) (hf:∀x∈xs,∀h',Sm h h'→Pu (f (ρ1 x) h') h' (.int (n x))) (hn:xs.length≤sizeLine):
 Pu (Mr cs it sg Bw f ρ h) h (.int (xs.map n).sum):=by
 unfold Pu Mr
 rw [J5,Gg]
 refine EW (fun _=>true) (fun x=>.int (n x)) ρ1 hi hn hg (fun x hx h' s'=>(.ok:Pu (.ok true h') h' true)) (fun x hx _ h' s'=>hf x hx h' s') fun l h' s' e'=>?_
 rw [G3] at e'
 rw [FA]
 simp only [Aw,G0,Bg,e',Cy]
 rw [Ee (f:=Gd∘fun x=>D.int (n x)) (g:=n) (fun x _=>rfl)]
 exact ⟨rfl,s'⟩
end
def FD (t:MT) (g:MS):Nat→MS
 |0=>fun _ _=>.stuck
 |n+1=>fun ρ h=>(t ρ h).bind fun b h1=>if b=true then (g ρ h1).bind (fun x h2=>match x with
   |(.nx,ρ2)=>FD t g n ρ2 h2
   |(.ct,ρ2)=>FD t g n ρ2 h2
   |(.bk,ρ2)=>.ok (.nx,ρ2) h2
   |(.rt d,ρ2)=>.ok (.rt d,ρ2) h2) else .ok (.nx,ρ) h1
def Kk (t:MT) (g:MS):MS:=FD t g 100000
section
variable {X:Cx} {E:XK}
theorem Y3 {c:Expr} {body:List Stmt} {t:MT} {g:MS} {pos:Pos} (hp:PassesOwn (model X.prog X.w) X.A X.env X.xe) (hc:Dg X E c t) (hb:CB X E body g):Ex X E (.While c body [] pos) (Kk t g):=by
 refine DL (U6 hp hc hb) fun Dn σ H z1_=>?_
 obtain ⟨m,ρ,h,hr,er,p⟩:=z1_
 unfold Kk at p
 generalize (100000:Nat)=N at p
 refine ⟨fun n σ H=>∃m ρ h,HR X.K m h H∧ER X.K m H ρ σ∧PostS X.K m H E Dn (FD t g n ρ h),⟨N,m,ρ,h,hr,er,p⟩,?_⟩
 rintro n σ H ⟨m,ρ,h,hr,er,p⟩
 cases n with
 |zero=>exact p.elim
 |succ n=>
  unfold FD at p
  refine ⟨m,ρ,h,hr,er,PostS.bind p fun b h1 v m1 H1 eo p1 k1 hr1 r1 q1=>?_⟩
  clear eo
  cases r1
  cases b with
  |false=>
   rw [if_neg Bf] at q1 ⊢
   exact (q1.here hr1) σ (er.keep p1 k1)
  |true=>
   rw [if_pos rfl] at q1 ⊢
   refine ⟨fun σ' H'=>∃m ρ h,HR X.K m h H'∧ER X.K m H' ρ σ'∧PostS X.K m H' E Dn (FD t g n ρ h),fun σ' H' z=>⟨n,HG _,z⟩,m1,ρ,h1,hr1,er.keep p1 k1,?_⟩
   cases o:g ρ h1 with
   |stuck=>rw [o] at q1;exact q1
   |err C fs h5=>rw [o] at q1;exact q1
   |ok z h5=>
    rw [o] at q1
    obtain ⟨fl,ρ5⟩:=z
    intro m5 H5 p5 k5 hr5
    cases fl with
    |nx=>exact fun σ5 er5=>⟨m5,ρ5,h5,hr5,er5,PostS.ahead p5 k5 q1⟩
    |ct=>exact fun σ5 er5=>⟨m5,ρ5,h5,hr5,er5,PostS.ahead p5 k5 q1⟩
    |bk=>exact fun σ5 er5=>q1 m5 H5 p5 k5 hr5 σ5 er5
    |rt d=>exact fun v rv=>q1 m5 H5 p5 k5 hr5 v rv
end
theorem Ms {t:MT} {g:MS} {Q:Fl×Ah→HD→Prop} (I:Nat→Ah→HD→Prop)
 (step:∀m ρ h,I m ρ h→Wp (t ρ h) fun b h1=>if b=true then Wp (g ρ h1) (Bh (fun ρ2 h2=>∃m',m' < m∧I m' ρ2 h2) Q) else Q (.nx,ρ) h1):∀(n m:Nat) (ρ:Ah) (h:HD),m<n→I m ρ h→Wp (FD t g n ρ h) Q
 |0,m,ρ,h,hm,_=>by omega
 |n+1,m,ρ,h,hm,i=>by
  unfold FD
  rw [Az]
  refine Wp.mono (step m ρ h i) fun b h1 w=>?_
  cases b with
  |false=>rw [if_neg Bf] at w ⊢;exact w
  |true=>
   rw [if_pos rfl] at w ⊢
   rw [Az]
   refine Wp.mono w fun x h2 k=>?_
   obtain ⟨fl,ρ2⟩:=x
   cases fl with
   |nx=>obtain ⟨m',h1,h2⟩:=k;exact Ms I step n m' _ _ (by omega) h2
   |ct=>obtain ⟨m',h1,h2⟩:=k;exact Ms I step n m' _ _ (by omega) h2
   |bk=>exact k
   |rt d=>exact k
theorem Y4 {t:MT} {g:MS} {ρ:Ah} {h:HD} {Q:Fl×Ah→HD→Prop} (I:Nat→Ah→HD→Prop) (m:Nat) (hm:m<100000) (i:I m ρ h)
 (step:∀m ρ h,I m ρ h→Wp (t ρ h) fun b h1=>if b=true then Wp (g ρ h1) (Bh (fun ρ2 h2=>∃m',m' < m∧I m' ρ2 h2) Q) else Q (.nx,ρ) h1):Wp (Kk t g ρ h) Q:=
 Ms I step _ m ρ h hm i
section
variable {X:Cx}
theorem Y5 (hc:X.calm=true):De X (.builtin "any") (fun xs H Q=>∃(p:Addr) (bs:List Bool),xs=[.ref p]∧SqL X.K H p (bs.map V.bl)∧Q (.bl (bs.any id)) H):=by
 intro pins s σ H xs us Q I r h
 obtain ⟨p,bs,rfl,hs,q⟩:=h
 obtain ⟨u,rfl,rx⟩:=DH r
 cases rx
 have hh:X.A.in1.handled=none:=I.ok.hd hc
 obtain ⟨its,rv,pl,hz⟩:=I.list hs
 have hl:=rv.length
 rw [Bc] at hl
 have hlt:p<s.heap.objs.size:=by obtain ⟨_,e,_⟩:=pl.isList;exact AF e
 have item:∀(i:Nat) (v:Value),its.toArray[i]?=some v→v=.bool (bs.getD i false):=fun i v e=>by
  have e':its[i]?=some v:=by simpa using e
  have hi:i<its.length:=(qa3.mp e').1
  have hn:(bs.map V.bl)[i]?=some (V.bl (bs.getD i false)):=by
   rw [B8,AQ (by omega)]
   simp [Fb,AQ (show i<bs.length by omega)]
  obtain ⟨u,h1,h2⟩:=rv.get hn
  rw [e'] at h1
  cases h1
  exact h2
 refine call_any_walk (wpAny_pyIter_list pl.isList ?_)
 refine ⟨s.heap.objs.size,[s.heap.objs.size,p],[s.heap.objs.size],its.toArray.size,_,_,fun i=>bs.getD i false,rfl,Walks.list (A:=X.A.in1) hh _ p (BH hlt) its.toArray,⟨⟨_,Bi _ rfl,rfl,rfl⟩,pl.isList.push _⟩,fun i v s' Q' E' e hQ=>?_,fun h' tk hk=>?_⟩
 ·rw [item i v e]
  exact wpAny_truthy_bool hQ
 ·have e:(List.range its.toArray.size).any (fun i=>bs.getD i false)=bs.any id:=by
   rw [AX,←hl]
   apply qaU.mpr
   simp only [qb4,qbR,id]
   constructor
   ·rintro ⟨i,hi,h⟩
    refine ⟨bs[i],DY hi,?_⟩
    simpa [Fb,AQ hi] using h
   ·rintro ⟨b,hb,h⟩
    obtain ⟨i,hi,rfl⟩:=HB hb
    refine ⟨i,hi,?_⟩
    simpa [Fb,AQ hi] using h
  rw [e]
  exact ⟨.bl _,H,I.kept (J0 (fun b o e=>AG _ e) (Ax _) hk),rfl,q⟩
def Ha:D→HD→Out D:=fun x h=>match x with
 |.loc l=>match h[l]? with
  |some (.lst ds)=>match AC (ds.map Ge) with
   |some bs=>.ok (.bl (bs.any id)) h
   |none=>.stuck
  |_=>.stuck
 |_=>.stuck
theorem Y6 (hc:X.calm=true):CC X (.builtin "any") (Aw Ha):=by
 refine ⟨_,Y5 hc,fun m H h E ds vs Q hr r q=>EN r q fun d v ev rv q=>?_⟩
 unfold Ha at q
 split at q
 ·rename_i l
  split at q
  ·rename_i xs el
   split at q
   ·rename_i bs eb
    simp only [DV] at rv
    obtain ⟨a,rfl,ha⟩:=rv
    obtain ⟨ws,hv,dv⟩:=hr.cells _ _ a el ha
    have:=L4 dv eb
    subst this
    exact ⟨a,bs,ev,SqL.of hv,A5 hr q (by simp [DV])⟩
   ·exact q.elim
  ·exact q.elim
 ·exact q.elim
end
noncomputable def Mt (cs:List (Option Nat)) (it:MI) (sg:MG) (t:MT) (f:ME):ME:=Ae (Aw Ha) (Ab (AY cs it sg t f) Ac)
section
variable {α:Type} {cs:List (Option Nat)} {it:MI} {sg:MG} {t:MT} {f:ME} {ρ:Ah} {h:HD} {src:A1} {xs:List α} {φ:α→D}
@[simp] theorem ZeD:Ae (Aw Ha) (Ab (AY cs it sg t f) Ac) ρ h=Mt cs it sg t f ρ h:=rfl
theorem Y7 (b:α→Bool) (ρ1:α→Ah) (hi:FB (it ρ h) h (xs.map φ) src) (hg:∀x∈xs,sg (φ x) (Cs cs ρ)=some (ρ1 x)) (hf:∀x∈xs,∀h',Sm h h'→Pu (f (ρ1 x) h') h' (.bl (b x))) (hn:xs.length≤sizeLine):
 Pu (Mt cs it sg Bw f ρ h) h (.bl (xs.any b)):=by
 unfold Pu Mt
 rw [J5,Gg]
 refine EW (fun _=>true) (fun x=>.bl (b x)) ρ1 hi hn hg (fun x hx h' s'=>(.ok:Pu (.ok true h') h' true)) (fun x hx _ h' s'=>hf x hx h' s') fun l h' s' e'=>?_
 rw [FA]
 rw [G3] at e'
 simp only [Aw,Ha,e',Cy]
 rw [Ee (f:=Ge∘fun x=>D.bl (b x)) (g:=b) (fun x _=>rfl)]
 refine ⟨?_,s'⟩
 simp [List.any_map]
end
end LS
namespace LK
open LS
def Y8 (n:Nat) (r:Nat→Bool):Int:=((List.range n).map fun j=>if r j then (1:Int) else 0).sum
def cc (H:Nat) (f:Nat→Nat→Bool) (R:Nat→Bool) (j:Nat):Int:=Y8 H fun i=>Bool.xor (f i j) (R i)
def Y9 (W:Nat) (H:Int) (c:Nat→Int) (C:Nat→Bool):Int:=((List.range W).map fun j=>if C j then H - c j else c j).sum
def Za (W:Nat) (H:Int) (c:Nat→Int):Int:=((List.range W).map fun j=>if H - c j<c j then H - c j else c j).sum
def TT (H W:Nat) (f:Nat→Nat→Bool) (R C:Nat→Bool):Int:=Y9 W H (cc H f R) C
def ext (n:Nat) (R:Nat→Bool):Nat→Bool:=fun i=>if i=n then true else R i
def LL (s:Nat):Nat→List (Nat→Bool)
 |0=>[fun _=>false]
 |k+1=>LL s k++(LL s k).map (ext (s+k))
theorem Hb {s:Nat}:∀{k:Nat} {R:Nat→Bool},R∈LL s k→∀i,i<s∨s+k≤i→R i=false
 |0,R,h,i,_=>by
  simp only [LL,qa4] at h
  subst h;rfl
 |k+1,R,h,i,hi=>by
  rcases qaG.mp h with z |z
  ·exact Hb z i (by omega)
  ·obtain ⟨R',z1,rfl⟩:=qaL.mp z
   unfold ext
   rw [if_neg (by omega)]
   exact Hb z1 i (by omega)
theorem PU {s:Nat} (R:Nat→Bool):∀k:Nat,∃R'∈LL s k,∀i,s≤i→i<s+k→R' i=R i
 |0=>⟨_,AZ,fun i h1 h2=>by omega⟩
 |k+1=>by
  obtain ⟨R',h1,h2⟩:=PU R k
  cases e:R (s+k) with
  |false=>
   refine ⟨R',Cj _ h1,fun i hi hi2=>?_⟩
   by_cases hz:i=s+k
   ·rw [hz,e];exact Hb h1 _ (by omega)
   ·exact h2 i hi (by omega)
  |true=>
   refine ⟨ext (s+k) R',Be _ (qaL.mpr ⟨R',h1,rfl⟩),fun i hi hi2=>?_⟩
   unfold ext
   by_cases hz:i=s+k
   ·rw [if_pos hz,hz,e]
   ·rw [if_neg hz];exact h2 i hi (by omega)
theorem PV {s:Nat}:∀k,(LL s k).length=2^k
 |0=>rfl
 |k+1=>by simp only [LL,CY,Bc,PV k];omega
def ZeE (H W:Nat) (f:Nat→Nat→Bool):Int:=YS ((LL 1 (H - 1)).map fun R=>Za W H (cc H f R))
def Zb (L:List Int) (k:Int):Int:=(L.map fun x=>if x=k then (1:Int) else 0).sum
def hk (H W:Nat) (f:Nat→Nat→Bool) (k:Int) (R:Nat→Bool):Int:=Zb ((LL 0 W).map (TT H W f R)) k
def NN (H W:Nat) (f:Nat→Nat→Bool) (k:Int):Int:=((LL 1 (H - 1)).map (hk H W f k)).sum
theorem Zc {n:Nat} (C:Nat→Bool):∃C'∈LL 0 n,∀j,j<n→C' j=C j:=by
 obtain ⟨C',h1,h2⟩:=PU (s:=0) C n
 exact ⟨C',h1,fun j hj=>h2 j (by omega) (by omega)⟩
end LK
namespace LS
open PySem PySem.Spec PyProof.Rows L2 PySem.W
structure EC (K:Frag) (C:Addr):Prop where
 ga:findIn K (.ref C) "__getattribute__"=some (some (.builtin "BaseException.__getattribute__"))
 gt:findIn K (.ref C) "__getattr__"=some none
 cl:(clsIn K C).isSome=true
 ac:findIn K (.ref C) "__class__"=some (some (.builtin "object.__class__"))
 sg:specialIn K (.builtin "object.__class__") "__get__"=some (some (.builtin "getset_descriptor.__get__"))
 tk:takesIn K (.builtin "object.__class__")=some true
 mo:mroIn K C (.type "object")=some true
 mb:mroIn K C (.type "BaseException")=some true
section
variable {prog:Program} {w:World} {A:Around} {E:Value→Shared→Prop} {s:Shared} {K:Frag} {x C:Addr} {ox:Obj} {od:Option Obj}
def TyAt (x C:Addr) (h:Heap):Prop:=∃o,h.get? x=some o∧o.cls=.ref C
theorem TyAt.type {M:Model} {h:Heap} (t:TyAt x C h):Looks M h (typeOf (.ref x)) (.ref C):=by
 obtain ⟨o,h1,h2⟩:=t
 exact h2 ▸ (Looks.ld h1).andThen .now
theorem Zd {M:Model} {h:Heap} (c:EC K C) (X:K.In h):Looks M h (Builtin.ObjectAttr.find (.ref x) (.ref C) "__class__") (.bind (.builtin "getset_descriptor.__get__") (.builtin "object.__class__")):=by
 have L1:=looks_findIn (M:=M) X c.ac
 have L2:Looks M h (Builtin.ObjectAttr.getOf (some (.builtin "object.__class__"))) (some (.builtin "getset_descriptor.__get__")):=looks_specialIn X c.sg
 have L3:=looks_takesIn (M:=M) X c.tk
 refine L1.andThen (L2.andThen ?_)
 exact (show Looks M h (Builtin.ObjectAttr.dataDescriptor? (some (.builtin "object.__class__")) (some (.builtin "getset_descriptor.__get__"))) (some (.builtin "getset_descriptor.__get__",.builtin "object.__class__")) from L3.andThen .now).andThen (Looks.tag .now)
theorem Ze {R:Result→Shared→Prop} {tp:Value} (X:K.In s.heap) (I:TyAt x C s.heap) (hm:mroIn K C (.type "object")=some true)
 (h:R (.ok (.ret (.ref C))) s):codeAny (model prog w) A (.call (.builtin "getset_descriptor.__get__") ⟨[.builtin "object.__class__",.ref x,tp],[]⟩) R s:=by
 obtain ⟨hh,g,dr,t,os⟩:=s
 have L0:=I.type (M:=model prog w)
 have L1:=looks_mroIn (M:=model prog w) X hm
 refine codeAny_call_builtin KF.slot_gs.plain KF.entry_gs (KF.slot_gs.check _ _ _ _ _ _ _ _ KF.type_class (KF.args_gs _ _ _) ?_)
 unfold Builtin.«getset_descriptor.__get__» Builtin.Getset_descriptor.descrGet
 rw [dga_obj]
 refine wpAny_bind (wpAny_pure ?_)
 unfold Builtin.Getset_descriptor.descrGetter Builtin.Getset_descriptor.descrCheckInstance Builtin.Getset_descriptor.descrNameAndClass isInstance
 simp only [KF.owner_class]
 repeat lk
 refine ⟨Code.quiet_builtin _ (by decide +kernel),codeAny_builtin KF.entry_class ?_⟩
 unfold Builtin.«object.__class__» shownTypeOf
 repeat lk
 exact h
theorem Zf {Q:Option Value→Shared→Prop} (c:EC K C) (X:K.In s.heap) (I:TyAt x C s.heap) (h:Q (some (.ref C)) {s with toks:=s.toks+1}):wpAny (model prog w) A (getAttr? (.ref x) "__class__") Q E s:=by
 obtain ⟨hh,g,d,t,os⟩:=s
 have L0:=I.type (M:=model prog w)
 have L1:=looks_findIn (M:=model prog w) X c.ga
 have L2:=looks_findIn (M:=model prog w) X c.gt
 have LF:=Zd (M:=model prog w) (x:=x) c X
 have LB:=looks_mroIn (M:=model prog w) X c.mb
 have ha:=F.args_bexc_ga (.ref x) (.str "__class__" t)
 have hk:builtinKind "BaseException.__getattribute__"=some .slot:=by decide +kernel
 have hsplit:splitId "BaseException.__getattribute__"=some ("BaseException","__getattribute__"):=by decide +kernel
 have hx2:(Value.builtin "BaseException.__getattribute__"==Value.builtin "object.__getattribute__")=false:=by decide +kernel
 have hx1:(onTheHeap (Value.ref C)&&Value.builtin "BaseException.__getattribute__"==Value.builtin "object.__getattribute__")=false:=by rw [hx2];rfl
 unfold getAttr? getAttrBy? getAttrBy
 refine wpAny_bind (wpAny_mkText (wpAny_bind (wpAny_attempt (wpAny_holding (wpAny_bind (L0.at (wpAny_bind (L1.at ?_))))))))
 dsimp only
 rw [hx1]
 simp only [CH,if_false]
 unfold getAttrByItsOwn hookBefore
 refine wpAny_bind ?_
 show wpAny _ _ (typeLookup (.ref C) "__getattr__") _ _ _
 refine L2.at ?_
 refine wpAny_bind (wpAny_attempt (wpAny_holding ?_))
 unfold callGetattribute boundAndCalled
 simp only [GJ,CH,if_false]
 rw [PySem.F.attr_ValueError.ga.bind (.ref x)]
 refine wpAny_bind (wpAny_pure (wpAny_call (codeAny_call_builtin PySem.F.attr_ValueError.ga.plain F.entry_bexc_ga ?_)))
 simp only [checkBuiltinCall,hk,hsplit]
 refine wpAny_bind ?_
 unfold isInstance
 refine wpAny_bind (L0.at (LB.at ?_))
 wp_step
 unfold Builtin.«object.__getattribute__»
 repeat lk
 refine wpAny_run (Ze (s:=⟨hh,g,d,t+1,os⟩) X I c.mo ?_) (by intro z;cases z)
 refine wpAny_pure (wpAny_pure ?_)
 exact handed_on rfl (wpAny_pure h)
theorem Zg (c:EC K C):KitX K (.ref x) (.ref C) (TyAt x C) where
 ty:=fun _ _ _ I=>I.type
 it:=fun _ _ X _=>by
  obtain ⟨cdD,hcD⟩:=qc4.mp c.cl
  unfold clsIn at hcD
  split at hcD
  ·rename_i c' d' cd' sl' ho
   intro A' Q' E' s' k q
   unfold isType loadHead
   exact wpAny_bind (wpAny_loadPart (k _ _ (X _ _ ho)) (wpAny_pure q))
  ·cases hcD
 ne:=fun h tp dd its n sl X htp=>by
  obtain ⟨cdD,hcD⟩:=qc4.mp c.cl
  refine Bool.eq_false_iff.mpr fun q=>?_
  have e:C=tp:=Value.ref.inj (beq_iff_eq.mp q)
  subst e
  unfold clsIn at hcD
  split at hcD
  ·rename_i c' d' cd' sl' ho
   have z:=(X _ _ ho).symm.trans htp
   cases z
  ·cases hcD
 ca:=fun X I k=>Zf c X I k
end
def excNames:List Str:=["NoBoard","NoLine","NoSwitching","NoNumber","Unlike","NoNet","NoPlace","NoText","NoRow","TooMany","SwitchError"]
def BI (n n':Str):Bool:=n==n'||n'=="SwitchError"
def Mu (K:Frag) (C:Addr):Bool:=
 findIn K (.ref C) "__getattribute__"==some (some (.builtin "BaseException.__getattribute__"))&&findIn K (.ref C) "__getattr__"==some none&&(clsIn K C).isSome&&
 findIn K (.ref C) "__class__"==some (some (.builtin "object.__class__"))&&specialIn K (.builtin "object.__class__") "__get__"==some (some (.builtin "getset_descriptor.__get__"))&&
 takesIn K (.builtin "object.__class__")==some true&&mroIn K C (.type "object")==some true&&mroIn K C (.type "BaseException")==some true
theorem Zh {K:Frag} {C:Addr} (h:Mu K C=true):EC K C:=by
 unfold Mu at h
 simp only [BS,beq_iff_eq] at h
 obtain ⟨⟨⟨⟨⟨⟨⟨h1,h2⟩,h3⟩,h4⟩,h5⟩,h6⟩,h7⟩,h8⟩:=h
 exact ⟨h1,h2,h3,h4,h5,h6,h7,h8⟩
def Ei (K:Frag) (n:Str):Option Addr:=match nsIn K mainGlobals n with
 |some (some (.ref C))=>some C
 |_=>none
theorem PX {K:Frag} {n:Str} {C:Addr} (h:Ei K n=some C):nsIn K mainGlobals n=some (some (.ref C)):=by
 unfold Ei at h
 split at h
 ·rename_i e;cases h;exact e
 ·cases h
def Mv (K:Frag) (n:Str) (C S:Addr):Bool:=
 Mu K C&&kitOne K (.ref C) (.type "ValueError")==some true&&(n=="TooMany"||Mo K C Io "ValueError.__new__")&&exmOne K (.ref C) (.ref S)==some true&&
  excNames.all fun n'=>match Ei K n' with
   |some C'=>kitOne K (.ref C) (.ref C')==some (BI n n')
   |none=>false
def etOk (K:Frag):Bool:=match Ei K "SwitchError" with
 |some S=>excNames.all fun n=>match Ei K n with
  |some C=>Mv K n C S
  |none=>false
 |none=>false
structure ET (K:Frag) (n:Str) (C:Addr):Prop where
 ec:EC K C
 ve:kitOne K (.ref C) (.type "ValueError")=some true
 at_:n≠"TooMany"→Mn K C Io "ValueError.__new__"
 sw:∀S,nsIn K mainGlobals "SwitchError"=some (some (.ref S))→exmOne K (.ref C) (.ref S)=some true
 sub:∀n' C',n'∈excNames→nsIn K mainGlobals n'=some (some (.ref C'))→kitOne K (.ref C) (.ref C')=some (BI n n')
theorem Kl {K:Frag} (h:etOk K=true) {n:Str} {C:Addr} (hn:n∈excNames) (hC:nsIn K mainGlobals n=some (some (.ref C))):ET K n C:=by
 unfold etOk at h
 split at h
 ·rename_i S hS
  have h1:=qaO.mp h n hn
  have e:Ei K n=some C:=by unfold Ei;rw [hC]
  rw [e] at h1
  have h1:Mv K n C S=true:=h1
  unfold Mv at h1
  simp only [BS,beq_iff_eq,Bool.or_eq_true] at h1
  obtain ⟨⟨⟨⟨a1,a2⟩,a3⟩,a4⟩,a5⟩:=h1
  refine ⟨Zh a1,a2,fun z=>YJ (a3.resolve_left z),fun S' hS'=>?_,fun n' C' hn' hC'=>?_⟩
  ·have:=PX hS
   rw [this] at hS'
   cases hS'
   exact a4
  ·have z:=qaO.mp a5 n' hn'
   have e':Ei K n'=some C':=by unfold Ei;rw [hC']
   rw [e'] at z
   exact beq_iff_eq.mp z
 ·cases h
section
variable {X:Cx} {E:XK}
theorem Zi {x:Str} {a:Addr} {pos:Pos} (hg:Gl X x) (hn:nsIn X.K mainGlobals x=some (some (.ref a))) (hd:(x==("__debug__":Str))=false:=by decide):Ev X E (.Name x pos) (mC (.glo x)):=
 fun pins s σ H Q I z1_=>by obtain ⟨m,ρ,h,hr,er,p⟩:=z1_;exact (GM I hg (mg_of I.mod.kin I.mod.glob hn) ⟨.ref a,H,I,rfl,p (.ref a) m H (AB _) (.refl _) hr (by simp only [rD,DV];exact ⟨a,rfl,hn⟩)⟩ hd)
def Ej {α:Type}:Out α→Prop
 |.err _ _ _=>False
 |_=>True
theorem Post.noE {α β:Type} {K:Frag} {R:List Addr→Hp→α→β→Prop} {m:List Addr} {H:Hp} {E E':XK} {Q:β→Hp→Prop} {o:Out α} (n:Ej o) (h:Post K R m H E Q o):Post K R m H E' Q o:=by
 cases o with
 |ok a h1=>exact h
 |err C fs h1=>exact False.elim n
 |stuck=>exact h
theorem Mw {f:Value} {F:List D→HD→Out D} (hF:∀ds h,Ej (F ds h))
 (hc:∀(pins:List (Addr×Obj)) (s:Shared) (σ:L2.St) (H:Hp) (m:List Addr) (h:HD) (ds:List D) (vs:List V) (us:List Value) (Q:VK),Inv X pins σ H s→HR X.K m h H→DVs X.K m H ds vs→Vals vs us→Post X.K (rD X.K) m H E0 Q (F ds h)→
  wpAny (model X.prog X.w) X.A (call f us) (EP X pins σ Q) X.xe s):CC X f F:=
 ⟨fun vs H Q=>∃m h ds,HR X.K m h H∧DVs X.K m H ds vs∧Post X.K (rD X.K) m H E0 Q (F ds h),fun pins s σ H vs us Q I r z2_=>by obtain ⟨m,h,ds,hr,rd,q⟩:=z2_;exact (hc pins s σ H m h ds vs us Q I hr rd r q),fun m H h E ds vs Q hr rd q=>⟨m,h,ds,hr,rd,Post.noE (hF ds h) q⟩⟩
def AI:D→D→HD→Out D:=fun x y h=>match x with
 |.exc n _=>(match y with
  |.glo n'=>if n∈excNames∧n'∈excNames then .ok (.bl (BI n n')) h else .stuck
  |.ty T=>if n∈excNames∧T="ValueError" then .ok (.bl true) h else .stuck
  |_=>.stuck)
 |.edic=>(match y with
  |.ty T=>(match JZ "dict" T with
   |some b=>.ok (.bl b) h
   |none=>.stuck)
  |_=>.stuck)
 |_=>BC x y h
theorem Zj (pins:List (Addr×Obj)) (s:Shared) (σ:L2.St) (H:Hp) (m:List Addr) (h:HD) (x y:D) (v v':V) (u u':Value) (Q:VK) (I:Inv X pins σ H s) (hr:HR X.K m h H) (rx:DV X.K m H x v) (ry:DV X.K m H y v') (r:RelV v u) (r':RelV v' u')
 (q:Post X.K (rD X.K) m H E0 Q (BC x y h)):wpAny (model X.prog X.w) X.A (call (.builtin "isinstance") [u,u']) (EP X pins σ Q) X.xe s:=by
 unfold BC at q
 split at q
 ·rename_i T t et
  split at q
  ·rename_i b eb
   simp only [DV] at ry
   subst ry
   cases (show u'=Value.type T from r')
   exact VD I r (XU hr rx et) (O9 eb) fun tk=>⟨.bl b,H,I.tok _,rfl,A5 hr q (by simp [DV])⟩
  ·exact q.elim
 ·exact q.elim
theorem Zk (et:etOk X.K=true):CC X (.builtin "isinstance") (A3 AI):=by
 refine Mw (fun ds h=>?_) fun pins s σ H m h ds vs us Q I hr rd r q=>two_of rd q fun x y v v' ev rx ry q=>?_
 ·unfold A3 AI BC
  repeat' split
  all_goals trivial
 ·subst ev
  obtain ⟨u,u',rfl,r1,r2⟩:=HQ r
  unfold AI at q
  split at q
  ·rename_i n fs
   simp only [DV] at rx
   obtain ⟨a,C,da,rfl,hC,ha,_⟩:=rx
   cases (show u=Value.ref a from r1)
   obtain ⟨⟨o,ws,ho,hcl,hdi,hdat⟩,_⟩:=(show ObjOk X.prog X.w H s.heap a (.ext (Fq C da a)) from I.hok a _ ha)
   have key:∀(c:Value) (b:Bool),EC X.K C→kitOne X.K (.ref C) c=some b→Q (.bl b) H→wpAny (model X.prog X.w) X.A (call (.builtin "isinstance") [.ref a,c]) (EP X pins σ Q) X.xe s:=by
    intro c b ec e q
    exact kia_one (Zg ec) I.kIn ⟨o,ho,hcl⟩ e (fun z=>nomatch z) fun tk=>⟨.bl b,H,I.tok _,rfl,q⟩
   split at q
   ·rename_i n'
    split at q
    ·rename_i hn
     simp only [DV] at ry
     obtain ⟨C',rfl,hC'⟩:=ry
     cases (show u'=Value.ref C' from r2)
     have t:=Kl et hn.1 hC
     exact key _ _ t.ec (t.sub n' C' hn.2 hC') (A5 hr q (by simp [DV]))
    ·exact q.elim
   ·rename_i T
    split at q
    ·rename_i hn
     simp only [DV] at ry
     subst ry
     cases (show u'=Value.type T from r2)
     obtain ⟨hn,rfl⟩:=hn
     have t:=Kl et hn hC
     exact key _ _ t.ec t.ve (A5 hr q (by simp [DV]))
    ·exact q.elim
   ·exact q.elim
  ·split at q
   ·rename_i T
    split at q
    ·rename_i b eb
     simp only [DV] at rx ry
     obtain ⟨a,rfl,ha⟩:=rx
     subst ry
     cases (show u=Value.ref a from r1)
     cases (show u'=Value.type T from r2)
     obtain ⟨⟨_,o,ep,ho,hx,hd⟩,_⟩:=(show ObjOk X.prog X.w H s.heap a (.ext (JL a)) from I.hok a _ ha)
     exact kia_one kitx_dict I.kIn ⟨o,ho,hx.1⟩ (O9 eb) (fun z=>nomatch z) fun tk=>⟨.bl b,H,I.tok _,rfl,A5 hr q (by simp [DV])⟩
    ·exact q.elim
   ·exact q.elim
  ·exact Zj pins s σ H m h x y v v' u u' Q I hr rx ry r1 r2 q
end
section
variable {X:Cx} {E:XK}
def E1 (chk:D→HD→Out D) (op:D→D→HD→Out D) (f g:ME):ME:=fun ρ h=>((f ρ h).bind chk).bind fun x h1=>(g ρ h1).bind fun y h2=>op x y h2
def PY (X:Cx) (T:String) (x:V) (H:Hp):Prop:=∀(pins:List (Addr×Obj)) (σ:L2.St) (s:Shared) (u:Value),Inv X pins σ H s→RelV x u→s.TypeIs u T∧∀a,u=.ref a→∃ob,s.heap.get? a=some ob∧ob.dict=none
def Zl (X:Cx) (T:String) (r:V→List V→Hp→VK→Prop) (to:TE) (t:TA):TE:=fun σ H Q=>to σ H fun x H1=>PY X T x H1∧t σ H1 fun xs H2=>r x xs H2 Q
theorem Zm {o e:Expr} {es:List Expr} {to:TE} {t:TA} {name:Str} {apos cpos:Pos} {T id:String} {r:V→List V→Hp→VK→Prop} (pa:PlainAttrs T) (slot:Slot T name id) (hty:typeOf (.builtin id)=pure (.type "method_descriptor")) (hm:JH X id r) (ho:PE X o to) (ha:PA X (e::es) t)
 (hbase:attributeBase o name X.env (eval o X.env)=eval o X.env:=by rfl)
 (hfew:((backTo cpos (starEach (e::es) X.env)).all (fun x=>!x.1)&&(backToKw cpos (keywordEach [] X.env)).all (fun x=>x.1.isSome)
  &&decide ((e::es).length+([]:List Keyword).length+(if ([]:List Keyword).isEmpty then 0 else 1)<30))=true:=by rfl)
 (hline:(apos.endLine==cpos.line)=true:=by rfl) (hs:starEach (e::es) X.env=(false,eval e X.env)::starEach es X.env:=by rfl) (hplain:(backTo cpos (starEach es X.env)).any (·.1)=false:=by rfl):
 PE X (.Call (.Attribute o name apos) (e::es) [] cpos) (Zl X T r to t):=by
 intro pins s σ H Q I h
 refine wpAny_Call_method_late hbase hfew hline rfl (Ay (ho pins s σ H _ I h) fun v s1 z1_=>?_)
 obtain ⟨x,H1,I1,r1,ty,q1⟩:=z1_
 obtain ⟨h1,h2⟩:=ty pins σ s1 v I1 r1
 refine ⟨T,id,pa,slot,hty,h1,h2,?_⟩
 have hA:=ha cpos pins s1 σ H1 _ I1 q1
 rw [hs] at hA ⊢
 refine Calls.callWith_builtin (by show (false||(backTo cpos (starEach es X.env)).any (·.1))=false;rw [hplain]<;>rfl) (Calls.evalArgs_plain ?_)
 exact Ay hA fun us s2 z2_=>by obtain ⟨vs,H2,I2,r2,q2⟩:=z2_;exact (hm pins s2 σ H2 x vs v us Q I2 r1 r2 q2)
structure Mx (X:Cx) (T:String) (chk:D→HD→Out D):Prop where
 two:∀x h,chk x h=.ok x h∨chk x h=.stuck
 ty:∀m H h x v,HR X.K m h H→DV X.K m H x v→chk x h=.ok x h→PY X T v H
def Km (X:Cx) (id:String) (op:D→D→HD→Out D):Prop:=
 ∀(pins:List (Addr×Obj)) (s:Shared) (σ:L2.St) (H:Hp) (m:List Addr) (h:HD) (x y:D) (v yv:V) (u uy:Value) (Q:VK),Inv X pins σ H s→HR X.K m h H→DV X.K m H x v→DV X.K m H y yv→RelV v u→RelV yv uy→Post X.K (rD X.K) m H E0 Q (op x y h)→
  wpAny (model X.prog X.w) X.A (call (.builtin id) [u,uy]) (EP X pins σ Q) X.xe s
theorem My {o e:Expr} {f g:ME} {name:Str} {T id:String} {chk:D→HD→Out D} {op:D→D→HD→Out D} {apos cpos:Pos} (pa:PlainAttrs T) (slot:Slot T name id) (hty:typeOf (.builtin id)=pure (.type "method_descriptor"))
 (hc:Mx X T chk) (hn:∀x y h,Ej (op x y h)) (hm:Km X id op) (ho:Ev X E o f) (he:Ev X E e g)
 (hbase:attributeBase o name X.env (eval o X.env)=eval o X.env:=by rfl)
 (hfew:((backTo cpos (starEach [e] X.env)).all (fun x=>!x.1)&&(backToKw cpos (keywordEach [] X.env)).all (fun x=>x.1.isSome)
  &&decide ([e].length+([]:List Keyword).length+(if ([]:List Keyword).isEmpty then 0 else 1)<30))=true:=by rfl)
 (hline:(apos.endLine==cpos.line)=true:=by rfl) (hs:starEach [e] X.env=(false,eval e X.env)::starEach [] X.env:=by rfl) (hplain:(backTo cpos (starEach [] X.env)).any (·.1)=false:=by rfl):
 Ev X E (.Call (.Attribute o name apos) [e] [] cpos) (E1 chk op f g):=by
 have hr:JH X id (fun v vs H Q=>∃m h x y yv,vs=[yv]∧HR X.K m h H∧DV X.K m H x v∧DV X.K m H y yv∧Post X.K (rD X.K) m H E0 Q (op x y h)):=by
  rintro pins s σ H v vs u us Q I r rs ⟨m,h,x,y,yv,ev,hr,rx,ry,q⟩
  subst ev
  obtain ⟨uy,rfl,r2⟩:=DH rs
  exact hm pins s σ H m h x y v yv u uy Q I hr rx ry r r2 q
 refine B4 (Zm pa slot hty hr ho (HZ he HY hs) hbase hfew hline hs hplain) fun σ H Q z3_=>?_
 obtain ⟨m,ρ,h,hr,er,p⟩:=z3_
 refine ⟨m,ρ,h,hr,er,?_⟩
 unfold E1 at p
 rw [Out.bind_assoc] at p
 refine Post.bind p fun x h1 v m1 H1 eo p1 k1 hr1 r1 q1=>?_
 clear eo
 rcases hc.two x h1 with ec |ec
 ·rw [ec] at q1
  simp only [Out.bind_ok] at q1
  refine ⟨hc.ty m1 H1 h1 x v hr1 r1 ec,m1,ρ,h1,hr1,er.keep p1 k1,?_⟩
  have q2:Post X.K (rD X.K) m1 H1 E Q ((Ab g Ac ρ h1).bind fun ys h2=>match ys with
   |[y]=>op x y h2
   |_=>.stuck):=by
   unfold Ab Ac
   rw [Out.bind_assoc]
   exact q1
  refine Post.bind q2 fun ys h2 vs m2 H2 eo p2 k2 hr2 r2 q3=>?_
  clear eo
  split at q3
  ·rename_i y
   simp only [DK,DVs] at r2
   obtain ⟨yv,w,rfl,ry,rfl⟩:=r2
   exact ⟨m2,h2,x,y,yv,rfl,hr2,DV.keep p2 k2 r1,ry,Post.noE (hn x y h2) q3⟩
  ·exact q3.elim
 ·rw [ec] at q1
  exact q1.elim
theorem Mz:Mx X "list" B2 where
 two:=fun x h=>by
  unfold B2
  split
  ·split
   ·exact .inl rfl
   ·exact .inr rfl
  ·exact .inr rfl
 ty:=fun m H h x v hr r e=>by
  unfold B2 at e
  split at e
  ·rename_i l
   split at e
   ·rename_i ds el
    simp only [DV] at r
    obtain ⟨a,rfl,ha⟩:=r
    obtain ⟨ws,hv,dv⟩:=hr.cells l _ a el ha
    exact fun pins σ s u I ru=>LD I ru (.inl ⟨rfl,ws,SqL.of hv⟩)
   ·cases e
  ·cases e
def E2 (x:V) (xs:List V):Nat:=xs.countP fun y=>Df y x
theorem MB {x:V}:∀{xs:List V} {us:List Value},Vals xs us→xs.all Dq=true→us.countP (B0 x)=E2 x xs
 |_,_,.nil,_=>rfl
 |y::xs,u::us,.cons r t,f=>by
  rw [FW,BS] at f
  unfold E2
  rw [List.countP_cons,List.countP_cons,JI r f.1,MB t f.2]
  rfl
def DR:D→D→HD→Out D:=fun x y h=>match Bg x h with
 |none=>.stuck
 |some ds=>match B1 y,AC (ds.map B1) with
  |some v,some vs=>.ok (.int (E2 v vs)) h
  |_,_=>.stuck
theorem PZ (x y:D) (h:HD):Ej (DR x y h):=by
 unfold DR
 repeat' split
 all_goals trivial
def Gk:D→D→HD→Out D:=fun x y h=>(B2 x h).bind fun _ _=>DR x y h
theorem Zn:Km X "list.count" Gk:=by
 intro pins s σ H m h x y v yv u uy Q I hr rx ry r r2 q
 unfold Gk at q
 rcases (Mz (X:=X)).two x h with ec |ec
 ·rw [ec] at q
  simp only [Out.bind_ok] at q
  unfold B2 at ec
  split at ec
  ·rename_i l
   split at ec
   ·rename_i ds el
    unfold DR Bg at q
    simp only [el] at q
    split at q
    ·rename_i w ws e1 e2
     simp only [DV] at rx
     obtain ⟨a,rfl,ha⟩:=rx
     cases (show u=Value.ref a from r)
     obtain ⟨vs,hv,dv⟩:=hr.cells l _ a el ha
     obtain ⟨h1,h2⟩:=Ic ry e1
     obtain ⟨h3,h4⟩:=Ie dv e2
     subst h1 h3
     obtain ⟨z,its,n,rr,hl,e⟩:=I.lstM hv
     refine call_meets F.slot_list_count ⟨_,e,rfl⟩ F.entry_list_count (F.args_list_count_2 _ _) (PySem.SeqAt.list_countAt a its.toArray n none #[] uy (B0 yv)) ⟨e,fun w hw=>Fp r2 h2 rr h4 w (by simpa using hw),?_⟩
     refine ⟨.int _,H,I.tok _,⟨_,rfl⟩,?_⟩
     rw [show (its.toArray.toList.countP (B0 yv))=E2 yv vs by rw [←MB rr h4]]
     exact A5 hr q (by simp [DV])
    ·exact q.elim
   ·cases ec
  ·cases ec
 ·rw [ec] at q;exact q.elim
def Kn (x:V) (xs:List V):Option Nat:=xs.findIdx? fun y=>Df y x
def Gm:D→D→HD→Out D:=fun x y h=>match x with
 |.loc l=>(match h[l]? with
  |some (.lst ds)=>(match B1 y,AC (ds.map B1) with
   |some v,some vs=>(match Kn v vs with
    |some j=>.ok (.int j) h
    |none=>.stuck)
   |_,_=>.stuck)
  |_=>.stuck)
 |_=>.stuck
theorem Zo (x y:D) (h:HD):Ej (Gm x y h):=by
 unfold Gm
 repeat' split
 all_goals trivial
theorem Zp (x y:D) (h:HD):Ej (Gk x y h):=by
 unfold Gk
 rcases (show B2 x h=.ok x h∨B2 x h=.stuck by
  unfold B2
  split
  ·split
   ·exact .inl rfl
   ·exact .inr rfl
  ·exact .inr rfl) with e |e
 ·rw [e];exact PZ x y h
 ·rw [e];trivial
theorem P0 {xs:List V} {us:List Value} (r:Vals xs us) {x:V} (f:xs.all Dq=true) {j:Nat} (hj:j<us.length):B0 x us[j]=Df (xs[j]'(by rw [r.length];exact hj)) x:=by
 have hx:j<xs.length:=by rw [r.length];exact hj
 obtain ⟨u,e,ru⟩:=r.get (AQ hx)
 rw [AQ hj] at e
 cases e
 exact JI ru (qaO.mp f _ (DY hx))
theorem Zq:Km X "list.index" Gm:=by
 intro pins s σ H m h x y v yv u uy Q I hr rx ry r r2 q
 unfold Gm at q
 split at q
 ·rename_i l
  split at q
  ·rename_i ds el
   split at q
   ·rename_i w ws e1 e2
    split at q
    ·rename_i j ej
     simp only [DV] at rx
     obtain ⟨a,rfl,ha⟩:=rx
     cases (show u=Value.ref a from r)
     obtain ⟨vs,hv,dv⟩:=hr.cells l _ a el ha
     obtain ⟨h1,h2⟩:=Ic ry e1
     obtain ⟨h3,h4⟩:=Ie dv e2
     subst h1 h3
     obtain ⟨z,its,n,rr,hl,e⟩:=I.lstM hv
     unfold Kn at ej
     rw [List.findIdx?_eq_some_iff_getElem] at ej
     obtain ⟨hj,hit,hno⟩:=ej
     have hji:j<its.length:=by rw [←hl];exact hj
     have hsl:(j:Int)<2^63 - 1:=by have:=GN;omega
     refine call_meets F.slot_list_index ⟨_,e,rfl⟩ F.entry_list_index (F.args_list_index_2 _ _) (PySem.SeqAt.list_indexAt a its.toArray n none #[] uy (B0 yv) j (by simpa using hji) hsl ?_ ?_) ⟨e,fun w hw=>Fp r2 h2 rr h4 w (by simpa using hw),?_⟩
     ·have:=P0 rr h4 (x:=yv) hji
      simp only [List.getElem_toArray]
      rw [this];exact hit
     ·intro k hk hkj
      have hk':k<its.length:=by simpa using hk
      have:=P0 rr h4 (x:=yv) hk'
      simp only [List.getElem_toArray]
      rw [this]
      simpa using hno k hkj
     ·exact ⟨.int _,H,I.tok _,⟨_,rfl⟩,A5 hr q (by simp [DV])⟩
    ·exact q.elim
   ·exact q.elim
  ·exact q.elim
 ·exact q.elim
end
theorem Zr {pos:Pos} {l r:List Value} {cv:Value} (_:TriplesOk l) (e:codeAmong pos l=some cv):codeAmong pos (l++r)=some cv:=by
 rename_i ht
 clear ht
 fun_induction codeAmong pos l with
 |case1 line t col u c rest h=>rw [EG,EG,EG,codeAmong,if_pos h];exact e
 |case2 line t col u c rest h ih=>rw [EG,EG,EG,codeAmong,if_neg h];exact ih e
 |case3=>cases e
theorem P3 {pos p2:Pos} {c cv:Value}:∀{l:List Value},TriplesOk l→codeAmong p2 (l++[rawInt pos.line,rawInt pos.col,c])=some cv→codeAmong p2 l=some cv∨cv=c
 |[],_,e=>by
  simp only [Fh,rawInt,codeAmong] at e
  split at e
  ·exact .inr (Option.some.inj e).symm
  ·cases e
 |.int i t::.int j u::c'::l,h,e=>by
  simp only [codeAmong,EG] at e ⊢
  split at e
  ·rename_i z
   rw [if_pos z];exact .inl e
  ·rename_i z
   rw [if_neg z];exact P3 (by simpa [TriplesOk] using h) e
theorem HR.tab {K:Frag} {m:List Addr} {h:HD} {H H':Hp} {P:Addr} (r:HR K m h H) (k:Kp H H') (s:∀b,b≠P→H b≠none→H' b=H b) (t:TabIs K H' P) (tt:TabIs K H P):HR K m h H':=by
 refine ⟨r.len,r.nd,fun l c a e q=>?_⟩
 have hm:a∈m:=Fd q
 have hn:H a≠none:=r.mem hm
 have:=r.cells l c a e q
 cases c with
 |lst ds=>
  obtain ⟨vs,e1,e2⟩:=this
  have ha:a≠P:=by
   rintro rfl
   obtain ⟨_,ps,z,_⟩:=tt
   rw [z] at e1;cases e1
  exact ⟨vs,by rw [s a ha hn];exact e1,e2.keep (AB _) k⟩
 |tab=>
  by_cases ha:a=P
  ·subst ha;exact t
  ·exact TabIs.keep this k (s a ha hn)
 |dic fz kvs=>
  obtain ⟨es,e1,e2⟩:=this
  have ha:a≠P:=by
   rintro rfl
   obtain ⟨_,ps,z,_⟩:=tt
   cases fz with
   |true=>obtain ⟨o,q⟩:=e1;rw [z] at q;cases q
   |false=>exact absurd (z.symm.trans e1) (by intro w;cases w)
  exact ⟨es,e1.same (s a ha hn),e2.keep (AB _) k⟩
structure LamX (X:Cx) (c P:Addr):Prop where
 code:X.env.code=.ref c
 tp:tabP X.K=some (c,P)
 hd:codeHdIn X.K c P=true
 qual:X.env.qual="law.<locals>."
 bm:∃bm o,X.mg "__builtins__"=some (.ref bm)∧bm≠builtinsNs∧X.base.get? bm=some o∧o.cls=.type "module"∧o.dict=some builtinsNs∧o.data=.plain
section
variable {X:Cx} {E:Value→Shared→Prop} {c P:Addr} {pins:List (Addr×Obj)} {σ:L2.St} {H:Hp} {s:Shared}
theorem LamX.builtins (L:LamX X c P) (I:Inv X pins σ H s) (t:TabIs X.K H P):s.heap.BuiltinsAt X.mg P:=by
 obtain ⟨bm,o,h1,h2,h3,h4,h5,h6⟩:=L.bm
 obtain ⟨e,n⟩:=I.bs bm o h3
 refine ⟨bm,o,h1,h2,fun z=>?_,fun z=>?_,e,h4,h5,h6⟩
 ·obtain ⟨og,es,ep,e1,e2,_⟩:=I.mod.glob
  rw [z,e1] at h3
  cases h3
  rw [e2] at h6;cases h6
 ·obtain ⟨_,ps,q,_⟩:=t
  rw [z,q] at n;cases n
abbrev Bn:Str:="law.<locals>.<lambda>"
theorem Zs {params:Arguments} {body:Expr} {scope:Scope} {pos:Pos} {clos:List (Str×Addr)} {Q:Value→Shared→Prop} {A:Around} (L:LamX X c P) (I:Inv X pins σ H s) (t:TabIs X.K H P) (hdef:defaultsOf params X.env=([],[])) (hcl:closureFor scope X.env=pure clos)
 (k:∀(f' c':Addr) (ctv pm:Value) (h':Heap) (tk:Nat) (H':Hp),Inv X pins σ H' {s with heap:=h',toks:=tk}→Kp H H'→TabIs X.K H' P→(∀b,b≠P→H b≠none→H' b=H b)→(∀b o,b≠P→s.heap.get? b=some o→h'.get? b=some o)→s.heap.objs.size≤f'→
  H' f'=none→h'.get? f'=some (kla_obj "<lambda>" Bn params body scope clos pm c' ctv)→(∃ps,H' P=some (.tbl ps)∧codeAmong pos ps.toList=some (.ref c'))→Q (.ref f') {s with heap:=h',toks:=tk}):
 wpAny (model X.prog X.w) A (eval (.Lambda params body scope pos) X.env) Q E s:=by
 have hB:=L.builtins I t
 have hg:s.heap.Ns mainGlobals X.mg:=I.mod.glob.keeps I.bk
 have hCd:CodeHd s.heap c P:=codeHd_of_K I.kIn L.hd
 obtain ⟨ht1,ps,hps,htr,hcs⟩:=id t
 have hP:s.heap.get? P=some (tabObj ps):=I.hok P _ hps
 have hgP:mainGlobals≠P:=fun z=>by
  obtain ⟨og,es,ep,e1,e2,_⟩:=I.mod.glob
  have:=(I.bs _ _ e1).2
  rw [z,hps] at this;cases this
 have hq:X.env.qual++"<lambda>"=Bn:=by rw [L.qual];decide +kernel
 refine kla_eval hdef ?_
 rw [hq]
 cases hc:codeAmong pos ps.toList with
 |some cv=>
  obtain ⟨c',rfl,hx⟩:=hcs pos cv hc
  refine kla_makeFunctionHit (mg:=X.mg) hcl I.ok.glob hg L.code hCd hP htr hc hB fun ctv h' tk hk hsz=>?_
  have hk2:∀b o,s.heap.get? b=some o→(h'.push (kla_obj "<lambda>" Bn params body scope clos ((X.mg "__name__").getD .none) c' ctv)).get? b=some o:=fun b o e=>AG _ (hk b o e)
  exact k _ c' ctv _ _ tk H (I.kept hk2) (.refl _) t (fun _ _ _=>rfl) (fun b o _ e=>hk2 b o e) hsz (I.hok.fresh hsz) (Bi _ rfl) ⟨ps,hps,hc⟩
 |none=>
  refine kla_makeFunction (mg:=X.mg) hcl I.ok.glob hg L.code hCd hP htr hc hgP hB fun c' ctv h' tk hx hge hlt hrec htb=>?_
  generalize ho:kla_obj "<lambda>" Bn params body scope clos ((X.mg "__name__").getD .none) c' ctv=fo
  have hk2:∀b o,b≠P→s.heap.get? b=some o→(h'.push fo).get? b=some o:=fun b o hb e=>AG _ (hx b o hb e)
  have hPs:P<s.heap.objs.size:=AF hP
  have hc'P:c'≠P:=Fy (AW hPs hge)
  have hc'n:H c'=none:=I.hok.fresh hge
  generalize hps':ps++#[rawInt pos.line,rawInt pos.col,.ref c']=ps' at htb
  have tl:ps'.toList=ps.toList++[rawInt pos.line,rawInt pos.col,.ref c']:=by rw [←hps'];simp
  have hH:∀b,b≠P→H b≠none→Ao (Ao H P (.tbl ps')) c' (.ext (GR Bn c')) b=H b:=fun b hb hn=>by
   have:b≠c':=fun z=>hn (z ▸ hc'n)
   rw [Av this,Av hb]
  have hHP:Ao (Ao H P (.tbl ps')) c' (.ext (GR Bn c')) P=some (.tbl ps'):=by rw [Av (Ne.symm hc'P),BL]
  have kp:Kp H (Ao (Ao H P (.tbl ps')) c' (.ext (GR Bn c'))):=fun b o e i=>by
   have:b≠P:=fun z=>by rw [z,hps] at e;cases e;cases i
   rw [hH b this (by rw [e];simp)];exact e
  have lt':∀b o,s.heap.get? b=some o→b≠c':=fun b o e=>BH (AW (AF e) hge)
  have un:Un X.fs [] H (Ao (Ao H P (.tbl ps')) c' (.ext (GR Bn c'))) s.heap (h'.push fo):=by
   have neP:∀{b},H b=none→b≠P:=fun {b} n z=>by rw [z,hps] at n;cases n
   refine ⟨fun b o e n _ _=>hk2 b o (neP n) e,fun b o e n _ _=>⟨o.slots,hk2 b o (neP n) e⟩,fun b o e n _=>?_,fun b o e _=>?_,fun b xs e=>?_,fun b o u e=>?_,fun b qs e=>?_⟩
   ·rw [Av (lt' b o e),Av (neP n)];exact n
   ·by_cases hb:b=P
    ·subst hb;exact ⟨_,AG _ htb⟩
    ·exact ⟨o,hk2 b o hb e⟩
   ·rw [hH b (fun z=>by rw [z,hps] at e;cases e) (by rw [e];simp)];exact e
   ·rw [hH b (fun z=>by rw [z,hps] at e;cases e) (by rw [e];simp)];exact e
   ·by_cases hb:b=P
    ·subst hb
     rw [hps] at e;cases e
     exact ⟨_,by rw [hHP,←hps']⟩
    ·exact ⟨#[],by rw [hH b hb (by rw [e];simp),e];simp⟩
  have hok:HOk X.prog X.w (Ao (Ao H P (.tbl ps')) c' (.ext (GR Bn c'))) (h'.push fo):=by
   intro b o e
   by_cases hb:b=c'
   ·subst hb
    rw [BL] at e
    cases e
    have r1:(h'.push fo).CodeRec (.ref b) Bn:=hrec.keeps fun b o e=>AG _ e
    refine ⟨r1,?_,fun h1 h2 z1 z2=>?_⟩
    ·obtain ⟨c2,oc,vs,t2,e1,e2,_⟩:=r1
     cases e1
     exact ⟨oc,e2⟩
    ·obtain ⟨c2,oc,vs,t2,e1,e2,e3⟩:=z1
     cases e1
     exact ⟨_,oc,vs,t2,rfl,z2 _ e2,e3⟩
   ·by_cases hbP:b=P
    ·subst hbP
     rw [hHP] at e
     cases e
     exact AG _ htb
    ·rw [Av hb,Av hbP] at e
     refine (I.hok b o e).stay (fun d u hd q=>hk2 d u ?_ q) (fun d q=>?_) fun d xs q=>?_
     ·rcases hd with rfl |hd
      ·exact hbP
      ·exact fun z=>by rw [z,hps] at hd;cases hd
     ·rw [hH d (fun z=>by rw [z,hps] at q;cases q) (by rw [q];simp)];exact q
     ·rw [hH d (fun z=>by rw [z,hps] at q;cases q) (by rw [q];simp)];exact q
  have hsz:s.heap.objs.size≤h'.objs.size:=EI (Nat.lt_of_le_of_lt hge hlt)
  refine k _ c' ctv ((X.mg "__name__").getD .none) _ tk _ (I.un un hok) kp ⟨ht1,ps',hHP,?_,fun p2 cv e=>?_⟩ hH hk2 hsz ?_ (by rw [←ho];exact Bi _ rfl) ⟨ps',hHP,?_⟩
  ·rw [tl];exact TriplesOk_snoc _ _ _ _ htr
  ·rw [tl] at e
   rcases P3 htr e with z |z
   ·obtain ⟨c2,z1,z2⟩:=hcs p2 cv z
    exact ⟨c2,z1,kp _ _ z2 rfl⟩
   ·exact ⟨c',z,BL⟩
  ·have n1:h'.objs.size≠c':=Fy hlt
   have n2:h'.objs.size≠P:=Fy (AW hPs hsz)
   rw [Av n1,Av n2];exact I.hok.fresh hsz
  ·rw [tl];exact codeAmong_snoc _ htr hc
end
def Ek (P:Program) (w:World) (K:Frag) (mg:Str→Option Value) (base:Heap) (N:List Str) (scope:Scope) (a:Addr) (cd:Value) (cl:List (Str×Addr)) (A:Around) (outer:List Env) (s:Shared) (H:Hp) (E:XK):Cx where
 prog:=P
 w:=w
 K:=K
 mg:=mg
 base:=base
 A:=A.deeper (envX Bn scope s.heap.objs.size a cd cl)
 N:=N
 s₀:=s
 H₀:=H
 env:=envX Bn scope s.heap.objs.size a cd cl
 outer:=outer
 stack:=envX Bn scope s.heap.objs.size a cd cl::outer
 ex:=[]
 calm:=true
 fn:=fun _=>false
 pn:=[]
 xe:=fun e s'=>wpAny (model P w) (A.deeper (envX Bn scope s.heap.objs.size a cd cl)) (leaving (envX Bn scope s.heap.objs.size a cd cl) e) (fun _ s''=>Ba P w K outer H s E e s'') (fun e' s''=>Ba P w K outer H s E e' s'') s'
theorem Zt {P:Program} {w:World} {K:Frag} {mg:Str→Option Value} {base:Heap} {N:List Str} {scope:Scope} {a:Addr} {cd:Value} {cl:List (Str×Addr)} {A:Around} {outer:List Env} {s:Shared} {H:Hp} {E:XK}:
 Lv (Ek P w K mg base N scope a cd cl A outer s H E) E:=⟨fun _ _ h=>h,rfl,rfl,rfl⟩
theorem Zu {P:Program} {w:World} {K:Frag} {mg:Str→Option Value} {base:Heap} {N:List Str} {scope:Scope} {a:Addr} {cd:Value} {cl:List (Str×Addr)} {A:Around} {outer:List Env} {s:Shared} {H:Hp} {E:XK}:
 F0 (Ba P w K) (Ek P w K mg base N scope a cd cl A outer s H E) E:=Mm Zt
structure Iu (h:Heap) (H:Hp) (outer:List Env) (N:List Str) (scope:Scope) (cl:List (Str×Addr)) (vs:List V):Prop where
 len:vs.length=N.length
 inj:∀x y c,cl.lookup x=some c→cl.lookup y=some c→x=y
 has:∀x,scope.names.lookup x=some .free→∃c,cl.lookup x=some c
 cell:∀x c,cl.lookup x=some c→(∃v,h.IsCell c v)∧H c=none∧c∉frs outer
 val:∀(i:Nat) (x:Str) (v:V),N[i]?=some x→vs[i]?=some v→scope.names.lookup x=some .free∧∃c u,cl.lookup x=some c∧h.IsCell c (some u)∧RelV v u
structure LamSc (scope:Scope):Prop where
 kind:scope.kind=.function
 co:scope.isCoroutine=false
 gen:scope.isGenerator=false
 only:(scope.names.all fun y=>y.2 != .cell)=true
theorem LamSc.nocell {scope:Scope} (S:LamSc scope):∀x∈scope.names,x.2≠.cell:=fun x hx e=>by
 have:=qaO.mp S.only x hx
 rw [e] at this
 simp at this
section
variable {P:Program} {w:World} {K:Frag} {mg:Str→Option Value} {base:Heap} {N:List Str} {scope:Scope} {a c':Addr} {pm ctv:Value} {params:Arguments} {body:Expr} {cl:List (Str×Addr)} {A:Around} {outer:List Env} {s:Shared} {H:Hp} {E:XK} {vs:List V}
theorem Zv {cd:Value} {h1:Heap} {t1:Nat} (S:LamSc scope) (hd:A.handled=none) (e0:Fo P w K mg base A outer s H) (C:Iu s.heap H outer N scope cl vs) (ns:h1.Ns s.heap.objs.size (fun _=>none)) (hk:∀b o,s.heap.get? b=some o→h1.get? b=some o):
 Inv (Ek P w K mg base N scope a cd cl A outer s H E) [] (vs.map some) H {s with heap:=h1,toks:=t1}:=by
 have noA:∀b:Addr,b∉(Ek P w K mg base N scope a cd cl A outer s H E).ex:=fun b z=>absurd (show b∈([]:List Addr) from z) (by simp)
 refine ⟨⟨e0.mod,S.kind,rfl,rfl,Ax _,C.inj,fun x hx=>?_,fun x c hf=>(by cases hf),fun _=>hd,Around.frames_deeper e0.frames,.inr ⟨rfl,rfl⟩,fun b z=>absurd z (noA b),e0.bs,e0.bsz,fun b _ _=>noA b,fun b z=>absurd z (noA b),e0.funs,e0.frf⟩,
  rfl,e0.bare,Un.kept hk,⟨_,ns,fun i x v e1 e2 _=>?_⟩,fun x c e=>?_,e0.hok.fresh (Ax _),fun x c e=>(C.cell x c e).2.1,fun p hp=>absurd (show p∈([]:List (Addr×Obj)) from hp) (by simp),e0.hok.kept hk,?_⟩
 ·have hx':scope.names.lookup x=some .cell∨scope.names.lookup x=some .free:=hx
  rcases hx' with z |z
  ·exact absurd rfl (S.nocell _ (mem_of_lookup z))
  ·exact C.has x z
 ·rw [B8] at e2
  cases ev:vs[i]? with
  |none=>rw [ev] at e2;cases e2
  |some v'=>
   rw [ev] at e2
   cases e2
   obtain ⟨hf,c,u,e3,e4,r⟩:=C.val i x v e1 ev
   exact ⟨u,r,.inr ⟨.inr hf,c,e3,e4.keeps hk⟩⟩
 ·obtain ⟨⟨v,q⟩,_⟩:=C.cell x c e
  exact ⟨v,q.keeps hk⟩
 ·show (vs.map some).length=N.length
  rw [Bc];exact C.len
theorem Zw {k:Nat} {f:ME} {Q:VK} (S:LamSc scope) (hr:Room (k+1) A) (e0:Fo P w K mg base A outer s H) (C:Iu s.heap H outer N scope cl vs) (ho:s.heap.get? a=some (kla_obj "<lambda>" Bn params body scope cl pm c' ctv)) (hcd:s.heap.CodeRec (.ref c') Bn)
 (hbind:bindArgs (kla_fn "<lambda>" Bn params body scope cl pm (.ref c') ctv) ⟨[],[]⟩=pure [])
 (hb:Room k (A.deeper (envX Bn scope s.heap.objs.size a (.ref c') cl))→Ev (Ek P w K mg base N scope a (.ref c') cl A outer s H E) E body f)
 (q:∃m ds h,HR K m h H∧DVs K m H ds vs∧Post K (rD K) m H E Q (f (ds.map some) h)):codeAny (model P w) A (.call (.ref a) ⟨[],[]⟩) (CR (Ba P w K) outer P w H s Q E) s:=by
 refine kla_callFunE hr.depth ho rfl S.co S.gen rfl hcd ?_
 rw [hbind]
 have lim:s.heap.NoLimit:=e0.mod.nolimit.keeps fun b o e=>(e0.bs b o e).1
 refine wpAny_pure (wpAny_newFunctionEnv S.nocell (fun y hy=>by cases hy) (fun h₁ hns hsb=>⟨lim.fresh _ hsb,?_⟩) S.kind)
 have hk₁:∀b o,s.heap.get? b=some o→h₁.get? b=some o:=fun b o e=>hsb.extBut b o (Bt (AF e)) (AG _ e)
 have I:Inv (Ek P w K mg base N scope a (.ref c') cl A outer s H E) [] (vs.map some) H {s with heap:=h₁,toks:=s.toks+0}:=Zv S hr.hd e0 C hns hk₁
 obtain ⟨m,ds,h,hr1,r,p⟩:=q
 have er:ER K m H (ds.map some) (vs.map some):=by
  refine ⟨by simp [r.len],fun i d e=>?_⟩
  rw [B8] at e
  cases ed:ds[i]? with
  |none=>rw [ed] at e;cases e
  |some d'=>
   rw [ed] at e
   cases e
   obtain ⟨v,e1,r1⟩:=r.get ed
   exact ⟨v,by rw [B8,e1];rfl,r1⟩
 refine kla_codeExpr (wpAny_mono (hb (hr.deeper _) [] _ _ H Q I ⟨m,ds.map some,h,hr1,er,p⟩) (fun u s' hs=>?_) fun e s' hs=>hs)
 obtain ⟨v,H',J,rv,qv⟩:=hs
 exact ⟨v,H',J.os,J.bare,J.base,J.hok,rv,qv⟩
end
structure RoomM (k:Nat) (A:Around):Prop where
 dp:A.depth+3*k+5<recursionLimit
 un:A.units+16*k+200<cLine
 gd:A.guards=some []
theorem RoomM.deeper {k:Nat} {A:Around} (r:RoomM (k+1) A) (env:Env):RoomM k (A.deeper env):=
 ⟨by have:=r.dp;show A.depth+1+3*k+5<_;omega,by have:=r.un;show A.units+3+16*k+200<_;omega,r.gd⟩
theorem RoomM.units {k:Nat} {A:Around} (r:RoomM k A):A.units+64<cLine:=by have:=r.un;omega
theorem RoomM.mono {j k:Nat} {A:Around} (r:RoomM k A) (h:j≤k):RoomM j A:=⟨by have:=r.dp;omega,by have:=r.un;omega,r.gd⟩
theorem RoomM.of {k:Nat} {A:Around} (r:Room k A) (e:Option Value):RoomM k (A.mark e):=⟨r.dp,r.un,r.gd⟩
def Hc (P:Program) (w:World) (K:Frag) (mg:Str→Option Value) (base:Heap) (N:List Str) (qual:Str) (scope:Scope) (f:Addr) (cd:Value) (A:Around) (outer:List Env) (s:Shared) (H:Hp):Cx:=
 {BY Ov P w K mg base N qual scope f cd A outer s H E0 with calm:=false,xe:=fun _ _=>False}
theorem Zx {P:Program} {w:World} {K:Frag} {mg:Str→Option Value} {base:Heap} {N ps:List Str} {qual:Str} {scope:Scope} {f:Addr} {cd:Value} {A:Around} {outer:List Env} {s s1:Shared} {H:Hp} {us:List Value} {vs:List V}
 (S:DJ N ps scope) (e0:Fo P w K mg base A outer s H) (hl:vs.length=ps.length) (r:Vals vs us)
 (x:InCallC s s.heap.objs.size (bindL (envOfC qual scope s.heap.objs.size f cd).kindOf (ps.zip us) fun _=>none) (cellsFrom (s.heap.objs.size+1) scope.names []) (bindC (envOfC qual scope s.heap.objs.size f cd).kindOf (ps.zip us) fun _=>none) s1):
 Inv (Hc P w K mg base N qual scope f cd A outer s H) [] (start N vs) H s1:=by
 have hpl:ps.length≤N.length:=by have:=congrArg List.length S.pre;rw [HE] at this;omega
 obtain ⟨h1,tk,rfl,hk⟩:=x.done
 have noA:∀b:Addr,b∉(Hc P w K mg base N qual scope f cd A outer s H).ex:=fun b z=>absurd (show b∈([]:List Addr) from z) (by simp)
 refine ⟨⟨e0.mod,S.kind,rfl,rfl,Ax _,fun y z c h1 h2=>?_,fun y hy=>?_,fun y c _ h=>?_,fun z=>(nomatch z),Around.frames_deeper e0.frames,.inr ⟨rfl,rfl⟩,fun b z=>absurd z (noA b),e0.bs,e0.bsz,fun b _ _=>noA b,fun b z=>absurd z (noA b),e0.funs,e0.frf⟩,
  rfl,e0.bare,Un.kept hk,⟨_,x.toInCall.ns,fun i y v h1 h2 h3=>?_⟩,fun y c h=>⟨_,x.cell y c h⟩,e0.hok.fresh (Ax _),fun y c h=>?_,fun p hp=>absurd (show p∈([]:List (Addr×Obj)) from hp) (by simp),e0.hok.kept hk,?_⟩
 ·exact name_of_addr x.apart (PySem.mem_of_lookup h1) (PySem.mem_of_lookup h2)
 ·have hy:scope.names.lookup y=some .cell∨scope.names.lookup y=some .free:=hy
  rcases hy with hy |hy
  ·exact JG hy
  ·exact absurd rfl (S.nofree _ (PySem.mem_of_lookup hy))
 ·exact EI (x.above y c (PySem.mem_of_lookup h))
 ·have hi:i<vs.length:=by
   unfold L2.start at h2
   by_cases hi:i<vs.length
   ·exact hi
   ·rw [Hv (by simpa using hi)] at h2
    rw [Lg] at h2
    split at h2<;>cases h2
  have ha:vs[i]?=some v:=by
   unfold L2.start at h2
   rw [Fc (by simpa using hi),B8] at h2
   cases e:vs[i]? with
   |none=>rw [e] at h2;cases h2
   |some a=>rw [e] at h2;cases h2;rfl
  obtain ⟨u,hu,rv⟩:=r.get ha
  have hp:ps[i]?=some y:=by
   rw [←S.pre,List.getElem?_take_of_lt (by omega)];exact h1
  have ndP:ps.Nodup:=by rw [←S.pre];exact S.nd.sublist (List.take_sublist _ _)
  refine ⟨u,rv,?_⟩
  rcases S.par y (Fd hp) with k |k
  ·exact .inl ⟨k,Lx ndP hp hu k⟩
  ·obtain ⟨c,e⟩:=JG (n:=s.heap.objs.size+1) k
   refine .inr ⟨.inl k,c,e,?_⟩
   have q:=x.cell y c e
   rw [Ly ndP hp hu (by show scope.names.lookup y≠_;rw [k];decide)] at q
   exact q
 ·exact e0.hok.fresh (EI (x.above y c (PySem.mem_of_lookup h)))
 ·unfold L2.start
  show _=N.length
  rw [CY,Bc,List.length_replicate]
  omega
structure P4 (P:Program) (w:World) (K:Frag) (mg:Str→Option Value) (base:Heap) (k:Nat) (f:Addr) (fd:FuncData) (ps:List Str) (F:List D→HD→Out D):Prop where
 run:∀(A:Around) (outer:List Env) (s:Shared) (H:Hp) (args:Args) (us:List Value) (vs:List V) (Q:VK),RoomM k A→Fo P w K mg base A outer s H→BindsTo s fd args (ps.zip us)→Vals vs us→JP K F vs H Q E0→
  codeAny (model P w) A (.call (.ref f) args) (CR Ov outer P w H s Q E0) s
theorem Zy {P:Program} {w:World} {K:Frag} {mg:Str→Option Value} {base:Heap} {x qual:Str} {st:Stmt} {f:Addr} {fd:FuncData} {N ps:List Str} {k:Nat} {F:List D→HD→Out D} {g:MS} (Fn:Fun K x qual st f fd) (S:DJ N ps (defScope st)) (ar:Ar ps.length F)
 (hg:∀ds h,ds.length=ps.length→F ds h=AS N.length g ds h)
 (hbody:∀(cdv:Value) (A:Around) (outer:List Env) (s:Shared) (H:Hp),RoomM k (A.deeper (envOfC qual (defScope st) s.heap.objs.size f cdv))→CB (Hc P w K mg base N qual (defScope st) f cdv A outer s H) E0 (defBody st) g):P4 P w K mg base (k+1) f fd ps F:=by
 obtain ⟨oc,od,kV,doc,pm,an,cdv,ct,osl,rfl,lk,hcd⟩:=Fn.ex
 refine ⟨fun A outer s H args us vs Q hr e0 hb r hsp=>?_⟩
 have hl:vs.length=ps.length:=ar.len hsp
 have KX:K.In s.heap:=e0.mod.kin.keeps fun b o e=>(e0.bs b o e).1
 have lim:s.heap.NoLimit:=e0.mod.nolimit.keeps fun b o e=>(e0.bs b o e).1
 have hkind:∀y∈ps.zip us,(defScope st).names.lookup y.1=some .local∨((defScope st).names.lookup y.1=some .cell∧((cellsFrom (s.heap.objs.size+1) (defScope st).names []).lookup y.1).isSome=true):=fun z1_ hy=>by
  obtain ⟨n,v⟩:=z1_
  rcases S.par n (HH hy).1 with q |q
  ·exact .inl q
  ·exact .inr ⟨q,PySem.W.cellsFrom_some _ _ _ (.inl q)⟩
 refine codeAny_call_function (by have:=hr.dp;omega) (KX _ _ lk) rfl S.co S.gen rfl (PySem.W.codeRec_of KX hcd) (hb _ _ _ _ ?_)
 refine wpAny_newFunctionEnv_cells S.kind hkind fun env he s1 x=>?_
 subst he
 refine ⟨lim.keeps x.toInCall.keep,codeAny_func ?_⟩
 have I:Inv (Hc P w K mg base N qual (defScope st) f cdv A outer s H) [] (start N vs) H s1:=Zx S e0 hl r x
 have fin:∀{σ':L2.St} {H':Hp} {v:V} {u:Value} {s':Shared},Inv (Hc P w K mg base N qual (defScope st) f cdv A outer s H) [] σ' H' s'→RelV v u→Q v H'→CE outer P w H s Q u s':=
  fun {σ' H' v u s'} J rv q=>⟨v,H',J.os,J.bare,J.base,J.hok,rv,q⟩
 have post:GT K E0 g {nx:=fun _ H'=>Q .non H',rt:=Q} (start N vs) H:=by
  obtain ⟨m,ds,hd,hr1,r,p⟩:=hsp
  have hld:ds.length=ps.length:=by rw [r.len];exact hl
  refine ⟨m,ds.map some++List.replicate (N.length - ds.length) none,hd,hr1,ER.start r,?_⟩
  rw [hg ds hd hld] at p
  unfold AS at p
  cases o:g (ds.map some++List.replicate (N.length - ds.length) none) hd with
  |stuck=>rw [o] at p;exact p
  |err C fs h1=>rw [o] at p;exact p
  |ok a h1=>
   rw [o] at p
   obtain ⟨fl,ρ1⟩:=a
   intro m1 H1 p1 k1 hr1
   cases fl with
   |nx=>exact fun σ er=>p .non m1 H1 p1 k1 hr1 (by simp [rD,DV])
   |bk=>exact False.elim p
   |ct=>exact False.elim p
   |rt d=>exact fun v rv=>p v m1 H1 p1 k1 hr1 rv
 refine wpAny_mono (hbody cdv A outer s H (hr.deeper _) [] s1 (start N vs) H _ I post) (fun fl s' hs=>?_) fun e s' hs=>hs.elim
 cases fl with
 |ret u=>
  obtain ⟨v,σ',H',J,rv,q⟩:=hs
  exact fin J rv q
 |next=>
  obtain ⟨σ',H',J,q⟩:=hs
  exact fin (v:=V.non) (u:=Value.none) J rfl q
 |brk=>
  obtain ⟨_,_,_,q⟩:=hs
  exact False.elim q
 |cont=>
  obtain ⟨_,_,_,q⟩:=hs
  exact False.elim q
structure CaM (P:Program) (w:World) (K:Frag) (mg:Str→Option Value) (base:Heap) (x:Str) (k:Nat) (F:List D→HD→Out D):Prop where
 ex:∃(f:Addr) (fd:FuncData) (ps:List Str),P4 P w K mg base k f fd ps F∧Binds K fd ps []∧mg x=some (.ref f)∧PySem.W.keepIn K (.ref f)=true∧Ar ps.length F
section
variable {X:Cx} {E:XK}
theorem Zz {k k':Nat} {F:List D→HD→Out D} {fa:MA} {x:Str} {p pos:Pos} {e:Expr} {es:List Expr} (C:CaM X.prog X.w X.K X.mg X.base x k F) (hr:RoomM k' X.A) (ha:CA X E0 (e::es) fa) (hk:k≤k':=by decide) (hg:Gl X x:=by rfl)
 (hdb:(x==("__debug__":Str))=false:=by decide) (he:starEach (e::es) X.env=(false,eval e X.env)::starEach es X.env:=by rfl) (hpl:(backTo pos (starEach es X.env)).any (·.1)=false:=by rfl):
 Ev X E0 (.Call (.Name x p) (e::es) [] pos) (Ae F fa):=by
 obtain ⟨f,fd,ps,G,hb,hm,hkp,ar⟩:=C.ex
 rintro pins s σ H Q I ⟨m,ρ,hd,hr1,er,pp⟩
 refine wpAny_Call_Name_kw (GM I hg hm ?_ hdb)
 have post:Oy X.K E0 fa σ H (fun vs H1=>JP X.K F vs H1 Q E0):=⟨m,ρ,hd,hr1,er,Post.bind pp fun xs h1 vs m1 H1 e1 p1 k1 hr1 r1 q1=>⟨m1,xs,h1,hr1,r1,q1⟩⟩
 refine PySem.W.callWith_K (h₀:=X.base) I.ok.mod.kin hkp (Ay (ha pos pins s σ H _ I post) ?_) he hpl
 rintro us s1 ⟨vs,H1,I1,r,q⟩
 refine ⟨I1.kIn,?_⟩
 have hl:us.length=ps.length:=by rw [←r.length];exact ar.len q
 have hb':=hb s1 us I1.kIn (by rw [B9];exact hl)
 rw [B9] at hb'
 refine wpAny_call (codeAny_mono (G.run X.A X.stack s1 H1 ⟨us,[]⟩ us vs Q (hr.mono hk) I1.env0 hb' r q) fun r s' hq=>?_)
 cases r with
 |error e=>exact False.elim hq
 |ok fl=>
  cases fl with
  |ret u=>exact I1.after hq
  |next=>exact False.elim hq
  |brk=>exact False.elim hq
  |cont=>exact False.elim hq
end
theorem P5 {P:Program} {w:World} {fs:List Addr} {H H':Hp} {h0 h h':Heap} {a T:Addr} {C a0:Value} (B:Un fs [] H H' h0 h) (hok:HOk P w H' h) (na:h0.get? a=none) (nT:h0.get? T=none) (ha:H' a=none) (hT:H' T=none)
 (frNone:∀b∈fs,H' b=none) (noFields:∀b∈fs,∃o,h.get? b=some o∧∀vs,o.data≠.fields vs) (stay:(blank (fun b=>b=a∨b=T∨b∈fs) h).StaysIn h') (ups:∀b o,h.get? b=some o→(∀vs,o.data≠.fields vs)→∃sl,h'.get? b=some {o with slots:=sl})
 (tr:h'.TracedW (blank (fun b=>b=a∨b=T∨b∈fs) h) a C a0) {da:Option Addr} {oa:Obj} (ea:h.get? a=some oa) (ed:oa.dict=da) (dd:Dicts h h'):Un fs [] H H' h0 h'∧HOk P w H' h'∧Kd h0 h' H' a C da:=by
 obtain ⟨oe,vs,T2,oT,ts,e1,e2,e3,e4,e5,e6,e7,e8,e9⟩:=tr
 have e11:oe.dict=da:=by
  obtain ⟨o',q1,q2⟩:=dd a oa ea
  rw [e1] at q1
  cases q1
  exact q2.trans ed
 have keepOf:∀b o,¬(b=a∨b=T∨b∈fs)→h.get? b=some o→h'.get? b=some o:=fun b o hb e=>stay b o (by rw [Gi hb];exact e)
 have old:∀b o,h0.get? b=some o→b≠a∧b≠T:=fun b o e=>⟨fun z=>(by rw [z,na] at e;cases e),fun z=>(by rw [z,nT] at e;cases e)⟩
 have any:∀b o,h0.get? b=some o→h.get? b≠none→∃o',h'.get? b=some o':=fun b o e hn=>by
  cases e':h.get? b with
  |none=>exact absurd e' hn
  |some o'=>
   by_cases hb:b∈fs
   ·obtain ⟨o2,h2,d2⟩:=noFields b hb
    obtain ⟨sl,h3⟩:=ups b o2 h2 d2
    exact ⟨_,h3⟩
   ·exact ⟨o',keepOf b o' (fun z=>by rcases z with z |z |z;exact (old b o e).1 z;exact (old b o e).2 z;exact hb z) e'⟩
 refine ⟨⟨fun b o e n hb hx=>?_,fun b o e n hb hx=>?_,B.free,fun b o e hx=>?_,B.tups,B.frzs,B.tbls⟩,fun b o e=>?_,na,ha,oe,vs,a0,T2,oT,ts,e1,e2,e3,e4,?_,?_,e6,e7,e8,e9,e11⟩
 ·exact keepOf b o (fun z=>by rcases z with z |z |z;exact (old b o e).1 z;exact (old b o e).2 z;exact hb z) (B.keep b o e n hb hx)
 ·obtain ⟨sl,h1⟩:=B.slot b o e n hb hx
  obtain ⟨o2,h2,d2⟩:=noFields b hb
  rw [h1] at h2
  cases h2
  obtain ⟨sl2,h3⟩:=ups b _ h1 d2
  exact ⟨sl2,h3⟩
 ·obtain ⟨o',h1⟩:=B.there b o e hx
  exact any b o e (by rw [h1];simp)
 ·refine (hok b o e).stay (fun c u hc q=>keepOf c u (fun z=>?_) q) (fun _ q=>q) fun _ _ q=>q
  have hc':H' c≠none:=by
   rcases hc with rfl |hc
   ·rw [e];simp
   ·rw [hc];simp
  rcases z with z |z |z
  ·exact hc' (z ▸ ha)
  ·exact hc' (z ▸ hT)
  ·exact hc' (frNone c z)
 ·cases q:h0.get? T2 with
  |none=>rfl
  |some o=>
   exfalso
   obtain ⟨o',h1⟩:=B.there T2 o q (by simp)
   by_cases hb:T2∈fs
   ·obtain ⟨o2,h2,d2⟩:=noFields T2 hb
    obtain ⟨sl,h3⟩:=ups T2 o2 h2 d2
    rw [h3] at e7
    cases e7
    exact d2 _ e8
   ·rw [Gi (fun z=>by rcases z with z |z |z;exact (old T2 o q).1 z;exact (old T2 o q).2 z;exact hb z),h1] at e5
    cases e5
 ·cases q:H' T2 with
  |none=>rfl
  |some o=>
   exfalso
   by_cases hb:T2=a∨T2=T∨T2∈fs
   ·rcases hb with z |z |z
    ·rw [z,ha] at q;cases q
    ·rw [z,hT] at q;cases q
    ·rw [frNone T2 z] at q;cases q
   ·rw [Gi hb] at e5
    obtain ⟨ob,eb⟩:=Ml (hok T2 o q)
    rw [eb] at e5
    cases e5
theorem ZA {M:Model} {A:Around} {E:Value→Shared→Prop} {s:Shared} {base:Heap} {env:Env} {outer:List Env} {L e:Addr} {C a0:Value} {Q:Unit→Shared→Prop} (fr:A.frames=some (env::outer)) (lo:env.frame=some L) (fl:Heap.FlyingW base (env::outer) e C a0 s.heap)
 (q:∀h',Heap.HeldW base (env::outer) e C a0 L h'→s.heap.UpToSlots h'→Dicts s.heap h'→Q () {s with heap:=h'}):wpAny M A (noteFrame (.ref e) env) Q E s:=by
 refine wpAny_mono (Im Pq (wpAny_looks_onW (M:=M) (A:=A) (E:=fun _ _=>False) (Q:=fun _ s'=>∃h',s'={s with heap:=h'}∧Heap.HeldW base (env::outer) e C a0 L h'∧s.heap.UpToSlots h') fr lo fl fun h' z1 z2=>⟨h',rfl,z1,z2⟩)) (fun _ s' z=>?_) fun _ _ z=>z.1.elim
 obtain ⟨⟨h',rfl,z1,z2⟩,D⟩:=z
 exact q h' z1 z2 D
theorem ZC {M:Model} {A:Around} {E:Value→Shared→Prop} {s:Shared} {base:Heap} {l:List Env} {e L:Addr} {C a0:Value} {Q:Unit→Shared→Prop} (held:Heap.HeldW base l e C a0 L s.heap)
 (q:∀h',Heap.FlyingW base l e C a0 h'→s.heap.UpToSlots h'→Dicts s.heap h'→Q () {s with heap:=h'}):wpAny M A (setFlight (.ref e) none) Q E s:=by
 refine wpAny_mono (Im Mj (wpAny_landsW (M:=M) (A:=A) (E:=fun _ _=>False) (Q:=fun _ s'=>∃h',s'={s with heap:=h'}∧Heap.FlyingW base l e C a0 h'∧s.heap.UpToSlots h') held fun h' z1 z2=>⟨h',rfl,z1,z2⟩)) (fun _ s' z=>?_) fun _ _ z=>z.1.elim
 obtain ⟨⟨h',rfl,z1,z2⟩,D⟩:=z
 exact q h' z1 z2 D
theorem ZD {M:Model} {A:Around} {E:Value→Shared→Prop} {s:Shared} {base:Heap} {l:List Env} {e:Addr} {C a0:Value} {Q:Unit→Shared→Prop} (held:Heap.FlyingW base l e C a0 s.heap)
 (q:∀h',Heap.FlyingW base l e C a0 h'→s.heap.UpToSlots h'→Dicts s.heap h'→Q () {s with heap:=h'}):wpAny M A (setFlight (.ref e) none) Q E s:=by
 refine wpAny_mono (Im Mj (lands_againW (M:=M) (A:=A) (E:=fun _ _=>False) (Q:=fun _ s'=>∃h',s'={s with heap:=h'}∧Heap.FlyingW base l e C a0 h'∧s.heap.UpToSlots h') held fun h' z1 z2=>⟨h',rfl,z1,z2⟩)) (fun _ s' z=>?_) fun _ _ z=>z.1.elim
 obtain ⟨⟨h',rfl,z1,z2⟩,D⟩:=z
 exact q h' z1 z2 D
section
variable {X:Cx} {pins:List (Addr×Obj)} {σ:L2.St} {H:Hp} {s:Shared}
theorem Inv.track {a:Addr} {o:HO} (I:Inv X pins σ H s) (new:X.s₀.heap.get? a=none) (no:H a=none) (hL:a≠X.env.locals) (hc:∀x c,X.env.cells.lookup x=some c→c≠a) (hp:∀p∈X.pn++pins,p.1≠a) (ok:ObjOk X.prog X.w (Ao H a o) s.heap a o):
 Inv X pins σ (Ao H a o) s:=by
 have ne:∀b u,H b=some u→b≠a:=fun b u e=>Bz e no
 refine ⟨I.ok,I.os,I.bare,⟨I.base.keep,I.base.slot,fun b ob e n hx=>?_,I.base.there,fun b xs e=>?_,fun b ob u e=>?_,fun b ps e=>?_⟩,I.loc,I.cell,?_,fun x c e=>?_,fun p hp'=>?_,fun b u e=>?_,I.len⟩
 ·rw [Av (fun z=>by rw [z,new] at e;cases e)];exact I.base.free b ob e n hx
 ·have:=I.base.tups b xs e
  rw [Av (ne _ _ this)];exact this
 ·have:=I.base.frzs b ob u e
  rw [Av (ne _ _ this)];exact this
 ·obtain ⟨more,this⟩:=I.base.tbls b ps e
  exact ⟨more,by rw [Av (ne _ _ this)];exact this⟩
 ·rw [Av (Ne.symm hL)];exact I.free
 ·rw [Av (hc x c e)];exact I.freeC x c e
 ·obtain ⟨a1,a2,a3⟩:=I.pin p hp'
  exact ⟨a1,by rw [Av (hp p hp')];exact a2,a3⟩
 ·by_cases hb:b=a
  ·subst hb
   rw [BL] at e
   cases e
   exact ok
  ·rw [Av hb] at e
   exact (I.hok b u e).stay (fun _ _ _ q=>q) (fun c q=>by rw [Av (ne _ _ q)];exact q) fun c xs q=>by rw [Av (ne _ _ q)];exact q
theorem Inv.locals {σ':L2.St} {h':Heap} {m':Str→Option Value} {t':Nat} (I:Inv X pins σ H s) (hn':h'.Ns X.env.locals m') (hs:Heap.SameBut X.env.locals s.heap h')
 (hl:∀(i:Nat) (x:Str) (v:V),X.N[i]?=some x→σ'[i]?=some (some v)→HK X.env.scope x→∃u,RelV v u∧NZ X.env h' m' x u) (len:σ'.length=σ.length):Inv X pins σ' H {s with heap:=h',toks:=t'}:=by
 obtain ⟨m,hn,_⟩:=id I.loc
 obtain ⟨oL,_,_,hoL,_⟩:=id hn
 have neL:∀b o,X.s₀.heap.get? b=some o→b≠X.env.locals:=fun b o e=>Bt (AW (AF e) I.ok.above)
 refine ⟨I.ok,I.os,I.bare,⟨fun b o e n hb hx=>?_,fun b o e n hb hx=>?_,I.base.free,fun b o e hx=>?_,I.base.tups,I.base.frzs,I.base.tbls⟩,⟨_,hn',hl⟩,fun y c e=>?_,I.free,I.freeC,fun p hp=>?_,fun b ob e=>?_,len.trans I.len⟩
 ·exact (hs.2 b (neL b o e)).trans (I.base.keep b o e n hb hx)
 ·obtain ⟨sl,e1⟩:=I.base.slot b o e n hb hx
  exact ⟨sl,(hs.2 b (neL b o e)).trans e1⟩
 ·obtain ⟨o',e1⟩:=I.base.there b o e hx
  exact ⟨o',(hs.2 b (neL b o e)).trans e1⟩
 ·obtain ⟨v,z⟩:=I.cell y c e
  exact ⟨v,z.sameBut hs (I.cne y c e)⟩
 ·obtain ⟨a1,a2,a3,a4⟩:=I.pin p hp
  exact ⟨(hs.2 _ a3).trans a1,a2,a3,a4⟩
 ·refine (I.hok b ob e).stay (fun c w' hc q=>(hs.2 c ?_).trans q) (fun _ q=>q) fun _ _ q=>q
  rintro rfl
  have hfree:=I.free
  rcases hc with rfl |hc
  ·rw [hfree] at e;cases e
  ·rw [hfree] at hc;cases hc
theorem ZE {M:Model} {A:Around} {E:Value→Shared→Prop} {n:Str} {pos:Pos} {i:Nat} {Q:Unit→Shared→Prop} (I:Inv X pins σ H s) (hN:X.N.Nodup) (hi:X.N[i]?=some n) (hl:X.env.kindOf n=some .local)
 (h:∀s',Inv X pins (σ.set i none) H s'→Q () s'):wpAny M A (do bindName X.env n .none;unbindBehindTheSuite X.env n pos) Q E s:=by
 have hp:(X.env.scope.kind==.class||(X.env.scope.kind==.module&&X.env.locals != X.env.globals))=false:=by rw [I.ok.kind];rfl
 refine wpAny_bind (wpAny_bindName (Jt (v:=.non) I hN hi (.inl hl) rfl (fun s1 I1 _=>?_) (.inr hl)))
 unfold unbindBehindTheSuite
 refine wpAny_onRaise ?_
 unfold unbindName
 refine wpAny_bind (wpAny_point (wpAny_bind ?_))
 unfold deleteName
 simp only [hl,hp]
 rw [if_neg (by decide)]
 obtain ⟨m1,hn1,hl1⟩:=I1.loc
 have hin:(m1 n).isSome=true:=by
  have hiσ:i < σ.length:=by rw [I.len];exact (qa3.mp hi).1
  obtain ⟨u,_,lk⟩:=hl1 i n .non hi (by rw [BR hiσ]) (.inl hl)
  rcases lk with ⟨_,z⟩ |⟨z,_⟩
  ·rw [z];rfl
  ·rcases z with z |z<;>(rw [hl] at z;cases z)
 refine wpAny_bind (wpAny_nsDel_keeps hn1 fun h2 v hn2 hs2=>?_)
 simp only [hin,if_true,Bool.not_true,CH,if_false]
 refine wpAny_pure (wpAny_point (h _ (Inv.locals (t':=s1.toks) (I1.weak (σ':=σ.set i none) (by simp) fun j v' e=>?_) hn2 hs2 (fun j x v' e1 e2 e3=>?_) rfl)))
 ·by_cases hj:i=j
  ·subst hj
   have hiσ:i < σ.length:=by rw [I.len];exact (qa3.mp hi).1
   rw [BR hiσ] at e;cases e
  ·rw [Bp hj] at e ⊢;exact e
 ·have hj:i≠j:=by
   rintro rfl
   have hiσ:i < σ.length:=by rw [I.len];exact (qa3.mp hi).1
   rw [BR hiσ] at e2;cases e2
  rw [Bp hj] at e2
  obtain ⟨u,r,lk⟩:=hl1 j x v' e1 (by rw [Bp hj];exact e2) e3
  have hx:x≠n:=fun z=>hj (Lj hN hi (z ▸ e1))
  refine ⟨u,r,?_⟩
  rcases lk with ⟨k1,k2⟩ |⟨k1,c,k2,k3⟩
  ·exact .inl ⟨k1,(if_neg hx).trans k2⟩
  ·exact .inr ⟨k1,c,k2,k3.sameBut hs2 (I1.cne x c k2)⟩
end
def E3:List (Str×D)→Option (List (Str×Int))
 |[]=>some []
 |(f,.int i)::r=>(E3 r).map fun l=>(f,i)::l
 |_=>none
theorem P6:∀{fs:List (Str×D)} {is:List (Str×Int)} {f:Str} {i:Int},E3 fs=some is→is.lookup f=some i→fs.lookup f=some (.int i)
 |[],is,f,i,e,l=>by cases e;cases l
 |(g,d)::r,is,f,i,e,l=>by
  cases d with
  |int j=>
   simp only [E3] at e
   cases er:E3 r with
   |none=>rw [er] at e;cases e
   |some l2=>
    rw [er] at e
    cases e
    rw [FU] at l ⊢
    cases hb:f==g with
    |true=>rw [hb] at l;cases l;rfl
    |false=>rw [hb] at l;exact P6 er l
  |_=>cases e
open Classical in
noncomputable def Ko (a:Addr) (vs:List V) (Fk:List D→HD→Out D) (f:ME):MS:=fun ρ h=>match (ρ[0]?:Option (Option D)),(h[0]?:Option Cell) with
 |some (some (.clo a' vs' ds)),some .tab=>if a'=a∧vs'=vs then (match f (ds.map some) h with
  |.ok _ h1=>.ok (.nx,ρ) h1
  |.err (.str n _) fs h1=>if n∈excNames then (match E3 fs with
   |some is=>(match Fk [.exc n is] h1 with
    |.ok d h2=>.ok (.nx,(ρ.set 1 (some d)).set 2 none) h2
    |_=>.stuck)
   |none=>.stuck) else .stuck
  |_=>.stuck) else .stuck
 |_,_=>.stuck
structure SaidX (X:Cx) (P a c':Addr) (lpos:Pos) (Nc:List Str) (params:Arguments) (body:Expr) (scope:Scope) (cl:List (Str×Addr)) (pm ctv:Value) (vs:List V):Prop where
 N:X.N=(["_law_call","_law_word","_law_e"]:List Str)
 k0:X.env.kindOf "_law_call"=some .local
 k1:X.env.kindOf "_law_word"=some .local
 k2:X.env.kindOf "_law_e"=some .local
 tp:∃c,tabP X.K=some (c,P)
 tb:∃ps,X.H₀ P=some (.tbl ps)∧TriplesOk ps.toList∧codeAmong lpos ps.toList=some (.ref c')
 ob:X.s₀.heap.get? a=some (kla_obj "<lambda>" Bn params body scope cl pm c' ctv)
 no:X.H₀ a=none
 nf:a∉X.fs
 clo:Iu X.s₀.heap X.H₀ X.outer Nc scope cl vs
section
variable {X:Cx} {E:XK} {P a c':Addr} {lpos:Pos} {Nc:List Str} {params:Arguments} {body:Expr} {scope:Scope} {cl:List (Str×Addr)} {pm ctv:Value} {vs:List V}
theorem ZF {M:Model} {A:Around} {E:Value→Shared→Prop} {s:Shared} {a:Addr} {o:Obj} {fd:FuncData} {Q:Value→Shared→Prop} {env:Env} {pos:Pos} (h0:s.heap.get? a=some o) (hd:o.data=.func fd) (h:wpAny M A (call (.ref a) []) Q E s):
 wpAny M A (callWith pos (.ref a) [] (backTo pos (starEach [] env)) []) Q E s:=
 callWith_of (P:=fun h=>h.get? a=some o) rfl (fun h e=>⟨.frame,.inl rfl,(Looks.ld (part:=none) e).andThen (by rw [hd];exact .now)⟩) (evalArgs_nil3 ⟨h0,h⟩)
theorem SaidX.cloNow (S:SaidX X P a c' lpos Nc params body scope cl pm ctv vs) (lv:Lv X E) {pins:List (Addr×Obj)} {σ:L2.St} {H:Hp} {s:Shared} (I:Inv X pins σ H s):Iu s.heap H X.stack Nc scope cl vs∧s.heap.get? a=some (kla_obj "<lambda>" Bn params body scope cl pm c' ctv):=by
 have B:Un X.fs [] X.H₀ H X.s₀.heap s.heap:=by have:=I.base;rw [lv.ex] at this;exact this
 have keep:∀c v,X.s₀.heap.IsCell c v→X.H₀ c=none→c∉X.fs→s.heap.IsCell c v:=fun c v z1_ n f=>by obtain ⟨o,e,d⟩:=z1_;exact (⟨o,B.keep c o e n f (by simp),d⟩)
 refine ⟨⟨S.clo.len,S.clo.inj,S.clo.has,fun x c e=>?_,fun i x v e1 e2=>?_⟩,B.keep a _ S.ob S.no S.nf (by simp)⟩
 ·obtain ⟨⟨v,q⟩,n,f⟩:=S.clo.cell x c e
  obtain ⟨o,e1,d⟩:=id q
  refine ⟨⟨v,keep c v q n f⟩,B.free c o e1 n (by simp),fun z=>?_⟩
  rw [lv.frs] at z
  rcases qa5.mp z with z |z
  ·exact absurd (AW (AF e1) I.ok.above) (by rw [z];exact CO _)
  ·exact f z
 ·obtain ⟨hf,c,u,e3,e4,r⟩:=S.clo.val i x v e1 e2
  obtain ⟨_,n,f⟩:=S.clo.cell x c e3
  exact ⟨hf,c,u,e3,keep c _ e4 n f,r⟩
def FE (X:Cx) (e:Addr):Cx:={X with A:=X.A.mark (some (.ref e)),calm:=false,xe:=fun _ _=>False}
theorem Inv.marked {pins:List (Addr×Obj)} {σ:L2.St} {H:Hp} {s:Shared} {e:Addr} (I:Inv X pins σ H s):Inv (FE X e) pins σ H s:=
 ⟨⟨I.ok.mod,I.ok.kind,I.ok.glob,I.ok.blt,I.ok.above,I.ok.inj,I.ok.has,I.ok.cab,fun z=>(nomatch z),I.ok.frames,I.ok.stk,I.ok.exf,I.ok.bs,I.ok.bsz,I.ok.noex,I.ok.exfs,I.ok.funs,I.ok.frf⟩,I.os,I.bare,I.base,I.loc,I.cell,I.free,I.freeC,I.pin,I.hok,I.len⟩
theorem Inv.unmarked {pins:List (Addr×Obj)} {σ:L2.St} {H:Hp} {s:Shared} {e:Addr} (ok:X.Ok) (I:Inv (FE X e) pins σ H s):Inv X pins σ H s:=
 ⟨ok,I.os,I.bare,I.base,I.loc,I.cell,I.free,I.freeC,I.pin,I.hok,I.len⟩
theorem ZG {k:Nat} {Fk:List D→HD→Out D} {f:ME} {p4 p5 p6 p7 p8 p9 p10 p11 p12 p13 p14:Pos} (lv:Lv X E) (S:SaidX X P a c' lpos Nc params body scope cl pm ctv vs) (hr:Room (k+1) X.A) (et:etOk X.K=true) (hsw:∃Sw,nsIn X.K mainGlobals "SwitchError"=some (some (.ref Sw)))
 (hgS:X.env.kindOf "SwitchError"=some .globalImplicit) (hgK:X.env.kindOf "_law_kind"=some .globalImplicit)
 (hkind:CaM X.prog X.w X.K X.mg X.base "_law_kind" k Fk) (hL:LamSc scope) (hbind:bindArgs (kla_fn "<lambda>" Bn params body scope cl pm (.ref c') ctv) ⟨[],[]⟩=pure [])
 (hb:∀(s:Shared) (H:Hp) (E':XK),Room k (X.A.deeper (envX Bn scope s.heap.objs.size a (.ref c') cl))→Ev (Ek X.prog X.w X.K X.mg X.base Nc scope a (.ref c') cl X.A X.stack s H E') E' body f):
 Ex X E (.Try [.Expr (.Call (.Name "_law_call" p4) [] [] p5) p6] [.ExceptHandler (some (.Name "SwitchError" p7)) (some "_law_e") [.Assign [.Name "_law_word" p8] (.Call (.Name "_law_kind" p9) [.Name "_law_e" p10] [] p11) p12] p13] [] [] p14) (Ko a vs Fk f):=by
 rintro pins s σ H Dn I ⟨m,ρ,h,hr1,er,p⟩
 refine Classical.byContradiction fun nG=>?_
 have hN0:X.N[0]?=some ("_law_call":Str):=by rw [S.N];rfl
 have hN1:X.N[1]?=some ("_law_word":Str):=by rw [S.N];rfl
 have hN2:X.N[2]?=some ("_law_e":Str):=by rw [S.N];rfl
 have nd:X.N.Nodup:=by rw [S.N];decide +kernel
 obtain ⟨Sw,hSw⟩:=hsw
 unfold Ko at p
 split at p
 ·rename_i a' vs' ds e0 et0
  split at p
  ·rename_i hav
   obtain ⟨rfl,rfl⟩:=hav
   obtain ⟨C,ob⟩:=S.cloNow lv I
   obtain ⟨v0,hv0,rv0⟩:=er.2 0 _ e0
   simp only [DV] at rv0
   obtain ⟨rfl,rds⟩:=rv0
   obtain ⟨aP,haP,tab⟩:=hr1.at et0
   obtain ⟨⟨cc,htp⟩,ps2,hps2,htr2,hcs2⟩:=tab
   obtain ⟨cc',htp'⟩:=S.tp
   rw [htp'] at htp
   cases htp
   obtain ⟨ps,hps,htr,hca⟩:=S.tb
   obtain ⟨more,hmore⟩:=I.base.tbls P ps hps
   have hca2:codeAmong lpos ps2.toList=some (.ref c'):=by
    have e:=hmore.symm.trans hps2
    cases e
    rw [Array.toList_append]
    exact Zr htr hca
   obtain ⟨c2,e2,hx2⟩:=hcs2 lpos _ hca2
   cases e2
   have hcd:s.heap.CodeRec (.ref c') Bn:=(I.hok c' _ hx2).1
   have run:∀(Q:VK) (E':XK),Post X.K (rD X.K) m H E' Q (f (ds.map some) h)→codeAny (model X.prog X.w) X.A (.call (.ref a') ⟨[],[]⟩) (CR (Ba X.prog X.w X.K) X.stack X.prog X.w H s Q E') s:=fun Q E' q=>
    Zw hL hr I.env0 C ob hcd hbind (hb s H E') ⟨m,ds,h,hr1,rds,q⟩
   have start:∀{Q:Flow→Shared→Prop} {EE:Value→Shared→Prop},codeAny (model X.prog X.w) X.A (.call (.ref a') ⟨[],[]⟩) (fun r s'=>match r with |.ok (.ret u)=>Q .next s' |.error e=>EE e s' |_=>False) s→
    wpAny (model X.prog X.w) X.A (execs [.Expr (.Call (.Name "_law_call" p4) [] [] p5) p6] X.env) Q EE s:=fun {Q EE} hc=>by
    refine wpAny_execs_cons (wpAny_Expr_any (wpAny_Call_Name_kw ?_) I.quiet rfl)
    obtain ⟨m0,hn0,hl0⟩:=I.loc
    obtain ⟨u,ru,lk⟩:=hl0 0 "_law_call" (.ref a') hN0 hv0 (.inl S.k0)
    cases (show u=Value.ref a' from ru)
    rcases lk with ⟨hk,hm⟩ |⟨z,_⟩
    ·refine wpAny_Name (wpAny_loadName_local I.ok.kind hk hn0 hm (ZF ob rfl (wpAny_call (codeAny_mono hc fun r s' hq=>?_)))) (by decide)
     cases r with
     |error e=>exact hq
     |ok fl=>
      cases fl with
      |ret u=>exact wpAny_execs_nil hq
      |next=>exact hq.elim
      |brk=>exact hq.elim
      |cont=>exact hq.elim
    ·rcases z with z |z<;>(rw [S.k0] at z;cases z)
   refine nG (wpAny_Try_except (start ?_))
   clear nG
   refine Classical.byContradiction fun nG=>?_
   cases ho:f (ds.map some) h with
   |stuck=>rw [ho] at p;exact p.elim
   |ok d h1=>
    rw [ho] at p
    refine nG (codeAny_mono (run (fun v H'=>∃m',m <+:m'∧Kp H H'∧HR X.K m' h1 H') E0 (by rw [ho];exact fun v m' H' p1 k1 hr' _=>⟨m',p1,k1,hr'⟩)) fun r s' hq=>?_)
    cases r with
    |error e=>
     obtain ⟨_,_,_,_,_,_,_,_,_,_,_,_,q⟩:=hq
     exact q.elim
    |ok fl=>
     cases fl with
     |ret u=>
      obtain ⟨v,H',os,bare,un,hok,_,m',p1,k1,hr'⟩:=hq
      exact wpAny_execs_nil ⟨σ,H',I.call' os un hok bare (fun b hb=>absurd hb (by simp)),p m' H' p1 k1 hr' σ (er.keep p1 k1)⟩
     |next=>exact hq.elim
     |brk=>exact hq.elim
     |cont=>exact hq.elim
   |err Cv fs h1=>
    rw [ho] at p
    cases Cv with
    |str n t=>
     simp only at p
     split at p
     ·rename_i hn
      refine nG (codeAny_mono (run (fun _ _=>False) (fun C' da H'=>C'=.str n t∧∃m',m <+:m'∧Kp H H'∧HR X.K m' h1 H'∧XD X.K m' H' fs da) (by rw [ho];exact fun da m' H' p1 k1 hr' xd=>⟨rfl,m',p1,k1,hr',xd⟩)) fun r s1 hq=>?_)
      clear nG
      cases r with
      |ok fl=>
       cases fl with
       |ret u=>obtain ⟨_,_,_,_,_,_,_,z⟩:=hq;exact z.elim
       |next=>exact hq.elim
       |brk=>exact hq.elim
       |cont=>exact hq.elim
      |error e=>
       obtain ⟨ae,Cc,n',da,H',rfl,os,bare,un,hok,fly,nm,hE,m',p1,k1,hr',xd⟩:=hq
       refine Classical.byContradiction fun nG=>?_
       have hnn:n'=n:=by cases hE;rfl
       subst hnn
       have I1:Inv X pins σ H' s1:=I.call' os un hok bare (fun b hb=>absurd hb (by simp))
       obtain ⟨fnew,fno,oe,ws,a0,T,oT,ts,e1,e2,e3,e4,e5,e6,e7,e8,e9,e10,e11⟩:=fly
       have fro:X.A.frames=some (X.env::X.outer):=by rw [←lv.stk];exact I1.ok.frames
       have stk:s1.heap.FunFrames X.base (X.env::X.outer):=by have:=I1.stack;rw [lv.stk] at this;exact this
       have frN:∀b∈frs X.stack,H' b=none:=fun b hb=>I1.stkFree b hb
       have frO:∀b∈frs X.stack,∃o,s1.heap.get? b=some o∧∀vs,o.data≠.fields vs:=fun b hb=>(I1.stack.mem hb).2
       have fly0:Heap.FlyingW (blank (fun b=>b=ae∨b=T∨b∈frs X.stack) s1.heap) (X.env::X.outer) ae (.ref Cc) a0 s1.heap:=
        ⟨Mk,Gh (.inl rfl),Ke stk fun b hb=>.inr (.inr (by rw [lv.stk];exact hb)),oe,ws,T,oT,ts,e1,e2,e3,e4,Gh (.inr (.inl rfl)),e7,e8,e9,e10⟩
       refine nG (ZA fro lv.fr fly0 fun h4 held4 sm4 D4=>?_)
       clear nG
       refine ZC held4 fun h5 held5 sm5 D5=>?_
       refine Classical.byContradiction fun nG=>?_
       obtain ⟨un5,hok5,fly5⟩:=P5 un hok fnew e5 fno e6 frN frO held5.1 (sm4.trans sm5) held5.2.2.2 e1 e11 (D4.trans D5)
       have I5:Inv X pins σ H' {s1 with heap:=h5}:=I.call' (s':={s1 with heap:=h5}) os un5 hok5 bare (fun b hb=>absurd hb (by simp))
       have hmS:X.mg "SwitchError"=some (.ref Sw):=mg_of I.mod.kin I.mod.glob hSw
       have T5:=Kl et hn nm
       obtain ⟨_,_,oe5,ws5,_,_,_,_,f1,f2,f3,_⟩:=id fly5
       refine nG (wpAny_handleBy_cons (codeAny_handlers_test ?_) (by intro q;cases q))
       clear nG
       refine Calls.Name_function_global I5.ok.kind hgS (Calls.loadGlobal_global (by rw [I5.ok.glob];exact I5.mod.glob.keeps I5.bk) hmS ?_) (by decide)
       refine (exm_one (M:=model X.prog X.w) I5.kIn (TyAt.type ⟨oe5,f1,f2.1⟩) (T5.sw Sw hSw)).here ?_
       simp only [if_true]
       refine codeAny_handlers_suite_as (ZD held5 fun h6 held6 sm6 D6=>?_)
       obtain ⟨un6,hok6,fly6⟩:=P5 un hok fnew e5 fno e6 frN frO held6.1 ((sm4.trans sm5).trans sm6) held6.2.2.2 e1 e11 ((D4.trans D5).trans D6)
       have I6:Inv X pins σ H' {s1 with heap:=h6}:=I.call' (s':={s1 with heap:=h6}) os un6 hok6 bare (fun b hb=>absurd hb (by simp))
       obtain ⟨_,_,oe6,ws6,_,_,_,_,g1,g2,g3,_,_,_,_,_,_,_,g11⟩:=id fly6
       have older:∀b,s.heap.get? b=none→X.s₀.heap.get? b=none:=lv.older I
       have xok:ObjOk X.prog X.w (Ao H' ae (.ext (Fq Cc da ae))) h6 ae (.ext (Fq Cc da ae)):=
        ⟨⟨oe6,ws6,g1,g2.1,fun d z=>g11.trans z,g3⟩,⟨oe6,g1⟩,fun ha hb' z2_ k'=>by obtain ⟨o,w',z1,z2,z3,z4⟩:=z2_;exact (⟨o,w',k' o z1,z2,z3,z4⟩)⟩
       have neL:ae≠X.env.locals:=fun z=>by
        obtain ⟨mL,⟨oL,_,_,hoL,_⟩,_⟩:=I.loc
        rw [←z,fnew] at hoL;cases hoL
       have neC:∀x c,X.env.cells.lookup x=some c→c≠ae:=fun x c ex z=>by
        obtain ⟨v,o,hoc,_⟩:=I.cell x c ex
        rw [z,fnew] at hoc;cases hoc
       have neP:∀q∈X.pn++pins,q.1≠ae:=fun q hq z=>by
        have:=(I.pin q hq).1
        rw [z,fnew] at this;cases this
       have I6':=LS.Inv.track I6 (older ae fnew) fno neL neC neP xok
       have kx:Kp H' (Ao H' ae (.ext (Fq Cc da ae))):=.new fno
       refine Jt (v:=.ref ae) I6' nd hN2 (.inl S.k2) rfl (fun s7 I7 _=>?_) (.inr S.k2)
       split at p
       rename_i is his
       split at p
       ·rename_i d h2 hk2
        have hr7:HR X.K m' h1 (Ao H' ae (.ext (Fq Cc da ae))):=hr'.new fno
        have er7:ER X.K m' (Ao H' ae (.ext (Fq Cc da ae))) (ρ.set 2 (some (.exc n' is))) (σ.set 2 (some (.ref ae))):=
         ((er.keep p1 k1).keep (AB _) kx).set (by simp only [DV];exact ⟨ae,Cc,da,rfl,nm,BL,fun f i z=>by
           obtain ⟨b,fv,v,q1,q2,q3,q4⟩:=xd f _ (P6 his z)
           simp only [DV] at q4
           exact ⟨b,fv,q1,by rw [Av (Bz q2 fno)];exact q2,by rw [q3,q4]⟩⟩)
        have hρ:2 < ρ.length:=by rw [er.1,I.len,S.N];decide
        have sx:CB (FE X ae) E0 [.Assign [.Name "_law_word" p8] (.Call (.Name "_law_kind" p9) [.Name "_law_e" p10] [] p11) p12] (An 1 (Ae Fk (Ab (Aa 2) Ac))):=
         JU (LR (X:=FE X ae) (i:=1) nd hN1 (Zz (X:=FE X ae) hkind (RoomM.of hr _) (HZ (LM (X:=FE X ae) (Jv (X:=FE X ae) hN2 (.inl S.k2))) HY) (Nat.le_succ _) hgK) (Or.inl S.k1) (hf:=.inr S.k1))
        have post:GT (FE X ae).K E0 (An 1 (Ae Fk (Ab (Aa 2) Ac))) {nx:=fun σ' H''=>Dn.nx (σ'.set 2 none) H'',rt:=fun _ _=>False} (σ.set 2 (some (.ref ae))) (Ao H' ae (.ext (Fq Cc da ae))):=by
         refine ⟨m',ρ.set 2 (some (.exc n' is)),h1,hr7,er7,?_⟩
         have ev:An 1 (Ae Fk (Ab (Aa 2) Ac)) (ρ.set 2 (some (.exc n' is))) h1=.ok (.nx,(ρ.set 2 (some (.exc n' is))).set 1 (some d)) h2:=by
          unfold An Ae Ab Ac Aa
          rw [BR hρ]
          simp only [Out.bind_ok]
          rw [hk2]
          rfl
         rw [ev]
         intro m2 H2 p2 k2 hr2 σ' er2
         refine p m2 H2 (p1.trans p2) ((k1.trans kx).trans k2) hr2 _ ⟨by simp [er2.1.symm],fun i di e=>?_⟩
         by_cases hi:2=i
         ·subst hi
          rw [BR (by simpa using hρ)] at e
          cases e
         ·rw [Bp hi] at e
          obtain ⟨v,z1,z2⟩:=er2.2 i di (by
           by_cases h1i:1=i
           ·subst h1i
            rw [BR (by omega)] at e
            rw [BR (by simp;omega)];exact e
           ·rw [Bp h1i] at e
            rw [Bp h1i,Bp hi];exact e)
          exact ⟨v,by rw [Bp hi];exact z1,z2⟩
        refine wpAny_mono (sx pins s7 _ _ _ (Inv.marked I7) post) (fun fl s8 h8=>?_) fun _ _ z=>False.elim z
        cases fl with
        |next=>
         obtain ⟨σ',H'',I8,q8⟩:=h8
         exact ZE (Inv.unmarked I.ok I8) nd hN2 S.k2 fun s9 I9=>⟨_,H'',I9,q8⟩
        |ret u=>obtain ⟨_,_,_,_,_,z⟩:=h8;exact False.elim z
        |brk=>obtain ⟨_,_,_,z⟩:=h8;exact False.elim z
        |cont=>obtain ⟨_,_,_,z⟩:=h8;exact False.elim z
       ·exact p.elim
       ·exact p.elim
     ·exact p.elim
    |_=>exact p.elim
  ·exact p.elim
 ·exact p.elim
end
noncomputable def MC (Fk:List D→HD→Out D):Out D→Out D
 |.ok _ h1=>.ok (.str "told") h1
 |.err (.str n _) fs h1=>if n∈excNames then (match E3 fs with
  |some is=>(match Fk [.exc n is] h1 with
   |.ok d h2=>.ok d h2
   |_=>.stuck)
  |none=>.stuck) else .stuck
 |_=>.stuck
noncomputable def DS (cs:List Nat) (Fk:List D→HD→Out D) (f:ME):ME:=fun ρ h=>match (h[0]?:Option Cell),AC (cs.map fun j=>(ρ[j]?).join) with
 |some .tab,some ds=>MC Fk (f (ds.map some) h)
 |_,_=>.stuck
structure LSc (X:Cx) (scope:Scope) (Nc:List Str) (cs:List Nat):Prop where
 lam:LamSc scope
 nd:(scope.names.map (·.1)).Nodup
 free:(scope.names.all fun y=>y.2 != .free||(X.env.kindOf y.1==some .cell||X.env.kindOf y.1==some .free))=true
 len:cs.length=Nc.length
 out:((Nc.zip cs).all fun p=>X.N[p.2]?==some p.1&&scope.names.lookup p.1==some .free)=true
theorem LSc.at_ {X:Cx} {scope:Scope} {Nc:List Str} {cs:List Nat} (S:LSc X scope Nc cs) {i j:Nat} {x:Str} (h1:Nc[i]?=some x) (h2:cs[i]?=some j):X.N[j]?=some x∧scope.names.lookup x=some .free:=by
 have hz:(Nc.zip cs)[i]?=some (x,j):=by
  rw [List.getElem?_zip_eq_some]
  exact ⟨h1,h2⟩
 have:=qaO.mp S.out (x,j) (Fd hz)
 simpa using this
theorem LSc.fr {X:Cx} {scope:Scope} {Nc:List Str} {cs:List Nat} (S:LSc X scope Nc cs):∀y∈scope.names,y.2=.free→X.env.kindOf y.1=some .cell∨X.env.kindOf y.1=some .free:=fun y hy e=>by
 have:=qaO.mp S.free y hy
 rw [e] at this
 simpa using this
theorem P7 {K:Frag} {m:List Addr} {H:Hp} {ρ:Ah} {σ:L2.St} (er:ER K m H ρ σ):∀{cs:List Nat} {ds:List D},AC (cs.map fun j=>(ρ[j]?).join)=some ds→∃vs,DVs K m H ds vs∧vs.length=cs.length∧∀(i:Nat) (v:V),vs[i]?=some v→∃j,cs[i]?=some j∧σ[j]?=some (some v)
 |[],ds,e=>by
  simp [AC] at e
  subst e
  exact ⟨[],.nil,rfl,fun i v z=>by simp at z⟩
 |j::cs,ds,e=>by
  rw [BE] at e
  cases ed:(ρ[j]?).join with
  |none=>rw [ed] at e;simp [AC] at e
  |some d=>
   rw [ed] at e
   simp only [AC,qaT] at e
   obtain ⟨ds',e1,rfl⟩:=e
   obtain ⟨vs,h1,h2,h3⟩:=P7 er e1
   obtain ⟨v,e2,r⟩:=er.2 j d (join_some.mp ed)
   refine ⟨v::vs,.cons r h1,by simp [h2],fun i v' z=>?_⟩
   cases i with
   |zero=>simp at z;subst z;exact ⟨j,rfl,e2⟩
   |succ i=>simpa using h3 i v' (by simpa using z)
section
variable {X:Cx} {E:XK} {c P:Addr} {Nc:List Str} {cs:List Nat} {params:Arguments} {body:Expr} {scope:Scope}
theorem ZH {α:Type} {l:List (Str×α)} {x:Str} {v:α} (h:(x,v)∈l):∃w,l.lookup x=some w:=by
 cases e:l.lookup x with
 |some w=>exact ⟨w,rfl⟩
 |none=>
  have:=List.lookup_eq_none_iff.mp e _ h
  simp at this
theorem ZI {k:Nat} {Fk:List D→HD→Out D} {f:ME} {fs:Addr} {fd:FuncData} {st:Stmt} {lpos p pos p1 p2 p3 p4 p5 p6 p7 p8 p9 p10 p11 p12 p13 p14 p15 p16:Pos} {j1:Nat} (L:LamX X c P) (fna:∀x,X.fn x=true) (hr:Room (k+2) X.A) (lv:Lv X E) (et:etOk X.K=true)
 (hsw:∃Sw,nsIn X.K mainGlobals "SwitchError"=some (some (.ref Sw)))
 (Fn:Fun X.K "_law_said" "_law_said" st fs fd) (hbd:Binds X.K fd ["_law_call"] []) (hm:X.mg "_law_said"=some (.ref fs)) (hkp:keepIn X.K (.ref fs)=true)
 (Sf:DJ ["_law_call","_law_word","_law_e"] ["_law_call"] (defScope st)) (hk0:(defScope st).names.lookup ("_law_call":Str)=some .local) (hk1:(defScope st).names.lookup ("_law_word":Str)=some .local) (hk2:(defScope st).names.lookup ("_law_e":Str)=some .local)
 (hgS:∀L' cd,(envOfC "_law_said" (defScope st) L' fs cd).kindOf "SwitchError"=some .globalImplicit) (hgK:∀L' cd,(envOfC "_law_said" (defScope st) L' fs cd).kindOf "_law_kind"=some .globalImplicit)
 (hst:defBody st=[.Assign [.Name "_law_word" p1] (.Constant (.str "told") j1 p2) p3,.Try [.Expr (.Call (.Name "_law_call" p4) [] [] p5) p6] [.ExceptHandler (some (.Name "SwitchError" p7)) (some "_law_e") [.Assign [.Name "_law_word" p8] (.Call (.Name "_law_kind" p9) [.Name "_law_e" p10] [] p11) p12] p13] [] [] p14,.Return (some (.Name "_law_word" p15)) p16])
 (hkind:CaM X.prog X.w X.K X.mg X.base "_law_kind" k Fk) (hg:Gl X "_law_said") (S:LSc X scope Nc cs) (hdef:defaultsOf params X.env=([],[]))
 (hbind:∀(cl:List (Str×Addr)) (pm cv ctv:Value),bindArgs (kla_fn "<lambda>" Bn params body scope cl pm cv ctv) ⟨[],[]⟩=pure [])
 (hb:∀(a:Addr) (cd:Value) (cl:List (Str×Addr)) (A:Around) (outer:List Env) (s:Shared) (H:Hp) (E':XK),Room k (A.deeper (envX Bn scope s.heap.objs.size a cd cl))→Ev (Ek X.prog X.w X.K X.mg X.base Nc scope a cd cl A outer s H E') E' body f)
 (he:starEach [.Lambda params body scope lpos] X.env=(false,eval (.Lambda params body scope lpos) X.env)::starEach [] X.env:=by rfl) (hpl:(backTo pos (starEach [] X.env)).any (·.1)=false:=by rfl):
 Ev X E (.Call (.Name "_law_said" p) [.Lambda params body scope lpos] [] pos) (DS cs Fk f):=by
 rintro pins s σ H Q I ⟨m,ρ,h,hr1,er,pp⟩
 unfold DS at pp
 split at pp
 ·rename_i ds et0 eds
  obtain ⟨aP,haP,tab⟩:=hr1.at et0
  obtain ⟨⟨cc,htp⟩,tabr⟩:=id tab
  rw [L.tp] at htp
  cases htp
  obtain ⟨vs,dvs,vlen,vat⟩:=P7 er eds
  obtain ⟨cl,hclos,hcl,hcl2⟩:=OZ (scope:=scope) (env:=X.env) fun y hy hf=>I.ok.has y.1 (S.fr y hy hf)
  refine wpAny_Call_Name_kw (GM I hg hm ?_ (by decide))
  refine PySem.W.callWith_K (h₀:=X.base) I.ok.mod.kin hkp ?_ he hpl
  rw [he]
  show wpAny _ _ (spliced ((false,eval (.Lambda params body scope lpos) X.env)::[])) _ _ s
  refine Calls.spliced_cons (Zs L I tab hdef hclos fun a c' ctv pm h' tk H' I' kp tab' same keep hsz no ob code=>?_)
  refine wpAny_pure ⟨I'.kIn,wpAny_call ?_⟩
  generalize hs1:({s with heap:=h',toks:=tk}:Shared)=s1 at I'
  have hh1:s1.heap=h':=by rw [←hs1]
  have hrN:HR X.K m h H':=hr1.tab kp same tab' tab
  have frLt:∀b∈frs X.stack,b<s.heap.objs.size:=fun b hb=>by
   obtain ⟨_,o,ho,_⟩:=I.stack.mem hb
   exact AF ho
  have cof:∀x c,cl.lookup x=some c→X.env.cells.lookup x=some c:=fun x c e=>(hcl x c (mem_of_lookup e)).1
  have hasC:∀x,scope.names.lookup x=some .free→∃c,cl.lookup x=some c:=fun x e=>by
   obtain ⟨c,hc⟩:=hcl2 _ (mem_of_lookup e) rfl
   exact ZH hc
  have C1:Iu s1.heap H' X.stack Nc scope cl vs:=by
   refine ⟨by rw [vlen,S.len],fun x y c e1 e2=>I.ok.inj x y c (cof x c e1) (cof y c e2),hasC,fun x c e=>?_,fun i x v e1 e2=>?_⟩
   ·refine ⟨I'.cell x c (cof x c e),I'.freeC x c (cof x c e),fun z=>?_⟩
    rcases qa5.mp (I.stkSub c z) with z |z
    ·exact I.cne x c (cof x c e) z
    ·obtain ⟨_,o,ho,_⟩:=I.ok.funs.mem z
     exact absurd (AW (AF ho) (I.ok.cab x c (fna x) (cof x c e))) (CO _)
   ·obtain ⟨j,ej,sj⟩:=vat i v e2
    obtain ⟨hN,hf⟩:=S.at_ e1 ej
    have hk:=S.fr _ (mem_of_lookup hf) rfl
    obtain ⟨m0,hn0,hl0⟩:=I'.loc
    obtain ⟨u,r,lk⟩:=hl0 j x v hN sj (by rcases hk with z |z;exact .inr (.inl z);exact .inr (.inr z))
    refine ⟨hf,?_⟩
    rcases lk with ⟨z,_⟩ |⟨_,c,e3,e4⟩
    ·rcases hk with y |y<;>(rw [z] at y;cases y)
    ·obtain ⟨c2,e5⟩:=hasC x hf
     have:=cof x c2 e5
     rw [e3] at this
     cases this
     exact ⟨c,u,e5,e4,r⟩
  obtain ⟨oc,od,kV,doc,pm2,an,cdv,ct,osl,rfl,lk,hcd⟩:=Fn.ex
  have e0:=I'.env0
  have KX:X.K.In s1.heap:=I'.kIn
  have lim:s1.heap.NoLimit:=I'.nolimit
  have hkind2:∀y∈(["_law_call"]:List Str).zip [Value.ref a],(defScope st).names.lookup y.1=some .local∨((defScope st).names.lookup y.1=some .cell∧((cellsFrom (s1.heap.objs.size+1) (defScope st).names []).lookup y.1).isSome=true):=fun y hy=>by
   have:y=(("_law_call":Str),Value.ref a):=by simpa using hy
   subst this
   exact .inl hk0
  have bt:=hbd s1 [.ref a] I'.kIn rfl
  rw [B9] at bt
  refine codeAny_mono (R:=CR (Ba X.prog X.w X.K) X.stack X.prog X.w H' s1 Q E) ?_ fun r s' hq=>?_
  ·refine codeAny_call_function hr.depth (KX _ _ lk) rfl Sf.co Sf.gen rfl (PySem.W.codeRec_of KX hcd) (bt _ _ _ _ ?_)
   refine wpAny_newFunctionEnv_cells Sf.kind hkind2 fun env he2 s2 x=>?_
   subst he2
   refine ⟨lim.keeps x.toInCall.keep,codeAny_func ?_⟩
   have I2:Inv (BY (Ba X.prog X.w X.K) X.prog X.w X.K X.mg X.base ["_law_call","_law_word","_law_e"] "_law_said" (defScope st) fs cdv X.A X.stack s1 H' E) [] (L2.start ["_law_call","_law_word","_law_e"] [.ref a]) H' s2:=
    Og Sf hr.hd e0 rfl (.cons rfl .nil) x
   obtain ⟨ps,hps,hca⟩:=code
   have tri:TriplesOk ps.toList:=by
    obtain ⟨_,ps',z1,z2,_⟩:=tab'
    rw [hps] at z1;cases z1;exact z2
   have SX:SaidX (BY (Ba X.prog X.w X.K) X.prog X.w X.K X.mg X.base ["_law_call","_law_word","_law_e"] "_law_said" (defScope st) fs cdv X.A X.stack s1 H' E) P a c' lpos Nc params body scope cl pm ctv vs:=
    ⟨rfl,hk0,hk1,hk2,⟨c,L.tp⟩,⟨ps,hps,tri,hca⟩,by show s1.heap.get? a=_;rw [hh1];exact ob,no,fun z=>absurd (AW (frLt a z) hsz) (CO _),C1⟩
   have hrS:Room (k+1) (BY (Ba X.prog X.w X.K) X.prog X.w X.K X.mg X.base ["_law_call","_law_word","_law_e"] "_law_said" (defScope st) fs cdv X.A X.stack s1 H' E).A:=hr.deeper _
   have bx:=JV (LR (X:=BY (Ba X.prog X.w X.K) X.prog X.w X.K X.mg X.base ["_law_call","_law_word","_law_e"] "_law_said" (defScope st) fs cdv X.A X.stack s1 H' E) (E:=E) (i:=1) (pos:=p3) (pos':=p1) Sf.nd rfl (OB (x:="told") (j:=j1) (pos:=p2)) (Or.inl hk1))
    (JV (ZG (p4:=p4) (p5:=p5) (p6:=p6) (p7:=p7) (p8:=p8) (p9:=p9) (p10:=p10) (p11:=p11) (p12:=p12) (p13:=p13) (p14:=p14) Kf SX hrS et hsw (hgS _ _) (hgK _ _) hkind S.lam (hbind cl pm (.ref c') ctv) (fun s H E'=>hb a (.ref c') cl _ _ s H E'))
     (JU (OR (pos:=p16) (LM (Jv (i:=1) (x:="_law_word") (pos:=p15) rfl (.inl hk1))))))
   rw [←hst] at bx
   have post:GT X.K E (Ai (An 1 (mC (.str "told"))) (Ai (Ko a vs Fk f) (AD (Aa 1)))) {nx:=fun _ H''=>Q .non H'',rt:=Q} (L2.start ["_law_call","_law_word","_law_e"] [.ref a]) H':=by
    refine ⟨m,[some (.clo a vs ds),none,none],h,hrN,?_,?_⟩
    ·refine ⟨rfl,fun i d e=>?_⟩
     match i,e with
     |0,e=>cases e;exact ⟨.ref a,rfl,by unfold DV;exact ⟨rfl,DVs.keep (AB _) kp dvs⟩⟩
     |1,e=>cases e
     |2,e=>cases e
     |i+3,e=>cases e
    ·have p2:=Post.ahead (AB m) kp pp
     unfold Ai An mC
     simp only [Out.bind_ok]
     unfold Ko
     simp only [List.set_cons_succ,List.set_cons_zero,List.getElem?_cons_zero,et0,and_self,if_true]
     unfold MC at p2
     cases ho:f (ds.map some) h with
     |stuck=>rw [ho] at p2;exact p2.elim
     |ok d h1=>
      rw [ho] at p2
      exact fun m' H'' p1 k1 hr' v rv=>p2 v m' H'' p1 k1 hr' rv
     |err Cv fs h1=>
      rw [ho] at p2
      cases Cv with
      |str n t=>
       simp only at p2 ⊢
       split at p2
       ·rename_i hn
        simp only [hn,if_true]
        cases hi:E3 fs with
        |none=>rw [hi] at p2;exact p2.elim
        |some is=>
         rw [hi] at p2
         simp only at p2 ⊢
         cases hk:Fk [.exc n is] h1 with
         |stuck=>rw [hk] at p2;exact p2.elim
         |err _ _ _=>rw [hk] at p2;exact p2.elim
         |ok d h2=>
          rw [hk] at p2
          exact fun m' H'' p1 k1 hr' v rv=>p2 v m' H'' p1 k1 hr' rv
       ·exact p2.elim
      |_=>exact p2.elim
   refine wpAny_mono (bx [] s2 _ H' _ I2 post) (fun fl s' hs=>?_) fun e s' hs=>hs
   cases fl with
   |ret u=>
    obtain ⟨v,σ',H'',J,rv,q⟩:=hs
    exact ⟨v,H'',J.os,J.bare,J.base,J.hok,rv,q⟩
   |next=>
    obtain ⟨σ',H'',J,q⟩:=hs
    exact ⟨V.non,H'',J.os,J.bare,J.base,J.hok,rfl,q⟩
   |brk=>
    obtain ⟨_,_,_,q⟩:=hs
    exact False.elim q
   |cont=>
    obtain ⟨_,_,_,q⟩:=hs
    exact False.elim q
  ·cases r with
   |error e=>exact Mm lv pins σ H' s1 e s' I' hq
   |ok fl=>
    cases fl with
    |ret u=>exact I'.after hq
    |next=>exact False.elim hq
    |brk=>exact False.elim hq
    |cont=>exact False.elim hq
 ·exact pp.elim
end
def Iv (mg:Str→Option Value) (base:Heap):Prop:=∃bm o,mg "__builtins__"=some (.ref bm)∧bm≠builtinsNs∧base.get? bm=some o∧o.cls=.type "module"∧o.dict=some builtinsNs∧o.data=.plain
theorem ZJ {P:Program} {w:World} {K:Frag} {mg mb:Str→Option Value} {k:Nat} {fa a c T:Addr} {fd:FuncData} {x:Str} {F:List D→HD→Out D} {s₁:Shared} {vs:List Value} {ns:List Int}
 (KX:K.In s₁.heap) (hns:s₁.heap.Ns mainGlobals mg) (hb:s₁.heap.Ns builtinsNs mb) (hbb:∀x:Str,x≠"__name__"→mb x=bootBuiltins x) (hlim:s₁.heap.NoLimit) (hg:s₁.gens=#[]) (hbm:Iv mg s₁.heap)
 (ha:s₁.heap.get? a=some {cls:=.type "list",data:=.seq vs.toArray}) (hi:IntsAre vs ns) (hl:ns.length≤sizeLine) (hr:Room k callerA)
 (htp:tabP K=some (c,T)) (hcd:codeHdIn K c T=true) (hT:s₁.heap.get? T=some (tabObj #[])) (hKT:K.lookup T=none)
 (FF:∀base:Heap,K.In base→base.Ns mainGlobals mg→Iv mg base→FnOk P w K mg base (Ba P w K) k fa fd [x] (EZ K F)) (hbind:∀(s:Shared) (u:Value),BindsTo s fd ⟨[u],[]⟩ [(x,u)])
 (hF:∃h',F [.scr ns] [.tab]=.ok (.bl true) h'):
 codeAny (model P w) callerA (.call (.ref fa) ⟨[.ref a],[]⟩) (fun r s'=>r=.ok (.ret (.bool true))∧OldK s₁.heap s'.heap∧s'.os=s₁.os∧AllBare s'.gens) s₁:=by
 have rv:=L2.vals_ints hi
 have lenV:=hi.length
 have aT:a≠T:=fun z=>by rw [z,hT] at ha;cases ha
 have core:∀H:Hp,(∀b,b=T∨H b=none∨∃o xs,H b=some (.frz o (.lst xs)))→H T=some (.tbl #[])→FzL K H a (ns.map V.int)→HOk P w H s₁.heap→(∀b,H b≠none→b=a∨b=T)→(H a≠none→K.lookup a=none)→
  codeAny (model P w) callerA (.call (.ref fa) ⟨[.ref a],[]⟩) (fun r s'=>r=.ok (.ret (.bool true))∧OldK s₁.heap s'.heap∧s'.os=s₁.os∧AllBare s'.gens) s₁:=by
  intro H hO hHT hS hok hA hK
  have base_of:∀{b:Addr} {o:Obj},s₁.heap.get? b=some o→H b=none→(DZ s₁.heap H).get? b=some o:=fun e n=>Us e n
  have noA:∀{b:Addr} {o:Obj},s₁.heap.get? b=some o→(∀its n,o.data≠.seq its n)→(∀ws,o.data≠.fields ws)→H b=none:=fun {b o} e d1 d2=>by
   cases q:H b with
   |none=>rfl
   |some u=>
    rcases hA b (by rw [q];simp) with e' |e'
    ·subst e'
     rw [ha] at e;cases e
     exact absurd rfl (d1 _ _)
    ·subst e'
     rw [hT] at e;cases e
     exact absurd rfl (d2 _)
  have nsK:∀{b:Addr} {m:Str→Option Value},s₁.heap.Ns b m→(DZ s₁.heap H).Ns b m:=fun {b m} ⟨o,es,ep,e,d,r⟩=>⟨o,es,ep,base_of e (noA e (fun _ _ z=>by rw [d] at z;cases z) (fun _ z=>by rw [d] at z;cases z)),d,r⟩
  have hKb:K.In (DZ s₁.heap H):=fun b o e=>base_of (KX b o e) (by
   cases q:H b with
   |none=>rfl
   |some u=>
    rcases hA b (by rw [q];simp) with e' |e'
    ·subst e'
     rw [hK (by rw [q];simp)] at e;cases e
    ·subst e'
     rw [hKT] at e;cases e)
  have hM:Mod K mg (DZ s₁.heap H):=⟨hKb,nsK hns,⟨mb,nsK hb,hbb⟩,let ⟨mc,h1,h2⟩:=hlim;⟨mc,nsK h1,h2⟩⟩
  have e0:Fo P w K mg (DZ s₁.heap H) callerA [] s₁ H:=⟨rfl,hM,fun b o e=>Ut e,Nat.le_of_eq (Ur _ _),trivial,fun b hb=>absurd (show b∈([]:List Addr) from hb) (by simp),hok,.of_eq hg⟩
  have hBM:Iv mg (DZ s₁.heap H):=by
   obtain ⟨bm,o,h1,h2,h3,h4,h5,h6⟩:=hbm
   exact ⟨bm,o,h1,h2,base_of h3 (noA h3 (fun _ _ z=>by rw [h6] at z;cases z) (fun _ z=>by rw [h6] at z;cases z)),h4,h5,h6⟩
  have hsp:EZ K F [.ref a] H (fun v _=>v=.bl true) fun _ _ _=>False:=by
   obtain ⟨h',e⟩:=hF
   refine ⟨[T],[.scr ns],[.tab],⟨rfl,by simp,fun l cc b e1 e2=>?_⟩,.cons (by simp only [DV];exact ⟨a,rfl,hS⟩) .nil,?_⟩
   ·cases l with
    |zero=>
     simp at e1 e2
     subst e1 e2
     exact ⟨⟨c,htp⟩,#[],hHT,trivial,fun pos cv z=>by simp [codeAmong] at z⟩
    |succ l=>simp at e1
   ·rw [e]
    intro v m' H' _ _ _ r
    simpa [rD,DV] using r
  refine codeAny_mono ((FF _ hKb (nsK hns) hBM).run callerA [] s₁ H ⟨[.ref a],[]⟩ [.ref a] [.ref a] _ _ hr e0 (hbind s₁ (.ref a)) (.cons rfl .nil) hsp) fun r s' h=>?_
  cases r with
  |error e=>
   obtain ⟨_,_,_,_,_,_,_,_,_,_,_,_,q⟩:=h
   exact q.elim
  |ok fl=>
   cases fl with
   |next=>exact False.elim h
   |brk=>exact False.elim h
   |cont=>exact False.elim h
   |ret u=>
    obtain ⟨v,H',os,bare,un,hok',r',q⟩:=h
    have q':v=.bl true:=q
    subst q'
    obtain rfl:u=Value.bool true:=r'
    obtain ⟨more,hT'⟩:=un.tbls T _ hHT
    have hT2:s'.heap.get? T=some (tabObj (#[]++more)):=hok' T _ hT'
    have keepO:∀b o,b≠T→s₁.heap.get? b=some o→s'.heap.get? b=some o:=fun b o hbT e=>by
     cases q:H b with
     |none=>exact un.keep b o e q (by intro z;exact absurd (show b∈([]:List Addr) from z) (by simp)) (by simp)
     |some u=>
      rcases hO b with z |z |⟨ob,xs,z⟩
      ·exact absurd z hbT
      ·rw [q] at z;cases z
      ·have z2:=un.frzs b ob _ z
       obtain ⟨e1,_⟩:=hok b _ z
       obtain ⟨e2,_⟩:=hok' b _ z2
       rw [e] at e1;cases e1
       exact e2
    have hC:=codeHd_of_K KX hcd
    refine ⟨rfl,⟨fun b o e=>?_,fun b o e=>?_⟩,os,bare⟩
    ·by_cases hbT:b=T
     ·subst hbT
      rw [hT] at e
      cases e
      exact .inr (.inl ⟨(hC.tab hT).isCodeTable,rfl,#[],more,rfl,hT2⟩)
     ·exact .inl (keepO b o hbT e)
    ·by_cases hbT:b=T
     ·subst hbT;exact ⟨_,hT2⟩
     ·exact ⟨o,keepO b o hbT e⟩
 cases hk:K.lookup a with
 |some o=>
  have e:=KX a o hk
  rw [ha] at e
  cases e
  refine core (fun b=>if b=T then some (.tbl #[]) else none) (fun b=>?_) (if_pos rfl) (.inr (.inr ⟨_,vs.toArray,_,hk,rfl,rfl,rfl,by rw [AX,lenV];exact hl,by simpa using rv⟩)) (fun b u z=>?_) (fun b z=>?_) fun z=>absurd (if_neg aT) z
  ·by_cases hb:b=T
   ·exact .inl hb
   ·exact .inr (.inl (if_neg hb))
  ·by_cases hb:b=T
   ·have z':=(if_pos hb).symm.trans z
    cases z'
    subst hb
    exact hT
   ·have z':=(if_neg hb).symm.trans z
    cases z'
  ·by_cases hb:b=T
   ·exact .inr hb
   ·exact absurd (if_neg hb) z
 |none=>
  refine core (fun b=>if b=T then some (.tbl #[]) else if b=a then some (.frz {cls:=.type "list",data:=.seq vs.toArray} (.lst (ns.map V.int))) else none) (fun b=>?_) (if_pos rfl) (.inl ⟨{cls:=.type "list",data:=.seq vs.toArray},(if_neg aT).trans (if_pos rfl)⟩) (fun b u z=>?_) (fun b z=>?_) fun _=>hk
  ·by_cases hb:b=T
   ·exact .inl hb
   ·by_cases hba:b=a
    ·exact .inr (.inr ⟨_,_,(if_neg hb).trans (if_pos hba)⟩)
    ·exact .inr (.inl ((if_neg hb).trans (if_neg hba)))
  ·by_cases hb:b=T
   ·have z':=(if_pos hb).symm.trans z
    cases z'
    subst hb
    exact hT
   ·have z1:=(if_neg hb).symm.trans z
    by_cases hba:b=a
    ·have z':=(if_pos hba).symm.trans z1
     cases z'
     subst hba
     exact ⟨ha,by rw [Bc];exact hl,vs,_,rv,ha⟩
    ·have z':=(if_neg hba).symm.trans z1
     cases z'
  ·by_cases hb:b=T
   ·exact .inr hb
   ·by_cases hba:b=a
    ·exact .inl hba
    ·exact absurd ((if_neg hb).trans (if_neg hba)) z
open AutoSeq1 (wpAny_loadPart')
theorem ZK:fillsNumberSlot (.type "tuple") "mul"=pure false:=by
 first |exact noFill_tuple_mul' |(unfold fillsNumberSlot;kernel_rfl)
theorem ZL:seqRepeat? (.type "tuple")=pure (some (.builtin "tuple.__mul__")):=by
 unfold seqRepeat?
 rw [PySem.seqSlot_of (T:="tuple") (name:="__mul__") (id:="tuple.__mul__") F.slot_tuple_mul.lookup (by decide +kernel),PySem.seqSlot_of (T:="tuple") (name:="__rmul__") (id:="tuple.__rmul__") (by rw [typeLookup_type,builtinLookup_eq_fast];kernel_rfl) (by decide +kernel)]
 rfl
theorem ZM (a:Int) (t:Tok) (l:Addr) (items:Array Value) (n:Nat) (dd:Option Addr) (sl:Array (Option Value)):
 Meets (Builtin.«int.__rmul__» ⟨[.int a t,.ref l],[]⟩) (fun _ R s=>s.heap.get? l=some {cls:=.type "tuple",dict:=dd,data:=.seq items n,slots:=sl}∧R (.ok (.ret Value.notImplemented)) s):=
 .of_wp fun prog w A R s h=>by
  obtain ⟨hp,g,d,tk,os⟩:=s;obtain ⟨hl,h⟩:=h
  wp_walk;exact ⟨_,rfl,h⟩
theorem ZN (l:Addr) (items:Array Value) (n:Nat) (dd:Option Addr) (sl:Array (Option Value)) (x:Int) (u:Tok) (h1:1<x) (h2:x<2^63) (hne:items.isEmpty=false) (hz:items.size*x.toNat≤sizeLine):
 Meets (Builtin.«tuple.__mul__» ⟨[.ref l,.int x u],[]⟩) (fun _ R s=>s.heap.get? l=some {cls:=.type "tuple",dict:=dd,data:=.seq items n,slots:=sl}∧R (.ok (.ret (Value.ref s.heap.objs.size))) {s with heap:=s.heap.push {cls:=Value.type "tuple",data:=Data.seq (List.foldl (fun x1 x2=>x1++x2) #[] (List.replicate x.toNat items))}}):=
 .of_wp fun prog w A R s h=>by
  obtain ⟨hp,g,d,tk,os⟩:=s;obtain ⟨hl,h⟩:=h
  have c1:(decide (x < -2^63)||decide (x≥2^63))=false:=by simp;omega
  have c2:(items.isEmpty||x==1)=false:=by
   rw [hne,Bool.false_or]
   exact beq_eq_false_iff_ne.mpr (by omega)
  have c3:(decide (x≤0)||items.isEmpty)=false:=by
   rw [hne,Bool.or_false]
   exact decide_eq_false (by omega)
  have hx:(x.toNat:Int)=x:=Int.toNat_of_nonneg (by omega)
  have hz':(items.size:Int)*x≤sizeLine:=by rw [←hx];exact_mod_cast hz
  have c4:¬((items.size:Int)*x>(2^63 - 1) / 8):=by
   have:(sizeLine:Int)≤(2^63 - 1) / 8:=by decide
   omega
  have c5:Builtin.Tuple.tupleTooMany ((items.size:Int)*x)=false:=by
   unfold Builtin.Tuple.tupleTooMany
   exact decide_eq_false (by omega)
  have c6:(List.foldl (fun x1 x2=>x1++x2) #[] (List.replicate x.toNat items)).size≤sizeLine:=by
   have f0:=JJ items.toList x.toNat []
   rw [Fh] at f0
   have:List.foldl (fun x1 x2=>x1++x2) #[] (List.replicate x.toNat items)=(List.replicate x.toNat items.toList).flatten.toArray:=by simpa using f0
   rw [this,AX,JK,Nat.mul_comm]
   simpa using hz
  wp_walk using wpAny_loadPart' hl
  rw [c1]
  simp only [CH,if_false]
  refine wpAny_bind ?_
  unfold Builtin.Tuple.tupleItemsOf
  wp_walk using wpAny_loadPart' hl
  rw [c2]
  simp only [CH,if_false]
  rw [c3]
  simp only [CH,if_false]
  rw [if_neg c4,c5]
  simp only [CH,if_false]
  refine wpAny_bind (wpAny_newObj_type (wpAny_pure ⟨_,rfl,h⟩) c6)
theorem ZO (l:Addr) (items:Array Value) (n:Nat) (dd:Option Addr) (sl:Array (Option Value)) (u:Tok):
 Meets (Builtin.«tuple.__mul__» ⟨[.ref l,.int 1 u],[]⟩) (fun _ R s=>s.heap.get? l=some {cls:=.type "tuple",dict:=dd,data:=.seq items n,slots:=sl}∧R (.ok (.ret (Value.ref l))) s):=
 .of_wp fun prog w A R s h=>by
  obtain ⟨hp,g,d,tk,os⟩:=s;obtain ⟨hl,h⟩:=h
  have c1:(decide ((1:Int) < -2^63)||decide ((1:Int)≥2^63))=false:=by decide
  have c2:(items.isEmpty||(1:Int)==1)=true:=by simp
  wp_walk using wpAny_loadPart' hl
  exact ⟨_,rfl,h⟩
theorem ZP (l:Addr) (items:Array Value) (n:Nat) (dd:Option Addr) (sl:Array (Option Value)) (x:Int) (u:Tok) (h1:-(2^63)≤x) (h2:x≤0) (hne:items.isEmpty=false):
 Meets (Builtin.«tuple.__mul__» ⟨[.ref l,.int x u],[]⟩) (fun _ R s=>s.heap.get? l=some {cls:=.type "tuple",dict:=dd,data:=.seq items n,slots:=sl}∧R (.ok (.ret (Value.ref s.heap.objs.size))) {s with heap:=s.heap.push {cls:=Value.type "tuple",data:=Data.seq #[]}}):=
 .of_wp fun prog w A R s h=>by
  obtain ⟨hp,g,d,tk,os⟩:=s;obtain ⟨hl,h⟩:=h
  have c1:(decide (x < -2^63)||decide (x≥2^63))=false:=by simp;omega
  have c2:(items.isEmpty||x==1)=false:=by
   rw [hne,Bool.false_or]
   exact beq_eq_false_iff_ne.mpr (by omega)
  have c3:(decide (x≤0)||items.isEmpty)=true:=by
   rw [hne,Bool.or_false]
   exact decide_eq_true h2
  wp_walk using wpAny_loadPart' hl
  rw [c1]
  simp only [CH,if_false]
  refine wpAny_bind ?_
  unfold Builtin.Tuple.tupleItemsOf
  wp_walk using wpAny_loadPart' hl
  rw [c2]
  simp only [CH,if_false]
  rw [c3]
  simp only [if_true]
  refine wpAny_bind (wpAny_newObj_type (wpAny_pure ⟨_,rfl,h⟩) (by show (#[]:Array Value).size≤sizeLine;simp))
section
variable {X:Cx} {E:XK}
def ZQ (K:Frag):R2:=fun x y H Q=>∃l k xs,x=.ref l∧y=.int k∧H l=some (.tup xs)∧xs≠[]∧-(2^63)≤k∧k<2^63∧xs.length*k.toNat≤sizeLine∧(k=1→Q (.ref l) H)∧
 ∀p,H p=none→Q (.ref p) (Ao H p (.tup (List.replicate k.toNat xs).flatten))
theorem Inv.tnew {pins:List (Addr×Obj)} {σ:L2.St} {H:Hp} {s:Shared} {ys:List V} {its:List Value} {t':Nat} (I:Inv X pins σ H s) (hv:Vals ys its) (hz:ys.length≤sizeLine):
 Inv X pins σ (Ao H s.heap.objs.size (.tup ys)) {s with heap:=s.heap.push {cls:=.type "tuple",data:=.seq its.toArray},toks:=t'}:=
 I.laid (fun _ _ q=>AG _ q) (Ax _) ⟨hz,its,hv,⟨_,Bi _ rfl,rfl,0,rfl⟩,NoDict.new⟩
theorem op_repT:OpR X (binaryOp .Mult) (ZQ X.K):=by
 intro pins s σ H x y v u Q I rx ry h
 obtain ⟨l,k,xs,rfl,rfl,hH,hne,h1,h2,hz,q1,q⟩:=h
 cases rx
 obtain ⟨t,rfl⟩:=ry
 obtain ⟨z,its,r,⟨o,ho,hc,n,hd⟩,_⟩:=(show ObjOk X.prog X.w H s.heap l (.tup xs) from I.hok l _ hH)
 obtain ⟨oc,dd,dat,sl⟩:=o
 simp only at hc hd
 subst hc hd
 have hl:=r.length
 have hine:its.toArray.isEmpty=false:=by
  cases its with
  |nil=>exfalso;cases xs with
   |nil=>exact hne rfl
   |cons _ _=>simp at hl
  |cons a b=>simp
 have mul:∀{Q':Value→Shared→Prop},wpAny (model X.prog X.w) X.A (call (.builtin "tuple.__mul__") [.ref l,.int k t]) Q' X.xe s→wpAny (model X.prog X.w) X.A (binaryOp .Mult (.ref l) (.int k t)) Q' X.xe s:=fun {Q'} hq=>
  wpAny_binaryOp_repeat_ref (T:="tuple") (U:="int") (by decide) ⟨_,ho,rfl⟩ (fun s'=>typeIs_int s' k t) ZK F.fills_int_mul F.slot_int_rmul ZL F.slot_int_index.lookup
   (call_meets F.slot_int_rmul (typeIs_int s k t) F.entry_int_rmul (F.args_int_rmul_2 _ _) (ZM k t l its.toArray n dd sl) ⟨ho,rfl,⟨_,ho,rfl⟩,hq⟩)
 refine mul ?_
 rcases Int.lt_trichotomy k 1 with hk |hk |hk
 ·refine call_meets F.slot_tuple_mul ⟨_,ho,rfl⟩ F.entry_tuple_mul (F.args_tuple_mul_2 _ _) (ZP l its.toArray n dd sl k t h1 (by omega) hine) ⟨ho,?_⟩
  have e:(List.replicate k.toNat xs).flatten=[]:=by
   have:k.toNat=0:=by omega
   rw [this];rfl
  have:=q _ I.fresh
  rw [e] at this
  exact ⟨.ref _,_,LS.Inv.tnew (its:=[]) (t':=s.toks) I .nil (Bu _),rfl,this⟩
 ·subst hk
  refine call_meets F.slot_tuple_mul ⟨_,ho,rfl⟩ F.entry_tuple_mul (F.args_tuple_mul_2 _ _) (ZO l its.toArray n dd sl t) ⟨ho,?_⟩
  exact ⟨.ref l,H,I,rfl,q1 rfl⟩
 ·refine call_meets F.slot_tuple_mul ⟨_,ho,rfl⟩ F.entry_tuple_mul (F.args_tuple_mul_2 _ _) (ZN l its.toArray n dd sl k t hk h2 hine (by rw [AX,←hl];exact hz)) ⟨ho,?_⟩
  have f0:=JJ its k.toNat []
  rw [Fh] at f0
  have f1:List.foldl (fun x1 x2=>x1++x2) #[] (List.replicate k.toNat its.toArray)=(List.replicate k.toNat its).flatten.toArray:=f0
  rw [f1]
  exact ⟨.ref _,_,LS.Inv.tnew (t':=s.toks) I (r.rep k.toNat) (by rw [JK,Nat.mul_comm];exact hz),rfl,q _ I.fresh⟩
noncomputable def Dx:D→D→HD→Out D:=fun x y h=>match x,y with
 |.tup xs,.int k=>@ite _ (xs≠[]∧-(2^63)≤k∧k<2^63∧xs.length*k.toNat≤sizeLine) (Classical.propDecidable _) (.ok (.tup (List.replicate k.toNat xs).flatten) h) .stuck
 |_,_=>DQ x y h
theorem ZR:Bk X (binaryOp .Mult) Dx:=by
 obtain ⟨r0,hr0,i0⟩:=Yd (X:=X)
 refine ⟨_,op_repT.or hr0,fun m H h E x y v u Q hr rx ry q=>?_⟩
 unfold Dx at q
 split at q
 ·rename_i xs k
  split at q
  ·rename_i hc
   obtain ⟨hne,h1,h2,hz⟩:=hc
   simp only [DV] at rx ry
   obtain ⟨a,vs,rfl,ha,dv⟩:=rx
   subst ry
   refine .inl ⟨a,k,vs,rfl,rfl,ha,?_,h1,h2,by rw [←dv.len];exact hz,fun e=>?_,?_⟩
   ·intro e;have:=dv.len;rw [e] at this;exact hne (List.length_eq_zero_iff.mp this)
   ·subst e
    refine A5 hr q ?_
    simp only [DV]
    exact ⟨a,vs,rfl,ha,by simpa using dv⟩
   ·exact F7 hr (DVs.rep dv k.toNat) q
  ·exact q.elim
 ·exact .inr (i0 m H h E x y v u Q hr rx ry q)
end
end LS
namespace LS
open PySem PySem.Spec PyProof.Rows L2 PySem.W
section
variable {X:Cx} {E:XK}
abbrev MJ:=Str→Ah→HD→Out Str
def ZS:MJ:=fun acc _ h=>if acc.length≤sizeLine then .ok acc h else .stuck
def ZT (y:Str) (r:MJ):MJ:=fun acc ρ h=>if (acc++y).length≤sizeLine then r (acc++y) ρ h else .stuck
def P8 (f:ME) (r:MJ):MJ:=fun acc ρ h=>(f ρ h).bind fun d h1=>match d with
 |.int i=>if i.natAbs.log2<1920∧(acc++(toString i:Str)).length≤sizeLine then r (acc++(toString i:Str)) ρ h1 else .stuck
 |_=>.stuck
def MD (fj:MJ):ME:=fun ρ h=>(fj Str.empty ρ h).bind fun x h1=>.ok (.str x) h1
def ZeF:D→HD→Out D:=fun x h=>match AN h 8 x with
 |some p=>if p.showable=true∧p.hasDict=false∧p.depth≤40∧p.shown.length≤sizeLine then .ok (.str p.shown) h else .stuck
 |none=>.stuck
def Cu:D→D→HD→Out D:=fun x y h=>match x,y with
 |.str a,.str b=>.ok (.bl (a==b)) h
 |_,_=>F9 x y h
def Br:D→D→HD→Out D:=fun x y h=>match x,y with
 |.str a,.str b=>.ok (.bl (!(a==b))) h
 |_,_=>Dh x y h
theorem P9 (hu:X.A.units+64<cLine):Bk X (compareOp .Eq) Cu:=by
 obtain ⟨r0,hr0,i0⟩:=W9 (X:=X) hu
 refine ⟨_,op_eq.or hr0,fun m H h E x y v u Q hr rx ry q=>?_⟩
 unfold Cu at q
 split at q
 ·simp only [DV] at rx ry
  subst rx ry
  exact .inl ⟨rfl,by rw [JF];exact A5 hr q (by simp [DV])⟩
 ·exact .inr (i0 m H h E x y v u Q hr rx ry q)
theorem ZU (hu:X.A.units+64<cLine):Bk X (compareOp .NotEq) Br:=by
 obtain ⟨r0,hr0,i0⟩:=Xa (X:=X) hu
 refine ⟨_,op_ne.or hr0,fun m H h E x y v u Q hr rx ry q=>?_⟩
 unfold Br at q
 split at q
 ·simp only [DV] at rx ry
  subst rx ry
  exact .inl ⟨rfl,by rw [JF];exact A5 hr q (by simp [DV])⟩
 ·exact .inr (i0 m H h E x y v u Q hr rx ry q)
def Kq:List Nat→List D→Ah→Option Ah
 |[],[],ρ=>some ρ
 |i::is,d::ds,ρ=>Kq is ds (ρ.set i (some d))
 |_,_,_=>none
def Dj (is:List Nat):MG:=fun d ρ=>match d with
 |.tup ds=>Kq is ds ρ
 |_=>none
def Kr:List Nat→Fi
 |[]=>EJ
 |i::is=>Cp (Cb i) (Kr is)
theorem Qa:∀{is:List Nat} {ds:List D} {ρ ρ':Ah},Kq is ds ρ=some ρ'→ds.length=is.length
 |[],[],_,_,_=>rfl
 |[],_::_,_,_,e=>by cases e
 |_::_,[],_,_,e=>by cases e
 |_::is,_::ds,_,_,e=>by simpa using Qa (is:=is) (ds:=ds) e
theorem Qb {K:Frag} {m:List Addr} {H:Hp}:∀{is:List Nat} {ds:List D} {vs:List V} {ρ ρ':Ah} {σ:L2.St} {Q:L2.St→Hp→Prop},DVs K m H ds vs→ER K m H ρ σ→Kq is ds ρ=some ρ'→(∀σ',ER K m H ρ' σ'→Q σ' H)→Kr is vs σ H Q
 |[],[],vs,ρ,ρ',σ,Q,r,er,e,q=>by
  simp only [DVs] at r
  subst r
  cases e
  exact ⟨rfl,q σ er⟩
 |[],_::_,_,_,_,_,_,_,_,e,_=>by cases e
 |_::_,[],_,_,_,_,_,_,_,e,_=>by cases e
 |i::is,d::ds,vs,ρ,ρ',σ,Q,r,er,e,q=>by
  simp only [DVs] at r
  obtain ⟨v,w,rfl,rv,rw'⟩:=r
  exact ⟨v,w,rfl,Qb rw' (er.set rv) e q⟩
theorem Qc {es:List Expr} {is:List Nat} {kt:Nat} {pos:Pos} (h:PG X (.Tuple es kt pos) (D3 X.K is.length (Kr is))):Fw X (.Tuple es kt pos) (Dj is):=⟨_,h,fun m H d v ρ σ ρ' Q r er e q=>by
 unfold Dj at e
 split at e
 ·rename_i ds
  simp only [DV] at r
  obtain ⟨p,vs,rfl,hp,dv⟩:=r
  exact ⟨p,vs,rfl,SqT.of hp,by rw [←dv.len];exact Qa e,Qb dv er e q⟩
 ·cases e⟩
end
theorem MF {K:Frag} (h:etOk K=true) {n:Str} (hn:n∈excNames):∃C,nsIn K mainGlobals n=some (some (.ref C)):=by
 unfold etOk at h
 split at h
 ·rename_i S hS
  have h1:=qaO.mp h n hn
  cases e:Ei K n with
  |none=>rw [e] at h1;cases h1
  |some C=>exact ⟨C,PX e⟩
 ·cases h
section
variable {X:Cx} {E:XK}
theorem ZV {x:Str} {pos:Pos} (et:etOk X.K=true) (hn:x∈excNames) (hg:Gl X x:=by rfl) (hd:(x==("__debug__":Str))=false:=by decide):Ev X E (.Name x pos) (mC (.glo x)):=by
 obtain ⟨a,h⟩:=MF et hn
 exact Zi hg h hd
theorem ZW {x:Str} {e:Expr} {es:List Expr} {fa:MA} {np cpos pos:Pos} (et:etOk X.K=true) (hn:x∈excNames) (hne:x≠"TooMany") (hg:Gl X x) (hc:X.calm=true) (th:Mp X E) (ha:CA X E (e::es) fa)
 (hdb:(x==("__debug__":Str))=false:=by decide) (he:starEach (e::es) X.env=(false,eval e X.env)::starEach es X.env:=by rfl) (hpl:(backTo cpos (starEach (e::es) X.env)).any (·.1)=false:=by rfl):
 Ex X E (.Raise (some (.Call (.Name x np) (e::es) [] cpos)) none pos) (Ip x fa):=by
 obtain ⟨C,h⟩:=MF et hn
 exact YL ((Kl et hn h).at_ hne) h hg hc th ha hdb he hpl
end
theorem CaM.mono {P:Program} {w:World} {K:Frag} {mg:Str→Option Value} {base:Heap} {x:Str} {j k:Nat} {F:List D→HD→Out D} (C:CaM P w K mg base x j F) (h:j≤k):CaM P w K mg base x k F:=by
 obtain ⟨f,fd,ps,G,r⟩:=C.ex
 exact ⟨f,fd,ps,⟨fun A outer s H args us vs Q hr=>G.run A outer s H args us vs Q (hr.mono h)⟩,r⟩
structure SaidD (K:Frag) (mg:Str→Option Value) (st:Stmt) (fs:Addr) (fd:FuncData):Prop where
 fn:Fun K "_law_said" "_law_said" st fs fd
 bd:Binds K fd ["_law_call"] []
 mg:mg "_law_said"=some (.ref fs)
structure MH (st:Stmt):Prop where
 sc:DJ ["_law_call","_law_word","_law_e"] ["_law_call"] (defScope st)
 k0:(defScope st).names.lookup ("_law_call":Str)=some .local
 k1:(defScope st).names.lookup ("_law_word":Str)=some .local
 k2:(defScope st).names.lookup ("_law_e":Str)=some .local
 gS:(defScope st).names.lookup ("SwitchError":Str)=some .globalImplicit
 gK:(defScope st).names.lookup ("_law_kind":Str)=some .globalImplicit
 tx:∃p1 j1 p2 p3 p4 p5 p6 p7 p8 p9 p10 p11 p12 p13 p14 p15 p16,defBody st=[.Assign [.Name "_law_word" p1] (.Constant (.str "told") j1 p2) p3,.Try [.Expr (.Call (.Name "_law_call" p4) [] [] p5) p6] [.ExceptHandler (some (.Name "SwitchError" p7)) (some "_law_e") [.Assign [.Name "_law_word" p8] (.Call (.Name "_law_kind" p9) [.Name "_law_e" p10] [] p11) p12] p13] [] [] p14,.Return (some (.Name "_law_word" p15)) p16]
theorem ZX {X:Cx} {E:XK} {c P:Addr} {Nc:List Str} {cs:List Nat} {params:Arguments} {body:Expr} {scope:Scope} {k kk:Nat} {Fk:List D→HD→Out D} {f:ME} {fs:Addr} {fd:FuncData} {st:Stmt} {lpos p pos:Pos}
 (L:LamX X c P) (fna:∀x,X.fn x=true) (hr:Room kk X.A) (lv:Lv X E) (et:etOk X.K=true) (Sd:SaidD X.K X.mg st fs fd) (St:MH st) (hkind:CaM X.prog X.w X.K X.mg X.base "_law_kind" k Fk) (S:LSc X scope Nc cs)
 (hb:∀(a:Addr) (cd:Value) (cl:List (Str×Addr)) (A:Around) (outer:List Env) (s:Shared) (H:Hp) (E':XK),Room k (A.deeper (envX Bn scope s.heap.objs.size a cd cl))→Ev (Ek X.prog X.w X.K X.mg X.base Nc scope a cd cl A outer s H E') E' body f)
 (hg:Gl X "_law_said") (hkk:k+2≤kk:=by decide) (hdef:defaultsOf params X.env=([],[]):=by rfl)
 (hbind:∀(cl:List (Str×Addr)) (pm cv ctv:Value),bindArgs (kla_fn "<lambda>" Bn params body scope cl pm cv ctv) ⟨[],[]⟩=pure []:=by exact fun _ _ _ _=>rfl)
 (he:starEach [.Lambda params body scope lpos] X.env=(false,eval (.Lambda params body scope lpos) X.env)::starEach [] X.env:=by rfl) (hpl:(backTo pos (starEach [] X.env)).any (·.1)=false:=by rfl):
 Ev X E (.Call (.Name "_law_said" p) [.Lambda params body scope lpos] [] pos) (DS cs Fk f):=by
 obtain ⟨p1,j1,p2,p3,p4,p5,p6,p7,p8,p9,p10,p11,p12,p13,p14,p15,p16,hst⟩:=St.tx
 exact ZI L fna (hr.mono hkk) lv et (MF et (by decide +kernel)) Sd.fn Sd.bd Sd.mg Sd.fn.kp St.sc St.k0 St.k1 St.k2 (fun _ _=>St.gS) (fun _ _=>St.gK) hst hkind hg S hdef hbind hb he hpl
theorem ZY {P:Program} {w:World} {K:Frag} {mg:Str→Option Value} {base:Heap} {x qual:Str} {st:Stmt} {f:Addr} {kV doc pm cdv ct oc:Value} {an od:Option Addr} {osl:Array (Option Value)} {N ps:List Str} {k:Nat} {F:List D→HD→Out D} {g:MS}
 (lk:K.lookup f=some ⟨oc,od,.func (PySem.W.fnOf x qual (defArgs st) (defBody st) (defScope st) .none kV doc pm an cdv ct),osl⟩) (hcd:PySem.W.codeIn K cdv qual=true) (S:DJ N ps (defScope st)) (ar:Ar ps.length F)
 (hg:∀ds h,ds.length=ps.length→F ds h=AS N.length g ds h)
 (hbody:∀(A:Around) (outer:List Env) (s:Shared) (H:Hp) (E:XK),Room k (A.deeper (envOfC qual (defScope st) s.heap.objs.size f cdv))→CB (BY (Ba P w K) P w K mg base N qual (defScope st) f cdv A outer s H E) E (defBody st) g):
 FnOk P w K mg base (Ba P w K) (k+1) f (PySem.W.fnOf x qual (defArgs st) (defBody st) (defScope st) .none kV doc pm an cdv ct) ps (EZ K F):=by
 refine Oh lk hcd S (fun vs H Q E h=>Kh ar h) fun A outer s H vs Q E hr h=>?_
 refine ⟨_,hbody A outer s H E hr,?_⟩
 have hl:=Kh ar h
 obtain ⟨m,ds,hd,hr1,r,p⟩:=h
 have hld:ds.length=ps.length:=by rw [r.len];exact hl
 refine ⟨m,ds.map some++List.replicate (N.length - ds.length) none,hd,hr1,ER.start r,?_⟩
 rw [hg ds hd hld] at p
 unfold AS at p
 cases o:g (ds.map some++List.replicate (N.length - ds.length) none) hd with
 |stuck=>rw [o] at p;exact p
 |err C fs h1=>rw [o] at p;exact p
 |ok a h1=>
  rw [o] at p
  obtain ⟨fl,ρ1⟩:=a
  intro m1 H1 p1 k1 hr1
  cases fl with
  |nx=>exact fun σ er=>p .non m1 H1 p1 k1 hr1 (by simp [rD,DV])
  |bk=>exact False.elim p
  |ct=>exact False.elim p
  |rt d=>exact fun v rv=>p v m1 H1 p1 k1 hr1 rv
def ZeG (K:Frag) (T:Addr):Bool:=match tabP K with
 |some (c,T')=>T'==T&&codeHdIn K c T
 |none=>false
end LS
namespace LS
open PySem PySem.Spec PyProof.Rows L2
def We {α:Type} (o:Out α) (Q:α→HD→Prop) (R:Str→List (Str×D)→HD→Prop):Prop:=match o with
 |.ok a h=>Q a h
 |.err (.str n _) fs h=>R n fs h
 |_=>False
section
variable {α β:Type} {o:Out α} {Q Q':α→HD→Prop} {R R':Str→List (Str×D)→HD→Prop}
@[simp] theorem ZeH (a:α) (h:HD):We (.ok a h) Q R=Q a h:=rfl
@[simp] theorem ZeI (n:Str) (t:Tok) (fs:List (Str×D)) (h:HD):We (.err (.str n t) fs h:Out α) Q R=R n fs h:=rfl
@[simp] theorem ZeJ:We .stuck Q R=False:=rfl
theorem CM {k:α→HD→Out β} {Q:β→HD→Prop}:We (o.bind k) Q R=We o (fun a h=>We (k a h) Q R) R:=by
 cases o with
 |ok a h=>rfl
 |err C fs h=>cases C<;>rfl
 |stuck=>rfl
theorem Wp.we (h:Wp o Q):We o Q R:=by
 cases o with
 |ok a h'=>exact h
 |_=>exact h.elim
theorem We.mono (h:We o Q R) (f:∀a h,Q a h→Q' a h) (g:∀n fs h,R n fs h→R' n fs h):We o Q' R':=by
 cases o with
 |ok a h'=>exact f _ _ h
 |err C fs h'=>cases C<;>first |exact g _ _ _ h |exact h.elim
 |stuck=>exact h
theorem Pu.we {h:HD} {a:α} (p:Pu o h a) (k:∀h',Sm h h'→Q a h'):We o Q R:=Wp.we (p.wp k)
end
def Er {α:Type} (o:Out α) (h:HD) (n:Str):Prop:=We o (fun _ _=>False) fun n' fs h'=>n'=n∧fs=[]∧Sm h h'
theorem Er.we {α:Type} {o:Out α} {h:HD} {n:Str} {Q:α→HD→Prop} {R:Str→List (Str×D)→HD→Prop} (e:Er o h n) (k:∀h',Sm h h'→R n [] h'):We o Q R:=We.mono e (fun _ _ z=>z.elim) fun n' fs h' z1_=>by obtain ⟨rfl,rfl,s⟩:=z1_;exact k h' s
theorem MK {N:Nat} {g:MS} {ds:List D} {h:HD} {Q:D→HD→Prop} {R:Str→List (Str×D)→HD→Prop}:We (AS N g ds h) Q R=We (g (ds.map some++List.replicate (N - ds.length) none) h) (Gf Q) R:=by
 unfold AS
 cases o:g (ds.map some++List.replicate (N - ds.length) none) h with
 |ok a h1=>
  obtain ⟨fl,ρ⟩:=a
  cases fl<;>rfl
 |err C fs h1=>cases C<;>rfl
 |stuck=>rfl
section
variable {ρ:Ah} {h:HD} {Q:Fl×Ah→HD→Prop} {QD:D→HD→Prop} {QB:Bool→HD→Prop} {R:Str→List (Str×D)→HD→Prop} {g g1 g2:MS} {f:ME} {t:MT} {fa:MA} {F:List D→HD→Out D}
def ML (g2:MS) (Q:Fl×Ah→HD→Prop) (R:Str→List (Str×D)→HD→Prop):Fl×Ah→HD→Prop
 |(.nx,ρ),h=>We (g2 ρ h) Q R
 |y,h=>Q y h
@[simp] theorem ZeK:ML g2 Q R (.nx,ρ) h=We (g2 ρ h) Q R:=rfl
@[simp] theorem ZeL {d:D}:ML g2 Q R (.rt d,ρ) h=Q (.rt d,ρ) h:=rfl
@[simp] theorem ZeM:We (Ai g1 g2 ρ h) Q R=We (g1 ρ h) (ML g2 Q R) R:=by
  unfold Ai
  rw [CM]
  congr 1
  funext x h1
  obtain ⟨fl,ρ1⟩:=x
  cases fl<;>rfl
@[simp] theorem ZeN:We (AV ρ h) Q R=Q (.nx,ρ) h:=rfl
@[simp] theorem ZeO:We (CK f ρ h) Q R=We (f ρ h) (fun _ h1=>Q (.nx,ρ) h1) R:=by unfold CK;rw [CM];rfl
@[simp] theorem ZeP:We (AD f ρ h) Q R=We (f ρ h) (fun d h1=>Q (.rt d,ρ) h1) R:=by unfold AD;rw [CM];rfl
@[simp] theorem ZeQ {i:Nat}:We (An i f ρ h) Q R=We (f ρ h) (fun d h1=>Q (.nx,ρ.set i (some d)) h1) R:=by unfold An;rw [CM];rfl
@[simp] theorem ZeR:We (AR t g1 g2 ρ h) Q R=We (t ρ h) (fun b h1=>We (if b=true then g1 ρ h1 else g2 ρ h1) Q R) R:=by unfold AR;rw [CM]
@[simp] theorem ZeS:We (Ae F fa ρ h) QD R=We (fa ρ h) (fun ds h1=>We (F ds h1) QD R) R:=by unfold Ae;rw [CM]
@[simp] theorem ZeT {n:Str}:We (Ip n fa ρ h) Q R=We (fa ρ h) (fun xs h1=>We (if xs.length≤sizeLine then (.err (Eg n) [] h1:Out (Fl×Ah)) else .stuck) Q R) R:=by unfold Ip;rw [CM]
@[simp] theorem ZeU:We (BF t ρ h) QB R=We (t ρ h) (fun b h1=>QB (!b) h1) R:=by unfold BF;rw [CM];rfl
@[simp] theorem ZeV {u:MT}:We (F5 t u ρ h) QB R=We (t ρ h) (fun b h1=>We (if b=true then u ρ h1 else .ok false h1) QB R) R:=by unfold F5;rw [CM]
@[simp] theorem ZeW {u:MT}:We (BA t u ρ h) QB R=We (t ρ h) (fun b h1=>We (if b=true then .ok true h1 else u ρ h1) QB R) R:=by unfold BA;rw [CM]
@[simp] theorem ZeX:We (Bq f ρ h) QB R=We (f ρ h) (fun x h1=>We (Dr x h1) QB R) R:=by unfold Bq;rw [CM]
@[simp] theorem ZeY:We (AM f ρ h) QB R=We (f ρ h) (fun x h1=>We (F4 x h1) QB R) R:=by unfold AM;rw [CM]
@[simp] theorem ZeZ {QA:List D→HD→Prop}:We (Ac ρ h) QA R=QA [] h:=rfl
@[simp] theorem Ze0 {QA:List D→HD→Prop}:We (Ab f fa ρ h) QA R=We (f ρ h) (fun x h1=>We (fa ρ h1) (fun xs h2=>QA (x::xs) h2) R) R:=by
  unfold Ab;simp only [CM];rfl
@[simp] theorem Ze1 {d:D} {r:Ah}:We (Aa 0 (some d::r) h) QD R=QD d h:=rfl
@[simp] theorem Ze2 {i:Nat} {x:Option D} {r:Ah}:We (Aa (i+1) (x::r) h) QD R=We (Aa i r h) QD R:=rfl
@[simp] theorem Ze3 {d:D}:We (mC d ρ h) QD R=QD d h:=rfl
@[simp] theorem Ze4 {op:D→D→HD→Out D} {f':ME}:We (Ad op f f' ρ h) QD R=We (f ρ h) (fun x h1=>We (f' ρ h1) (fun y h2=>We (op x y h2) QD R) R) R:=by unfold Ad;simp only [CM]
@[simp] theorem Ze5 {fj:MJ}:We (MD fj ρ h) QD R=We (fj Str.empty ρ h) (fun x h1=>QD (.str x) h1) R:=by unfold MD;rw [CM];rfl
end
def Et {α:Type} (o:Out α) (h:HD) (n:Str) (fs:List (Str×D)):Prop:=We o (fun _ _=>False) fun n' fs' h'=>n'=n∧fs'=fs∧Sm h h'
theorem Et.we {α:Type} {o:Out α} {h:HD} {n:Str} {fs:List (Str×D)} {Q:α→HD→Prop} {R:Str→List (Str×D)→HD→Prop} (e:Et o h n fs) (k:∀h',Sm h h'→R n fs h'):We o Q R:=We.mono e (fun _ _ z=>z.elim) fun n' fs h' z1_=>by obtain ⟨rfl,rfl,s⟩:=z1_;exact k h' s
theorem MM {cs:List Nat} {Fk:List D→HD→Out D} {f:ME} {ρ:Ah} {h:HD} {ds:List D} {Q:D→HD→Prop} (ht:h[0]?=some .tab) (hd:AC (cs.map fun j=>(ρ[j]?).join)=some ds)
 (q:We (f (ds.map some) h) (fun _ h1=>Q (.str "told") h1) fun n fs h1=>n∈excNames∧∃is,E3 fs=some is∧Wp (Fk [.exc n is] h1) Q):Wp (DS cs Fk f ρ h) Q:=by
 unfold DS
 rw [ht,hd]
 simp only
 unfold MC
 cases o:f (ds.map some) h with
 |ok a h1=>rw [o] at q;exact q
 |stuck=>rw [o] at q;exact q.elim
 |err C fs h1=>
  rw [o] at q
  cases C with
  |str n t=>
   obtain ⟨hn,is,hi,hk⟩:=(show n∈excNames∧∃is,E3 fs=some is∧Wp (Fk [.exc n is] h1) Q from q)
   simp only [hn,if_true,hi]
   cases e:Fk [.exc n is] h1 with
   |ok d h2=>rw [e] at hk;exact hk
   |_=>rw [e] at hk;exact hk.elim
  |_=>exact q.elim
def Rp (n L:Nat) (d:D):Prop:=∃p:PyData,(∀(h:HD) (m:Nat),AN h (n+m) d=some p)∧p.showable=true∧p.hasDict=false∧p.depth≤n∧p.shown.length≤L
theorem Qd {L:Nat}:∀{ts:List Str},(∀t∈ts,t.length≤L)→piled ts≤ts.length*(L+2)
 |[],_=>by simp [piled]
 |t::ts,h=>by
  have h1:=h t AZ
  have h2:=Qd (fun x hx=>h x (A6 _ hx)) (ts:=ts) (L:=L)
  simp only [piled] at *
  simp [Nat.succ_mul]
  omega
theorem MN:∀{ps:List PyData},(PyData.shownAll ps).length=ps.length
 |[]=>rfl
 |p::ps=>by simp [PyData.shownAll,MN (ps:=ps)]
section
variable {h:HD} {i j:Int} {ds:List D} {a b:D} {l:Nat} {x y:Str}
@[simp] theorem Ze6:Br (.str x) (.str y) h=.ok (.bl (!(x==y))) h:=rfl
@[simp] theorem Ze7:Cu (.str x) (.str y) h=.ok (.bl (x==y)) h:=rfl
@[simp] theorem ZZ:Br (.int i) (.int j) h=.ok (.bl (!(i==j))) h:=rfl
@[simp] theorem Qe:Cu (.int i) (.int j) h=.ok (.bl (i==j)) h:=rfl
@[simp] theorem Ze8 {c d:Bool}:Br (.bl c) (.bl d) h=.ok (.bl (!(c==d))) h:=rfl
@[simp] theorem Ze9 {c d:Bool}:Cu (.bl c) (.bl d) h=.ok (.bl (c==d)) h:=rfl
@[simp] theorem Zfa {es:List D}:Br (.tup ds) (.tup es) h=Dh (.tup ds) (.tup es) h:=rfl
@[simp] theorem Zfb {es:List D}:Cu (.tup ds) (.tup es) h=F9 (.tup ds) (.tup es) h:=rfl
@[simp] theorem Zfc:Dx (.int i) (.int j) h=DQ (.int i) (.int j) h:=rfl
@[simp] theorem Zfd:Dx (.loc l) b h=DQ (.loc l) b h:=rfl
@[simp] theorem Zfe:AI (.int i) b h=BC (.int i) b h:=rfl
@[simp] theorem Zff {c:Bool}:AI (.bl c) b h=BC (.bl c) b h:=rfl
@[simp] theorem Zfg:AI .non b h=BC .non b h:=rfl
@[simp] theorem Zfh:AI (.str x) b h=BC (.str x) b h:=rfl
@[simp] theorem Zfi:AI (.tup ds) b h=BC (.tup ds) b h:=rfl
@[simp] theorem Z0:AI (.loc l) b h=BC (.loc l) b h:=rfl
@[simp] theorem Zfj {c:Bool}:BC (.bl c) (.ty "int") h=.ok (.bl true) h:=rfl
@[simp] theorem Zfk {c:Bool}:BC (.bl c) (.ty "bool") h=.ok (.bl true) h:=rfl
@[simp] theorem Zfl {c:Bool}:BC (.bl c) (.ty "tuple") h=.ok (.bl false) h:=rfl
@[simp] theorem Zfm:BC .non (.ty "int") h=.ok (.bl false) h:=rfl
@[simp] theorem Zfn:BC .non (.ty "tuple") h=.ok (.bl false) h:=rfl
@[simp] theorem Zfo:BC (.str x) (.ty "int") h=.ok (.bl false) h:=rfl
@[simp] theorem Zfp:BC (.str x) (.ty "tuple") h=.ok (.bl false) h:=rfl
theorem Qf (e:h[l]?=some (.lst ds)):BC (.loc l) (.ty "int") h=.ok (.bl false) h:=by
 simp only [BC,DN,e];rfl
theorem Z1 (e:h[l]?=some (.lst ds)):BC (.loc l) (.ty "tuple") h=.ok (.bl false) h:=by
 simp only [BC,DN,e];rfl
@[simp] theorem Zfq:AI .edic (.ty "int") h=.ok (.bl false) h:=rfl
@[simp] theorem Zfr:AI .edic (.ty "tuple") h=.ok (.bl false) h:=rfl
theorem El {n n':Str} {fs:List (Str×Int)} (h1:n∈excNames) (h2:n'∈excNames):AI (.exc n fs) (.glo n') h=.ok (.bl (BI n n')) h:=if_pos ⟨h1,h2⟩
theorem Z2 {n:Str} {fs:List (Str×Int)} (h1:n∈excNames):AI (.exc n fs) (.ty "ValueError") h=.ok (.bl true) h:=if_pos ⟨h1,rfl⟩
@[simp] theorem Zfs {ρ:Ah} {c d:D} {i j k l:Nat}:Dj [i,j,k,l] (.tup [a,b,c,d]) ρ=some ((((ρ.set i (some a)).set j (some b)).set k (some c)).set l (some d)):=rfl
theorem Z3 (hz:x.length+y.length≤1000):Al (.str x) (.str y) h=.ok (.str (x++y)) h:=by
 simp only [Al]
 rw [if_pos (by unfold sizeLine;omega)]
theorem FG {xs ys:List D} {k:Nat} (e1:h[l]?=some (.lst xs)) (e2:h[k]?=some (.lst ys)):Al (.loc l) (.loc k) h=Cq (xs++ys) h:=by simp only [Al,e1,e2]
theorem Z4 {vs:List V} {w:V} (e:h[l]?=some (.lst ds)) (e1:AC (ds.map B1)=some vs) (e2:B1 a=some w):Gk (.loc l) a h=.ok (.int (E2 w vs)) h:=by
 simp only [Gk,B2,e,Out.bind_ok,DR,Bg,e1,e2]
theorem Z5 {vs:List V} {w:V} {j:Nat} (e:h[l]?=some (.lst ds)) (e1:AC (ds.map B1)=some vs) (e2:B1 a=some w) (e3:Kn w vs=some j):Gm (.loc l) a h=.ok (.int j) h:=by
 simp only [Gm,e,e1,e2,e3]
@[simp] theorem Zft {chk:D→HD→Out D} {op:D→D→HD→Out D} {f g:ME} {ρ:Ah} {Q:D→HD→Prop}:Wp (E1 chk op f g ρ h) Q=Wp (f ρ h) fun x h1=>Wp (chk x h1) fun x h2=>Wp (g ρ h2) fun y h3=>Wp (op x y h3) Q:=by unfold E1;simp only [Az]
@[simp] theorem sz6:(6≤sizeLine)=True:=eq_true (by unfold sizeLine;omega)
@[simp] theorem sz7:(7≤sizeLine)=True:=eq_true (by unfold sizeLine;omega)
@[simp] theorem sz8:(8≤sizeLine)=True:=eq_true (by unfold sizeLine;omega)
@[simp] theorem sz9:(9≤sizeLine)=True:=eq_true (by unfold sizeLine;omega)
@[simp] theorem Zfu:(10≤sizeLine)=True:=eq_true (by unfold sizeLine;omega)
end
section
variable {ρ:Ah} {h:HD} {Q:Str→HD→Prop} {R:Str→List (Str×D)→HD→Prop} {acc y:Str} {r:MJ} {f:ME} {n:Nat} {i:Int}
end
end LS
namespace LS
open PySem PySem.Spec PyProof.Rows L2 PySem.W
section
variable {X:Cx} {E:XK}
def Em:D→HD→Out D:=fun x h=>match Bg x h with
 |some ds=>Cq ds h
 |none=>.stuck
theorem Z6:CC X (.type "list") (Aw Em):=by
 refine ⟨_,Wo,fun m H h E ds vs Q hr r q=>EN r q fun d v ev rv q=>?_⟩
 unfold Em at q
 split at q
 ·rename_i ds' e
  obtain ⟨p,ws,rfl,hs,dv⟩:=Ig hr rv e
  exact ⟨p,ws,ev,hs,(H0 hr dv q).2⟩
 ·exact q.elim
theorem Z7 {pos:Pos}:Ev X E (.Dict [] [] pos) (mC .edic):=fun pins s σ H Q I z1_=>by
 obtain ⟨m,ρ,h,hr,er,p⟩:=z1_
 have hf:H s.heap.objs.size=none:=I.hok.fresh (Ax _)
 refine wpAny_Dict_empty ⟨.ref s.heap.objs.size,Ao H s.heap.objs.size (.ext (JL s.heap.objs.size)),I.laid (t':=s.toks) (fun _ _ q=>AG _ q) (Ax _) ?_,rfl,?_⟩
 ·have ne:s.heap.objs.size≠sysModules:=by
   obtain ⟨og,_,_,eg,_⟩:=I.ok.mod.glob
   obtain ⟨ml,⟨ol,_,_,el,_⟩,_⟩:=I.loc
   have h1:(3:Nat)<X.base.objs.size:=AF eg
   have h2:(X.env.locals:Nat)<s.heap.objs.size:=AF el
   have h3:X.base.objs.size≤X.s₀.heap.objs.size:=I.ok.bsz
   have h4:X.s₀.heap.objs.size≤(X.env.locals:Nat):=I.ok.above
   have h5:(1:Nat)<s.heap.objs.size:=AW (AW (show 1<4 by decide) h1) (BU h3 (BU h4 (EI h2)))
   exact fun z=>Ca h5 z
  exact ⟨⟨ne,_,_,Bi _ rfl,⟨rfl,rfl,rfl⟩,rfl⟩,⟨_,Bi _ rfl⟩,fun h1 h2 z2_ k=>by obtain ⟨ne,o,ep,z1,z2⟩:=z2_;exact (⟨ne,o,ep,k o z1,z2⟩)⟩
 ·exact p (.ref s.heap.objs.size) m _ (AB _) (.new hf) (hr.new hf) (by simp only [rD,DV];exact ⟨_,rfl,BL⟩)
def Zfv (T:List (Str×(List D→HD→Out D))) (fv:ME) (fa:MA):ME:=fun ρ h=>(fv ρ h).bind fun d h1=>match d with
 |.glo n=>(match T.lookup n with
  |some F=>(fa ρ h1).bind F
  |none=>.stuck)
 |_=>.stuck
def Zfw (P:Program) (w:World) (K:Frag) (mg:Str→Option Value) (base:Heap) (k:Nat) (T:List (Str×(List D→HD→Out D))):Prop:=∀n F,T.lookup n=some F→CaE P w K mg base n k F
theorem CaE.mono {P:Program} {w:World} {K:Frag} {mg:Str→Option Value} {base:Heap} {x:Str} {j k:Nat} {F:List D→HD→Out D} (C:CaE P w K mg base x j F) (h:j≤k):CaE P w K mg base x k F:=by
 obtain ⟨f,fd,ps,G,r⟩:=C.ex
 exact ⟨f,fd,ps,G.mono h,r⟩
end
def Zfx (K:Frag) (c:Addr):Bool:=match tabP K with
 |some (c',T)=>c'==c&&codeHdIn K c T
 |none=>false
section
variable {prog:Program} {w:World} {A:Around} {E:Str→Value→Shared→Prop}
end
section
variable {X:Cx} {E:XK}
def Z8 (K:PySem.W.Frag):V→Option Int→Option Int→Hp→VK→Prop:=fun x lo hi H Q=>∃a xs,x=.ref a∧SqT K H a xs∧HT.sIx xs.length 0 lo=0∧HT.sIx xs.length xs.length hi=xs.length∧Q (.ref a) H
theorem sl_whole:SlR X (Z8 X.K):=by
 rintro pins s σ H x v vl vu lo hi sl Q I rx hs pl pu ⟨a,xs,rfl,hx,w0,w1,q⟩
 cases rx
 obtain ⟨its,r,ht,hz⟩:=I.tuple hx
 have hl:its.toArray.size=xs.length:=by rw [AX];exact r.length.symm
 rw [←hl] at w0 w1
 obtain ⟨os,hos,hcs,hds⟩:=id hs
 refine ⟨"tuple",_,slot_tuple_getitem.lookup,ht.typeIs,?_⟩
 unfold getItem
 try with_reducible refine wpAny_holding ?_
 first |refine wpAny_bind (wpAny_pure ?_) |skip
 refine wpAny_bind (wpAny_sequenceKey ht.typeIs (by decide) (wpAny_bind (wpAny_callSpecial?_slot (name:=Str.ofString "__getitem__") ht.typeIs slot_tuple_getitem
  (wpAny_call_entry slot_tuple_getitem ht.typeIs entry_tuple_getitem ?_ (args_tuple_getitem _ _)))))
 show wpAny _ _ (Builtin.Tuple.tupleItemsOf (.ref a) >>=_) _ _ s
 refine wpAny_bind (tupleItemsOf_ ht (wpAny_bind (wpAny_typeOf (show s.TypeIs (.ref sl) "slice" from ⟨os,hos,hcs⟩) ?_)))
 rw [if_pos (by decide)]
 refine wpAny_bind (HT.sliceApplied_gen hs pl pu ?_)
 have hy:(((HT.sIx its.toArray.size 0 lo:Nat):Int)==0&&(1:Int)==1&&(HT.sIx its.toArray.size its.toArray.size hi - HT.sIx its.toArray.size 0 lo)==its.toArray.size)=true:=by
  rw [w0,w1]
  simp
 show wpAny _ _ (if (((HT.sIx its.toArray.size 0 lo:Nat):Int)==0&&(1:Int)==1&&(HT.sIx its.toArray.size its.toArray.size hi - HT.sIx its.toArray.size 0 lo)==its.toArray.size)=true then _ else _) _ _ s
 rw [if_pos hy]
 unfold Builtin.Tuple.tupleIsExact
 refine wpAny_bind (wpAny_bind (wpAny_typeOf ht.typeIs (wpAny_pure ?_)))
 rw [if_pos (by decide)]
 refine wpAny_bind (wpAny_rule ?_)
 have fin:EP X pins σ Q (.ref a) s:=⟨.ref a,H,I,rfl,q⟩
 first
  |exact wpAny_pure ⟨_,rfl,wpAny_pure fin⟩
  |exact wpAny_pure fin
def CS (x:D) (lo hi:Option Int) (h:HD):Out D:=match x with
 |.tup xs=>.ok (.tup (cutD xs lo hi)) h
 |_=>.stuck
def AK (f:ME) (lo hi:MO):ME:=fun ρ h=>(f ρ h).bind fun x h1=>(lo ρ h1).bind fun l h2=>(hi ρ h2).bind fun u h3=>CS x l u h3
theorem Z9 {α:Type} {xs:List α} {lo hi:Option Int} (h0:HT.sIx xs.length 0 lo=0) (h1:HT.sIx xs.length xs.length hi=xs.length):(xs.drop (HT.sIx xs.length 0 lo)).take (HT.sIx xs.length xs.length hi - HT.sIx xs.length 0 lo)=xs:=by
 rw [h0,h1];simp
theorem Zaa {e:Expr} {lo hi:Option Expr} {f:ME} {fl fh:MO} {p2 pos:Pos} (he:Ev X E e f) (hl:Ki X E lo fl) (hu:Ki X E hi fh):Ev X E (.Subscript e (.Slice lo hi none p2) pos) (AK f fl fh):=
 B4 (V7 (sl_whole.or Wa) he hl hu) fun σ H Q ⟨m,ρ,h,hr,er,p⟩=>⟨m,ρ,h,hr,er,Post.bind p fun x h1 v m1 H1 eo1 p1 k1 hr1 r1 q1=>
  ⟨m1,ρ,h1,hr1,er.keep p1 k1,Post.bind q1 fun l h2 l' m2 H2 eo2 p2 k2 hr2 r2 q2=>
   ⟨m2,ρ,h2,hr2,(er.keep p1 k1).keep p2 k2,Post.bind q2 fun u h3 u' m3 H3 eo3 p3 k3 hr3 r3 q3=>by
    clear eo1 eo2 eo3
    subst r2 r3
    have rx:=DV.keep p3 k3 (DV.keep p2 k2 r1)
    unfold CS at q3
    split at q3
    ·rename_i xs
     have rx0:=rx
     simp only [DV] at rx
     obtain ⟨a,vs,rfl,ha,dv⟩:=rx
     by_cases hz:HT.sIx xs.length 0 l=0∧HT.sIx xs.length xs.length u=xs.length
     ·refine .inl ⟨a,vs,rfl,SqT.of ha,by rw [←dv.len];exact hz.1,by rw [←dv.len];exact hz.2,?_⟩
      have e:cutD xs l u=xs:=Z9 hz.1 hz.2
      rw [e] at q3
      exact q3 (.ref a) m3 H3 (AB _) (.refl _) hr3 rx0
     ·rw [dv.len] at hz
      exact .inr ⟨a,vs,rfl,SqT.of ha,hz,F7 hr3 (dv.cut l u) q3⟩
    ·exact q3.elim⟩⟩⟩
end
section
variable {f:ME} {lo hi:MO} {ρ:Ah} {h:HD} {Q:D→HD→Prop}
@[simp] theorem Zfy:Wp (AK f lo hi ρ h) Q=Wp (f ρ h) fun x h1=>Wp (lo ρ h1) fun l h2=>Wp (hi ρ h2) fun u h3=>Wp (CS x l u h3) Q:=by unfold AK;simp only [Az]
end
section
variable {K:Frag} {mg:Str→Option Value} {h:Heap}
theorem SaidD.of {st:Stmt} {f:Addr} {fd:FuncData} (d:Dn K mg "_law_said" ["_law_call"] st f fd):SaidD K mg st f fd:=⟨d.fn,d.bd,d.mg⟩
end
open AutoSeq1 (wpAny_loadPart')
section
variable {prog:Program} {w:World} {A:Around} {E:Value→Shared→Prop} {s:Shared}
end
def MP (r:Addr) (n:Nat) (h:Heap):Prop:=∃t u v,IsRange h r 0 (n:Int) 1 t u v
section
variable {X:Cx} {E:XK}
inductive Zab (vs:List V) (H:Hp) (Q:VK):Prop where
 |mk (n:Nat) (e:vs=[.int (n:Int)]) (hn:n≤1000) (q:∀p,H p=none→Q (.ref p) (Ao H p (.ext (MP p n)))):Zab vs H Q
inductive Zac (vs:List V) (H:Hp) (Q:VK):Prop where
 |mk (r:Addr) (n:Nat) (e:vs=[.ref r]) (hr:H r=some (.ext (MP r n))) (hn:n≤1000) (q:∀p,H p=none→Q (.ref p) (Ao H p (.tup ((List.range n).map fun i=>V.int ((i:Nat):Int))))):Zac vs H Q
noncomputable def Zad:D→HD→Out D:=fun d h=>match d with
 |.int i=>@ite _ (0≤i∧i≤1000) (Classical.propDecidable _) (.ok (.tup ((List.range i.toNat).map fun k=>D.int ((k:Nat):Int))) h) .stuck
 |_=>.stuck
noncomputable def Zfz (f:ME):ME:=fun ρ h=>(f ρ h).bind Zad
end
end LS
namespace LS
open PySem PySem.Spec PyProof.Rows L2 PySem.W
section
variable {X:Cx} {E:XK}
def Gn:D→HD→Out D:=fun x h=>match x with
 |.tup _=>.ok x h
 |_=>.stuck
theorem Zae:Mx X "tuple" Gn where
 two:=fun x h=>by cases x<;>first |exact .inl rfl |exact .inr rfl
 ty:=fun m H h x v hr r e=>by
  cases x with
  |tup ds=>
   simp only [DV] at r
   obtain ⟨a,vs,rfl,ha,dv⟩:=r
   intro pins σ s u I ru
   cases (show u=Value.ref a from ru)
   obtain ⟨_,its,rv,⟨o,ho,hc,k,hd⟩,nd⟩:=I.hok a _ ha
   exact ⟨⟨o,ho,hc⟩,fun b e=>by cases e;exact ⟨o,ho,nd o ho⟩⟩
  |_=>cases e
def Gp:D→D→HD→Out D:=fun x y h=>(Gn x h).bind fun _ _=>DR x y h
theorem Zaf (x y:D) (h:HD):Ej (Gp x y h):=by
 unfold Gp
 cases x with
 |tup ds=>
  show Ej (DR (.tup ds) y h)
  exact PZ _ _ _
 |_=>exact trivial
theorem Zag:Km X "tuple.count" Gp:=by
 intro pins s σ H m h x y v yv u uy Q I hr rx ry r r2 q
 cases x with
 |tup ds=>
  change Post X.K (rD X.K) m H E0 Q (DR (.tup ds) y h) at q
  unfold DR at q
  change Post X.K (rD X.K) m H E0 Q (match B1 y,AC (ds.map B1) with
   |some v,some vs=>.ok (.int (E2 v vs)) h
   |_,_=>.stuck) at q
  split at q
  ·rename_i w ws e1 e2
   simp only [DV] at rx
   obtain ⟨a,vs,rfl,ha,dv⟩:=rx
   cases (show u=Value.ref a from r)
   obtain ⟨h1,h2⟩:=Ic ry e1
   obtain ⟨h3,h4⟩:=Ie dv e2
   subst h1 h3
   obtain ⟨_,its,rr,⟨⟨oc,od,odt,osl⟩,ho,hc,k,hd⟩,nd⟩:=I.hok a _ ha
   cases hc
   cases hd
   refine call_meets F.slot_tuple_count ⟨_,ho,rfl⟩ F.entry_tuple_count (F.args_tuple_count_2 _ _) (PySem.SeqAt.tuple_countAt a its.toArray k od osl uy (B0 yv)) ⟨ho,fun w hw=>Fp r2 h2 rr h4 w (by simpa using hw),?_⟩
   refine ⟨.int _,H,I.tok _,⟨_,rfl⟩,?_⟩
   rw [show (its.toArray.toList.countP (B0 yv))=E2 yv vs by rw [←MB rr h4]]
   exact A5 hr q (by simp [DV])
  ·exact q.elim
 |_=>exact q.elim
mutual
def Gq:PyData→Bool
 |.list _=>false
 |.tuple xs=>Gr xs
 |_=>true
def Gr:List PyData→Bool
 |[]=>true
 |x::xs=>Gq x&&Gr xs
end
def CD (h:HD):Nat→D→Option PyData
 |_,.non=>some .none
 |_,.bl b=>some (.bool b)
 |_,.int i=>some (.int i)
 |_,.str x=>some (.str x)
 |_,.edic=>some (.dict [])
 |n+1,.tup ds=>(AC (ds.map (CD h n))).map .tuple
 |n+1,.loc l=>match h[l]? with
  |some (.lst ds)=>(AC (ds.map (CD h n))).map .list
  |_=>none
 |_,_=>none
inductive Ks (h:Heap) (u:Value) (p:PyData):Prop where
 |mk (as:List Addr) (f1:Reads h u p as) (f2:Gq p=true→sysModules∉as):Ks h u p
inductive Qg (h:Heap) (us:List Value) (ps:List PyData):Prop where
 |mk (as:List Addr) (f1:ReadsAll h us ps as) (f2:Gr ps=true→sysModules∉as):Qg h us ps
variable {pins:List (Addr×Obj)} {σ:L2.St} {H:Hp} {s:Shared} {m:List Addr} {h:HD}
theorem MQ {n:Nat} (ih:∀(d:D) (v:V) (u:Value) (p:PyData),DV X.K m H d v→RelV v u→CD h n d=some p→Ks s.heap u p):
 ∀(ds:List D) (vs:List V) (us:List Value) (ps:List PyData),DVs X.K m H ds vs→Vals vs us→AC (ds.map (CD h n))=some ps→Qg s.heap us ps
 |[],vs,us,ps,r,q,e=>by
  simp only [DVs] at r
  subst r
  cases q
  simp [AC] at e
  subst e
  exact ⟨[],.nil,fun _=>Dc⟩
 |d::ds,vs,us,ps,r,q,e=>by
  simp only [DVs] at r
  obtain ⟨v,w,rfl,rv,rw'⟩:=r
  cases q with
  |cons q1 q2=>
   rw [BE] at e
   cases ed:CD h n d with
   |none=>rw [ed] at e;simp [AC] at e
   |some p=>
    rw [ed] at e
    simp only [AC,qaT] at e
    obtain ⟨ps',e1,rfl⟩:=e
    obtain ⟨as,h1,g1⟩:=ih d v _ p rv q1 ed
    obtain ⟨bs,h2,g2⟩:=MQ ih ds w _ ps' rw' q2 e1
    refine ⟨as++bs,.cons h1 h2,fun z hm=>?_⟩
    rw [Gr,BS] at z
    rcases qaG.mp hm with y |y
    ·exact g1 z.1 y
    ·exact g2 z.2 y
theorem Zah (hok:HOk X.prog X.w H s.heap) (hr:HR X.K m h H):∀(n:Nat) (d:D) (v:V) (u:Value) (p:PyData),DV X.K m H d v→RelV v u→CD h n d=some p→Ks s.heap u p:=by
 have flat:∀(n:Nat) (d:D) (v:V) (u:Value) (p:PyData),(∀ds,d≠.tup ds)→(∀l,d≠.loc l)→DV X.K m H d v→RelV v u→CD h n d=some p→Ks s.heap u p:=by
  intro n d v u p ht hl r q e
  have n0:sysModules∉([]:List Addr):=Dc
  cases d with
  |non=>simp only [DV] at r;subst r;cases q;cases (show PyData.none=p by cases n<;>exact Option.some.inj e);exact ⟨[],.none,fun _=>n0⟩
  |bl b=>simp only [DV] at r;subst r;cases q;cases (show PyData.bool b=p by cases n<;>exact Option.some.inj e);exact ⟨[],.bool _,fun _=>n0⟩
  |int i=>simp only [DV] at r;subst r;obtain ⟨t,rfl⟩:=q;cases (show PyData.int i=p by cases n<;>exact Option.some.inj e);exact ⟨[],.int _ _,fun _=>n0⟩
  |str x=>simp only [DV] at r;subst r;obtain ⟨t,rfl⟩:=q;cases (show PyData.str x=p by cases n<;>exact Option.some.inj e);exact ⟨[],.str _ _,fun _=>n0⟩
  |edic=>
   simp only [DV] at r
   obtain ⟨a,rfl,ha⟩:=r
   cases (show u=Value.ref a from q)
   cases (show PyData.dict []=p by cases n<;>exact Option.some.inj e)
   obtain ⟨⟨ne,o,ep,ho,hx,hd⟩,_⟩:=(show ObjOk X.prog X.w H s.heap a (.ext (JL a)) from hok a _ ha)
   refine ⟨_,.dict ho hx.1 hd .nil .nil,fun _ z=>?_⟩
   exact ne (qa4.mp z).symm
  |tup ds=>exact absurd rfl (ht ds)
  |loc l=>exact absurd rfl (hl l)
  |_=>cases n<;>exact nomatch (show (none:Option PyData)=some p from e)
 intro n
 induction n with
 |zero=>
  intro d v u p r q e
  cases d with
  |tup ds=>exact nomatch (show (none:Option PyData)=some p from e)
  |loc l=>exact nomatch (show (none:Option PyData)=some p from e)
  |_=>exact flat 0 _ v u p (by intro _ z;cases z) (by intro _ z;cases z) r q e
 |succ n ih=>
  intro d v u p r q e
  cases d with
  |tup ds=>
   change (AC (ds.map (CD h n))).map PyData.tuple=some p at e
   simp only [DV,qaT] at e r
   obtain ⟨a,vs,rfl,ha,dv⟩:=r
   obtain ⟨ps,e1,rfl⟩:=e
   cases (show u=Value.ref a from q)
   obtain ⟨_,its,rv,⟨o,ho,hc,k,hd⟩,_⟩:=hok a _ ha
   obtain ⟨as,h1,g1⟩:=MQ ih ds vs its ps dv rv e1
   exact ⟨as,.tuple ho hc hd (by simpa using h1),fun z=>g1 z⟩
  |loc l=>
   simp only [DV] at r
   obtain ⟨a,rfl,ha⟩:=r
   cases (show u=Value.ref a from q)
   change (match h[l]? with
    |some (.lst ds)=>(AC (ds.map (CD h n))).map PyData.list
    |_=>none)=some p at e
   split at e
   ·rename_i ds el
    simp only [qaT] at e
    obtain ⟨ps,e1,rfl⟩:=e
    obtain ⟨vs,hv,dv⟩:=hr.cells l _ a el ha
    obtain ⟨_,its,k,rv,ho⟩:=hok a _ hv
    obtain ⟨as,h1,_⟩:=MQ ih ds vs its ps dv rv e1
    exact ⟨_,.list ho rfl rfl (by simpa using h1),fun z=>nomatch (show false=true from z)⟩
   ·cases e
  |_=>exact flat (n+1) _ v u p (by intro _ z;cases z) (by intro _ z;cases z) r q e
def CN:D→HD→Out D:=fun x h=>match CD h 8 x with
 |some p=>if p.showable=true∧(p.hasDict=false∨Gq p=true)∧p.depth≤40∧p.shown.length≤sizeLine then .ok (.str p.shown) h else .stuck
 |none=>.stuck
theorem Zai (hu:X.A.units+64<cLine) (hg:X.A.guards=some []):CC X (.builtin "repr") (Aw CN):=by
 refine Mw (fun ds h=>?_) fun pins s σ H m h ds vs us Q I hr rd r q=>EN rd q fun x v ev rx q=>?_
 ·unfold Aw CN
  repeat' split
  all_goals trivial
 ·subst ev
  obtain ⟨u,rfl,ru⟩:=DH r
  unfold CN at q
  split at q
  ·rename_i p e
   split at q
   ·rename_i hc
    obtain ⟨h1,h2,h3,h4⟩:=hc
    obtain ⟨as,hd,g⟩:=Zah I.hok hr 8 x v u p rx ru e
    have hs:p.hasDict=true→sysModules∉as:=fun z=>by
     rcases h2 with h2 |h2
     ·rw [h2] at z;cases z
     ·exact g h2
    have fin:∀(h':Heap) (t tk:Tok),(∀b o,s.heap.get? b=some o→h'.get? b=some o)→EP X pins σ Q (.str p.shown t) {s with heap:=h',toks:=tk}:=fun h' t tk hk=>⟨.str p.shown,H,I.kept hk,⟨t,rfl⟩,A5 hr q (by simp [DV])⟩
    cases hd with
    |list a1 a2 a3 a4=>exact repr_of_reads' (.list a1 a2 a3 a4) h1 hs hg (by omega) (fun _ _ e=>e) fin h4
    |tuple a1 a2 a3 a4=>exact repr_of_reads' (.tuple a1 a2 a3 a4) h1 hs hg (by omega) (fun _ _ e=>e) fin h4
    |dict a1 a2 a3 a4 a5=>exact repr_of_reads' (.dict a1 a2 a3 a4 a5) h1 hs hg (by omega) (fun _ _ e=>e) fin h4
    |int i t=>
     have h1':i.natAbs.log2<1920:=by simpa [PyData.showable] using h1
     exact PySem.P.repr_of_int h1' (fin s.heap _ _ fun _ _ e=>e)
    |none=>exact PySem.P.repr_of_none (fin s.heap _ _ fun _ _ e=>e)
    |bool b=>exact PySem.P.repr_of_bool (fin s.heap _ _ fun _ _ e=>e)
    |str x t=>exact PySem.P.repr_of_str (fin s.heap _ _ fun _ _ e=>e) (by simpa [PyData.shown] using h4)
   ·exact q.elim
  ·exact q.elim
end
end LS
namespace HT
open PySem PyProof.Rows
def lexLe:List Int→List Int→Bool
 |[],[]=>true
 |[],_::_=>true
 |_::_,[]=>false
 |x::xs,y::ys=>if x=y then lexLe xs ys else decide (x≤y)
section
open PySem.SeqAt
open PySem.AutoSeq1 (wpAny_loadPart')
open PySem.MeetsSeq PySem.MeetsSeq2 PySem.MeetsSeq3
end
section
variable {prog:Program} {w:World} {A:Around} {E:Value→Shared→Prop} {s:Shared}
end
end HT
namespace L2
open PySem PySem.Spec PyProof.Rows
section
variable {X:Cx}
def ZfA (K:PySem.W.Frag):R2:=fun x y H Q=>∃a b ns ms,x=.ref a∧y=.ref b∧SqT K H a (ns.map V.int)∧SqT K H b (ms.map V.int)∧Q (.bl (HT.lexLe ns ms)) H
end
end L2
namespace LS
open PySem PySem.Spec PyProof.Rows L2
theorem Qh {K:PySem.W.Frag} {cs:List (Option Nat)} {i j k:Nat} (h:cs[i]?=some none) (h':cs[j]?=some none) (h2:cs[k]?=some none):Fz K cs (D3 K [i,j,k].length (Kr [i,j,k])) (Dj [i,j,k]):=fun m H d v ρ σ0 ρ' Q r er e q=>by
 unfold Dj at e
 split at e
 ·rename_i ds
  match ds,e with
  |[a,b,c],e=>
   cases e
   simp only [DV,DVs] at r
   obtain ⟨p,vs,rfl,hp,v1,w1,rfl,r1,v2,w2,rfl,r2,v3,w3,rfl,r3,rfl⟩:=r
   exact ⟨p,_,rfl,SqT.of hp,rfl,v1,_,rfl,v2,_,rfl,v3,_,rfl,rfl,q _ ((((Sub.refl _).set h).set h').set h2) (((er.set r1).set r2).set r3)⟩
 ·cases e
section
variable {X:Cx} {E:XK}
def MR:D→Option (List Int)
 |.tup ds=>AC (ds.map Gd)
 |_=>none
theorem Qi {m:List Addr} {H:Hp} {d:D} {v:V} {ns:List Int} (r:DV X.K m H d v) (e:MR d=some ns):∃a,v=.ref a∧SqT X.K H a (ns.map V.int):=by
 cases d with
 |tup ds=>
  simp only [DV] at r
  obtain ⟨a,vs,rfl,ha,dv⟩:=r
  have:=LZ dv e
  subst this
  exact ⟨a,rfl,SqT.of ha⟩
 |_=>exact nomatch (show (none:Option (List Int))=some ns from e)
def Kt (f:List Int→List Int→Bool):D→D→HD→Out D:=fun x y h=>match MR x,MR y with
 |some ns,some ms=>.ok (.bl (f ns ms)) h
 |_,_=>.stuck
theorem Zaj (hu:X.A.units+64<cLine):Bk X (compareOp .Lt) (Kt HT.lexLt):=⟨_,Wc (by omega),fun m H h E x y v u Q hr rx ry q=>by
 unfold Kt at q
 split at q
 ·rename_i ns ms e1 e2
  obtain ⟨a,rfl,ha⟩:=Qi rx e1
  obtain ⟨b,rfl,hb⟩:=Qi ry e2
  exact ⟨a,b,ns,ms,rfl,rfl,ha,hb,A5 hr q (by simp [DV])⟩
 ·exact q.elim⟩
end
section
variable {prog:Program} {w:World} {A:Around} {E:Value→Shared→Prop} {s:Shared}
theorem Zak {n:Nat} {sl:Addr} {tk:Tok} {Q:Int×Int×Nat→Shared→Prop} (hs:s.heap.IsSliceOf sl .none .none (.int (-1) tk)) (h:Q ((n:Int) - 1,-1,n) s):wpAny (model prog w) A (Builtin.Slice.sliceApplied (.ref sl) (pure ((n:Nat):Int))) Q E s:=by
 obtain ⟨os,hos,hcs,hds⟩:=id hs
 unfold Builtin.Slice.sliceApplied Builtin.Slice.sliceFields
 refine wpAny_bind (wpAny_bind (wpAny_field hos hds (x:=.none) rfl (wpAny_bind (wpAny_field hos hds (x:=.none) rfl (wpAny_bind (wpAny_field hos hds (x:=.int (-1) tk) rfl (wpAny_pure ?_)))))))
 refine wpAny_bind (slicePart_int ?_)
 show wpAny _ _ (if ((-1:Int)==0)=true then _ else _) _ _ s
 rw [if_neg (by decide)]
 refine wpAny_bind (slicePart_none (wpAny_bind (slicePart_none (wpAny_bind (wpAny_pure ?_)))))
 refine wpAny_pure ?_
 have e1:Builtin.Slice.slicePlaces ((n:Int) - 1) (-1) (-1)=n:=by
  unfold Builtin.Slice.slicePlaces
  simp
  omega
 have e2:Builtin.Slice.sliceAdjust none none (-1) (n:Int)=((n:Int) - 1,-1):=by
  rfl
 show Q ((Builtin.Slice.sliceAdjust none none (-1) (n:Int)).1,-1,Builtin.Slice.slicePlaces (Builtin.Slice.sliceAdjust none none (-1) (n:Int)).1 (Builtin.Slice.sliceAdjust none none (-1) (n:Int)).2 (-1)) s
 rw [e2]
 show Q ((n:Int) - 1,-1,Builtin.Slice.slicePlaces ((n:Int) - 1) (-1) (-1)) s
 rw [e1]
 exact h
theorem Qj {α β:Type} {f g:α→Option β}:∀{l:List α},(∀x∈l,f x=g x)→l.filterMap f=l.filterMap g
 |[],_=>rfl
 |x::xs,h=>by rw [Ff,Ff,h x AZ,Qj fun y hy=>h y (A6 _ hy)]
theorem Ku {vs:List Value}:((List.range vs.toArray.size).filterMap fun (m:Nat)=>vs.toArray[(((vs.toArray.size:Nat):Int) - 1+(m:Int)*(-1)).toNat]?).toArray=vs.reverse.toArray:=by
 have e:(List.range vs.toArray.size).filterMap (fun (m:Nat)=>vs.toArray[(((vs.toArray.size:Nat):Int) - 1+(m:Int)*(-1)).toNat]?)=((List.range vs.toArray.size).map fun k=>vs.toArray.size - 1 - k).filterMap (vs.toArray[·]?):=by
  rw [List.filterMap_map]
  refine Qj fun m hm=>?_
  have:=qbR.mp hm
  show vs.toArray[_]?=vs.toArray[vs.toArray.size - 1 - m]?
  congr 1
  omega
 rw [e,PySem.W.krv_range,List.filterMap_reverse,PySem.W.krv_all]
theorem Zal {t sl:Addr} {vs:List Value} {tk:Tok} {Q:Value→Shared→Prop} (ht:IsTup s.heap t vs.toArray) (hs:s.heap.IsSliceOf sl .none .none (.int (-1) tk)) (hn:vs.length≤sizeLine)
 (h:Q (.ref s.heap.objs.size) {s with heap:=s.heap.push {cls:=.type "tuple",data:=.seq vs.reverse.toArray}}):wpAny (model prog w) A (getItem (.ref t) (.ref sl)) Q E s:=by
 obtain ⟨os,hos,hcs,hds⟩:=id hs
 have hTs:s.TypeIs (.ref sl) "slice":=⟨os,hos,hcs⟩
 unfold getItem
 try with_reducible refine wpAny_holding ?_
 first |refine wpAny_bind (wpAny_pure ?_) |skip
 refine wpAny_bind (wpAny_sequenceKey ht.typeIs (by decide) ?_)
 refine wpAny_bind (wpAny_callSpecial?_slot (name:=Str.ofString "__getitem__") ht.typeIs PyProof.Rows.slot_tuple_getitem
  (wpAny_call_entry PyProof.Rows.slot_tuple_getitem ht.typeIs entry_tuple_getitem ?_ (args_tuple_getitem _ _)))
 show wpAny _ _ (Builtin.Tuple.tupleItemsOf (.ref t) >>=_) _ _ s
 refine wpAny_bind (tupleItemsOf_ ht ?_)
 refine wpAny_bind (wpAny_typeOf hTs ?_)
 rw [if_pos (by decide)]
 refine wpAny_bind (Zak (n:=vs.toArray.size) hs ?_)
 show wpAny _ _ (if ((((vs.toArray.size:Nat):Int) - 1)==0&&(-1:Int)==1&&vs.toArray.size==vs.toArray.size)=true then _ else _) _ _ s
 rw [if_neg (by rw [show ((-1:Int)==1)=false from rfl,Bool.and_false,GJ];exact Bf)]
 have hz:sizeOk (.seq vs.reverse.toArray):=by show vs.reverse.toArray.size≤sizeLine;simpa using hn
 first
  |(rw [Ku];exact wpAny_bind (m:=Builtin.Tuple.tupleExact _) (wpAny_newObj_type (wpAny_pure ⟨_,rfl,wpAny_pure h⟩) hz))
  |(rw [Ku];exact wpAny_bind (m:=Builtin.Tuple.tupleExact _) (wpAny_newObj_type (wpAny_bind (wpAny_pure (wpAny_pure ⟨_,rfl,wpAny_pure h⟩))) hz))
  |(rw [Ku];exact wpAny_bind (wpAny_bind (m:=Builtin.Tuple.tupleExact _) (wpAny_newObj_type (wpAny_pure (wpAny_pure ⟨_,rfl,wpAny_pure h⟩)) hz)))
  |(rw [Ku];exact wpAny_bind (wpAny_bind (m:=Builtin.Tuple.tupleExact _) (wpAny_newObj_type (wpAny_pure ⟨_,rfl,wpAny_pure h⟩) hz)))
end
section
variable {X:Cx} {E:XK} {e:Expr} {f:ME}
def Iw:D→HD→Out D:=fun x h=>match x with
 |.tup ds=>.ok (.tup ds.reverse) h
 |_=>.stuck
def DT (f:ME):ME:=fun ρ h=>(f ρ h).bind Iw
theorem DVs.rev {K:PySem.W.Frag} {m:List Addr} {H:Hp}:∀{ds:List D} {vs:List V},DVs K m H ds vs→DVs K m H ds.reverse vs.reverse
 |[],vs,r=>by
  simp only [DVs] at r
  subst r
  exact .nil
 |d::ds,vs,r=>by
  simp only [DVs] at r
  obtain ⟨v,w,rfl,rv,rw'⟩:=r
  rw [CZ,CZ]
  exact (DVs.rev rw').app (.cons rv .nil)
theorem Zam {vs:List V} {us:List Value} (r:Vals vs us):Vals vs.reverse us.reverse:=r.reverse
theorem Zan {j:Nat} {p1 p2 p3 pos:Pos} (he:Ev X E e f):Ev X E (.Subscript e (.Slice none none (some (.UnaryOp .USub (.Constant (.int 1) j p1) p2)) p3) pos) (DT f):=by
 rintro pins s σ H Q I ⟨m,ρ,h,hr,er,p⟩
 have p':tD X.K E f σ H fun v H1=>∃t xs,v=.ref t∧SqT X.K H1 t xs∧∀q,H1 q=none→Q (.ref q) (Ao H1 q (.tup xs.reverse)):=⟨m,ρ,h,hr,er,Post.bind p fun x h1 v m1 H1 eo p1 k1 hr1 r1 q1=>by
  clear eo
  unfold Iw at q1
  split at q1
  ·simp only [rD,DV] at r1
   obtain ⟨t,vs,rfl,ht,dv⟩:=r1
   exact ⟨t,vs,rfl,SqT.of ht,F7 hr1 (DVs.rev dv) q1⟩
  ·exact q1.elim⟩
 refine Subscript_ (Ay (he pins s σ H _ I p') fun v s1 z1_=>?_)
 obtain ⟨x,H1,I1,r1,t,xs,ex,hq,q1⟩:=z1_
 subst ex
 cases r1
 refine wpAny_Slice ?_
 rw [evalPart_none,evalPart_some]
 refine wpAny_pure (wpAny_pure ?_)
 have st:PE X (.UnaryOp .USub (.Constant (.int 1) j p1) p2) (N3 (rU fun i=>.int (-i)) (tC (.int 1))):=N4 N7 N0
 refine Ay (st pins s1 σ H1 (fun v H3=>v=.int (-1)∧H3=H1) I1 ⟨1,rfl,rfl,rfl⟩) fun sv s3 z2_=>?_
 obtain ⟨x,H3,I3,r3,ex,eH⟩:=z2_
 subst ex eH
 obtain ⟨tk,rfl⟩:=r3
 obtain ⟨its,rv,pl,hz⟩:=I3.tuple hq
 have I4:Inv X pins σ H3 {s3 with heap:=s3.heap.push {cls:=.type "slice",data:=.fields #[.none,.none,.int (-1) tk]}}:=I3.kept (t':=s3.toks) fun b ob q=>AG _ q
 have pl4:IsTup (s3.heap.push {cls:=.type "slice",data:=.fields #[.none,.none,.int (-1) tk]}) t its.toArray:=by
  obtain ⟨o,ho,r⟩:=pl
  exact ⟨o,AG _ ho,r⟩
 have hsl:(s3.heap.push {cls:=.type "slice",data:=.fields #[.none,.none,.int (-1) tk]}).IsSliceOf s3.heap.objs.size .none .none (.int (-1) tk):=Heap.IsSliceOf.new ..
 show wpAny (model X.prog X.w) X.A (subscriptTail e (.Slice none none (some (.UnaryOp .USub (.Constant (.int 1) j p1) p2)) p3) (.ref t) (.ref s3.heap.objs.size)) (EP X pins σ Q) X.xe {s3 with heap:=s3.heap.push {cls:=.type "slice",data:=.fields #[.none,.none,.int (-1) tk]}}
 refine tail_any (ops:=[.ref t,.ref s3.heap.objs.size]) (T:="tuple") pl4.typeIs PyProof.Rows.slot_tuple_getitem.lookup (Zal (s:={s3 with heap:=s3.heap.push {cls:=.type "slice",data:=.fields #[.none,.none,.int (-1) tk]}}) pl4 hsl (by rw [←rv.length];exact hz) ?_) (by with_unfolding_all rfl)
 refine ⟨.ref _,_,I4.laid (t':=s3.toks) (o:=.tup xs.reverse) (fun b ob q=>AG _ q) (Ax _) ?_,rfl,q1 _ (I4.hok.fresh (Ax _))⟩
 exact ⟨by rw [List.length_reverse];exact hz,its.reverse,Zam rv,IsTup.new _ _,NoDict.new⟩
end
end LS
namespace LS
open PySem
section
variable {prog:Program} {w:World} {A:Around} {E:Value→Shared→Prop} {h:Heap} {g:Array GenState} {d:Drawn} {t:Nat} {os:OsState}
variable {nm q:Str} {C N:Addr} {bs bm bmB:List Value} {hdct:Bool} {sn:List Str} {sub:List Value} {ab:Bool} {col:Option Bool} {dd:Option Addr} {k0 k1 k2 k3 k5:Option Value} {B newId initId:String}
end
end LS
namespace LS
open PySem PySem.Spec PyProof.Rows L2
def ZfB (i j k:Nat):MG:=fun d ρ=>match d with
 |.tup [x,.tup [y,z]]=>some (((ρ.set i (some x)).set j (some y)).set k (some z))
 |_=>none
abbrev ZfC (K:PySem.W.Frag) (i j k:Nat):TG:=D3 K 2 (Cp (Cb i) (Cp (D3 K 2 (Cp (Cb j) (Cp (Cb k) EJ))) EJ))
def emS (elt:Expr) (gens:List Comprehension) (scope:Scope) (pos:Pos) (d:Nat) (acc:Value) (env:Env):Sem Unit:=match gens[d+1]? with
 |some g=>eval g.iter env >>=fun x=>standAt g.iter.pos >>=fun _=>foldedSetIterable g.iter env x >>=fun y=>holding [y] (pyIter y) >>=fun it=>
  runOwn (.compStart (.ListComp elt gens scope pos) (d+1) it acc env) env >>=fun _=>pure ()
 |none=>eval elt env >>=fun x=>call (.builtin "list.append") [acc,x] >>=fun _=>pure ()
section
variable {prog:Program} {w:World} {A:Around} {R:Result→Shared→Prop} {s:Shared} {elt tg iter:Expr} {gens:List Comprehension} {ifs:List Expr} {scope:Scope} {pos:Pos} {d:Nat} {it acc:Value} {env:Env}
end
abbrev MU (its:List Value) (k:Nat):Obj:={cls:=.type "list",data:=.seq its.toArray k}
structure ZfD (X:Cx) (D:Addr):Prop where
 lo:D≠X.env.locals
 ce:∀x c,X.env.cells.lookup x=some c→c≠D
 pn:∀p∈X.pn,p.1≠D
 ex:D∈X.ex
 fs:D∉X.fs
section
variable {X:Cx} {D:Addr} {its its':List Value} {k k':Nat} {rest:List (Addr×Obj)} {σ:L2.St} {H:Hp} {s:Shared} {h':Heap}
def EM (X:Cx) (D:Addr) (em:Sem Unit) (te:L2.St→Hp→List V→(List V→Hp→Prop)→Prop):Prop:=
 ∀(rest:List (Addr×Obj)) (its:List Value) (k:Nat) (acc:List V) (σ:L2.St) (H:Hp) (s:Shared) (Q:List V→Hp→Prop),Inv X ((D,MU its k)::rest) σ H s→(∀p∈rest,p.1≠D)→Vals acc its→te σ H acc Q→
  wpAny (model X.prog X.w) X.A em (fun _ s'=>∃its' k' acc' H',Inv X ((D,MU its' k')::rest) σ H' s'∧Vals acc' its'∧Q acc' H') (fun _ _=>False) s
def ZfE (te:TE):L2.St→Hp→List V→(List V→Hp→Prop)→Prop:=fun σ H acc Q=>acc.length<sizeLine∧te σ H fun y H'=>Q (acc++[y]) H'
def ZfF (wi:TI) (g:TG) (tc:TT) (te:L2.St→Hp→List V→(List V→Hp→Prop)→Prop):L2.St→Hp→List V→(List V→Hp→Prop)→Prop:=fun σ H acc Q=>wi σ H fun J H1=>∃W:Nat→Nat→List V→Hp→Prop,(∃n,W 0 n acc H1)∧∀i n acc H,W i n acc H→
 (J.stop i H∧Q acc H)∨
 (J.go i H∧∀x H',J.yld i H x H'→g x σ H' fun σ2 H2=>Sub σ σ2∧tc σ2 H2 fun b H3=>if b=true then te σ2 H3 acc fun acc' H4=>∃n',n' < n∧W (i+1) n' acc' H4 else ∃n',n' < n∧W (i+1) n' acc H3)
inductive CL2 (X:Cx) (D:Addr) (rest:List (Addr×Obj)) (σ:L2.St) (W:Nat→Nat→List V→Hp→Prop) (tn:Nat→Heap→Prop) (fp:List Addr) (n:Nat) (s':Shared):Prop where
 |mk (i:Nat) (acc:List V) (H':Hp) (its:List Value) (k:Nat) (w:W i n acc H') (ii:Inv X ((D,MU its k)::rest) σ H' s') (st:tn i s'.heap) (fr:∀b∈fp,H' b=none) (rv:Vals acc its):CL2 X D rest σ W tn fp n s'
end
def ZfG (cs:List (Option Nat)) (wi:TI) (g:TG) (tc:TT) (te:L2.St→Hp→List V→(List V→Hp→Prop)→Prop):TE:=fun σ H Q=>wi σ H fun J H1=>∃W:Nat→Nat→List V→Hp→Prop,(∃n,W 0 n [] H1)∧∀i n acc H,W i n acc H→
 (J.stop i H∧acc.length≤sizeLine∧∀p,H p=none→Q (.ref p) (Ao H p (.lst acc)))∨
 (J.go i H∧∀x H',J.yld i H x H'→g x (BB cs σ) H' fun σ2 H2=>Sub (BB cs σ) σ2∧tc σ2 H2 fun b H3=>if b=true then te σ2 H3 acc fun acc' H4=>∃n',n' < n∧W (i+1) n' acc' H4 else ∃n',n' < n∧W (i+1) n' acc H3)
section
variable {X:Cx} {elt tg iter:Expr} {ifs:List Expr} {gs:List Comprehension} {scope:Scope} {pos:Pos} {Nc:List Str} {cs:List (Option Nat)} {wi:TI} {g:TG} {tc:TT} {te:L2.St→Hp→List V→(List V→Hp→Prop)→Prop}
end
abbrev Dy:=Ah→HD→List D→Out (List D)
abbrev Qk:=L2.St→Hp→List V→(List V→Hp→Prop)→Prop
def Frs (js:List Nat) (σ:L2.St):Prop:=∀j∈js,σ[j]?=some none
def ZfH (K:PySem.W.Frag) (is js:List Nat) (gg:TG) (sg:MG):Prop:=
 ∀m H d v ρ σ ρ' Q,DV K m H d v→ER K m H ρ σ→Frs (is++js) σ→sg d ρ=some ρ'→(∀σ',Sub σ σ'→Frs js σ'→ER K m H ρ' σ'→Q σ' H)→gg v σ H Q
theorem Frs.set {js:List Nat} {σ:L2.St} {i:Nat} {v:Option V} (h:Frs js σ) (n:i∉js):Frs js (σ.set i v):=fun j hj=>by
 have hn:i≠j:=by
  rintro rfl
  exact n hj
 rw [Bp hn]
 exact h j hj
noncomputable def ZfI (f:ME):Dy:=fun ρ h acc=>if acc.length<sizeLine then (noErr (f ρ h)).bind fun y h2=>.ok (acc++[y]) h2 else .stuck
open Classical in
noncomputable def Iz (src:A1) (items:List D) (sg:MG) (t:MT) (e:Dy) (ρ:Ah):List D→HD→List D→Out (List D)
 |[],h,acc=>if BM src items h then .ok acc h else .stuck
 |d::ds,h,acc=>if BM src items h then match sg d ρ with
   |none=>.stuck
   |some ρ1=>(noErr (t ρ1 h)).bind fun b h1=>if b=true then (noErr (e ρ1 h1 acc)).bind fun acc2 h2=>Iz src items sg t e ρ ds h2 acc2 else Iz src items sg t e ρ ds h1 acc
  else .stuck
noncomputable def ZfJ (it:MI) (sg:MG) (t:MT) (e:Dy):Dy:=fun ρ h acc=>(noErr (it ρ h)).bind fun x h1=>Iz x.2 x.1 sg t e ρ x.1 h1 acc
noncomputable def Kv (cs:List (Option Nat)) (it:MI) (sg:MG) (t:MT) (e:Dy):ME:=fun ρ h=>(it ρ h).bind fun x h1=>(Iz x.2 x.1 sg t e (Cs cs ρ) x.1 h1 []).bind Cq
def tEm (K:PySem.W.Frag) (js:List Nat) (e:Dy):Qk:=fun σ H acc Q=>∃m ρ h dacc,HR K m h H∧ER K m H ρ σ∧DVs K m H dacc acc∧Frs js σ∧Post K (DK K) m H E0 Q (e ρ h dacc)
theorem EM.imp {X:Cx} {D:Addr} {em:Sem Unit} {te te':Qk} (h:EM X D em te) (f:∀σ H acc Q,te' σ H acc Q→te σ H acc Q):EM X D em te':=
 fun rest its k acc σ H s Q I hr rv z=>h rest its k acc σ H s Q I hr rv (f _ _ _ _ z)
inductive EmI {β:Type} (K:PySem.W.Frag) (E:XK) (α:Type) (R:List Addr→Hp→α→β→Prop) (Q:β→Hp→Prop) (kk:List D→HD→Out α) (src:A1) (items:List D) (sg:MG) (t:MT) (e:Dy) (ρ:Ah) (m1:List Addr) (H1:Hp) (i n:Nat) (acc:List V) (H2:Hp):Prop where
 |mk (en:n=items.length - i) (l:i≤items.length) (m2:List Addr) (h2:HD) (dacc:List D) (p:m1 <+:m2) (k:Kp H1 H2) (hr:HR K m2 h2 H2) (da:DVs K m2 H2 dacc acc) (q:Post K R m2 H2 E Q ((Iz src items sg t e ρ (items.drop i) h2 dacc).bind kk)):EmI K E α R Q kk src items sg t e ρ m1 H1 i n acc H2
section
variable {X:Cx} {E:XK} {D:Addr} {elt tg iter:Expr} {ifs:List Expr} {gs gens:List Comprehension} {scope:Scope} {pos:Pos} {Nc:List Str} {cs:List (Option Nat)} {it:MI} {gg:TG} {sg:MG} {t:MT} {f:ME} {e:Dy} {d:Nat} {is js:List Nat}
end
section
variable {α β:Type} {cs:List (Option Nat)} {it:MI} {sg:MG} {t:MT} {f:ME} {e:Dy} {ρ:Ah} {h:HD} {src:A1} {xs:List α} {φ:α→D} {acc:List D}
noncomputable def Zao (cs:List (Option Nat)) (it:MI) (sg:MG) (t:MT) (e:Dy):ME:=Ae (Aw Ds) (Ab (Kv cs it sg t e) Ac)
noncomputable def Zap (cs:List (Option Nat)) (it:MI) (sg:MG) (t:MT) (e:Dy):ME:=Ae (Aw Du) (Ab (Kv cs it sg t e) Ac)
@[simp] theorem ZfK:Ae (Aw Ds) (Ab (Kv cs it sg t e) Ac) ρ h=Zao cs it sg t e ρ h:=rfl
@[simp] theorem ZfL:Ae (Aw Du) (Ab (Kv cs it sg t e) Ac) ρ h=Zap cs it sg t e ρ h:=rfl
end
end LS
namespace LS
open PySem
inductive TlN (h:Heap) (ns:List Str) (bB:List Value):List Value→Prop
 |base:TlN h ns bB bB
 |own {a:Addr} {c0:Value} {dd:Option Addr} {cd:ClassData} {sl:Array (Option Value)} {m:Str→Option Value} {tl:List Value} (ha:h.get? a=some {cls:=c0,dict:=dd,data:=.cls cd,slots:=sl}) (hm:h.Ns cd.ns m) (no:∀n∈ns,m n=none) (r:TlN h ns bB tl):TlN h ns bB (.ref a::tl)
theorem TlN.keeps {h h':Heap} {ns:List Str} {bB tl:List Value} (T:TlN h ns bB tl) (k:∀b o,h.get? b=some o→h'.get? b=some o):TlN h' ns bB tl:=by
 induction T with
 |base=>exact .base
 |own ha hm no _ ih=>exact .own (k _ _ ha) (hm.keeps k) no ih
theorem TlN.has {h:Heap} {ns:List Str} {bB tl:List Value} {v:Value} (T:TlN h ns bB tl) (hv:bB.contains v=true):tl.contains v=true:=by
 induction T with
 |base=>exact hv
 |own ha hm no _ ih=>rw [List.contains_cons,ih,Bool.or_true]
section
variable {M:Model} {A:Around} {E:Value→Shared→Prop} {h:Heap} {g:Array GenState} {d:Drawn} {t:Nat} {os:OsState}
theorem TlN.look {ns:List Str} {bB tl:List Value} {n:Str} {y:Option Value} {Q:Option Value→Shared→Prop} (T:TlN h ns bB tl) (hn:n∈ns) (e:lookupAlong bB n=pure y) (q:Q y ⟨h,g,d,t,os⟩):wpAny M A (lookupAlong tl n) Q E ⟨h,g,d,t,os⟩:=by
 induction T with
 |base=>rw [e];exact wpAny_pure q
 |own ha hm no _ ih=>
  rw [lookupAlong_cons];refine wpAny_bind (wpAny_classOwn_cls ha hm ?_);rw [no n hn]
  exact ih
variable {nm q:Str} {C N x:Addr} {bs bm bB:List Value} {hd:Bool} {sn:List Str} {sub:List Value} {ab:Bool} {col:Option Bool} {dd:Option Addr} {k0 k1 k2 k3 k5:Option Value} {B newId sa owner:String} {ns:List Str} {mN mA:Str→Option Value} {name:Str} {v:Value}
end
section
variable {prog:Program} {w:World} {A:Around} {E:Value→Shared→Prop} {h:Heap} {g:Array GenState} {d:Drawn} {t:Nat} {os:OsState}
variable {nm q:Str} {C N x:Addr} {bs bm bB:List Value} {sn:List Str} {sub:List Value} {ab:Bool} {col:Option Bool} {dd:Option Addr} {k0 k1 k2 k3 k5:Option Value} {B newId sa owner:String} {ns:List Str} {mN mA:Str→Option Value} {name:Str} {v:Value}
structure ZfM (h h':Heap) (x C:Addr) (name:Str) (v:Value) (mA:Str→Option Value):Prop where
 inst:h'.Inst x C (fun y=>if y=name then some v else mA y)
 keep:∀b o,b≠x→(∀o0 dx,h.get? x=some o0→o0.dict=some dx→b≠dx)→h.get? b=some o→h'.get? b=some o
 new:∀o0,h.get? x=some o0→o0.dict=none→∃o1,h'.get? x=some o1∧o1.dict=some h.objs.size
 same:∀o0,h.get? x=some o0→∃o1,h'.get? x=some o1∧o1.cls=o0.cls∧o1.data=o0.data∧o1.slots=o0.slots∧∀dx,o0.dict=some dx→o1.dict=some dx
end
section
variable {prog:Program} {w:World} {A:Around} {E:Value→Shared→Prop} {h:Heap} {g:Array GenState} {d:Drawn} {t:Nat} {os:OsState}
variable {nm q:Str} {C N x:Addr} {bs bm bB:List Value} {sn:List Str} {sub:List Value} {ab:Bool} {col:Option Bool} {dd:Option Addr} {k0 k1 k2 k3 k5:Option Value} {B newId:String} {ns:List Str} {mN mA:Str→Option Value} {name:Str} {v:Value}
end
end LS
namespace LS
open PySem PySem.Spec PyProof.Rows L2
def tmNames:List Str:=["__init__","__setattr__","__getattribute__","__getattr__","many","most"]
def Ql (K:PySem.W.Frag) (ns:List Str) (bB:List Value):List Value→Bool
 |[]=>bB==[]
 |v::r=>(v::r)==bB||match v with
  |.ref a=>(match K.lookup a with
   |some o=>(match clsOf o.data with
    |some cd=>PySem.W.nsOkIn K cd.ns&&(ns.all (fun n=>PySem.W.nsIn K cd.ns n==some none)&&Ql K ns bB r)
    |none=>false)
   |none=>false)
  |_=>false
theorem TlN.tail {h:Heap} {ns:List Str} {bB tl:List Value} (T:TlN h ns bB tl) (hi:("__init__":Str)∈ns):OwnTail h bB tl:=by
 induction T with
 |base=>exact .base
 |own ha hm no _ ih=>exact .own ha hm (no _ hi) ih
inductive Zaq (h:Heap) (C fI:Addr):Prop where
 |mk (bm:List Value) (N:Addr) (nm q:Str) (bs:List Value) (sn:List Str) (sub:List Value) (ab:Bool) (col:Option Bool) (dd:Option Addr) (k0 k1 k2 k3 k5:Option Value) (mN:Str→Option Value)
  (hC:h.get? C=some (excClassObj nm q C N bs bm true sn sub ab col dd k0 k1 k2 k3 k5 "ValueError.__new__")) (hN:h.Ns N mN) (hi:mN "__init__"=some (.ref fI)) (no:∀n∈tmNames.tail,mN n=none) (T:TlN h tmNames Io bm):Zaq h C fI
def tmY (K:PySem.W.Frag) (C fI:Addr) (o:Obj) (cd:ClassData):Bool:=
 decide (o.cls=.type "type")&&(decide (cd.mro=.ref C::cd.mro.tail)&&(!cd.hasDel&&(Ql K tmNames Io cd.mro.tail&&(PySem.W.nsOkIn K cd.ns&&(PySem.W.nsIn K cd.ns "__init__"==some (some (.ref fI))&&(tmNames.tail.all (fun n=>PySem.W.nsIn K cd.ns n==some none)&&(decide (o.slots.toList.length=6)&&(decide (o.slots.toList[4]?=some (some (.builtin "ValueError.__new__")))&&cd.hasDict))))))))
def tmX (K:PySem.W.Frag) (C fI:Addr):Bool:=match K.lookup C with
 |some o=>(match clsOf o.data with
  |some cd=>tmY K C fI o cd
  |none=>false)
 |none=>false
def exO (C t0:Addr) (da:Option Addr):Obj:={cls:=.ref C,dict:=da,data:=.fields #[.ref t0,.none,.none,.none,.bool false,.none]}
def Kw (C e:Addr) (da:Option Addr) (h:Heap):Prop:=∃t0,h.get? e=some (exO C t0 da)
def ZfN (d:Addr) (m:Str→Option Value) (h:Heap):Prop:=h.Ns1 d m
def one (n:Str) (u:Value):Str→Option Value:=fun y=>if y=n then some u else none
section
variable {X:Cx} {pins:List (Addr×Obj)} {σ:L2.St} {H:Hp} {s:Shared} {E:Value→Shared→Prop} {A:Around} {C fI e da:Addr} {n:Str} {u:Value}
def del (H:Hp) (a:Addr):Hp:=fun b=>if b=a then none else H b
theorem Qm {H:Hp} {a b:Addr} (h:b≠a):del H a b=H b:=by unfold del;rw [if_neg h]
theorem Kp.del {H:Hp} {a:Addr} {φ:Heap→Prop} (h:H a=some (.mex φ)):Kp H (LS.del H a):=fun b o e i=>by
 rw [Qm]
 ·exact e
 ·intro z
  rw [z,h] at e;cases e;cases i
theorem HR.del {K:PySem.W.Frag} {m:List Addr} {h:HD} {H:Hp} {a:Addr} {φ:Heap→Prop} (r:HR K m h H) (e:H a=some (.mex φ)):HR K m h (LS.del H a):=r.same (.del e) fun b hb=>Qm fun z=>by
 subst z
 obtain ⟨l,hl,el⟩:=HB hb
 have hl':l<h.length:=by rw [←r.len];exact hl
 have c:=r.cells l h[l] m[l] (AQ hl') (AQ hl)
 rw [el] at c
 cases hc:h[l] with
 |lst ds=>rw [hc] at c;obtain ⟨vs,q,_⟩:=c;rw [e] at q;cases q
 |tab=>rw [hc] at c;obtain ⟨_,ps,q,_⟩:=c;rw [e] at q;cases q
 |dic fz kvs=>
  rw [hc] at c
  obtain ⟨es,q,_⟩:=c
  cases fz with
  |true=>obtain ⟨o,q⟩:=q;rw [e] at q;cases q
  |false=>exact absurd (e.symm.trans q) (by intro z;cases z)
end
end LS
namespace LS
open PySem PySem.Spec PyProof.Rows L2 PySem.Calls PySem.W
def swX (K:PySem.W.Frag) (S:Addr):Bool:=PySem.W.readsIn K S (.type "type")&&(match PySem.W.findCls K (.ref S) (.type "type") "__init__" with
 |some (.val (.builtin b))=>b=="ValueError.__init__"
 |_=>false)
def ZfO (H₀:Hp) (C:Addr) (ta:TA):TE:=fun σ H Q=>∃e,H₀ e≠none∧H e=some (.mex (Kw C e none))∧ta σ (del H e) fun vs H1=>∃x,vs=[.ref e,.str x]∧(H1 e=none→Q .non (Ao H1 e (.mex (Kw C e none))))
section
variable {X:Cx} {C fI S:Addr} {ta:TA} {a1 a2:Expr} {p1 p2 p5:Pos}
end
end LS
namespace LS
open PySem PySem.Spec PyProof.Rows L2 PySem.Calls
section
variable {X:Cx} {C fI S:Addr}
end
noncomputable abbrev Qn:ME:=MD (P8 (Aa 1) (ZT " are more than " (P8 (Aa 2) ZS)))
inductive Qo (K:PySem.W.Frag) (C:Addr) (vs:List V) (H:Hp) (Q:VK) (E:XK):Prop
 |mk (e:Addr) (a b:Int) (m:List Addr) (h h2:HD) (x:Str) (ev:vs=[.ref e,.int a,.int b]) (hr:HR K m h H) (hH:H e=some (.mex (Kw C e none))) (hj:Qn [none,some (.int a),some (.int b)] h=.ok (.str x) h2)
  (q:∀m1 H1 da,m <+:m1→Kp (del H e) H1→HR K m1 h2 H1→H1 e=none→H1 da=none→da≠e→Q .non (Ao (Ao H1 e (.mex (Kw C e (some da)))) da (.xd [("many",.int a),("most",.int b)]))):Qo K C vs H Q E
section
variable {P:Program} {w:World} {K:PySem.W.Frag} {mg:Str→Option Value} {base:Heap} {C f S:Addr} {k:Nat} {qual:Str} {scope:Scope} {p1 p2 p3 p4 p5 p6 q1 q2 q3 q4 r1 r2 r3 r4:Pos} {js:Expr}
abbrev ZfP (js:Expr) (p1 p2 p3 p5 p6 q1 q2 q3 q4 r1 r2 r3 r4:Pos):List Stmt:=[.Expr (.Call (.Attribute (.Name "SwitchError" p1) "__init__" p2) [.Name "self" p3,js] [] p5) p6,.Assign [.Attribute (.Name "self" q1) "many" q2] (.Name "many" q3) q4,.Assign [.Attribute (.Name "self" r1) "most" r2] (.Name "most" r3) r4]
end
noncomputable def ZfQ (fa:MA):MS:=fun ρ h=>(fa ρ h).bind fun xs h1=>match xs with
 |[.int a,.int b]=>(match Qn [none,some (.int a),some (.int b)] h1 with
  |.ok (.str _) h2=>.err (Eg "TooMany") [("many",.int a),("most",.int b)] h2
  |_=>.stuck)
 |_=>.stuck
section
variable {X:Cx} {E:XK} {C fI:Addr} {fd:FuncData} {k:Nat}
end
def Zar (nm:Str):D→HD→Out D
 |.exc n fs,h=>if n="TooMany" then (match fs.lookup nm with
  |some i=>.ok (.int i) h
  |none=>.stuck) else .stuck
 |_,_=>.stuck
noncomputable def ZfR (f:ME) (nm:Str):ME:=fun ρ h=>(f ρ h).bind fun d h1=>Zar nm d h1
section
variable {X:Cx} {E:XK} {C fI:Addr}
end
end LS
namespace Tp
open PySem PySem.W PySem.Spec PySem.Calls PyProof.Rows
section
variable {α β:Type}
noncomputable def fN (n:Nat) (k:Nat→α):α:=@Nat.rec (fun _=>α) (k 0) (fun m _=>k (Nat.succ m)) n
theorem Kx (n:Nat) (k:Nat→α):fN n k=k n:=by cases n<;>rfl
noncomputable def fL (l:List β):(List β→α)→α:=@List.rec β (fun _=>(List β→α)→α) (fun k=>k []) (fun a _ ih k=>ih fun l'=>k (a::l')) l
theorem IA:∀(l:List β) (k:List β→α),fL l k=k l
 |[],_=>rfl
 |a::l,k=>IA l fun l'=>k (a::l')
noncomputable def fE (l:List DictEntry):(List DictEntry→α)→α:=@List.rec DictEntry (fun _=>(List DictEntry→α)→α) (fun k=>k []) (fun a _ ih k=>ih fun l'=>@DictEntry.rec (fun _=>α) (fun x y z=>k (⟨x,y,z⟩::l')) a) l
theorem Qp:∀(l:List DictEntry) (k:List DictEntry→α),fE l k=k l
 |[],_=>rfl
 |⟨_,_,_⟩::l,k=>Qp l fun l'=>k (_::l')
noncomputable def fD (d:Data) (k:Data→α):α:=@Data.rec (fun _=>α) (k .plain) (fun v=>k (.prim v)) (fun x n=>@Array.rec Value (fun _=>α) (fun l=>fL l fun l=>fN n fun n=>k (.seq ⟨l⟩ n)) x)
 (fun x n=>@Array.rec DictEntry (fun _=>α) (fun l=>fE l fun l=>fN n fun n=>k (.dict ⟨l⟩ n)) x) (fun x n t=>k (.set x n t)) (fun b n=>k (.bytearray b n)) (fun v=>k (.cell v)) (fun f=>k (.func f)) (fun c=>k (.cls c))
 (fun x=>@Array.rec Value (fun _=>α) (fun l=>fL l fun l=>k (.fields ⟨l⟩)) x) (k .freed) d
theorem Zas (d:Data) (k:Data→α):fD d k=k d:=by
 cases d with
 |seq x n=>cases x;simp only [fD,IA,Kx]
 |dict x n=>cases x;simp only [fD,Qp,Kx]
 |fields x=>cases x;simp only [fD,IA]
 |_=>rfl
noncomputable def fO (o:Obj) (k:Obj→α):α:=@Obj.rec (fun _=>α) (fun c d da sl=>fD da fun da=>k ⟨c,d,da,sl⟩) o
theorem Qq (o:Obj) (k:Obj→α):fO o k=k o:=by cases o;simp only [fO,Zas]
noncomputable def fT (t:BT):(BT→α)→α:=@BT.rec (fun _=>(BT→α)→α) (fun k=>k .nil) (fun v _ _ il ir k=>fO v fun v=>il fun l=>ir fun r=>k (.node v l r)) t
theorem MV:∀(t:BT) (k:BT→α),fT t k=k t
 |.nil,_=>rfl
 |.node v l r,k=>by
  show fO v (fun v=>fT l fun l=>fT r fun r=>k (.node v l r))=_
  rw [Qq,MV l,MV r]
noncomputable def fS (s:SharedT) (k:SharedT→α):α:=@SharedT.rec (fun _=>α) (fun t n li g d tk os=>fT t fun t=>fN n fun n=>fN tk fun tk=>@Drawn.rec (fun _=>α) (fun a b c e=>@Array.rec GenState (fun _=>α) (fun g=>fL g fun g=>k ⟨t,n,li,⟨g⟩,⟨a,b,c,e⟩,tk,os⟩) g) d) s
theorem MW (s:SharedT) (k:SharedT→α):fS s k=k s:=by
 obtain ⟨t,n,li,⟨g⟩,⟨a,b,c,e⟩,tk,os⟩:=s
 simp only [fS,MV,Kx,IA]
noncomputable def fP (p:Pos) (k:Pos→α):α:=@Pos.rec (fun _=>α) (fun a b c d=>fN a fun a=>fN b fun b=>fN c fun c=>fN d fun d=>k ⟨a,b,c,d⟩) p
theorem MX (p:Pos) (k:Pos→α):fP p k=k p:=by cases p;simp only [fP,Kx]
end
section
variable (stp:SharedT→Thread→Option (SharedT×Thread)) (ok:Thread→Bool) (seg:Nat→SharedT→Thread→Option (Flow×SharedT×Code×Pos))
noncomputable def Hd (env:Env) (c:Code) (f:Nat):List (List Stmt)→SharedT→Pos→List Code→Option (SharedT×Pos×List Code)
 |[],s,pos,cs=>some (s,pos,cs)
 |l::ls,s,pos,cs=>match seg f s (piecesOf l env c pos [topFrame ⟨0,0,0,0⟩]) with
  |some (.next,s',c',pos')=>fS s' fun s'=>fP pos' fun pos'=>Hd env c f ls s' pos' (c'::cs)
  |_=>none
def Ky:Nat→SharedT→Thread→Option (SharedT×Thread)
 |0,s,t=>some (s,t)
 |n+1,s,t=>match through t with
  |true=>none
  |false=>match ok t with
   |false=>none
   |true=>match stp s t with
    |some (s',t')=>Ky n s' t'
    |none=>none
def Kz:Nat→SharedT→Thread→Option SharedT
 |0,_,_=>none
 |n+1,s,t=>match through t with
  |true=>some s
  |false=>match ok t with
   |false=>none
   |true=>match stp s t with
    |some (s',t')=>Kz n s' t'
    |none=>none
def cut:Nat→List Stmt→List (List Stmt)
 |0,l=>[l]
 |n+1,l=>match l with
  |[]=>[]
  |x::l=>[x]::cut n l
theorem Qr:∀(n:Nat) (l:List Stmt),(cut n l).flatten=l
 |0,l=>by simp [cut]
 |_+1,[]=>rfl
 |n+1,x::l=>by simp [cut,Qr n l]
theorem Qs:∀(n:Nat) (l:List Stmt),(cut n l).length≤n+1
 |0,l=>Ax _
 |_+1,[]=>Bu _
 |n+1,x::l=>Jn (Qs n l)
def MY (p:Program):Env:={scope:=p.main.scope,locals:=mainNs,globals:=mainNs,cells:=[],code:=.ref 13,frame:=some 14}
def Gs (p:Program):Code:=.body (behindTheImports p) (MY p)
noncomputable def En (p:Program) (S0:SharedT):Option (Thread×List Code×SharedT):=match Ky stp ok 12 S0 (topStub p) with
 |some (sa,ta)=>match seg 1 sa (blockOf (behindTheImports p) (MY p) (Gs p) ⟨0,0,0,0⟩ [topFrame ⟨0,0,0,0⟩]) with
  |some (.next,sb,cb,pb)=>fS sb fun sb=>fP pb fun pb=>match Hd seg (MY p) (Gs p) 2000 (cut 400 (behindTheImports p)) sb pb [cb] with
   |some (sf,pf,cs)=>match Kz stp ok 2 sf ⟨doneF .next,Gs p,pf,[topFrame ⟨0,0,0,0⟩]⟩ with
    |some sg=>some (ta,cs,sg)
    |none=>none
   |none=>none
  |_=>none
 |none=>none
end
noncomputable def Qt (P:Params) (os:OsState):SharedT:=⟨((boot_heap P).objs.toList.foldl (fun (x:BT×Nat) o=>(x.1.ins x.2 o,x.2+1)) (.nil,0)).1,11,(boot_heap P).life,⟨[]⟩,boot_drawn,boot_toks,os⟩
theorem Zat (P:Params) (os:OsState):(Qt P os).abs=⟨boot_heap P,⟨[]⟩,boot_drawn,boot_toks,os⟩:=by kernel_rfl
section
variable {α:Type}
noncomputable def MZ (l:List Obj):(List Obj→α)→α:=@List.rec Obj (fun _=>(List Obj→α)→α) (fun k=>k []) (fun a _ ih k=>fO a fun a=>ih fun l'=>k (a::l')) l
theorem Qu:∀(l:List Obj) (k:List Obj→α),MZ l k=k l
 |[],_=>rfl
 |a::l,k=>by show fO a (fun a=>MZ l fun l'=>k (a::l'))=_;rw [Qq,Qu]
noncomputable def fin (s:SharedT) (k:Shared→α):α:=MZ (s.tree.list s.n) fun l=>k ⟨⟨⟨l⟩,s.life⟩,s.gens,s.drawn,s.toks,s.os⟩
theorem Zau (s:SharedT) (k:Shared→α):fin s k=k s.abs:=Qu _ _
end
section
variable {tb:String→Option Builtin} {p:Program} {w:World} {m0:Nat} {ann:Option Value}
theorem Qv:∀{n:Nat} {s s':SharedT} {t t':Thread},Ky (stepT (denote tb) p w) (stepOk m0 ann) n s t=some (s',t')→topGo tb p w m0 ann n s.abs t=some (s'.abs,t')
 |0,_,_,_,_,h=>by cases h;rfl
 |n+1,s,s',t,t',h=>by
  unfold Ky at h
  unfold topGo
  cases he:through t with
  |true=>rw [he] at h;cases h
  |false=>
   rw [he] at h
   cases hk:stepOk m0 ann t with
   |false=>rw [hk] at h;cases h
   |true=>
    rw [hk] at h
    cases hs:stepT (denote tb) p w s t with
    |none=>rw [hs] at h;cases h
    |some r=>obtain ⟨s₂,t₂⟩:=r;rw [hs] at h;rw [stepT_spec hs];exact Qv h
theorem Qw:∀{n:Nat} {s s':SharedT} {t:Thread},Kz (stepT (denote tb) p w) (stepOk m0 ann) n s t=some s'→topRun tb p w m0 ann n s.abs t=some s'.abs
 |0,_,_,_,h=>by cases h
 |n+1,s,s',t,h=>by
  unfold Kz at h
  unfold topRun
  cases he:through t with
  |true=>rw [he] at h;cases h;rfl
  |false=>
   rw [he] at h
   cases hk:stepOk m0 ann t with
   |false=>rw [hk] at h;cases h
   |true=>
    rw [hk] at h
    cases hs:stepT (denote tb) p w s t with
    |none=>rw [hs] at h;cases h
    |some r=>obtain ⟨s₂,t₂⟩:=r;rw [hs] at h;rw [stepT_spec hs];exact Qw h
theorem M0 {seg:Nat→SharedT→Thread→Option (Flow×SharedT×Code×Pos)} {env:Env} {c:Code} {f:Nat}:∀{ls:List (List Stmt)} {s sf:SharedT} {pos pf:Pos} {c0 cs:List Code},Hd seg env c f ls s pos c0=some (sf,pf,cs)→∀x∈c0,x∈cs
 |[],_,_,_,_,_,_,h,x,hx=>by cases h;exact hx
 |l::ls,s,sf,pos,pf,c0,cs,h,x,hx=>by
  unfold Hd at h
  split at h
  ·rw [MW,MX] at h;exact M0 h x (.tail _ hx)
  ·cases h
theorem Qx {env:Env} {c:Code} {f:Nat}:∀{ls:List (List Stmt)} {s sf:SharedT} {pos pf:Pos} {c0 cs:List Code},Hd (segRunT tb p w m0 ann 1) env c f ls s pos c0=some (sf,pf,cs)→(∀x∈cs,x=c)→∀{N:Nat} {r:Shared},
 topRun tb p w m0 ann N sf.abs ⟨doneF .next,c,pf,[topFrame ⟨0,0,0,0⟩]⟩=some r→topRun tb p w m0 ann (ls.length*f+N) s.abs (restOf ls.flatten env c pos [topFrame ⟨0,0,0,0⟩])=some r
 |[],s,sf,pos,pf,c0,cs,h,hc,N,r,k=>by
  cases h
  rw [Fg,Nat.zero_mul,Nat.zero_add]
  exact piece_nil k
 |l::ls,s,sf,pos,pf,c0,cs,h,hc,N,r,k=>by
  unfold Hd at h
  split at h
  ·rename_i s' c' pos' e
   rw [MW,MX] at h
   have e1:=segRun_of e
   rw [hc c' (M0 h c' (.head _))] at e1
   have:=piece_app (rest:=ls.flatten) e1 (Qx h hc k)
   rw [DF,Nat.succ_mul,Nat.add_comm (ls.length*f) f,Nat.add_assoc]
   exact this
  ·cases h
end
noncomputable def Zav {α:Type} (OS:Program→List Str→List Str→(Shared→Bool)→Bool→Shared→_) (IM:List Stmt→List Str) (p q:Program) (loose:List Str) (Yf:Shared→α) (H₀:Heap) (s:Shared):=
 ((staticsOk (IM p.main.body) H₀ s.heap&&namesBound p s.heap&&gensDone s&&laidKept H₀ s.heap),(OS q loose (IM p.main.body) (fun _=>true) true s:type_of% (openSeen q loose [] (fun _=>true) true s)),Yf s)
theorem left_of {p q:Program} {loose:List Str} {α:Type} {Yf:Shared→α} {Ya:World→α} {n:Nat} (e:opening p=plainProg p.main.scope.names) (fm:∀s,fenceModules? p s=some s)
 (size:∀w:World,((boot_heap w.params).isNs mainGlobals&&(Array.mk ([]:List GenState)).size==0,(boot_heap w.params).objs.size,(boot_heap w.params).nsMap mainGlobals "__annotations__")=(true,11,some (.ref 6)))
 (h:∀(w:World) (os:OsState),(En (stepT (denote treeTable) p w) (stepOk 11 (some (.ref 6))) (segRunT treeTable p w 11 (some (.ref 6)) 1) p (Qt w.params os)).map (fun r=>(r.1,r.2.1,fin r.2.2 (Zav openSeen importedModules p q loose Yf (boot_heap w.params))))=
  some (⟨denote treeTable (Gs p),Gs p,⟨0,0,0,0⟩,[topFrame ⟨0,0,0,0⟩]⟩,List.replicate n (Gs p),(true,openGood q loose,Ya w))):
 LeftO p q loose (fun _=>true) Yf Ya 1000000:=fun w=>by
 obtain ⟨⟨hp,gs,d,k,os⟩,e0,e'⟩:=qaT.mp (boot_open (N:=1000000) e rfl fm w)
 obtain ⟨rfl,rfl,rfl,rfl⟩:hp=boot_heap w.params∧gs=Array.mk []∧d=boot_drawn∧k=boot_toks:=by simpa using e'
 obtain ⟨z1,z2,z3⟩:_∧_∧_:=by simpa only [Prod.mk.injEq] using size w
 obtain ⟨⟨ta,cs,sg⟩,h1,h2⟩:=qaT.mp (h w os)
 dsimp only at h2
 rw [Zau] at h2
 obtain ⟨h3,h4⟩:=Prod.mk.inj h2
 obtain ⟨h5,h6⟩:=Prod.mk.inj h4
 obtain ⟨l1,h7⟩:=Prod.mk.inj h6
 obtain ⟨l2,l3⟩:=Prod.mk.inj h7
 have hcs:∀x∈cs,x=Gs p:=fun x hx=>by rw [h5] at hx;exact List.eq_of_mem_replicate hx
 have run:topRun treeTable p w 11 (some (.ref 6)) 1000000 ⟨boot_heap w.params,Array.mk [],boot_drawn,boot_toks,os⟩ (topStub p)=some sg.abs:=by
  rw [←Zat]
  unfold En at h1
  split at h1
  ·rename_i sa ta' ea
   split at h1
   ·rename_i sb cb pb eb
    rw [MW,MX] at h1
    split at h1
    ·rename_i sf pf cs' ec
     split at h1
     ·rename_i sg' eg
      cases h1
      have hb:=segRun_of eb
      rw [hcs cb (M0 ec cb (.head _))] at hb
      have c1:=Qx ec hcs (Qw eg)
      rw [Qr] at c1
      have c2:=piece_block hb c1
      have c3:=Qv ea
      rw [h3] at c3
      have c4:=go_top c3 c2
      have hl:=Qs 400 (behindTheImports p)
      have:=topRun_mono (1000000 - (12+(1+((cut 400 (behindTheImports p)).length*2000+2)))) _ _ _ _ c4
      rwa [show 12+(1+((cut 400 (behindTheImports p)).length*2000+2))+(1000000 - (12+(1+((cut 400 (behindTheImports p)).length*2000+2))))=1000000 by omega] at this
     ·cases h1
    ·cases h1
   ·cases h1
  ·cases h1
 have t:topFrom treeTable p w 1000000 ⟨boot_heap w.params,Array.mk [],boot_drawn,boot_toks,os⟩=some sg.abs:=by
  unfold topFrom
  dsimp only
  rw [z1,z2,z3,run]
  show (match staticsOk (importedModules p.main.body) (boot_heap w.params) sg.abs.heap&&namesBound p sg.abs.heap&&gensDone sg.abs&&laidKept (boot_heap w.params) sg.abs.heap with |true=>_ |false=>_)=_
  rw [l1]
 unfold openEnds
 rw [e0]
 show (topFrom treeTable p w 1000000 _).map _=_
 rw [t]
 exact congrArg some (Prod.ext l2 l3)
def Qy (h:Heap) (a:Addr):Option (Addr×Obj):=match h.get? a with
 |some o=>(match o.cls,a==mainNs||a==cStatics with
  |.none,false=>none
  |_,_=>some (a,o))
 |none=>none
def KA (h:Heap):Frag:=(List.range h.objs.size).filterMap (Qy h)
theorem lookup_mem {a:Addr} {o:Obj}:∀{l:Frag},l.lookup a=some o→(a,o)∈l
 |[],h=>by cases h
 |(b,o')::l,h=>by
  rw [FU] at h
  split at h
  ·rename_i q
   cases h
   rw [beq_iff_eq.mp q]
   exact .head _
  ·exact .tail _ (lookup_mem h)
theorem Zaw (h:Heap):(KA h).In h:=fun a o e=>by
 obtain ⟨b,_,hb⟩:=List.mem_filterMap.mp (lookup_mem e)
 unfold Qy at hb
 split at hb
 ·rename_i o' e'
  split at hb
  ·cases hb
  ·cases hb;exact e'
 ·cases hb
def blank (fd:FuncData):FuncData:={fd with kwdefaults:=.none,doc:=.none,pyModule:=.none,annotations:=none,code:=.none,closureTuple:=.none}
def IB (K:Frag) (n:Str):Option (FuncData×Bool×Bool):=match nsIn K mainGlobals n with
 |some (some (.ref f))=>(match K.lookup f with
  |some ⟨_,_,.func fd,_⟩=>some (blank fd,codeIn K fd.code n,keepIn K (.ref f))
  |_=>none)
 |_=>none
abbrev KB (n:Str) (st:Stmt):FuncData:=fnOf n n (L2.defArgs st) (L2.defBody st) (L2.defScope st) .none .none .none .none none .none .none
inductive SeenF (K:Frag) (n:Str) (st:Stmt):Prop where
 |mk (f:Addr) (od an:Option Addr) (sl:Array (Option Value)) (oc kV dc pm cd ct:Value) (a:nsIn K mainGlobals n=some (some (.ref f)))
  (l:K.lookup f=some ⟨oc,od,.func (fnOf n n (L2.defArgs st) (L2.defBody st) (L2.defScope st) .none kV dc pm an cd ct),sl⟩) (c:codeIn K cd n=true) (k:keepIn K (.ref f)=true):SeenF K n st
theorem Zax {K:Frag} {n:Str} {st:Stmt} (e:IB K n=some (KB n st,true,true)):SeenF K n st:=by
 unfold IB at e
 split at e
 ·rename_i f hf
  split at e
  ·rename_i oc od fd sl hl
   obtain ⟨e1,e2⟩:=Prod.mk.inj (Option.some.inj e)
   obtain ⟨e3,e4⟩:=Prod.mk.inj e2
   obtain ⟨x1,x2,x3,x4,x5,x6,x7,x8,x9,x10,x11,x12,x13,x14,x15⟩:=fd
   replace e1:FuncData.mk x1 x2 x3 x4 x5 x6 x7 x8 .none .none .none none .none .none x15=KB n st:=e1
   injection e1 with y1 y2 y3 y4 y5 y6 y7 y8 y9 y10 y11 y12 y13 y14 y15
   subst x1 x2 x3 x4 x5 x6 x7 x8 x15
   exact ⟨f,od,x12,sl,oc,x9,x10,x11,x13,x14,hf,hl,e3,e4⟩
  ·cases e
 ·cases e
def IC (K:Frag) (x:Str):Option Int:=match nsIn K mainGlobals x with
 |some (some (.int v _))=>some v
 |_=>none
theorem Zay {K:Frag} {x:Str} {v:Int} (e:IC K x=some v):∃t,nsIn K mainGlobals x=some (some (.int v t)):=by
 unfold IC at e
 split at e
 ·rename_i t h;cases e;exact ⟨t,h⟩
 ·cases e
def M1 (K:Frag) (h:Heap):Option (Option Obj×Bool×Bool):=match LS.tabP K with
 |some (c,T)=>some (h.get? T,codeHdIn K c T,(K.lookup T).isNone)
 |none=>none
structure Want where
 fs:List (Str×Stmt)
 cs:List (Str×Int)
 bs:List Str
abbrev KC:=List (Option (FuncData×Bool×Bool))×List (Option Int)×List (Option (Option Value))×Bool×Option (Option Obj×Bool×Bool)
noncomputable def obsK (W:Want) (s:Shared):KC:=fL (KA s.heap) fun K=>
 (W.fs.map fun x=>IB K x.1,W.cs.map fun x=>IC K x.1,W.bs.map (nsIn K mainGlobals),LS.etOk K,M1 K s.heap)
def valK (W:Want):KC:=(W.fs.map fun x=>some (KB x.1 x.2,true,true),W.cs.map fun x=>some x.2,W.bs.map fun _=>some none,true,some (some (tabObj #[]),true,true))
inductive Has (W:Want) (K:Frag) (c T:Addr):Prop where
 |mk (fs:∀(i:Nat) n st,W.fs[i]?=some (n,st)→SeenF K n st) (cs:∀(i:Nat) n v,W.cs[i]?=some (n,v)→∃t,nsIn K mainGlobals n=some (some (.int v t))) (bs:∀(i:Nat) n,W.bs[i]?=some n→nsIn K mainGlobals n=some none)
  (et:LS.etOk K=true) (tb:LS.tabP K=some (c,T)) (hd:codeHdIn K c T=true) (no:K.lookup T=none):Has W K c T
def Says (W:Want) (_:World) (h:Heap):Prop:=∃(K:Frag) (c T:Addr),K.In h∧Has W K c T∧h.get? T=some (tabObj #[])
theorem Says.keeps {W:Want} (w:World) (h h':Heap) (x:Says W w h) (k:∀b o,h.get? b=some o→h'.get? b=some o):Says W w h':=by
 obtain ⟨K,c,T,h1,h2,h3⟩:=x
 exact ⟨K,c,T,h1.keeps k,h2,k _ _ h3⟩
theorem M3 {α β:Type} {f g:α→β} {l:List α} (e:l.map f=l.map g) {i:Nat} {x:α} (h:l[i]?=some x):f x=g x:=by
 have:=congrArg (·[i]?) e
 simp only [B8,h,Do,Option.some.injEq] at this
 exact this
theorem says_of {W:Want} (w:World) (s:Shared) (e:obsK W s=valK W):Says W w s.heap:=by
 unfold obsK valK at e
 rw [IA] at e
 obtain ⟨e1,e⟩:=Prod.mk.inj e
 obtain ⟨e2,e⟩:=Prod.mk.inj e
 obtain ⟨e3,e⟩:=Prod.mk.inj e
 obtain ⟨e4,e5⟩:=Prod.mk.inj e
 unfold M1 at e5
 split at e5
 ·rename_i c T hT
  obtain ⟨a1,a2⟩:=Prod.mk.inj (Option.some.inj e5)
  obtain ⟨a2,a3⟩:=Prod.mk.inj a2
  exact ⟨_,c,T,Zaw _,⟨fun i n st h=>Zax (M3 e1 h),fun i n v h=>Zay (M3 e2 h),fun i n h=>M3 e3 h,e4,hT,a2,Option.isNone_iff_eq_none.mp a3⟩,a1⟩
 ·cases e5
theorem tab_cd {K:Frag} {c T f:Addr} {oc kV dc pm cd ct:Value} {od an:Option Addr} {sl:Array (Option Value)} {st:Stmt} (h:LS.tabP K=some (c,T)) (a:nsIn K mainGlobals "law"=some (some (.ref f)))
 (l:K.lookup f=some ⟨oc,od,.func (fnOf "law" "law" (L2.defArgs st) (L2.defBody st) (L2.defScope st) .none kV dc pm an cd ct),sl⟩):cd=.ref c:=by
 unfold LS.tabP at h
 rw [a] at h
 dsimp only at h
 rw [l] at h
 dsimp only at h
 split at h
 ·split at h
  ·split at h
   ·cases h;rfl
   ·cases h
  ·cases h
 ·cases h
end Tp
namespace LS
open PySem PySem.W PySem.Spec PySem.Calls PyProof.Rows L2
theorem walk_hd {l:OpenLaw} {n k:Nat} {q:Program} {loose:List Str} {XP:(Str→Option Value)→Heap→Prop} {W:Tp.Want} {d:DefRec} {x:Str} {F:List D→HD→Out D}
 (hn:l.most=some n) (hn2:n≤sizeLine) (hdf:d.params.defaults=[]) (hr:Room k callerA)
 (Fn:∀(w:World) (K:Frag) (c T:Addr) (mg:Str→Option Value) (fa:Addr) (h:Heap),Tp.Has W K c T→K.In h→h.Ns mainGlobals mg→mg d.name=some (.ref fa)→
  ∃fd:FuncData,(∀(s:Shared) (u:Value),BindsTo s fd ⟨[u],[]⟩ [(x,u)])∧
   ∀base:Heap,K.In base→base.Ns mainGlobals mg→Iv mg base→FnOk l.prog w K mg base (Ba l.prog w K) k fa fd [x] (EZ K F))
 (hF:∀ns:List Int,ns.length≤n→(∀i∈ns,Builtin.Int.intBits i≤2^20)→∃h',F [.scr ns] [.tab]=.ok (.bl true) h'):
 WalkO q loose XP (Tp.Says W) l.row.toRowW d [] (fun f vs=>PySem.call f vs):=by
 refine Att.attach_bits hn hdf fun w s₀ s₁ mg mb fa o pm cd doc a vs ns hbits G Y ho hd hcd' hmg hobj hints hlen hg=>?_
 obtain ⟨K,c,T,KX,HS,hT⟩:=Y
 obtain ⟨fd,hb,hF'⟩:=Fn w K c T mg fa _ HS KX G.T.g hmg
 obtain ⟨bm,ob,b1,b2,b3,b4,b5,b6⟩:=G.T.bmain
 obtain ⟨_,_,_,_,h1,h2,h3⟩:=HS
 exact ZJ KX G.T.g G.T.b G.T.builtins G.T.nolimit hg ⟨bm,ob,b1,b2,b3,b4,b5,b6⟩ hobj hints (BU hlen hn2) hr h1 h2 hT h3 hF' hb (hF ns hlen hbits)
end LS
namespace Tp
open PySem PySem.W PySem.Spec PySem.Calls PyProof.Rows
def Zaz (K:Frag):Option (FuncData×List Bool):=match nsIn K mainGlobals "TooMany",nsIn K mainGlobals "SwitchError" with
 |some (some (.ref C)),some (some (.ref S))=>(match K.lookup C with
  |some o=>(match LS.clsOf o.data with
   |some cd=>(match nsIn K cd.ns "__init__" with
    |some (some (.ref f))=>(match K.lookup f with
     |some ⟨oc,_,.func fd,_⟩=>some (blank fd,[codeIn K fd.code "TooMany.__init__",LS.tmX K C f,LS.swX K S,keepIn K (.ref C),oc==.type "function"])
     |_=>none)
    |_=>none)
   |none=>none)
  |none=>none)
 |_,_=>none
abbrev fnI (st:Stmt):FuncData:=fnOf "__init__" "TooMany.__init__" (L2.defArgs st) (L2.defBody st) (L2.defScope st) .none .none .none .none none .none .none
inductive Qz (K:Frag) (st:Stmt):Prop where
 |mk (C S f:Addr) (od an:Option Addr) (sl:Array (Option Value)) (kV dc pm cd ct:Value) (nC:nsIn K mainGlobals "TooMany"=some (some (.ref C))) (nS:nsIn K mainGlobals "SwitchError"=some (some (.ref S)))
  (l:K.lookup f=some ⟨.type "function",od,.func (fnOf "__init__" "TooMany.__init__" (L2.defArgs st) (L2.defBody st) (L2.defScope st) .none kV dc pm an cd ct),sl⟩) (c:codeIn K cd "TooMany.__init__"=true) (tm:LS.tmX K C f=true) (sw:LS.swX K S=true) (kp:keepIn K (.ref C)=true):Qz K st
noncomputable def ZfS (W:Want) (s:Shared):KC×Option (FuncData×List Bool):=fL (KA s.heap) fun K=>
 ((W.fs.map fun x=>IB K x.1,W.cs.map fun x=>IC K x.1,W.bs.map (nsIn K mainGlobals),LS.etOk K,M1 K s.heap),Zaz K)
def ZfT (W:Want) (st:Stmt):KC×Option (FuncData×List Bool):=(valK W,some (fnI st,[true,true,true,true,true]))
def SaysT (W:Want) (st:Stmt) (_:World) (h:Heap):Prop:=∃(K:Frag) (c T:Addr),K.In h∧(Has W K c T∧Qz K st)∧h.get? T=some (tabObj #[])
theorem SaysT.keeps {W:Want} {st:Stmt} (w:World) (h h':Heap) (x:SaysT W st w h) (k:∀b o,h.get? b=some o→h'.get? b=some o):SaysT W st w h':=by
 obtain ⟨K,c,T,h1,h2,h3⟩:=x
 exact ⟨K,c,T,h1.keeps k,h2,k _ _ h3⟩
end Tp
namespace LS
open PySem PySem.W PySem.Spec PySem.Calls PyProof.Rows L2
structure TmK (P:Program) (w:World) (K:Frag) (mg:Str→Option Value) (base:Heap) (C f:Addr) (fd:FuncData) (oI:Obj):Prop where
 tm:tmX K C f=true
 F:FnOk P w K mg base (Ba P w K) 1 f fd ["self","many","most"] (Qo K C)
 hb:Binds K fd ["self","many","most"] []
 lI:K.lookup f=some oI
 cI:oI.cls=.type "function"
 kp:keepIn K (.ref C)=true
 nC:nsIn K mainGlobals "TooMany"=some (some (.ref C))
end LS
namespace LS
open PySem PySem.Spec PyProof.Rows L2
open Classical in
noncomputable def ZfU:D→HD→Out D
 |.int i,h=>if i.natAbs<4611686018427387904 then .ok (.str (toString i)) h else .stuck
 |_,_=>.stuck
section
variable {X:Cx}
def ZfV (i j k:Nat) (ta:TA):TS:=fun Dn σ H=>ta σ H fun vs H1=>∃u v w,vs=[u,v,w]∧Dn.nx (((σ.set i (some u)).set j (some v)).set k (some w)) H1
def M4 (i j k:Nat) (ρ:Ah):List D→HD→Out (Fl×Ah)
 |[u,v,w],h=>.ok (.nx,((ρ.set i (some u)).set j (some v)).set k (some w)) h
 |_,_=>.stuck
noncomputable def QC (i j k:Nat) (fa:MA):MS:=fun ρ h=>(fa ρ h).bind fun ds h1=>M4 i j k ρ ds h1
end
@[simp] theorem ZfW {i j k:Nat} {fa:MA} {ρ:Ah} {h:HD} {Q:Fl×Ah→HD→Prop}:Wp (QC i j k fa ρ h) Q=Wp (fa ρ h) fun ds h1=>Wp (M4 i j k ρ ds h1) Q:=by unfold QC;rw [Az]
@[simp] theorem ZfX {i j k:Nat} {ρ:Ah} {u v w:D} {h:HD} {Q:Fl×Ah→HD→Prop}:Wp (M4 i j k ρ [u,v,w] h) Q=Q (.nx,((ρ.set i (some u)).set j (some v)).set k (some w)) h:=rfl
section
variable {X:Cx}
abbrev ZfY:=Fs fun i j=>.int (Builtin.bitXor i j)
end
section
variable {X:Cx} {E:XK} {D:Addr} {elt tg iter:Expr} {ifs:List Expr} {gs gens:List Comprehension} {scope:Scope} {pos:Pos} {Nc:List Str} {cs:List (Option Nat)} {it:MI} {gg:TG} {sg:MG} {t:MT} {f:ME} {e:Dy} {d:Nat} {is js:List Nat}
end
def ZaA:List Expr→Option (List (Int×Int))
 |[]=>some []
 |.Tuple [.Constant (.int a) _ _,.Constant (.int b) _ _] _ _::es=>(ZaA es).map ((a,b)::·)
 |_=>none
noncomputable def KG:List (Int×Int)→MA
 |[]=>Ac
 |p::ps=>Ab (Au (Ab (mC (.int p.1)) (Ab (mC (.int p.2)) Ac))) (KG ps)
@[simp] theorem ZfZ:KG []=Ac:=rfl
@[simp] theorem Zf0 {p:Int×Int} {ps:List (Int×Int)}:KG (p::ps)=Ab (Au (Ab (mC (.int p.1)) (Ab (mC (.int p.2)) Ac))) (KG ps):=rfl
section
variable {X:Cx} {E:XK}
@[irreducible] def ExI (X:Cx) (E:XK) (st:Stmt) (g:MS):Prop:=Ex X E st g
@[irreducible] def Zf1 (X:Cx) (E:XK) (sts:List Stmt) (g:MS):Prop:=CB X E sts g
end
end LS
namespace LS
open PySem PySem.Spec PySem.W PyProof.Rows L2
end LS
namespace LS
open PySem PySem.Spec PyProof.Rows L2 PySem.W
end LS
namespace Tp
open PySem PySem.W PySem.Spec PySem.Calls PyProof.Rows
abbrev QE:=List (Option (FuncData×Bool×Bool))×List (Option Int)×List (Option (Option Value))×Bool
noncomputable def Zf2 (W:Want) (s:Shared):QE:=fL (KA s.heap) fun K=>
 (W.fs.map fun x=>IB K x.1,W.cs.map fun x=>IC K x.1,W.bs.map (nsIn K mainGlobals),true)
def Zf3 (W:Want):QE:=(W.fs.map fun x=>some (KB x.1 x.2,true,true),W.cs.map fun x=>some x.2,W.bs.map fun _=>some none,true)
inductive QF (W:Want) (K:Frag):Prop where
 |mk (fs:∀(i:Nat) n st,W.fs[i]?=some (n,st)→SeenF K n st) (cs:∀(i:Nat) n v,W.cs[i]?=some (n,v)→∃t,nsIn K mainGlobals n=some (some (.int v t))) (bs:∀(i:Nat) n,W.bs[i]?=some n→nsIn K mainGlobals n=some none)
  (et:True):QF W K
def Says0 (W:Want) (_:World) (h:Heap):Prop:=∃K:Frag,K.In h∧QF W K
theorem Says0.keeps {W:Want} (w:World) (h h':Heap) (x:Says0 W w h) (k:∀b o,h.get? b=some o→h'.get? b=some o):Says0 W w h':=by
 obtain ⟨K,h1,h2⟩:=x
 exact ⟨K,h1.keeps k,h2⟩
end Tp
namespace LS
open PySem PySem.W PySem.Spec PySem.Calls PyProof.Rows L2
end LS
namespace LS
open PySem PySem.Spec PyProof.Rows L2
def ZaB:D→HD→Out D:=fun x h=>match x with
 |.loc l=>(match h[l]? with
  |some (.lst ds)=>Cq ds.reverse h
  |_=>.stuck)
 |_=>.stuck
def Zf4 (f:ME):ME:=fun ρ h=>(f ρ h).bind ZaB
section
variable {X:Cx} {E:XK} {e:Expr} {f:ME}
end
def He:D→D→HD→Out D:=fun x y h=>match x with
 |.exc _ _=>.stuck
 |.edic=>.stuck
 |_=>AI x y h
section
variable {h:HD} {y:D} {i:Int} {b:Bool} {x:Str} {ds:List D} {l:Nat}
@[simp] theorem Zf5:He (.int i) y h=AI (.int i) y h:=rfl
@[simp] theorem Zf6:He (.bl b) y h=AI (.bl b) y h:=rfl
@[simp] theorem Zf7:He .non y h=AI .non y h:=rfl
@[simp] theorem Zf8:He (.str x) y h=AI (.str x) y h:=rfl
@[simp] theorem Zf9:He (.tup ds) y h=AI (.tup ds) y h:=rfl
@[simp] theorem Zga:He (.loc l) y h=AI (.loc l) y h:=rfl
end
end LS
namespace LS
open PySem PySem.Spec PyProof.Rows L2 PySem.W PySem.Calls
def Hf:D→D→HD→Out D:=fun x y h=>match x,y with
 |.loc l,.loc k=>(match h[l]?,h[k]? with
  |some (.lst ds),some (.lst es)=>if ds.length+es.length≤sizeLine then .ok .non (h.set l (.lst (ds++es))) else .stuck
  |_,_=>.stuck)
 |_,_=>.stuck
section
variable {X:Cx} {E:XK}
def ID (f g:ME):ME:=fun ρ h=>((f ρ h).bind B2).bind fun x h1=>(g ρ h1).bind fun y h2=>Hf x y h2
theorem ZaC {o e:Expr} {f g:ME} {apos cpos:Pos} (ho:Ev X E o f) (he:Ev X E e g)
 (hbase:attributeBase o "extend" X.env (eval o X.env)=eval o X.env:=by rfl)
 (hfew:((backTo cpos (starEach [e] X.env)).all (fun x=>!x.1)&&(backToKw cpos (keywordEach [] X.env)).all (fun x=>x.1.isSome)
  &&decide ([e].length+([]:List Keyword).length+(if ([]:List Keyword).isEmpty then 0 else 1)<30))=true:=by rfl)
 (hline:(apos.endLine==cpos.line)=true:=by rfl) (hs:starEach [e] X.env=(false,eval e X.env)::starEach [] X.env:=by rfl) (hplain:(backTo cpos (starEach [] X.env)).any (·.1)=false:=by rfl):
 Ev X E (.Call (.Attribute o "extend" apos) [e] [] cpos) (ID f g):=
 B4 (Ot PySem.F.plainAttrs_list PySem.F.slot_list_extend PySem.F.type_list_extend Wy ho (HZ he HY hs) hbase hfew hline hs hplain) fun σ H Q z1_=>by
  obtain ⟨m,ρ,h,hr,er,p⟩:=z1_
  refine ⟨m,ρ,h,hr,er,?_⟩
  unfold ID at p
  rw [Out.bind_assoc] at p
  refine Post.bind p fun x h1 v m1 H1 eo p1 k1 hr1 r1 q1=>?_
  clear eo
  unfold B2 at q1
  split at q1
  ·rename_i l
   split at q1
   ·rename_i ds el
    simp only [Out.bind_ok] at q1
    have r1':=r1
    simp only [rD,DV] at r1'
    obtain ⟨a,rfl,ha⟩:=r1'
    obtain ⟨ws,hv,dv⟩:=hr1.cells l _ a el ha
    refine ⟨.inl ⟨rfl,ws,SqL.of hv⟩,m1,ρ,h1,hr1,er.keep p1 k1,?_⟩
    have q2:Post X.K (rD X.K) m1 H1 E Q ((Ab g Ac ρ h1).bind fun ys h2=>match ys with
     |[y]=>Hf (.loc l) y h2
     |_=>.stuck):=by
     unfold Ab Ac
     rw [Out.bind_assoc]
     exact q1
    refine Post.bind q2 fun ys h2 vs m2 H2 eo p2 k2 hr2 r2 q3=>?_
    clear eo
    split at q3
    ·rename_i y
     simp only [DK,DVs] at r2
     obtain ⟨yv,w,rfl,ry,rfl⟩:=r2
     unfold Hf at q3
     split at q3
     ·rename_i l' k el'
      cases el'
      split at q3
      ·rename_i ds2 zs el2 ek2
       split at q3
       ·rename_i hz
        have ha2:=GQ p2 ha
        obtain ⟨ws2,hv2,dv2⟩:=hr2.cells _ _ a el2 ha2
        simp only [DV] at ry
        obtain ⟨b,rfl,hb⟩:=ry
        obtain ⟨zs2,hz2,dz2⟩:=hr2.cells _ _ b ek2 hb
        refine ⟨a,b,ws2,zs2,rfl,rfl,hv2,hz2,by rw [←dv2.len,←dz2.len];exact hz,?_⟩
        refine q3 .non m2 _ (AB _) (.set hv2 rfl) (hr2.setCell ha2 hv2 rfl ⟨_,BL,?_⟩) (by simp [rD,DV])
        exact (dv2.app dz2).keep (AB _) (.set hv2 rfl)
       ·exact q3.elim
      ·exact q3.elim
     ·exact q3.elim
    ·exact q3.elim
   ·exact q1.elim
  ·exact q1.elim
end
section
variable {f g:ME} {ρ:Ah} {h:HD} {Q:D→HD→Prop} {l k:Nat} {ds es:List D}
@[simp] theorem Zgb:Wp (ID f g ρ h) Q=Wp (f ρ h) fun x h1=>Wp (B2 x h1) fun x h1=>Wp (g ρ h1) fun y h2=>Wp (Hf x y h2) Q:=by unfold ID;simp only [Az]
theorem ZaD (e:h[l]?=some (.lst ds)) (e':h[k]?=some (.lst es)) (hn:ds.length+es.length≤sizeLine):Hf (.loc l) (.loc k) h=.ok .non (h.set l (.lst (ds++es))):=by
 simp only [Hf,e,e']
 rw [if_pos hn]
end
def isI:Kyd→Bool
 |.i _=>true
 |_=>false
def DU (kvs:List (Kyd×D)):Bool:=kvs.all fun p=>isI p.1
def AU (kvs:List (Kyd×D)) (k:Kyd):Option D:=(kvs.find? fun p=>decide (p.1=k)).map (·.2)
def Bl (kvs:List (Kyd×D)) (k:Kyd) (v:D):List (Kyd×D):=if kvs.any (fun p=>decide (p.1=k)) then kvs.map (fun p=>if p.1=k then (p.1,v) else p) else kvs++[(k,v)]
def IR (K:Frag) (m:List Addr) (H:Hp) (p:Kyd×D) (q:Int×Value):Prop:=p.1=.i q.1∧∃v,DV K m H p.2 v∧RelV v q.2
section
variable {P:Program} {w:World} {K:Frag} {m:List Addr} {H:Hp} {h:Heap} {a:Addr}
theorem EntD.len:∀{kvs:List (Kyd×D)} {es:List (Kyd×V×V)},EntD K m H kvs es→kvs.length=es.length
 |[],_,e=>by simp only [EntD] at e;subst e;rfl
 |_::_,_,e=>by
  simp only [EntD] at e
  obtain ⟨kv,vv,r',rfl,_,_,t⟩:=e
  simp [EntD.len t]
theorem QG:∀{kvs:List (Kyd×D)} {es:List (Kyd×V×V)} {ul:List DictEntry},EntD K m H kvs es→DU kvs=true→Paired HV es ul→
 ∃vs:List (Int×Value),Pairs (intKind P w) ul vs∧(∀e∈ul,∃k,(intKind P w).is k e.key=true∧e.hash=(intKind P w).hash k)∧Paired (IR K m H) kvs vs∧vs.map (fun q=>Kyd.i q.1)=es.map (·.1)
 |[],_,_,e,_,p=>by
  simp only [EntD] at e
  subst e
  cases p
  exact ⟨[],.nil,by simp,.nil,rfl⟩
 |(k,d)::kvs,_,_,e,hi,p=>by
  simp only [EntD] at e
  obtain ⟨kv,vv,r',rfl,d1,d2,t⟩:=e
  simp only [DU,FW,BS] at hi
  cases p with
  |cons p1 p2=>
   rename_i e ul'
   obtain ⟨vs,h1,h2,h3,h4⟩:=QG t hi.2 p2
   obtain ⟨q1,q2,q3⟩:=p1
   cases k with
   |i n=>
    simp only [kD,DV] at d1
    subst d1
    obtain ⟨tk,q2⟩:=q2
    have hk:(intKind P w).is n e.key=true:=by
     rw [q2];exact intKind_is P w n tk
    refine ⟨(n,e.val)::vs,.cons hk rfl h1,fun x hx=>?_,.cons ⟨rfl,vv,d2,q3⟩ h3,by simp [h4]⟩
    rcases qa5.mp hx with rfl |hx
    ·exact ⟨n,hk,q1⟩
    ·exact h2 x hx
   |t ns=>cases hi.1
   |b rs=>cases hi.1
theorem ZaE {vs:List (Int×Value)} {es:List (Kyd×V×V)} (e:vs.map (fun q=>Kyd.i q.1)=es.map (·.1)) (nd:(es.map (·.1)).Nodup):(vs.map (·.1)).Nodup:=by
 rw [←e] at nd
 unfold List.Nodup at nd ⊢
 rw [GH] at nd ⊢
 exact nd.imp fun z y=>z (by rw [y])
theorem M5 {es:List (Kyd×V×V)} {kvs:List (Kyd×D)} (d:Bm a es h) (e:EntD K m H kvs es) (hi:DU kvs=true):
 ∃(ob:Obj) (us:Array DictEntry) (ep:Nat) (vs:List (Int×Value)),h.get? a=some ob∧ob.data=.dict us ep∧h.DictAt (intKind P w) a vs ep∧Paired (IR K m H) kvs vs:=by
 obtain ⟨hs,hz,nd,o,us,ep,h1,h2,h3,h4⟩:=d
 obtain ⟨vs,q1,q2,q3,q4⟩:=QG (P:=P) (w:=w) e hi h4
 exact ⟨o,us,ep,vs,h1,h3,⟨o,us,h1,h2,h3,fun x hx=>q2 x (Array.mem_toList_iff.mpr hx),q1,ZaE q4 nd⟩,q3⟩
theorem QH:∀{kvs:List (Kyd×D)} {vs:List (Int×Value)} {ul:List DictEntry},Paired (IR K m H) kvs vs→Pairs (intKind P w) ul vs→(∀e∈ul,∃k,(intKind P w).is k e.key=true∧e.hash=(intKind P w).hash k)→
 ∃es:List (Kyd×V×V),EntD K m H kvs es∧Paired HV es ul∧es.map (·.1)=vs.map (fun q=>Kyd.i q.1)
 |_,_,_,.nil,p,_=>by
  cases p
  exact ⟨[],rfl,.nil,rfl⟩
 |_,_,_,.cons r t,p,hk=>by
  rename_i x y xs ys
  cases p with
  |cons p1 p2 p3=>
   rename_i e es'
   obtain ⟨es,h1,h2,h3⟩:=QH t p3 (fun z hz=>hk z (A6 _ hz))
   obtain ⟨k,d⟩:=x
   obtain ⟨n,u⟩:=y
   obtain ⟨r1,v,r2,r3⟩:=r
   simp only at r1 p1 p2 r2 r3
   subst r1
   obtain ⟨tk,ek⟩:=Value.isInt_shape p1
   obtain ⟨k',k1,k2⟩:=hk e AZ
   have:k'=n:=(intKind P w).inj _ _ _ k1 p1
   subst this
   refine ⟨(.i k',.int k',v)::es,?_,.cons ⟨k2,⟨tk,ek⟩,by rw [p2];exact r3⟩ h2,by simp [h3]⟩
   simp only [EntD]
   exact ⟨_,_,_,rfl,by simp [kD,DV],r2,h1⟩
theorem ZaF {kvs:List (Kyd×D)} {vs:List (Int×Value)} (hs:(a==sysModules)=false) (hz:kvs.length≤sizeLine) (dd:h.DictOf (intKind P w) a vs) (r:Paired (IR K m H) kvs vs):∃es,Bm a es h∧EntD K m H kvs es:=by
 obtain ⟨o,us,ep,h1,h2,h3,h4,h5,h6⟩:=dd
 obtain ⟨es,q1,q2,q3⟩:=QH (P:=P) (w:=w) r h5 (fun e he=>h4 e (Array.mem_toList_iff.mp he))
 refine ⟨es,⟨hs,by rw [←q1.len];exact hz,?_,o,us,ep,h1,h2,h3,q2⟩,q1⟩
 rw [q3]
 unfold List.Nodup at h6 ⊢
 rw [GH] at h6 ⊢
 exact h6.imp fun z y=>z (by injection y)
theorem M6 {n:Int}:∀{kvs:List (Kyd×D)} {vs:List (Int×Value)},Paired (IR K m H) kvs vs→(AU kvs (.i n)=none∧valueAt vs n=none)∨∃d u v,AU kvs (.i n)=some d∧valueAt vs n=some u∧DV K m H d v∧RelV v u
 |_,_,.nil=>.inl ⟨rfl,rfl⟩
 |_,_,.cons r t=>by
  rename_i x y xs ys
  obtain ⟨r1,v,r2,r3⟩:=r
  by_cases z:y.1=n
  ·refine .inr ⟨x.2,y.2,v,?_,?_,r2,r3⟩
   ·simp [AU,Co,r1,z]
   ·simp [valueAt,Co,z]
  ·have e1:AU (x::xs) (.i n)=AU xs (.i n):=by simp [AU,Co,r1,z]
   have e2:valueAt (y::ys) n=valueAt ys n:=by simp [valueAt,Co,z]
   rw [e1,e2]
   exact M6 t
theorem QJ {n:Int}:∀{kvs:List (Kyd×D)} {vs:List (Int×Value)},Paired (IR K m H) kvs vs→(kvs.any fun p=>decide (p.1=.i n))=vs.any fun kv=>decide (kv.1=n)
 |_,_,.nil=>rfl
 |_,_,.cons r t=>by
  rw [GK,GK,QJ t,r.1]
  congr 1
  simp
theorem QK {n:Int} {d:D} {v:V} {u:Value} (dv:DV K m H d v) (rv:RelV v u):∀{kvs:List (Kyd×D)} {vs:List (Int×Value)},Paired (IR K m H) kvs vs→Paired (IR K m H) (kvs.map fun p=>if p.1=.i n then (p.1,d) else p) (vs.map fun kv=>if kv.1=n then (kv.1,u) else kv)
 |_,_,.nil=>.nil
 |_,_,.cons r t=>by
  rename_i x y xs ys
  refine .cons ?_ (QK dv rv t)
  show IR K m H (if x.1=.i n then (x.1,d) else x) (if y.1=n then (y.1,u) else y)
  by_cases z:y.1=n
  ·rw [if_pos z,if_pos (by rw [r.1,z])]
   exact ⟨r.1,v,dv,rv⟩
  ·rw [if_neg z,if_neg (by rw [r.1];intro q;injection q with q;exact z q)]
   exact r
theorem QL {p:Kyd×D} {q:Int×Value} (r:IR K m H p q):∀{kvs:List (Kyd×D)} {vs:List (Int×Value)},Paired (IR K m H) kvs vs→Paired (IR K m H) (kvs++[p]) (vs++[q])
 |_,_,.nil=>.cons r .nil
 |_,_,.cons x t=>.cons x (QL r t)
theorem ZaG {n:Int} {d:D} {v:V} {u:Value} {kvs:List (Kyd×D)} {vs:List (Int×Value)} (r:Paired (IR K m H) kvs vs) (dv:DV K m H d v) (rv:RelV v u):Paired (IR K m H) (Bl kvs (.i n) d) (stored vs n u):=by
 unfold Bl stored
 rw [QJ r]
 by_cases z:(vs.any fun kv=>decide (kv.1=n))=true
 ·rw [if_pos z,if_pos z];exact QK dv rv r
 ·rw [if_neg z,if_neg z];exact QL ⟨rfl,v,dv,rv⟩ r
theorem Hg {kvs:List (Kyd×D)} {k:Kyd} {d:D}:(Bl kvs k d).length≤kvs.length+1:=by
 unfold Bl
 split<;>simp
theorem QM:∀{kvs:List (Kyd×D)} {vs:List (Int×Value)},Paired (IR K m H) kvs vs→kvs.length=vs.length
 |_,_,.nil=>rfl
 |_,_,.cons _ t=>by simp [QM t]
theorem KH {H':Hp} {es:List (Kyd×V×V)} (d:Bm a es h):ObjOk P w H' h a (.dct (Bm a es)):=
 ⟨d,let ⟨_,_,_,o,_,_,e,_⟩:=d;⟨o,e⟩,fun h1 h2 ⟨x1,x2,x3,o,us,ep,e,r⟩ k=>⟨x1,x2,x3,o,us,ep,k _ e,r⟩⟩
end
section
variable {X:Cx} {E:XK} {pins:List (Addr×Obj)} {σ:L2.St} {H:Hp} {s:Shared}
theorem QN (I:Inv X pins σ H s):(s.heap.objs.size==sysModules)=false:=by
 have ne:s.heap.objs.size≠sysModules:=by
  obtain ⟨og,_,_,eg,_⟩:=I.ok.mod.glob
  obtain ⟨ml,⟨ol,_,_,el,_⟩,_⟩:=I.loc
  have h1:(3:Nat)<X.base.objs.size:=AF eg
  have h2:(X.env.locals:Nat)<s.heap.objs.size:=AF el
  have h3:X.base.objs.size≤X.s₀.heap.objs.size:=I.ok.bsz
  have h4:X.s₀.heap.objs.size≤(X.env.locals:Nat):=I.ok.above
  have h5:(1:Nat)<s.heap.objs.size:=AW (AW (show 1<4 by decide) h1) (BU h3 (BU h4 (EI h2)))
  exact fun z=>Ca h5 z
 exact beq_eq_false_iff_ne.mpr ne
def Hh (kvs:List (Kyd×D)) (h:HD):Out D:=.ok (.loc h.length) (h++[.dic false kvs])
def KI:ME:=fun _ h=>Hh [] h
theorem QP {m:List Addr} {h:HD} {Q:VK} {a:Addr} {kvs:List (Kyd×D)} {es:List (Kyd×V×V)} {H1:Hp} (hr:HR X.K m h H) (hf:H a=none) (k:Kp H H1) (p:Post X.K (rD X.K) m H E Q (Hh kvs h)) (e1:H1=Ao H a (.dct (Bm a es))) (en:EntD X.K m H kvs es):Q (.ref a) H1:=by
 subst e1
 refine p (.ref a) (m++[a]) _ (EF _ _) (.new hf) (hr.newCell hf ⟨es,BL,en.keep (EF _ _) (.new hf)⟩) ?_
 simp only [rD,DV]
 refine ⟨a,rfl,?_⟩
 rw [←hr.len]
 simp
theorem ZaH {pos:Pos}:Ev X E (.Dict [] [] pos) KI:=fun pins s σ H Q I z1_=>by
 obtain ⟨m,ρ,h,hr,er,p⟩:=z1_
 have hf:H s.heap.objs.size=none:=I.hok.fresh (Ax _)
 exact wpAny_Dict_empty ⟨.ref s.heap.objs.size,Ao H s.heap.objs.size (.dct (Bm s.heap.objs.size [])),I.laid (t':=s.toks) (fun _ _ q=>AG _ q) (Ax _) (KH ⟨QN I,Bu _,List.nodup_nil,_,#[],0,Bi _ rfl,⟨rfl,rfl,rfl⟩,rfl,.nil⟩),rfl,
  QP (es:=[]) hr hf (.new hf) p rfl (by simp [EntD])⟩
def ZaI (i j:Int):ME:=fun _ h=>Hh [(.i i,.int j)] h
def QR:D→HD→Out D:=fun x h=>match x with
 |.loc l=>(match h[l]? with
  |some (.dic _ _)=>.ok x h
  |_=>.stuck)
 |_=>.stuck
theorem QT {fz:Bool} {a:Addr} {es:List (Kyd×V×V)} (I:Inv X pins σ H s) (d:DicH fz H a es):Bm a es s.heap:=by
 have:=d.rd.ok I.hok
 exact (show ObjOk X.prog X.w H s.heap a (.dct (Bm a es)) from this).1
theorem QU {a:Addr} {es:List (Kyd×V×V)} (d:Bm a es s.heap):s.TypeIs (.ref a) "dict"∧∀b,Value.ref a=.ref b→∃ob,s.heap.get? b=some ob∧ob.dict=none:=by
 obtain ⟨_,_,_,o,us,ep,h1,h2,h3,_⟩:=d
 exact ⟨⟨o,h1,h2.1⟩,fun b z=>by cases z;exact ⟨o,h1,h2.2.1⟩⟩
def QV:D→D→D→HD→Out D:=fun x y z h=>match x,y with
 |.loc l,.int n=>(match h[l]? with
  |some (.dic _ kvs)=>if DU kvs then .ok ((AU kvs (.i n)).getD z) h else .stuck
  |_=>.stuck)
 |_,_=>.stuck
def QW (f g k:ME):ME:=fun ρ h=>((f ρ h).bind QR).bind fun x h1=>(g ρ h1).bind fun y h2=>(k ρ h2).bind fun z h3=>QV x y z h3
def IE (o i v:D) (h:HD) (g:HD→Out (Fl×Ah)):Out (Fl×Ah):=match o,i with
 |.loc l,.int n=>(match h[l]? with
  |some (.dic false kvs)=>if DU kvs∧kvs.length<sizeLine then g (h.set l (.dic false (Bl kvs (.i n) v))) else .stuck
  |_=>.stuck)
 |_,_=>.stuck
def KJ (fo fi fv:ME):MS:=fun ρ h=>(fv ρ h).bind fun v h1=>(fo ρ h1).bind fun o h2=>(fi ρ h2).bind fun i h3=>IE o i v h3 fun h4=>.ok (.nx,ρ) h4
def ZaJ (K:Frag):V→V→V→Hp→(Hp→Prop)→Prop:=fun o i v H Q=>∃(m:List Addr) (a:Addr) (n:Int) (kvs:List (Kyd×D)) (es:List (Kyd×V×V)) (d:D),o=.ref a∧i=.int n∧H a=some (.dct (Bm a es))∧EntD K m H kvs es∧DU kvs=true∧kvs.length<sizeLine∧DV K m H d v∧
 ∀es',EntD K m H (Bl kvs (.i n) d) es'→Q (Ao H a (.dct (Bm a es')))
theorem ZaK:Jx X (ZaJ X.K):=by
 intro pins s σ H o i v ov iv u Q I ro ri rv h
 obtain ⟨m,a,n,kvs,es,d,rfl,rfl,hH,en,hi,hz,dv,q⟩:=h
 cases ro
 obtain ⟨tk,rfl⟩:=ri
 have dc:Bm a es s.heap:=(show ObjOk X.prog X.w H s.heap a (.dct (Bm a es)) from I.hok a _ hH).1
 obtain ⟨ob,us,ep,vs,h1,h2,dd,rr⟩:=M5 (P:=X.prog) (w:=X.w) dc en hi
 refine wpAny_setItem_pairs (hsz:=by rw [←QM rr];omega) (intKind_is X.prog X.w n tk) dd.dictOf fun h' dd' hs=>?_
 obtain ⟨es',q1,q2⟩:=ZaF (P:=X.prog) (w:=X.w) dc.1 (BU Hg (by omega)) dd' (ZaG rr dv rv)
 refine ⟨_,I.write (x:=a) (e:=a) (t':=s.toks+1) (by rw [hH];exact True.intro) (.inl rfl) (fun b q hb z=>(hs.2 b hb).trans z) ?_ (KH q1),q es' q2⟩
 obtain ⟨q,_,_,hq,_⟩:=dd'
 exact ⟨q,hq⟩
theorem ZaL {o i e:Expr} {fo fi fv:ME} {pos pos':Pos} (ho:Ev X E o fo) (hi:Ev X E i fi) (he:Ev X E e fv)
 (ha:∀v,assign (.Subscript o i pos') X.env v=(do
  let ov ←holding [v] (eval o X.env)
  let iv ←holding [v,ov] (eval i X.env)
  standAt pos'
  holding [v,ov,iv] (setItem ov iv v)
  release [v,ov,iv] []):=by intro _;rfl)
 (hs:swapsWithSole [.Subscript o i pos'] e pos.line X.env=pure false:=by rfl) (hw:swappedStores [.Subscript o i pos'] e X.env=pure none:=by rfl)
 (h1:(assignEach [.Subscript o i pos'] X.env).map (·.2)=[assign (.Subscript o i pos') X.env]:=by rfl):Ex X E (.Assign [.Subscript o i pos'] e pos) (KJ fo fi fv):=
 DL (JA he (Lm ho hi ZaK ha) hs hw h1) fun Dn σ H ⟨m,ρ,h,hr,er,p⟩=>⟨m,ρ,h,hr,er,PostS.bind p fun v h1 vv m1 H1 eo1 p1 k1 hr1 r1 q1=>by
  refine ⟨m1,ρ,h1,hr1,er.keep p1 k1,PostS.bind q1 fun ov h2 vo m2 H2 eo2 p2 k2 hr2 r2 q2=>?_⟩
  refine ⟨m2,ρ,h2,hr2,(er.keep p1 k1).keep p2 k2,PostS.bind q2 fun iv h3 vi m3 H3 eo3 p3 k3 hr3 r3 q3=>?_⟩
  clear eo1 eo2 eo3
  unfold IE at q3
  split at q3
  ·rename_i l n
   split at q3
   ·rename_i kvs el
    split at q3
    ·rename_i hc
     have ro:=DV.keep p3 k3 r2
     simp only [DV] at ro
     obtain ⟨a,rfl,ha⟩:=ro
     have ri:=r3
     simp only [rD,DV] at ri
     subst ri
     obtain ⟨es,hv,en⟩:=hr3.cells l _ a el ha
     have hv:H3 a=some (.dct (Bm a es)):=hv
     have rvv:=DV.keep p3 k3 (DV.keep p2 k2 r1)
     refine ⟨m3,a,n,kvs,es,v,rfl,rfl,hv,en,hc.1,hc.2,rvv,fun es' en'=>?_⟩
     have kk:Kp H3 (Ao H3 a (.dct (Bm a es'))):=.set hv rfl
     have hr4:HR X.K m3 (h3.set l (.dic false (Bl kvs (.i n) v))) (Ao H3 a (.dct (Bm a es'))):=hr3.setCell ha hv rfl ⟨es',BL,en'.keep (AB _) kk⟩
     exact q3 m3 _ (AB _) kk hr4 σ ((((er.keep p1 k1).keep p2 k2).keep p3 k3).keep (AB _) kk)
    ·exact q3.elim
   ·exact q3.elim
  ·exact q3.elim⟩
def Zgc (a:Addr) (ob:Obj) (es:List (Kyd×V×V)):It:=⟨fun i H=>H a=some (.frz ob (.dct (Bm a es)))∧i<es.length,fun i H x H'=>∃p k kv vv,H p=none∧x=.ref p∧es[i]?=some (k,kv,vv)∧H'=Ao H p (.tup [kv,vv]),fun i H=>H a=some (.frz ob (.dct (Bm a es)))∧i=es.length⟩
def QX (d:D) (h:HD):Out (List D×A1):=match d with
 |.loc l=>(match h[l]? with
  |some (.dic _ kvs)=>if DU kvs then .ok (kvs.map fun p=>.tup [kD p.1,p.2],[]) (h.set l (.dic true kvs)) else .stuck
  |_=>.stuck)
 |_=>.stuck
def QY (f:ME):MI:=fun ρ h=>(f ρ h).bind QX
end
section
variable {f g k fo fi fv:ME} {ρ:Ah} {h:HD} {Q:D→HD→Prop} {QS:Fl×Ah→HD→Prop} {QI:List D×A1→HD→Prop} {i j:Int} {l:Nat} {fz:Bool} {kvs:List (Kyd×D)}
@[simp] theorem Zgd:Wp (KI ρ h) Q=Q (.loc h.length) (h++[.dic false []]):=id rfl
@[simp] theorem Zge:Wp (ZaI i j ρ h) Q=Q (.loc h.length) (h++[.dic false [(.i i,.int j)]]):=id rfl
@[simp] theorem Zgf:Wp (QW f g k ρ h) Q=Wp (f ρ h) fun x h1=>Wp (QR x h1) fun x h2=>Wp (g ρ h2) fun y h3=>Wp (k ρ h3) fun z h4=>Wp (QV x y z h4) Q:=by unfold QW;simp only [Az]
@[simp] theorem Zgg:Wp (KJ fo fi fv ρ h) QS=Wp (fv ρ h) fun v h1=>Wp (fo ρ h1) fun o h2=>Wp (fi ρ h2) fun i h3=>Wp (IE o i v h3 fun h4=>.ok (.nx,ρ) h4) QS:=by unfold KJ;simp only [Az]
@[simp] theorem Zgh:Wp (QY f ρ h) QI=Wp (f ρ h) fun d h1=>Wp (QX d h1) QI:=by unfold QY;rw [Az]
end
namespace Dt
open PySem
theorem QZ:entryFor table "dict.update.loop"=some Builtin.«dict.update.loop»:=entryFor_of_tree (by kernel_rfl)
theorem KL:plainId "dict.update.loop"=true:=by decide +kernel
theorem ZaM:typeLookup (.type "list") "keys"=pure none:=by rw [typeLookup_type,builtinLookup_eq_fast];kernel_rfl
section
variable {prog:Program} {w:World} {A:Around} {E:Value→Shared→Prop} {s:Shared}
theorem ZaN {a:Addr} {o:Obj} {xs:Array Value} {k:Nat} {Q:Option Value→Shared→Prop} (hx:s.heap.get? a=some o) (hc:o.cls=.type "list") (hdat:o.data=.seq xs k) (hd:o.dict=none) (hA:A.handled=none)
 (h:∀h' tk,(∀b o,s.heap.get? b=some o→h'.get? b=some o)→Q none {s with heap:=h',toks:=tk}):wpAny (model prog w) A (getAttr? (.ref a) "keys") Q E s:=by
 obtain ⟨c,dct,dat,sl⟩:=o
 simp only at hc hdat hd
 subst hc hdat hd
 obtain ⟨hp,g,d,tk,os⟩:=s
 have hT:∀tk',(⟨hp,g,d,tk',os⟩:Shared).TypeIs (.ref a) "list":=fun _=>⟨_,hx,rfl⟩
 have f1:=sub_AttributeError
 have f3:=F.slot_list_getattribute.lookup
 have f4:=F.slot_list_getattribute.bind (.ref a)
 have f5:=am_list_getattr_none
 unfold getAttr? getAttrBy? getAttrBy
 repeat (any_goals (first |assumption |exact hT _ |((with_reducible show wpAny _ _ (call (Value.builtin "list.__getattribute__") _ _) _ _ _);refine call_meets F.slot_list_getattribute (hT _) am_entry_list_getattribute (F.args_list_getattribute_2 _ _) (meets_getattribute_miss_list a xs k sl "keys" _ ZaM (by decide +kernel) (by size_fits)) ⟨hx,hA,fun h' tk' e hx'=>?_⟩) |wp_step))
 obtain ⟨t',u',he⟩:=hx'.there
 show wpAny _ _ (getattributeRaised _ _ _ _ _ _ _) _ _ _
 unfold getattributeRaised
 repeat (any_goals (first |assumption |wp_step))
 all_goals exact h _ _ hx'.keeps
abbrev iK (prog:Program) (w:World):KeyKind prog w Int:=intKind prog w
abbrev tK (prog:Program) (w:World):HeapKind prog w (List Int):=tupleKind (iK prog w)
abbrev Ent:=List Int×Addr×Value
def PrAt (P:Program) (w:World) (h:Heap) (u:Value) (e:Ent):Prop:=∃p o m,u=.ref p∧h.get? p=some o∧o.cls=.type "tuple"∧o.data=.seq #[.ref e.2.1,e.2.2] m∧IsTupleKey (iK P w) h e.1 e.2.1
def put1 (xs:List Ent) (e:Ent):List Ent:=storedH xs e.1 e.2.1 e.2.2
theorem Q0 {h h':Heap} {ks:List Int} {a:Addr} (x:IsTupleKey (iK prog w) h ks a) (k:∀b o,h.get? b=some o→h'.get? b=some o):IsTupleKey (iK prog w) h' ks a:=let ⟨o,it,n,e,r⟩:=x;⟨o,it,n,k _ _ e,r⟩
theorem Q1 {h0:Heap}:∀{L acc:List Ent},(∀e∈L,IsTupleKey (iK prog w) h0 e.1 e.2.1)→(∀x∈acc,IsTupleKey (iK prog w) h0 x.1 x.2.1)→∀x∈L.foldl put1 acc,IsTupleKey (iK prog w) h0 x.1 x.2.1
 |[],acc,_,ha,x,hx=>ha x hx
 |e::L,acc,hL,ha,x,hx=>Q1 (L:=L) (acc:=put1 acc e) (fun y hy=>hL y (A6 _ hy)) (fun y hy=>by
   rcases mem_storedH hy with ⟨z,hz,e1,e2⟩ |⟨e1,e2⟩
   ·rw [e1,e2];exact ha z hz
   ·rw [e1,e2];exact hL e AZ) x hx
theorem ZaO {xs:List Ent} {e:Ent}:(put1 xs e).length≤xs.length+1:=by
 unfold put1 storedH
 split<;>simp
theorem Q2:∀{L acc:List Ent},(L.foldl put1 acc).length≤acc.length+L.length
 |[],acc=>by simp
 |e::L,acc=>by
  rw [GI]
  have:=Q2 (L:=L) (acc:=put1 acc e)
  have:=ZaO (xs:=acc) (e:=e)
  simp
  omega
theorem M7 {h h' h0:Heap} {d:Addr} {xs:List Ent} (x:h.DictOfH (tK prog w) d xs) (hk:∀x∈xs,IsTupleKey (iK prog w) h0 x.1 x.2.1) (k0:∀b o,h0.get? b=some o→h'.get? b=some o) (kd:∀o,h.get? d=some o→h'.get? d=some o):h'.DictOfH (tK prog w) d xs:=
 let ⟨o,es,ep,ho,hc,hd,he,_,hn⟩:=x;⟨o,es,ep,kd _ ho,hc,hd,he,fun y hy=>Q0 (hk y hy) k0,hn⟩
theorem ZaP {I l d:Addr} {items:Array Value} {es:List Ent} {h0:Heap} {R:Result→Shared→Prop} (hh:A.in1.handled=none) (hu:A.in1.units<cLine) (hl:l<h0.objs.size) (hd:h0.objs.size≤d) (hI:h0.objs.size≤I) (hdI:d≠I)
 (hp:∀(i:Nat) (v:Value),items[i]?=some v→∃e,es[i]?=some e∧PrAt prog w h0 v e) (hlen:es.length=items.size) (hz:items.size≤sizeLine):
 ∀(k i:Nat) (s:Shared),items.size - i=k→i≤items.size→s.heap.IsListIter I l i→s.heap.IsList l items→(∀b o,h0.get? b=some o→s.heap.get? b=some o)→s.heap.DictOfH (tK prog w) d ((es.take i).foldl put1 [])→
  (∀h' tk,(∀b o,h0.get? b=some o→h'.get? b=some o)→h'.DictOfH (tK prog w) d (es.foldl put1 [])→R (.ok (.ret .none)) {s with heap:=h',toks:=tk})→
  codeAny (model prog w) A (.builtin "dict.update.loop" ⟨[.ref d,.ref I,.int (i:Int) 0,.none],[]⟩) R s:=by
 have hlI:l≠I:=Bt (AW hl hI)
 have hdl:l≠d:=Bt (AW hl hd)
 have bI:∀b o,h0.get? b=some o→b∉[I]:=fun b o e=>by
  have:b≠I:=Bt (AW (AF e) hI)
  simpa using this
 have W:=Walks.list (prog:=prog) (w:=w) hh I l hlI items
 have keys:∀e∈es,IsTupleKey (iK prog w) h0 e.1 e.2.1:=fun e he=>by
  obtain ⟨j,hj⟩:=List.mem_iff_getElem?.mp he
  have hjl:=(qa3.mp hj).1
  obtain ⟨e',h1,_,_,_,_,_,_,_,h2⟩:=hp j items[j] (by simp)
  rw [hj] at h1
  cases h1
  exact h2
 have kt:∀i,∀x∈(es.take i).foldl put1 [],IsTupleKey (iK prog w) h0 x.1 x.2.1:=fun i=>Q1 (fun e he=>keys e (Fe he)) (fun x hx=>nomatch hx)
 intro k
 induction k with
 |zero=>
  intro i s hk hi hit hL h0s hD hR
  have hin:i=items.size:=by omega
  subst hin
  refine codeAny_builtin QZ ?_
  rw [Around.under_plainId KL _]
  show wpAny _ A.in1 (pyNext (.ref I) >>=_) _ _ s
  refine wpAny_bind (W.done s _ _ ⟨hit,hL⟩ fun h' tk hm=>?_)
  show wpAny _ A.in1 (Builtin.Dict.addKeywords d [] >>=_) _ _ _
  have k0:∀b o,h0.get? b=some o→h'.get? b=some o:=fun b o e=>hm b o (bI b o e) (h0s b o e)
  refine wpAny_bind (wpAny_pure (wpAny_pure (hR h' tk k0 ?_)))
  have:=M7 hD (kt _) k0 fun o e=>hm d o (by simpa using hdI) e
  rwa [GE (by omega)] at this
 |succ k ih=>
  intro i s hk hi hit hL h0s hD hR
  have hlt:i<items.size:=by omega
  refine codeAny_builtin QZ ?_
  rw [Around.under_plainId KL _]
  show wpAny _ A.in1 (pyNext (.ref I) >>=_) _ _ s
  refine wpAny_bind (W.item i s _ _ hlt ⟨hit,hL⟩ fun v h' tk hP st hm=>?_)
  obtain ⟨e,he,p,o,m,rfl,ho,hc,hda,hkey⟩:=hp i v hP
  have k0:∀b o,h0.get? b=some o→h'.get? b=some o:=fun b o e=>hm b o (bI b o e) (h0s b o e)
  have hD':=M7 hD (kt _) k0 fun o e=>hm d o (by simpa using hdI) e
  show wpAny _ A.in1 (holding [Value.ref p] _ >>=_) _ _ _
  refine wpAny_bind (wpAny_holding ?_)
  refine wpAny_bind (wpAny_tryCatch ?_)
  unfold Builtin.Dict.pairItems
  refine wpAny_bind (wpAny_typeOf (show Shared.TypeIs {s with heap:=h',toks:=tk} (.ref p) "tuple" from ⟨o,k0 _ _ ho,hc⟩) ?_)
  show wpAny _ _ (do return ((←seqItems? (.ref p)).getD #[]).toList) _ _ _
  refine wpAny_bind (wpAny_seqItems (k0 _ _ ho) hda (wpAny_pure ?_))
  show wpAny _ _ (holding [Value.ref e.2.1,e.2.2] (dictSet d (.ref e.2.1) e.2.2)) _ _ _
  refine wpAny_holding (wpAny_dictSet_heap (s:={s with heap:=h',toks:=tk}) (knd:=tK prog w) hu (Q0 hkey k0) hD' (fun h2 hD2 hs=>?_) ?_)
  ·have k2:∀b o,h0.get? b=some o→h2.get? b=some o:=fun b o e=>by rw [hs.2 b (Bt (AW (AF e) hd))];exact k0 b o e
   have hnext:(es.take (i+1)).foldl put1 []=storedH ((es.take i).foldl put1 []) e.1 e.2.1 e.2.2:=by
    rw [List.take_succ,he,List.foldl_append]
    rfl
   refine wpAny_pure ⟨plainId_quiet KL _,?_⟩
   have:=ih (i+1) {s with heap:=h2,toks:=tk+(tK prog w).draws e.1} (by omega) hlt (st.1.at fun o e=>by rw [hs.2 I (Ne.symm hdI)];exact e) (st.2.at fun o e=>by rw [hs.2 l hdl];exact e) k2 (by rw [hnext];exact hD2) fun h3 tk3 k3 hD3=>hR h3 tk3 k3 hD3
   exact this
  ·have:=Q2 (L:=es.take i) (acc:=[])
   rw [HE] at this
   simp at this
   omega
theorem call_pairs {l:Addr} {items:Array Value} {n:Nat} {es:List Ent} {Q:Value→Shared→Prop} (hh:A.handled=none) (hu:A.units+64<cLine) {ob:Obj} (hl:s.heap.get? l=some ob) (hlc:ob.cls=.type "list") (hld:ob.data=.seq items n) (hln:ob.dict=none)
 (hp:∀(i:Nat) (v:Value),items[i]?=some v→∃e,es[i]?=some e∧PrAt prog w s.heap v e) (hlen:es.length=items.size) (hz:items.size≤sizeLine)
 (h:∀h' tk,(∀b o,s.heap.get? b=some o→h'.get? b=some o)→h'.DictOfH (tK prog w) s.heap.objs.size (es.foldl put1 [])→Q (.ref s.heap.objs.size) {s with heap:=h',toks:=tk}):
 wpAny (model prog w) A (call (.type "dict") [.ref l]) Q E s:=by
 refine callType_codes (Q₁:=fun obj s₁=>obj=.ref s.heap.objs.size∧s₁={s with heap:=s.heap.push {cls:=.type "dict",data:=.dict #[]}}) F.kt_called_dict (F.kt_typeCall_dict_1 _) F.entry_dict_init (kt_code_dict_new _ ⟨rfl,rfl⟩) ?_
 rintro obj s₁ ⟨rfl,rfl⟩
 have hnew:(s.heap.push {cls:=.type "dict",data:=.dict #[]}).DictOfH (tK prog w) s.heap.objs.size []:=Heap.DictOfH.new s.heap
 have hl':(s.heap.push {cls:=.type "dict",data:=.dict #[]}).get? l=some ob:=AG _ hl
 have hT:Shared.TypeIs {s with heap:=s.heap.push {cls:=.type "dict",data:=.dict #[]}} (.ref l) "list":=⟨_,hl',hlc⟩
 refine ⟨hnew.typeIs,F.args_dict_init_2 _ _,?_⟩
 unfold Builtin.«dict.__init__»
 refine wpAny_bind ?_
 unfold Builtin.Dict.selfAndRest
 refine wpAny_bind (wpAny_notOrdered_dict hnew.typeIs ?_)
 show wpAny _ _ (pure (s.heap.objs.size,[Value.ref l])) _ _ _
 refine wpAny_pure ?_
 show wpAny _ _ (Builtin.Dict.updateFrom "dict.__init__" s.heap.objs.size (.ref l) [] .none) _ _ _
 unfold Builtin.Dict.updateFrom
 refine wpAny_bind (wpAny_typeOf hT ?_)
 rw [if_pos (by decide)]
 refine wpAny_bind (ZaN hl' hlc hld hln (by simp [hh]) fun h1 tk1 k1=>?_)
 simp only [Option.isNone_none,if_true]
 have hl1:h1.get? l=some ob:=k1 _ _ hl'
 have hL1:h1.IsList l items:=⟨_,hl1,hlc,n,hld⟩
 obtain ⟨od,_,_,hgd,_⟩:=hnew
 have hd1:s.heap.objs.size<h1.objs.size:=AF (k1 _ _ hgd)
 refine wpAny_bind (wpAny_rule ?_)
 refine wpAny_bind (wpAny_pyIter_list hL1 ?_)
 refine wpAny_pure ⟨plainId_quiet KL _,?_⟩
 have kk:∀b o,s.heap.get? b=some o→(h1.push {cls:=.type "list_iterator",data:=.fields #[.ref l,.int 0 0]}).get? b=some o:=fun b o e=>AG _ (k1 _ _ (AG _ e))
 refine ZaP (h0:=s.heap) (es:=es) (by simp [hh]) (by simp;omega) (AF hl) (Ax _) (EI hd1) (Bt hd1) hp hlen hz items.size 0 _ rfl (Bu _) ⟨_,Bi _ rfl,rfl,rfl⟩ (hL1.push _) kk ?_ fun h2 tk2 k2 hD2=>⟨rfl,h h2 tk2 k2 hD2⟩
 rw [List.take_zero]
 exact M7 (h0:=s.heap) (Heap.DictOfH.new s.heap) (fun x hx=>nomatch hx) kk fun o e=>AG _ (k1 _ _ e)
end
end Dt
end LS
namespace LS
open PySem PySem.Spec PyProof.Rows L2 PySem.W PySem.Calls
section
variable {P:Program} {w:World} {K:Frag} {m:List Addr} {H:Hp} {h:Heap} {a:Addr}
theorem Q3:∀{ns:List Int} {vs:List V} {us:List Value},DVs K m H (ns.map D.int) vs→Vals vs us→ItemsAre (intKind P w) ns us
 |[],_,_,r,t=>by
  simp only [GL,DVs] at r
  subst r
  cases t
  exact .nil
 |n::ns,_,_,r,t=>by
  simp only [BE,DVs] at r
  obtain ⟨v,vs,rfl,rv,rr⟩:=r
  simp only [DV] at rv
  subst rv
  cases t with
  |cons t1 t2=>
   obtain ⟨tk,rfl⟩:=t1
   exact .cons (intKind_is P w n tk) (Q3 rr t2)
theorem ZaQ (ok:HOk P w H h) {ns:List Int} {v:V} (d:DV K m H (.tup (ns.map D.int)) v):∃b,v=.ref b∧IsTupleKey (intKind P w) h ns b:=by
 simp only [DV] at d
 obtain ⟨b,vs,rfl,hb,dv⟩:=d
 obtain ⟨_,its,f2,⟨o,ho,hc,n,hd⟩,_⟩:=(show Jq h b vs from ok b _ hb)
 exact ⟨b,rfl,o,its.toArray,n,ho,hc,hd,by simpa using Q3 dv f2⟩
end
def Eo:List D→Option (List Int)
 |[]=>some []
 |.int n::ds=>(Eo ds).map (n::·)
 |_=>none
theorem Q4:∀{ds:List D} {ns:List Int},Eo ds=some ns→ds=ns.map D.int
 |[],_,e=>by cases e;rfl
 |d::ds,ns,e=>by
  cases d<;>simp only [Eo] at e<;>try cases e
  rename_i n
  cases q:Eo ds with
  |none=>rw [q] at e;cases e
  |some ms=>rw [q] at e;cases e;rw [Q4 q];rfl
def isT:Kyd→Bool
 |.t _=>true
 |_=>false
def B3 (kvs:List (Kyd×D)):Bool:=kvs.all fun p=>isT p.1
def TR (K:Frag) (m:List Addr) (H:Hp) (p:Kyd×D) (q:List Int×Addr×Value):Prop:=p.1=.t q.1∧DV K m H (kD p.1) (.ref q.2.1)∧∃v,DV K m H p.2 v∧RelV v q.2.2
section
variable {P:Program} {w:World} {K:Frag} {m:List Addr} {H:Hp} {h:Heap} {a:Addr}
theorem IF (ok:HOk P w H h) {ns:List Int} {v:V} (d:DV K m H (kD (.t ns)) v):∃b,v=.ref b∧IsTupleKey (intKind P w) h ns b:=ZaQ ok d
theorem Q5 (ok:HOk P w H h):∀{kvs:List (Kyd×D)} {es:List (Kyd×V×V)} {ul:List DictEntry},EntD K m H kvs es→B3 kvs=true→Paired HV es ul→
 ∃xs:List (List Int×Addr×Value),ul=xs.map (entryOfKey (Dt.tK P w))∧Paired (TR K m H) kvs xs∧(∀x∈xs,(Dt.tK P w).is h x.1 x.2.1)∧xs.map (fun q=>Kyd.t q.1)=es.map (·.1)
 |[],_,_,e,_,p=>by
  simp only [EntD] at e
  subst e
  cases p
  exact ⟨[],rfl,.nil,by simp,rfl⟩
 |(k,d)::kvs,_,_,e,hi,p=>by
  simp only [EntD] at e
  obtain ⟨kv,vv,r',rfl,d1,d2,t⟩:=e
  simp only [B3,FW,BS] at hi
  cases p with
  |cons p1 p2=>
   rename_i e ul'
   obtain ⟨xs,h1,h2,h3,h4⟩:=Q5 ok t hi.2 p2
   obtain ⟨q1,q2,q3⟩:=p1
   cases k with
   |t rs=>
    obtain ⟨b,rfl,hb⟩:=IF ok d1
    obtain ⟨eh,ek,ev⟩:=e
    cases (show ek=Value.ref b from q2)
    simp only at q1
    subst q1
    refine ⟨(rs,b,ev)::xs,by rw [h1];rfl,.cons ⟨rfl,d1,vv,d2,q3⟩ h2,fun x hx=>?_,by simp [h4]⟩
    rcases qa5.mp hx with rfl |hx
    ·exact hb
    ·exact h3 x hx
   |b ns=>cases hi.1
   |i n=>cases hi.1
theorem M8 (ok:HOk P w H h) {es:List (Kyd×V×V)} {kvs:List (Kyd×D)} (d:Bm a es h) (e:EntD K m H kvs es) (hi:B3 kvs=true):∃xs:List (List Int×Addr×Value),h.DictOfH (Dt.tK P w) a xs∧Paired (TR K m H) kvs xs:=by
 obtain ⟨hs,hz,nd,o,us,ep,h1,h2,h3,h4⟩:=d
 obtain ⟨xs,q1,q2,q3,q4⟩:=Q5 ok e hi h4
 refine ⟨xs,⟨o,us,ep,h1,h2,h3,q1,q3,?_⟩,q2⟩
 rw [←q4] at nd
 unfold List.Nodup at nd ⊢
 rw [GH] at nd ⊢
 exact nd.imp fun z y=>z (by rw [y])
theorem Q6:∀{kvs:List (Kyd×D)} {xs:List (List Int×Addr×Value)},Paired (TR K m H) kvs xs→∃es:List (Kyd×V×V),EntD K m H kvs es∧Paired HV es (xs.map (entryOfKey (Dt.tK P w)))∧es.map (·.1)=xs.map (fun q=>Kyd.t q.1)
 |_,_,.nil=>⟨[],rfl,.nil,rfl⟩
 |_,_,.cons r t=>by
  rename_i x y xs ys
  obtain ⟨es,h1,h2,h3⟩:=Q6 t
  obtain ⟨k,d⟩:=x
  obtain ⟨n,b,u⟩:=y
  obtain ⟨r1,r0,v,r2,r3⟩:=r
  simp only at r1 r0 r2 r3
  subst r1
  refine ⟨(.t n,.ref b,v)::es,?_,.cons ⟨rfl,rfl,r3⟩ h2,by simp [h3]⟩
  simp only [EntD]
  exact ⟨_,_,_,rfl,r0,r2,h1⟩
theorem Q7:∀{kvs:List (Kyd×D)} {xs:List (List Int×Addr×Value)},Paired (TR K m H) kvs xs→kvs.length=xs.length
 |_,_,.nil=>rfl
 |_,_,.cons _ t=>by simp [Q7 t]
theorem Q8 {kvs:List (Kyd×D)} {xs:List (List Int×Addr×Value)} (hs:(a==sysModules)=false) (hz:kvs.length≤sizeLine) (dd:h.DictOfH (Dt.tK P w) a xs) (r:Paired (TR K m H) kvs xs):∃es,Bm a es h∧EntD K m H kvs es:=by
 obtain ⟨o,us,ep,h1,h2,h3,h4,h5,h6⟩:=dd
 obtain ⟨es,q1,q2,q3⟩:=Q6 (P:=P) (w:=w) r
 refine ⟨es,⟨hs,by rw [←q1.len];exact hz,?_,o,us,ep,h1,h2,h3,by rw [h4];exact q2⟩,q1⟩
 rw [q3]
 unfold List.Nodup at h6 ⊢
 rw [GH] at h6 ⊢
 exact h6.imp fun z y=>z (by injection y)
theorem Q9 {n:List Int}:∀{kvs:List (Kyd×D)} {xs:List (List Int×Addr×Value)},Paired (TR K m H) kvs xs→(kvs.any fun p=>decide (p.1=.t n))=(atKey xs n).isSome
 |_,_,.nil=>rfl
 |_,_,.cons r t=>by
  rename_i x y xs ys
  rw [GK,Q9 t,r.1]
  by_cases z:y.1=n
  ·simp [atKey,Co,z]
  ·simp [atKey,Co,z]
theorem Ra {n:List Int} {d:D} {v:V} {u:Value} (dv:DV K m H d v) (rv:RelV v u):∀{kvs:List (Kyd×D)} {xs:List (List Int×Addr×Value)},Paired (TR K m H) kvs xs→Paired (TR K m H) (kvs.map fun p=>if p.1=.t n then (p.1,d) else p) (xs.map (putAt n u))
 |_,_,.nil=>.nil
 |_,_,.cons r t=>by
  rename_i x y xs ys
  refine .cons ?_ (Ra dv rv t)
  show TR K m H (if x.1=.t n then (x.1,d) else x) (putAt n u y)
  unfold putAt
  by_cases z:y.1=n
  ·rw [if_pos z,if_pos (by rw [r.1,z])]
   exact ⟨r.1,r.2.1,v,dv,rv⟩
  ·rw [if_neg z,if_neg (by rw [r.1];intro q;injection q with q;exact z q)]
   exact r
theorem Rb {p:Kyd×D} {q:List Int×Addr×Value} (r:TR K m H p q):∀{kvs:List (Kyd×D)} {xs:List (List Int×Addr×Value)},Paired (TR K m H) kvs xs→Paired (TR K m H) (kvs++[p]) (xs++[q])
 |_,_,.nil=>.cons r .nil
 |_,_,.cons x t=>.cons x (Rb r t)
theorem Rc {n:List Int} {b:Addr} {d:D} {v:V} {u:Value} {kvs:List (Kyd×D)} {xs:List (List Int×Addr×Value)} (r:Paired (TR K m H) kvs xs) (db:DV K m H (kD (.t n)) (.ref b)) (dv:DV K m H d v) (rv:RelV v u):Paired (TR K m H) (Bl kvs (.t n) d) (storedH xs n b u):=by
 unfold Bl storedH
 rw [Q9 r]
 by_cases z:(atKey xs n).isSome=true
 ·rw [if_pos z,if_pos z];exact Ra dv rv r
 ·rw [if_neg z,if_neg z];exact Rb ⟨rfl,db,v,dv,rv⟩ r
end
def keyT:D→Option (List Int)
 |.tup ds=>Eo ds
 |_=>none
theorem KM {d:D} {ns:List Int} (e:keyT d=some ns):d=kD (.t ns):=by
 cases d<;>simp only [keyT] at e<;>try cases e
 rw [Q4 e]
 rfl
def E4:D→Option (Kyd×D)
 |.tup [k,v]=>(keyT k).map fun ns=>(.t ns,v)
 |_=>none
def Gu:D→HD→Out D:=fun x h=>match x with
 |.loc l=>(match h[l]? with
  |some (.lst ds)=>(match AC (ds.map E4) with
   |some ps=>Hh (ps.foldl (fun acc p=>Bl acc p.1 p.2) []) h
   |none=>.stuck)
  |_=>.stuck)
 |_=>.stuck
theorem ZaR {d:D} {p:Kyd×D} (e:E4 d=some p):∃ns,p.1=.t ns∧d=.tup [kD (.t ns),p.2]:=by
 unfold E4 at e
 split at e
 ·rename_i k v
  cases q:keyT k with
  |none=>rw [q] at e;cases e
  |some ns=>rw [q] at e;cases e;exact ⟨ns,rfl,by rw [KM q]⟩
 ·cases e
section
variable {P:Program} {w:World} {K:Frag} {m:List Addr} {H:Hp} {h:Heap} {a:Addr}
theorem ZaS (ok:HOk P w H h) {d:D} {p:Kyd×D} {v:V} {u:Value} (e:E4 d=some p) (r:DV K m H d v) (ru:RelV v u):∃q,Dt.PrAt P w h u q∧TR K m H p q:=by
 obtain ⟨k,x⟩:=p
 obtain ⟨ns,e1,rfl⟩:=ZaR e
 simp only at e1
 subst e1
 simp only [DV] at r
 obtain ⟨b,vs,rfl,hb,dv⟩:=r
 simp only [DVs] at dv
 obtain ⟨kv,vs1,rfl,dk,xv,vs2,rfl,dx,rfl⟩:=dv
 obtain ⟨_,its,f2,⟨o,ho,hc,n,hd⟩,_⟩:=(show Jq h b _ from ok b _ hb)
 obtain ⟨uk,ux,rfl,rk,rx⟩:=HQ f2
 obtain ⟨c,rfl,hk⟩:=IF ok dk
 cases (show uk=Value.ref c from rk)
 cases (show u=Value.ref b from ru)
 exact ⟨(ns,c,ux),⟨b,o,n,rfl,ho,hc,hd,hk⟩,rfl,dk,xv,dx,rx⟩
theorem Re (ok:HOk P w H h):∀{ds:List D} {ps:List (Kyd×D)} {vs:List V} {us:List Value},AC (ds.map E4)=some ps→DVs K m H ds vs→Vals vs us→∃es:List Dt.Ent,Paired (Dt.PrAt P w h) us es∧Paired (TR K m H) ps es
 |[],ps,vs,us,e,r,ru=>by
  simp only [DVs] at r
  subst r
  cases ru
  cases e
  exact ⟨[],.nil,.nil⟩
 |d::ds,ps,vs,us,e,r,ru=>by
  simp only [DVs] at r
  obtain ⟨v,vs',rfl,rv,rr⟩:=r
  simp only [BE,AC] at e
  cases q1:E4 d with
  |none=>rw [q1] at e;cases e
  |some p=>
   rw [q1] at e
   simp only [AC] at e
   cases q2:AC (ds.map E4) with
   |none=>rw [q2] at e;cases e
   |some ps'=>
    rw [q2] at e
    cases e
    cases ru with
    |cons r1 r2=>
     obtain ⟨es,h1,h2⟩:=Re ok q2 rr r2
     obtain ⟨x,h3,h4⟩:=ZaS ok q1 rv r1
     exact ⟨x::es,.cons h3 h1,.cons h4 h2⟩
theorem Rf {α β:Type} {R:α→β→Prop}:∀{xs:List α} {ys:List β} {i:Nat} {x:α},Paired R xs ys→xs[i]?=some x→∃y,ys[i]?=some y∧R x y
 |_,_,_,_,.nil,e=>by simp at e
 |_,_,0,_,.cons r _,e=>by simp at e;subst e;exact ⟨_,rfl,r⟩
 |_,_,i+1,x,.cons _ t,e=>by
  simp at e
  obtain ⟨y,h1,h2⟩:=Rf t e
  exact ⟨y,by simpa using h1,h2⟩
theorem KN {α β:Type} {R:α→β→Prop}:∀{xs:List α} {ys:List β},Paired R xs ys→xs.length=ys.length
 |_,_,.nil=>rfl
 |_,_,.cons _ t=>by simp [KN t]
theorem Rg:∀{ps:List (Kyd×D)} {es:List Dt.Ent} {acc:List (Kyd×D)} {xs:List Dt.Ent},Paired (TR K m H) ps es→Paired (TR K m H) acc xs→Paired (TR K m H) (ps.foldl (fun acc p=>Bl acc p.1 p.2) acc) (es.foldl Dt.put1 xs)
 |_,_,_,_,.nil,r=>r
 |_,_,_,_,.cons r0 t,r=>by
  rename_i p e ps es
  obtain ⟨k,d⟩:=p
  obtain ⟨r1,r2,v,r3,r4⟩:=r0
  simp only at r1
  subst r1
  exact Rg (ps:=ps) (es:=es) t (Rc r r2 r3 r4)
theorem Rh:∀{ps acc:List (Kyd×D)},(ps.foldl (fun acc p=>Bl acc p.1 p.2) acc).length≤acc.length+ps.length
 |[],acc=>by simp
 |p::ps,acc=>by
  rw [GI]
  have:=Rh (ps:=ps) (acc:=Bl acc p.1 p.2)
  have:=Hg (kvs:=acc) (k:=p.1) (d:=p.2)
  simp
  omega
end
section
variable {X:Cx} {E:XK}
theorem ZaT (hc:X.calm=true) (hu:X.A.units+64<cLine):CC X (.type "dict") (Aw Gu):=by
 refine Mw (fun ds h=>?_) fun pins s σ H m h ds vs us Q I hr rd r q=>EN rd q fun x v ev rx q=>?_
 ·unfold Aw Gu Hh
  repeat' split
  all_goals trivial
 ·subst ev
  obtain ⟨u,rfl,ru⟩:=DH r
  unfold Gu at q
  split at q
  ·rename_i l
   split at q
   ·rename_i ds' el
    split at q
    ·rename_i ps eps
     simp only [DV] at rx
     obtain ⟨a,rfl,ha⟩:=rx
     cases (show u=Value.ref a from ru)
     obtain ⟨ws,hv,dv⟩:=hr.cells l _ a el ha
     obtain ⟨its,rv,⟨o,n,h1,h2,h3,h4⟩,hz⟩:=I.list (SqL.of hv)
     obtain ⟨es,p1,p2⟩:=Re (P:=X.prog) (w:=X.w) I.hok eps dv rv
     have hf:H s.heap.objs.size=none:=I.hok.fresh (Ax _)
     have hl:=rv.length
     refine Dt.call_pairs (es:=es) (I.ok.hd hc) hu h1 h2 h4 h3 (fun i v e=>?_) (by rw [←KN p1];simp) (by simp;omega) fun h' tk k hD=>?_
     ·exact Rf p1 (by simpa using e)
     ·have hz2:(ps.foldl (fun acc p=>Bl acc p.1 p.2) []).length≤sizeLine:=by
       have:=Rh (ps:=ps) (acc:=[])
       have e1:=KN p1
       have e2:=KN p2
       simp at this
       omega
      obtain ⟨es',q1,q2⟩:=Q8 (P:=X.prog) (w:=X.w) (K:=X.K) (m:=m) (H:=H) (QN I) hz2 hD (Rg p2 .nil)
      exact ⟨.ref s.heap.objs.size,_,I.laid (t':=_) k (Ax _) (KH q1),rfl,QP hr hf (.new hf) q rfl q2⟩
    ·exact q.elim
   ·exact q.elim
  ·exact q.elim
def Zgi (neg:Bool):D→D→HD→Out D:=fun x y h=>match keyT x,y with
 |some ns,.loc l=>(match h[l]? with
  |some (.dic _ kvs)=>if B3 kvs then .ok (.bl (Bool.xor neg (kvs.any fun p=>decide (p.1=.t ns)))) h else .stuck
  |_=>.stuck)
 |_,_=>.stuck
end
def IG (o i v:D) (h:HD) (g:HD→Out (Fl×Ah)):Out (Fl×Ah):=match o,keyT i with
 |.loc l,some rs=>(match h[l]? with
  |some (.dic false kvs)=>if B3 kvs∧kvs.length<sizeLine then g (h.set l (.dic false (Bl kvs (.t rs) v))) else .stuck
  |_=>.stuck)
 |_,_=>.stuck
def IH (fo fi fv:ME):MS:=fun ρ h=>(fv ρ h).bind fun v h1=>(fo ρ h1).bind fun o h2=>(fi ρ h2).bind fun i h3=>IG o i v h3 fun h4=>.ok (.nx,ρ) h4
def ZaU (K:Frag):V→V→V→Hp→(Hp→Prop)→Prop:=fun o i v H Q=>∃(m:List Addr) (a:Addr) (rs:List Int) (kvs:List (Kyd×D)) (es:List (Kyd×V×V)) (d:D),o=.ref a∧DV K m H (kD (.t rs)) i∧H a=some (.dct (Bm a es))∧EntD K m H kvs es∧B3 kvs=true∧kvs.length<sizeLine∧DV K m H d v∧
 ∀es',EntD K m H (Bl kvs (.t rs) d) es'→Q (Ao H a (.dct (Bm a es')))
section
variable {X:Cx} {E:XK} {pins:List (Addr×Obj)} {σ:L2.St} {H:Hp} {s:Shared}
theorem ZaV (hu:X.A.units+64<cLine):Jx X (ZaU X.K):=by
 intro pins s σ H o i v ov iv u Q I ro ri rv h
 obtain ⟨m,a,rs,kvs,es,d,rfl,di,hH,en,hi,hz,dv,q⟩:=h
 cases ro
 obtain ⟨b,rfl,hb⟩:=IF I.hok di
 cases (show iv=Value.ref b from ri)
 have dc:Bm a es s.heap:=(show ObjOk X.prog X.w H s.heap a (.dct (Bm a es)) from I.hok a _ hH).1
 obtain ⟨xs,dd,rr⟩:=M8 (P:=X.prog) (w:=X.w) I.hok dc en hi
 refine wpAny_setItem_heap (knd:=Dt.tK X.prog X.w) (hsz:=by rw [←Q7 rr];omega) (by show X.A.units+1<cLine;omega) hb dd fun h' dd' hs=>?_
 obtain ⟨es',q1,q2⟩:=Q8 (P:=X.prog) (w:=X.w) dc.1 (BU Hg (by omega)) dd' (Rc rr di dv rv)
 refine ⟨_,I.write (x:=a) (e:=a) (t':=_) (by rw [hH];exact True.intro) (.inl rfl) (fun b q hb z=>(hs.2 b hb).trans z) ?_ (KH q1),q es' q2⟩
 obtain ⟨q,_,_,hq,_⟩:=dd'
 exact ⟨q,hq⟩
theorem ZaW {o i e:Expr} {fo fi fv:ME} {pos pos':Pos} (hu:X.A.units+64<cLine) (ho:Ev X E o fo) (hi:Ev X E i fi) (he:Ev X E e fv)
 (ha:∀v,assign (.Subscript o i pos') X.env v=(do
  let ov ←holding [v] (eval o X.env)
  let iv ←holding [v,ov] (eval i X.env)
  standAt pos'
  holding [v,ov,iv] (setItem ov iv v)
  release [v,ov,iv] []):=by intro _;rfl)
 (hs:swapsWithSole [.Subscript o i pos'] e pos.line X.env=pure false:=by rfl) (hw:swappedStores [.Subscript o i pos'] e X.env=pure none:=by rfl)
 (h1:(assignEach [.Subscript o i pos'] X.env).map (·.2)=[assign (.Subscript o i pos') X.env]:=by rfl):Ex X E (.Assign [.Subscript o i pos'] e pos) (IH fo fi fv):=
 DL (JA he (Lm ho hi (ZaV hu) ha) hs hw h1) fun Dn σ H ⟨m,ρ,h,hr,er,p⟩=>⟨m,ρ,h,hr,er,PostS.bind p fun v h1 vv m1 H1 eo1 p1 k1 hr1 r1 q1=>by
  refine ⟨m1,ρ,h1,hr1,er.keep p1 k1,PostS.bind q1 fun ov h2 vo m2 H2 eo2 p2 k2 hr2 r2 q2=>?_⟩
  refine ⟨m2,ρ,h2,hr2,(er.keep p1 k1).keep p2 k2,PostS.bind q2 fun iv h3 vi m3 H3 eo3 p3 k3 hr3 r3 q3=>?_⟩
  clear eo1 eo2 eo3
  unfold IG at q3
  split at q3
  ·rename_i l rs er'
   split at q3
   ·rename_i kvs el
    split at q3
    ·rename_i hc
     have ro:=DV.keep p3 k3 r2
     simp only [DV] at ro
     obtain ⟨a,rfl,ha⟩:=ro
     have ri:DV X.K m3 H3 (kD (.t rs)) vi:=by rw [←KM er'];exact r3
     obtain ⟨es,hv,en⟩:=hr3.cells l _ a el ha
     have hv:H3 a=some (.dct (Bm a es)):=hv
     have rvv:=DV.keep p3 k3 (DV.keep p2 k2 r1)
     refine ⟨m3,a,rs,kvs,es,v,rfl,ri,hv,en,hc.1,hc.2,rvv,fun es' en'=>?_⟩
     have kk:Kp H3 (Ao H3 a (.dct (Bm a es'))):=.set hv rfl
     have hr4:HR X.K m3 (h3.set l (.dic false (Bl kvs (.t rs) v))) (Ao H3 a (.dct (Bm a es'))):=hr3.setCell ha hv rfl ⟨es',BL,en'.keep (AB _) kk⟩
     exact q3 m3 _ (AB _) kk hr4 σ ((((er.keep p1 k1).keep p2 k2).keep p3 k3).keep (AB _) kk)
    ·exact q3.elim
   ·exact q3.elim
  ·exact q3.elim⟩
end
section
variable {K:Frag} {m:List Addr} {H:Hp}
theorem M9 {n:List Int}:∀{kvs:List (Kyd×D)} {xs:List Dt.Ent},Paired (TR K m H) kvs xs→(AU kvs (.t n)=none∧atKey xs n=none)∨∃d p v,AU kvs (.t n)=some d∧atKey xs n=some p∧DV K m H d v∧RelV v p.2
 |_,_,.nil=>.inl ⟨rfl,rfl⟩
 |_,_,.cons r t=>by
  rename_i x y xs ys
  obtain ⟨r1,r0,v,r2,r3⟩:=r
  by_cases z:y.1=n
  ·refine .inr ⟨x.2,y.2,v,?_,?_,r2,r3⟩
   ·simp [AU,Co,r1,z]
   ·simp [atKey,Co,z]
  ·have e1:AU (x::xs) (.t n)=AU xs (.t n):=by simp [AU,Co,r1,z]
   have e2:atKey (y::ys) n=atKey ys n:=by simp [atKey,Co,z]
   rw [e1,e2]
   exact M9 t
theorem ZaX {kvs:List (Kyd×D)} {k:Kyd}:(kvs.any fun p=>decide (p.1=k))=(AU kvs k).isSome:=by
 unfold AU
 rw [Option.isSome_map,qaU,qb4,List.find?_isSome]
end
def Cd (neg:Bool):D→D→HD→Out D:=fun x y h=>match y with
 |.loc l=>(match h[l]? with
  |some (.dic _ kvs)=>(match x with
   |.int n=>if DU kvs then .ok (.bl (Bool.xor neg (AU kvs (.i n)).isSome)) h else .stuck
   |_=>(match keyT x with
    |some ns=>if B3 kvs then .ok (.bl (Bool.xor neg (AU kvs (.t ns)).isSome)) h else .stuck
    |none=>.stuck))
  |_=>.stuck)
 |_=>.stuck
theorem ZaY (neg:Bool) (x y:D) (h:HD):Ej (Cd neg x y h):=by
 unfold Cd
 repeat' split
 all_goals trivial
section
variable {X:Cx} {E:XK}
def ZaZ (X:Cx) (neg:Bool):R2:=fun v u H Q=>∃m h x y,HR X.K m h H∧DV X.K m H x v∧DV X.K m H y u∧Post X.K (rD X.K) m H E0 Q (Cd neg x y h)
theorem Ri {neg:Bool} {o:CmpOp} (hu:X.A.units+64<cLine)
 (ki:∀{s:Shared} {d:Addr} {n:Int} {tk:Tok} {f:Int→Option Value} {Q:Value→Shared→Prop} {E:Value→Shared→Prop},(d==sysModules)=false→s.heap.MapOf (intKind X.prog X.w) d f→Q (.bool (Bool.xor neg (f n).isSome)) {s with toks:=s.toks+1}→wpAny (model X.prog X.w) X.A (compareOp o (.int n tk) (.ref d)) Q E s)
 (kt:∀{s:Shared} {d c:Addr} {ns:List Int} {xs:List Dt.Ent} {Q:Value→Shared→Prop} {E:Value→Shared→Prop},IsTupleKey (intKind X.prog X.w) s.heap ns c→(d==sysModules)=false→s.heap.DictOfH (Dt.tK X.prog X.w) d xs→Q (.bool (Bool.xor neg (atKey xs ns).isSome)) {s with toks:=s.toks+(Dt.tK X.prog X.w).draws ns}→wpAny (model X.prog X.w) X.A (compareOp o (.ref c) (.ref d)) Q E s):
 Bk X (compareOp o) (Cd neg):=by
 refine ⟨ZaZ X neg,fun pins s σ H v u a b Q I rv ru z=>?_,fun m H h E x y v u Q hr rx ry q=>⟨m,h,x,y,hr,rx,ry,Post.noE (ZaY _ _ _ _) q⟩⟩
 obtain ⟨m,h,x,y,hr,rx,ry,q⟩:=z
 unfold Cd at q
 split at q
 ·rename_i l
  split at q
  ·rename_i fz kvs el
   simp only [DV] at ry
   obtain ⟨d,rfl,hd⟩:=ry
   cases (show b=Value.ref d from ru)
   obtain ⟨es,he,en⟩:=hr.cells l _ d el hd
   have dc:=QT I he
   split at q
   ·rename_i n
    split at q
    ·rename_i hi
     simp only [DV] at rx
     subst rx
     obtain ⟨tk,rfl⟩:=rv
     obtain ⟨ob,us,ep,vs,h1,h2,dd,rr⟩:=M5 (P:=X.prog) (w:=X.w) dc en hi
     refine ki dc.1 dd.dictOf.mapOf ?_
     have e:(valueAt vs n).isSome=(AU kvs (.i n)).isSome:=by
      rcases M6 (n:=n) rr with ⟨e1,e2⟩ |⟨d,u',v',e1,e2,e3,e4⟩<;>rw [e1,e2]<;>rfl
     rw [e]
     exact ⟨.bl _,H,I.tok _,rfl,A5 hr q (by simp [DV])⟩
    ·exact q.elim
   ·split at q
    ·rename_i ns ek
     split at q
     ·rename_i hi
      rw [KM ek] at rx
      obtain ⟨c,rfl,hk⟩:=IF (P:=X.prog) (w:=X.w) I.hok rx
      cases (show a=Value.ref c from rv)
      obtain ⟨xs,dd,rr⟩:=M8 (P:=X.prog) (w:=X.w) I.hok dc en hi
      refine kt hk dc.1 dd ?_
      have e:(atKey xs ns).isSome=(AU kvs (.t ns)).isSome:=by
       rcases M9 (n:=ns) rr with ⟨e1,e2⟩ |⟨d,u',v',e1,e2,e3,e4⟩<;>rw [e1,e2]<;>rfl
      rw [e]
      exact ⟨.bl _,H,I.tok _,rfl,A5 hr q (by simp [DV])⟩
     ·exact q.elim
    ·exact q.elim
  ·exact q.elim
 ·exact q.elim
theorem Rj (hu:X.A.units+64<cLine):Bk X (compareOp .In) (Cd false):=
 Ri hu (fun hd hm q=>wpAny_in_of (intKind_is _ _ _ _) hd hm (by rw [Jp] at q;exact q)) fun hk hd dd q=>wpAny_in_heap (knd:=Dt.tK X.prog X.w) (by show X.A.units+1<cLine;omega) hk hd dd (by rw [Jp] at q;exact q)
theorem Za0 (hu:X.A.units+64<cLine):Bk X (compareOp .NotIn) (Cd true):=
 Ri hu (fun hd hm q=>wpAny_notIn_of (intKind_is _ _ _ _) hd hm (by rw [Bool.true_xor] at q;exact q)) fun hk hd dd q=>wpAny_notIn_heap (knd:=Dt.tK X.prog X.w) (by show X.A.units+1<cLine;omega) hk hd dd (by rw [Bool.true_xor] at q;exact q)
def Cg:D→D→HD→Out D:=fun x y h=>match x with
 |.loc l=>(match h[l]? with
  |some (.dic _ kvs)=>(match y with
   |.int n=>if DU kvs then (match AU kvs (.i n) with
    |some d=>.ok d h
    |none=>.stuck) else .stuck
   |_=>(match keyT y with
    |some ns=>if B3 kvs then (match AU kvs (.t ns) with
     |some d=>.ok d h
     |none=>.stuck) else .stuck
    |none=>.stuck))
  |_=>.stuck)
 |_=>.stuck
theorem Za1 (x y:D) (h:HD):Ej (Cg x y h):=by
 unfold Cg
 repeat' split
 all_goals trivial
def Za2 (X:Cx):R2:=fun v u H Q=>∃m h x y,HR X.K m h H∧DV X.K m H x v∧DV X.K m H y u∧Post X.K (rD X.K) m H E0 Q (Cg x y h)
theorem Za3 (hu:X.A.units+64<cLine):IxR X (Za2 X):=by
 intro value slice pins s σ H v u a b Q I rv ru z hs
 obtain ⟨m,h,x,y,hr,rx,ry,q⟩:=z
 unfold Cg at q
 split at q
 ·rename_i l
  split at q
  ·rename_i fz kvs el
   simp only [DV] at rx
   obtain ⟨d,rfl,hd⟩:=rx
   cases (show a=Value.ref d from rv)
   obtain ⟨es,he,en⟩:=hr.cells l _ d el hd
   have dc:=QT I he
   split at q
   ·rename_i n
    split at q
    ·rename_i hi
     split at q
     ·rename_i dd' eg
      simp only [DV] at ry
      subst ry
      obtain ⟨tk,rfl⟩:=ru
      obtain ⟨ob,us,ep,vs,h1,h2,dd,rr⟩:=M5 (P:=X.prog) (w:=X.w) dc en hi
      rcases M6 (n:=n) rr with ⟨e1,e2⟩ |⟨d2,u',v',e1,e2,e3,e4⟩
      ·rw [e1] at eg;cases eg
      ·rw [e1] at eg
       cases eg
       exact subscriptTail_builtinR (x:=u') (QU dc).1 slot_dict_getitem.lookup (wpAny_getItem_of (Q:=fun r s'=>r=u'∧EP X pins σ Q r s') (intKind_is _ _ _ _) dd.dictOf.mapOf e2 ⟨rfl,v',H,I.tok _,e4,A5 hr q e3⟩) hs
     ·exact q.elim
    ·exact q.elim
   ·split at q
    ·rename_i ns ek
     split at q
     ·rename_i hi
      split at q
      ·rename_i dd' eg
       rw [KM ek] at ry
       obtain ⟨c,rfl,hk⟩:=IF (P:=X.prog) (w:=X.w) I.hok ry
       cases (show b=Value.ref c from ru)
       obtain ⟨xs,dd,rr⟩:=M8 (P:=X.prog) (w:=X.w) I.hok dc en hi
       rcases M9 (n:=ns) rr with ⟨e1,e2⟩ |⟨d2,p,v',e1,e2,e3,e4⟩
       ·rw [e1] at eg;cases eg
       ·rw [e1] at eg
        cases eg
        exact subscriptTail_builtinR (x:=p.2) (QU dc).1 slot_dict_getitem.lookup (wpAny_getItem_heap (knd:=Dt.tK X.prog X.w) (Q:=fun r s'=>r=p.2∧EP X pins σ Q r s') (by show X.A.units+1<cLine;omega) hk dd e2 ⟨rfl,v',H,I.tok _,e4,A5 hr q e3⟩) hs
      ·exact q.elim
     ·exact q.elim
    ·exact q.elim
  ·exact q.elim
 ·exact q.elim
theorem Za4 {a b:Expr} {pos:Pos} {f g:ME} (hu:X.A.units+64<cLine) (ha:Ev X E a f) (hb:Ev X E b g) (hs:Lz b):Ev X E (.Subscript a b pos) (Ad Cg f g):=
 B4 (Oq (Za3 hu) ha hb hs) fun σ H Q hq=>HW hq fun m H2 h2 x y v u hr rx ry q=>⟨m,h2,x,y,hr,rx,ry,Post.noE (Za1 _ _ _) q⟩
def II:D→HD→Out D:=fun x h=>match x with
 |.loc l=>(match h[l]? with
  |some (.lst ds)=>(match ds[ds.length - 1]? with
   |some d=>.ok d (h.set l (.lst ds.dropLast))
   |none=>.stuck)
  |_=>.stuck)
 |_=>.stuck
def IJ (f:ME):ME:=fun ρ h=>((f ρ h).bind B2).bind II
theorem DVs.dropLast {K:Frag} {m:List Addr} {H:Hp} {ds:List D} {vs:List V} (r:DVs K m H ds vs):DVs K m H ds.dropLast vs.dropLast:=by
 rw [List.dropLast_eq_take,List.dropLast_eq_take,r.len]
 exact r.take _
theorem Za5 {o:Expr} {f:ME} {apos cpos:Pos} (ho:Ev X E o f)
 (hbase:attributeBase o "pop" X.env (eval o X.env)=eval o X.env:=by rfl) (hline:(apos.endLine==cpos.line)=true:=by rfl):
 Ev X E (.Call (.Attribute o "pop" apos) [] [] cpos) (IJ f):=
 B4 (Wt PySem.F.plainAttrs_list PySem.F.slot_list_pop PySem.F.type_list_pop WA ho hbase hline) fun σ H Q z1_=>by
  obtain ⟨m,ρ,h,hr,er,p⟩:=z1_
  refine ⟨m,ρ,h,hr,er,?_⟩
  unfold IJ at p
  rw [Out.bind_assoc] at p
  refine Post.bind p fun x h1 v m1 H1 eo p1 k1 hr1 r1 q1=>?_
  clear eo
  unfold B2 at q1
  split at q1
  ·rename_i l
   split at q1
   ·rename_i ds el
    simp only [Out.bind_ok] at q1
    simp only [rD,DV] at r1
    obtain ⟨a,rfl,ha⟩:=r1
    obtain ⟨ws,hv,dv⟩:=hr1.cells l _ a el ha
    refine ⟨.inl ⟨rfl,ws,SqL.of hv⟩,?_⟩
    unfold II at q1
    simp only [el] at q1
    split at q1
    ·rename_i d ed
     obtain ⟨w,hw,dw⟩:=dv.get ed
     refine ⟨a,ws,w,rfl,rfl,hv,by rw [←dv.len];exact hw,?_⟩
     refine q1 w m1 _ (AB _) (.set hv rfl) (hr1.setCell ha hv rfl ⟨_,BL,?_⟩) (DV.keep (AB _) (.set hv rfl) dw)
     exact (DVs.dropLast dv).keep (AB _) (.set hv rfl)
    ·exact q1.elim
   ·exact q1.elim
  ·exact q1.elim
end
section
variable {f fo fi fv:ME} {ρ:Ah} {h:HD} {QS:Fl×Ah→HD→Prop} {Q:D→HD→Prop} {l:Nat} {ds:List D}
@[simp] theorem Zgj:Wp (IH fo fi fv ρ h) QS=Wp (fv ρ h) fun v h1=>Wp (fo ρ h1) fun o h2=>Wp (fi ρ h2) fun i h3=>Wp (IG o i v h3 fun h4=>.ok (.nx,ρ) h4) QS:=by unfold IH;simp only [Az]
@[simp] theorem Zgk:Wp (IJ f ρ h) Q=Wp (f ρ h) fun x h1=>Wp (B2 x h1) fun x h1=>Wp (II x h1) Q:=by unfold IJ;simp only [Az]
end
end LS
namespace LS
open PySem PySem.Spec PyProof.Rows L2
def Zgl (i j k l:Nat):MG:=fun d ρ=>match d with
 |.tup [.tup [x,y,z],t]=>some ((((ρ.set i (some x)).set j (some y)).set k (some z)).set l (some t))
 |_=>none
abbrev Zgm (K:PySem.W.Frag) (i j k l:Nat):TG:=D3 K 2 (Cp (D3 K 3 (Cp (Cb i) (Cp (Cb j) (Cp (Cb k) EJ)))) (Cp (Cb l) EJ))
abbrev Dz (h:Heap) (z TI TO:Addr) (f0 f1:Value):Prop:=h.get? z=some {cls:=.type "zip",dict:=none,data:=.fields #[f0,f1,.bool false,.ref TI,.ref TO],slots:=#[]}
inductive ZipN (h:Heap) (z TI TO:Addr):Prop where
 |none (b:Bool) (e:Dz h z TI TO .none (.bool b)):ZipN h z TI TO
 |held (a:Int) (t:Tok) (b:Bool) (e:Dz h z TI TO (.int a t) (.bool b)):ZipN h z TI TO
section
variable {prog:Program} {w:World} {A:Around} {E:Value→Shared→Prop} {s:Shared} {z TI TO p q:Addr} {f g:List Addr} {n1 n2 k:Nat} {P1 P2:Nat→Value→Prop} {S1 S2:Nat→Heap→Prop} {a b:Value}
theorem Za6 {M:Model} {c:Addr} {Q:Option Obj→Shared→Prop} (h:Q (s.heap.get? c) s):wpAny M A (loadIfAlive c) Q E s:=fun _ _ _=>h
theorem Rk {Q:Bool→Shared→Prop} (zz:ZipN s.heap z TI TO) (h1:∀f0 b,Dz s.heap z TI TO f0 (.bool b)→Q true s)
 (h2:∀h',ZipN h' z TI TO→Heap.SameBut z s.heap h'→Q false {s with heap:=h'}):wpAny (model prog w) A (Builtin.SmallTypes.ownedTupleIsFree (.ref z)) Q E s:=by
 unfold Builtin.SmallTypes.ownedTupleIsFree
 cases zz with
 |none b e=>exact wpAny_bind (wpAny_field e rfl (x:=.none) rfl (wpAny_pure (h1 _ _ e)))
 |held a t b e=>
  refine wpAny_bind (wpAny_field e rfl (x:=.int a t) rfl ?_)
  refine wpAny_bind (Za6 ?_)
  cases hc:s.heap.get? a.toNat with
  |none=>exact wpAny_pure (h1 _ _ e)
  |some o=>
   simp only [Option.isNone_some,CH,if_false]
   refine wpAny_bind (wpAny_field e rfl (x:=.bool b) rfl ?_)
   cases b with
   |true=>exact wpAny_pure (h2 s.heap (.held a t true e) ⟨rfl,fun _ _=>rfl⟩)
   |false=>
    rw [if_pos (by decide)]
    refine wpAny_bind (wpAny_setField_rec e (by simp) fun h' e' sb=>wpAny_pure (h2 h' (.held a t true e') sb))
theorem Za7 {Q:Value→Shared→Prop} (D1:Draws prog w A p f n1 P1 S1) (D2:Draws prog w A q g n2 P2 S2) (ap:G5 z TI TO p q f g)
 (zz:ZipN s.heap z TI TO) (zi:IsPair s.heap TI (.ref p) (.ref q)) (zo:IsPair s.heap TO a b) (s1:S1 k s.heap) (s2:S2 k s.heap) (l1:k<n1) (l2:k<n2)
 (hQ:∀h' tk x y,P1 k x→P2 k y→ZipN h' z TI TO→(∃a b,IsPair h' TO a b)→S1 (k+1) h'→S2 (k+1) h'→IsPair h' s.heap.objs.size x y→
  (∀c o,c≠z→c≠TO→c≠p→c≠q→s.heap.get? c=some o→h'.get? c=some o)→Q (.ref s.heap.objs.size) {s with heap:=h',toks:=tk}):
 wpAny (model prog w) A (Builtin.«zip.__next__» ⟨[.ref z],[]⟩) (fun fin s'=>∃v,fin=.done (.ret v)∧Q v s') E s:=by
 have fl:∀i (x:Value),i=2∧x=.bool false∨i=3∧x=.ref TI→∀{Q:Value→Shared→Prop},Q x s→wpAny (model prog w) A (field (.ref z) i) Q E s:=fun i x h {Q} hq=>by
  cases zz with
  |none b e=>rcases h with ⟨rfl,rfl⟩ |⟨rfl,rfl⟩<;>exact wpAny_field e rfl rfl hq
  |held a t b e=>rcases h with ⟨rfl,rfl⟩ |⟨rfl,rfl⟩<;>exact wpAny_field e rfl rfl hq
 show wpAny _ _ (field (.ref z) 2 >>=_) _ _ _
 refine wpAny_bind (fl 2 (.bool false) (.inl ⟨rfl,rfl⟩) ?_)
 show wpAny _ _ (field (.ref z) 3 >>=_) _ _ _
 refine wpAny_bind (fl 3 (.ref TI) (.inr ⟨rfl,rfl⟩) ?_)
 refine wpAny_bind (wpAny_seqItems zi rfl ?_)
 show wpAny _ _ (Builtin.SmallTypes.ownedTupleIsFree (.ref z) >>=_) _ _ _
 refine wpAny_bind (Rk zz (fun f0 b1 zz=>?_) fun m1 zz1 t1=>?_)
 ·simp only [if_true]
  refine wpAny_bind (wpAny_rule ?_)
  refine wpAny_bind (wpAny_field zz rfl (x:=.ref TO) rfl ?_)
  refine wpAny_bind (wpAny_setField_rec zz (by simp) fun m1 zz1 t1=>?_)
  replace zz1:Dz m1 z TI TO .ellipsis (.bool b1):=zz1
  refine wpAny_bind ?_
  simp only [List.zipIdx_cons,List.zipIdx_nil,HI,HJ]
  refine wpAny_bind (wpAny_bind (wpAny_onRaise ?_))
  show wpAny _ _ (Builtin.SmallTypes.nextOf (.ref p) >>=_) _ _ _
  refine wpAny_bind (D1.item k _ _ _ l1 (D1.frame k _ _ s1 fun c hc o e=>t1.extBut _ _ (fun y=>ap.b2 (y ▸ hc)) e) fun x m2 tk2 px s12 t2=>wpAny_pure ?_)
  have zo2:IsPair m2 TO a b:=t2.extBut _ _ ap.a8 (t1.extBut _ _ ap.a2 zo)
  refine wpAny_bind (wpAny_seqItems zo2 rfl ?_)
  refine wpAny_bind (wpAny_updateSeq_pair zo2 fun m3 zo3 t3=>?_)
  replace zo3:IsPair m3 TO x b:=zo3
  refine wpAny_bind (wpAny_letGo (wpAny_pure ?_))
  refine wpAny_bind (wpAny_bind (wpAny_onRaise ?_))
  show wpAny _ _ (Builtin.SmallTypes.nextOf (.ref q) >>=_) _ _ _
  have s23:S2 k m3:=D2.frame k _ _ s2 fun c hc o e=>t3.extBut _ _ (fun y=>ap.b5 (y ▸ hc)) (t2.extBut _ _ (fun y=>ap.b6 (y ▸ hc)) (t1.extBut _ _ (fun y=>ap.b3 (y ▸ hc)) e))
  refine wpAny_bind (D2.item k _ _ _ l2 s23 fun y m4 tk4 py s24 t4=>wpAny_pure ?_)
  have zo4:IsPair m4 TO x b:=t4.extBut _ _ ap.a9 zo3
  refine wpAny_bind (wpAny_seqItems zo4 rfl ?_)
  refine wpAny_bind (wpAny_updateSeq_pair zo4 fun m5 zo5 t5=>?_)
  replace zo5:IsPair m5 TO x y:=zo5
  refine wpAny_bind (wpAny_letGo (wpAny_pure (wpAny_pure ?_)))
  refine wpAny_bind (wpAny_seqItems zo5 rfl ?_)
  refine wpAny_bind (wpAny_newTuple ?_)
  have sz:m5.objs.size=s.heap.objs.size:=by rw [t5.1,t4.1,t3.1,t2.1,t1.1]
  have zz5:Dz m5 z TI TO .ellipsis (.bool b1):=t5.extBut _ _ ap.a2.symm (t4.extBut _ _ ap.a4.symm (t3.extBut _ _ ap.a2.symm (t2.extBut _ _ ap.a3.symm zz1)))
  have kp:∀c o,c≠z→c≠TO→c≠p→c≠q→s.heap.get? c=some o→m5.get? c=some o:=fun c o c1 c2 c3 c4 e=>t5.extBut _ _ c2 (t4.extBut _ _ c4 (t3.extBut _ _ c2 (t2.extBut _ _ c3 (t1.extBut _ _ c1 e))))
  have zlt:z<m5.objs.size:=AF zz5
  show wpAny _ _ (Builtin.SmallTypes.ownedTupleHandOut (.ref z) (.ref m5.objs.size) >>=_) _ _ _
  refine wpAny_bind ?_
  unfold Builtin.SmallTypes.ownedTupleHandOut
  have zz6:Dz (m5.push {cls:=.type "tuple",data:=.seq #[x,y]}) z TI TO .ellipsis (.bool b1):=AG _ zz5
  refine wpAny_bind (wpAny_setField_rec zz6 (by simp) fun m7 zz7 t7=>?_)
  replace zz7:Dz m7 z TI TO (rawInt m5.objs.size) (.bool b1):=zz7
  refine wpAny_setField_rec zz7 (by simp) fun m8 zz8 t8=>?_
  replace zz8:Dz m8 z TI TO (rawInt m5.objs.size) (.bool false):=zz8
  have up:∀c o,c≠z→m5.get? c=some o→m8.get? c=some o:=fun c o c1 e=>t8.extBut _ _ c1 (t7.extBut _ _ c1 (AG _ e))
  have nw:IsPair m8 m5.objs.size x y:=t8.extBut _ _ (Ca zlt) (t7.extBut _ _ (Ca zlt) (Bi _ rfl))
  rw [sz] at zz8 nw
  refine wpAny_pure ⟨_,rfl,?_⟩
  show Q (.ref m5.objs.size) _
  rw [sz]
  refine hQ m8 tk4 x y px py (.held _ _ _ zz8) ⟨_,_,up _ _ ap.a2 zo5⟩ (D1.frame _ m2 m8 s12 fun c hc o e=>?_) (D2.frame _ m4 m8 s24 fun c hc o e=>?_) nw fun c o c1 c2 c3 c4 e=>up c o c1 (kp c o c1 c2 c3 c4 e)
  ·have n1:c≠TO:=fun y=>ap.b4 (y ▸ hc)
   exact up c o (fun y=>ap.b2 (y ▸ hc)) (t5.extBut _ _ n1 (t4.extBut _ _ (fun y=>ap.b7 (y ▸ hc)) (t3.extBut _ _ n1 e)))
  ·exact up c o (fun y=>ap.b3 (y ▸ hc)) (t5.extBut _ _ (fun y=>ap.b5 (y ▸ hc)) e)
 ·simp only [CH,if_false]
  refine wpAny_bind ?_
  simp only [List.forIn_toArray,HI,HJ]
  refine wpAny_bind (wpAny_bind (wpAny_holding ?_))
  show wpAny _ _ (Builtin.SmallTypes.nextOf (.ref p) >>=_) _ _ _
  refine wpAny_bind (D1.item k _ _ _ l1 (D1.frame k _ _ s1 fun c hc o e=>t1.extBut _ _ (fun y=>ap.b2 (y ▸ hc)) e) fun x m2 tk2 px s12 t2=>wpAny_pure ?_)
  refine wpAny_pure ?_
  refine wpAny_bind (wpAny_bind (wpAny_holding ?_))
  show wpAny _ _ (Builtin.SmallTypes.nextOf (.ref q) >>=_) _ _ _
  have s23:S2 k m2:=D2.frame k _ _ s2 fun c hc o e=>t2.extBut _ _ (fun y=>ap.b6 (y ▸ hc)) (t1.extBut _ _ (fun y=>ap.b3 (y ▸ hc)) e)
  refine wpAny_bind (D2.item k _ _ _ l2 s23 fun y m4 tk4 py s24 t4=>wpAny_pure ?_)
  refine wpAny_pure (wpAny_pure ?_)
  refine wpAny_bind (wpAny_newTuple ?_ (by show 2≤sizeLine;unfold sizeLine;decide))
  have sz:m4.objs.size=s.heap.objs.size:=by rw [t4.1,t2.1,t1.1]
  have up:∀c o,m4.get? c=some o→(m4.push {cls:=.type "tuple",data:=.seq #[x,y]}).get? c=some o:=fun c o e=>AG _ e
  have zn:ZipN (m4.push {cls:=.type "tuple",data:=.seq #[x,y]}) z TI TO:=by
   cases zz1 with
   |none b e=>exact .none b (up _ _ (t4.extBut _ _ ap.a4.symm (t2.extBut _ _ ap.a3.symm e)))
   |held a t b e=>exact .held a t b (up _ _ (t4.extBut _ _ ap.a4.symm (t2.extBut _ _ ap.a3.symm e)))
  refine wpAny_pure ⟨_,rfl,?_⟩
  show Q (.ref m4.objs.size) _
  have nw:IsPair (m4.push {cls:=.type "tuple",data:=.seq #[x,y]}) m4.objs.size x y:=Bi _ rfl
  rw [sz] at nw ⊢
  refine hQ _ tk4 x y px py zn ⟨a,b,up _ _ (t4.extBut _ _ ap.a9 (t2.extBut _ _ ap.a8 (t1.extBut _ _ ap.a2 zo)))⟩ (D1.frame _ m2 _ s12 fun c hc o e=>up _ _ (t4.extBut _ _ (fun y=>ap.b7 (y ▸ hc)) e)) (D2.frame _ m4 _ s24 fun c hc o e=>up _ _ e) nw fun c o c1 c2 c3 c4 e=>up _ _ (t4.extBut _ _ c4 (t2.extBut _ _ c3 (t1.extBut _ _ c1 e)))
theorem Za8 {Q:Fin→Shared→Prop} (D1:Draws prog w A p f n1 P1 S1) (D2:Draws prog w A q g n2 P2 S2) (ap:G5 z TI TO p q f g)
 (zz:ZipN s.heap z TI TO) (zi:IsPair s.heap TI (.ref p) (.ref q)) (zo:IsPair s.heap TO a b) (s1:S1 k s.heap) (s2:S2 k s.heap) (hk:k=n1∨(k<n1∧k=n2))
 (hE:∀h' tk e,(∀c o,c≠z→c≠TO→c≠p→c≠q→s.heap.get? c=some o→h'.get? c=some o)→(∃o,h'.get? e=some o∧o.cls=.type "StopIteration")→E (.ref e) {s with heap:=h',toks:=tk}):
 wpAny (model prog w) A (Builtin.«zip.__next__» ⟨[.ref z],[]⟩) Q E s:=by
 have fl:∀i (x:Value),i=2∧x=.bool false∨i=3∧x=.ref TI→∀{Q:Value→Shared→Prop},Q x s→wpAny (model prog w) A (field (.ref z) i) Q E s:=fun i x h {Q} hq=>by
  cases zz with
  |none b e=>rcases h with ⟨rfl,rfl⟩ |⟨rfl,rfl⟩<;>exact wpAny_field e rfl rfl hq
  |held a t b e=>rcases h with ⟨rfl,rfl⟩ |⟨rfl,rfl⟩<;>exact wpAny_field e rfl rfl hq
 show wpAny _ _ (field (.ref z) 2 >>=_) _ _ _
 refine wpAny_bind (fl 2 (.bool false) (.inl ⟨rfl,rfl⟩) ?_)
 show wpAny _ _ (field (.ref z) 3 >>=_) _ _ _
 refine wpAny_bind (fl 3 (.ref TI) (.inr ⟨rfl,rfl⟩) ?_)
 refine wpAny_bind (wpAny_seqItems zi rfl ?_)
 show wpAny _ _ (Builtin.SmallTypes.ownedTupleIsFree (.ref z) >>=_) _ _ _
 refine wpAny_bind (Rk zz (fun f0 b1 zz=>?_) fun m1 zz1 t1=>?_)
 ·simp only [if_true]
  refine wpAny_bind (wpAny_rule ?_)
  refine wpAny_bind (wpAny_field zz rfl (x:=.ref TO) rfl ?_)
  refine wpAny_bind (wpAny_setField_rec zz (by simp) fun m1 zz1 t1=>?_)
  replace zz1:Dz m1 z TI TO .ellipsis (.bool b1):=zz1
  refine wpAny_bind ?_
  simp only [List.zipIdx_cons,List.zipIdx_nil,HI,HJ]
  refine wpAny_bind (wpAny_bind (wpAny_onRaise ?_))
  show wpAny _ _ (Builtin.SmallTypes.nextOf (.ref p) >>=_) _ _ _
  have s11:=D1.frame k _ m1 s1 fun c hc o e=>t1.extBut _ _ (fun y=>ap.b2 (y ▸ hc)) e
  rcases hk with hk |⟨hk,hk2⟩
  ·subst hk
   refine wpAny_bind (D1.done _ _ _ s11 fun m2 e t2 he=>?_)
   obtain ⟨oe,e1,e2⟩:=he
   have zz2:Dz m2 z TI TO .ellipsis (.bool b1):=t2 _ _ ap.a3.symm zz1
   have ne:e≠z:=fun y=>by subst y;rw [zz2] at e1;cases e1;simp at e2
   exact wpAny_setField_rec zz2 (by simp) fun m3 _ t3=>hE m3 _ e (fun c o c1 _ c3 _ y=>t3.extBut _ _ c1 (t2 _ _ c3 (t1.extBut _ _ c1 y))) ⟨oe,t3.extBut _ _ ne e1,e2⟩
  ·subst hk2
   refine wpAny_bind (D1.item k _ _ _ hk s11 fun x m2 tk2 px s12 t2=>wpAny_pure ?_)
   have zo2:IsPair m2 TO a b:=t2.extBut _ _ ap.a8 (t1.extBut _ _ ap.a2 zo)
   refine wpAny_bind (wpAny_seqItems zo2 rfl ?_)
   refine wpAny_bind (wpAny_updateSeq_pair zo2 fun m3 zo3 t3=>?_)
   refine wpAny_bind (wpAny_letGo (wpAny_pure ?_))
   refine wpAny_bind (wpAny_bind (wpAny_onRaise ?_))
   show wpAny _ _ (Builtin.SmallTypes.nextOf (.ref q) >>=_) _ _ _
   have s23:S2 k m3:=D2.frame k _ _ s2 fun c hc o e=>t3.extBut _ _ (fun y=>ap.b5 (y ▸ hc)) (t2.extBut _ _ (fun y=>ap.b6 (y ▸ hc)) (t1.extBut _ _ (fun y=>ap.b3 (y ▸ hc)) e))
   refine wpAny_bind (D2.done _ _ _ s23 fun m4 e t4 he=>?_)
   obtain ⟨oe,e1,e2⟩:=he
   have zz4:Dz m4 z TI TO .ellipsis (.bool b1):=t4 _ _ ap.a4.symm (t3.extBut _ _ ap.a2.symm (t2.extBut _ _ ap.a3.symm zz1))
   have ne:e≠z:=fun y=>by subst y;rw [zz4] at e1;cases e1;simp at e2
   exact wpAny_setField_rec zz4 (by simp) fun m5 _ t5=>hE m5 _ e (fun c o c1 c2 c3 c4 y=>t5.extBut _ _ c1 (t4 _ _ c4 (t3.extBut _ _ c2 (t2.extBut _ _ c3 (t1.extBut _ _ c1 y))))) ⟨oe,t5.extBut _ _ ne e1,e2⟩
 ·simp only [CH,if_false]
  refine wpAny_bind ?_
  simp only [List.forIn_toArray,HI,HJ]
  refine wpAny_bind (wpAny_bind (wpAny_holding ?_))
  show wpAny _ _ (Builtin.SmallTypes.nextOf (.ref p) >>=_) _ _ _
  have s11:=D1.frame k _ m1 s1 fun c hc o e=>t1.extBut _ _ (fun y=>ap.b2 (y ▸ hc)) e
  rcases hk with hk |⟨hk,hk2⟩
  ·subst hk
   refine wpAny_bind (D1.done _ _ _ s11 fun m2 e t2 he=>?_)
   exact hE m2 _ e (fun c o c1 _ c3 _ y=>t2 _ _ c3 (t1.extBut _ _ c1 y)) he
  ·subst hk2
   refine wpAny_bind (D1.item k _ _ _ hk s11 fun x m2 tk2 px s12 t2=>wpAny_pure ?_)
   refine wpAny_pure ?_
   refine wpAny_bind (wpAny_bind (wpAny_holding ?_))
   show wpAny _ _ (Builtin.SmallTypes.nextOf (.ref q) >>=_) _ _ _
   have s23:S2 k m2:=D2.frame k _ _ s2 fun c hc o e=>t2.extBut _ _ (fun y=>ap.b6 (y ▸ hc)) (t1.extBut _ _ (fun y=>ap.b3 (y ▸ hc)) e)
   refine wpAny_bind (D2.done _ _ _ s23 fun m4 e t4 he=>?_)
   exact hE m4 _ e (fun c o c1 c2 c3 c4 y=>t4 _ _ c4 (t2.extBut _ _ c3 (t1.extBut _ _ c1 y))) he
theorem Za9 {Q:Option Value→Shared→Prop} (D1:Draws prog w A.in1 p f n1 P1 S1) (D2:Draws prog w A.in1 q g n2 P2 S2) (ap:G5 z TI TO p q f g)
 (zz:ZipN s.heap z TI TO) (zi:IsPair s.heap TI (.ref p) (.ref q)) (zo:IsPair s.heap TO a b) (s1:S1 k s.heap) (s2:S2 k s.heap) (l1:k<n1) (l2:k<n2)
 (hQ:∀h' tk x y,P1 k x→P2 k y→ZipN h' z TI TO→(∃a b,IsPair h' TO a b)→S1 (k+1) h'→S2 (k+1) h'→IsPair h' s.heap.objs.size x y→
  (∀c o,c≠z→c≠TO→c≠p→c≠q→s.heap.get? c=some o→h'.get? c=some o)→Q (some (.ref s.heap.objs.size)) {s with heap:=h',toks:=tk}):
 wpAny (model prog w) A (pyNext (.ref z)) Q E s:=by
 have hT:s.TypeIs (.ref z) "zip":=by cases zz with |none b e=>exact ⟨_,e,rfl⟩ |held a t b e=>exact ⟨_,e,rfl⟩
 unfold pyNext
 exact wpAny_bind (wpAny_attempt (wpAny_callSpecial?_slot (name:=Str.ofString "__next__") hT F.slot_zip_next (wpAny_call_entry F.slot_zip_next hT F.entry_zip_next
  (Za7 D1 D2 ap zz zi zo s1 s2 l1 l2 fun h' tk x y c1 c2 c3 c4 c5 c6 c7 c8=>wpAny_pure (hQ h' tk x y c1 c2 c3 c4 c5 c6 c7 c8)) (F.args_zip_next_1 _))))
theorem Zba {Q:Option Value→Shared→Prop} (D1:Draws prog w A.in1 p f n1 P1 S1) (D2:Draws prog w A.in1 q g n2 P2 S2) (ap:G5 z TI TO p q f g)
 (zz:ZipN s.heap z TI TO) (zi:IsPair s.heap TI (.ref p) (.ref q)) (zo:IsPair s.heap TO a b) (s1:S1 k s.heap) (s2:S2 k s.heap) (hk:k=n1∨(k<n1∧k=n2))
 (hQ:∀h' tk,(∀c o,c≠z→c≠TO→c≠p→c≠q→s.heap.get? c=some o→h'.get? c=some o)→Q none {s with heap:=h',toks:=tk}):wpAny (model prog w) A (pyNext (.ref z)) Q E s:=by
 have hT:s.TypeIs (.ref z) "zip":=by cases zz with |none b e=>exact ⟨_,e,rfl⟩ |held a t b e=>exact ⟨_,e,rfl⟩
 unfold pyNext
 refine wpAny_bind (wpAny_attempt (wpAny_callSpecial?_slot (name:=Str.ofString "__next__") hT F.slot_zip_next (wpAny_call_entry F.slot_zip_next hT F.entry_zip_next
  (Za8 D1 D2 ap zz zi zo s1 s2 hk fun h' tk e kp he=>?_) (F.args_zip_next_1 _))))
 obtain ⟨o,ho,hc⟩:=he
 refine wpAny_bind (wpAny_isInstance (T:="StopIteration") (b:=true) ⟨o,ho,hc⟩ isSubtype_stop ?_)
 exact wpAny_pure (hQ _ _ kp)
theorem ZipN.at {h h':Heap} (x:ZipN h z TI TO) (f:∀o,h.get? z=some o→h'.get? z=some o):ZipN h' z TI TO:=by
 cases x with
 |none b e=>exact .none b (f _ e)
 |held a t b e=>exact .held a t b (f _ e)
theorem ZipN.get {h:Heap} (x:ZipN h z TI TO):∃o,h.get? z=some o:=by
 cases x with
 |none b e=>exact ⟨_,e⟩
 |held a t b e=>exact ⟨_,e⟩
theorem Zbb {Q:Value→Shared→Prop} (x:ZipN s.heap z TI TO) (hQ:Q (.ref z) s):wpAny (model prog w) A (pyIter (.ref z)) Q E s:=by
 have hT:s.TypeIs (.ref z) "zip":=by cases x with |none b e=>exact ⟨_,e,rfl⟩ |held a t b e=>exact ⟨_,e,rfl⟩
 exact wpAny_pyIter_slot hT F.slot_zip_iter (wpAny_call_entry F.slot_zip_iter hT F.entry_zip_iter (wpAny_pure ⟨_,rfl,"zip",_,hT,F.slot_zip_next.lookup,hQ⟩) (F.args_zip_iter_1 _))
end
inductive Rl (k1 k2:Bool) (z TI TO p q t u:Addr) (i:Nat) (h:Heap):Prop where
 |mk (zz:ZipN h z TI TO) (zi:IsPair h TI (.ref p) (.ref q)) (zo:∃a b,IsPair h TO a b) (x1:ItAt k1 h p t i) (x2:ItAt k2 h q u i):Rl k1 k2 z TI TO p q t u i h
theorem Zbc {prog:Program} {w:World} {A:Around} {E:Value→Shared→Prop} {s:Shared} {z TI TO a:Addr} {tg:Expr} {Q:Unit→Shared→Prop} (zz:ZipN s.heap z TI TO) (hQ:∀h2,ZipN h2 z TI TO→Heap.SameBut z s.heap h2→Q () {s with heap:=h2}):wpAny (model prog w) A (letOwnedTupleGo tg (.ref z) (.ref a)) Q E s:=by
 have id:Q () s:=hQ s.heap zz ⟨rfl,fun _ _=>rfl⟩
 have key:wpAny (model prog w) A (letOwnedTupleGo (.List [] ⟨0,0,0,0⟩) (.ref z) (.ref a)) Q E s:=by
  unfold letOwnedTupleGo
  have go:∀f0 b,Dz s.heap z TI TO f0 (.bool b)→wpAny (model prog w) A (do
   let o ←load z
   match o.cls,o.data with
   |.type n,.fields vs=>
    if ["enumerate","zip","dict_itemiterator","dict_reverseitemiterator","odict_iterator","itertools.zip_longest","itertools.pairwise"].contains n&&vs[0]?==some (rawInt a) then
     rule "for.unpacks-the-owned-tuple"
     updateField z 0 .none
   |_,_=>pure ()) Q E s:=fun f0 b e=>by
   refine wpAny_bind (wpAny_load e ?_)
   show wpAny (model prog w) A (if _ then _ else _) Q E s
   split
   ·refine wpAny_bind (wpAny_rule ?_)
    show wpAny (model prog w) A (setField (.ref z) 0 .none) Q E s
    exact wpAny_setField_rec e (by simp) fun h' e' sb=>hQ h' (.none b e') sb
   ·exact wpAny_pure id
  cases zz with
  |none b e=>exact go _ b e
  |held x t b e=>exact go _ b e
 cases tg<;>first |exact wpAny_pure id |exact key
theorem Zbd {P:Program} {w:World} {K:PySem.W.Frag} {tg:Expr} (k1 k2:Bool) (z TI TO p q t u:Addr) (ap:G5 z TI TO p q [p,t] [q,u]) (n1:t≠p) (n2:u≠q):
 FZ P w K tg (PN K k1 k2 t u) [z,TI,TO,p,q] z (Rl k1 k2 z TI TO p q t u) where
 mem:=by simp
 obj:=fun i h st c hc=>by
  obtain ⟨zz,zi,⟨a,b,zo⟩,x1,x2⟩:=st
  simp only [qa5,Dc,or_false] at hc
  rcases hc with rfl |rfl |rfl |rfl |rfl
  ·cases zz with
   |none b e=>exact ⟨_,e,fun v y=>by cases y⟩
   |held a t b e=>exact ⟨_,e,fun v y=>by cases y⟩
  ·exact ⟨_,zi,fun v y=>by cases y⟩
  ·exact ⟨_,zo,fun v y=>by cases y⟩
  ·exact x1.obj
  ·exact x2.obj
 keep:=fun i h h' st kp=>by
  obtain ⟨zz,zi,⟨a,b,zo⟩,x1,x2⟩:=st
  exact ⟨zz.at fun o e=>kp z (by simp) o e,kp TI (by simp) _ zi,⟨a,b,kp TO (by simp) _ zo⟩,x1.at fun o e=>kp p (by simp) o e,x2.at fun o e=>kp q (by simp) o e⟩
 item:=by
  intro X hP hw hK hc i pins s σ H E I hf st hg
  subst hP hw hK
  obtain ⟨zz,zi,⟨a,b,zo⟩,x1,x2⟩:=st
  obtain ⟨xs,ys,hq1,hq2,l1,l2⟩:=hg
  obtain ⟨it1,rv1,sq1,EB⟩:=G6 I hq1
  obtain ⟨it2,rv2,sq2,lt2⟩:=G6 I hq2
  have e1:=rv1.length
  have e2:=rv2.length
  have hh:X.A.in1.handled=none:=I.ok.hd hc
  refine Za9 (Kj k1 hh p t n1 it1.toArray) (Kj k2 hh q u n2 it2.toArray) ap zz zi zo ⟨x1,sq1⟩ ⟨x2,sq2⟩ (by rw [AX];omega) (by rw [AX];omega) fun h1 tk x y px py zz1 zo1 NV Dm nw kp=>?_
  obtain ⟨a1,b1,zo1⟩:=zo1
  refine ⟨.ref s.heap.objs.size,rfl,Zbc zz1 fun h2 zz2 sb=>?_⟩
  have hx:xs[i]?=some xs[i]:=AQ l1
  have hy:ys[i]?=some ys[i]:=AQ l2
  obtain ⟨u1,hu1,ru1⟩:=rv1.get hx
  obtain ⟨u2,hu2,ru2⟩:=rv2.get hy
  have hux:u1=x:=by
   have:it1[i]?=some x:=by simpa using px
   rw [hu1] at this
   exact Option.some.inj this
  have huy:u2=y:=by
   have:it2[i]?=some y:=by simpa using py
   rw [hu2] at this
   exact Option.some.inj this
  subst hux huy
  have hfr:H s.heap.objs.size=none:=I.hok.fresh (Ax _)
  have kk:∀c o,c∉[z,TI,TO,p,q]→s.heap.get? c=some o→h2.get? c=some o:=fun c o hc e=>by
   simp only [qa5,Dc,or_false,not_or] at hc
   exact (sb.2 c hc.1).trans (kp c o hc.1 hc.2.2.1 hc.2.2.2.1 hc.2.2.2.2 e)
  have nal:∀c o,s.heap.get? c=some o→c≠s.heap.objs.size:=fun c o e=>BH (AF e)
  have na:s.heap.objs.size≠z:=Ne.symm (let ⟨_,ez⟩:=zz.get;nal z _ ez)
  have hnew:h2.get? s.heap.objs.size=some {cls:=.type "tuple",data:=.seq #[u1,u2]}:=(sb.2 _ na).trans nw
  have ntr:∀c o,H c=some o→c∉[z,TI,TO,p,q]:=fun c o e hc=>by
   rw [(hf c hc).1] at e;cases e
  refine ⟨.ref s.heap.objs.size,Ao H s.heap.objs.size (.tup [xs[i],ys[i]]),?_,rfl,⟨s.heap.objs.size,xs[i],ys[i],hfr,rfl,fun zs hz=>by rw [PM I hz hq1];exact hx,fun zs hz=>by rw [PM I hz hq2];exact hy,rfl⟩,
   ⟨zz2,(sb.2 TI ap.a1).trans (kp TI _ ap.a1 ap.a5 ap.a6 ap.a7 zi),⟨a1,b1,(sb.2 TO ap.a2).trans zo1⟩,NV.1.at fun o e=>(sb.2 p ap.a3).trans e,Dm.1.at fun o e=>(sb.2 q ap.a4).trans e⟩,fun c hc=>?_⟩
  ·show Inv X pins σ _ {s with heap:=h2,gens:=s.gens,drawn:=s.drawn,toks:=tk}
   refine I.step (g':=s.gens) (d':=s.drawn) (t':=tk) (h':=h2) (ch:=[z,TI,TO,p,q]) (fun c hc=>?_) (fun c o _ _ hc e _=>kk c o hc e) (fun c o _ _ hc e _=>⟨o.slots,kk c o hc e⟩) (fun c o _ e n=>by rw [Av (nal c o e)];exact n)
    (fun c o hc e=>⟨o,kk c o hc e⟩) (fun c zs e=>by rw [Av (Bz e hfr)];exact e) (fun c o v e=>by rw [Av (Bz e hfr)];exact e) (fun c ps e=>⟨#[],by rw [Av (Bz e hfr),e];simp⟩) (fun m hm=>?_) (fun c o e=>?_) I.bare
   ·obtain ⟨_,c1,_,c3,c4,c5⟩:=hf c hc
    exact ⟨c3,c1,c4,c5⟩
   ·obtain ⟨o,es,ep,e,r⟩:=hm
    exact ⟨o,es,ep,kk _ o (fun hc=>(hf _ hc).2.1 rfl) e,r⟩
   ·by_cases hb:c=s.heap.objs.size
    ·subst hb
     rw [BL] at e
     cases e
     exact ⟨by simp only [DF,Fg];rw [sizeLine_eq];decide,[u1,u2],.cons ru1 (.cons ru2 .nil),⟨_,hnew,rfl,0,rfl⟩,fun o e=>by rw [hnew] at e;cases e;rfl⟩
    ·rw [Av hb] at e
     refine (I.hok c o e).stay (fun d v hd e'=>kk d v ?_ e') (fun d e'=>by rw [Av (Bz e' hfr)];exact e') fun d zs e'=>by rw [Av (Bz e' hfr)];exact e'
     rcases hd with rfl |hd
     ·exact ntr d _ e
     ·exact ntr d _ hd
  ·have nc:c≠s.heap.objs.size:=by
    simp only [qa5,Dc,or_false] at hc
    rcases hc with rfl |rfl |rfl |rfl |rfl
    ·obtain ⟨_,ez⟩:=zz.get;exact nal _ _ ez
    ·exact nal _ _ zi
    ·exact nal _ _ zo
    ·obtain ⟨o,e,_⟩:=x1.obj;exact nal _ _ e
    ·obtain ⟨o,e,_⟩:=x2.obj;exact nal _ _ e
   rw [Av nc]
   exact (hf c hc).1
 done:=by
  intro X hP hw hK hc i pins s σ H E I hf st hg
  subst hP hw hK
  obtain ⟨zz,zi,⟨a,b,zo⟩,x1,x2⟩:=st
  obtain ⟨xs,ys,hq1,hq2,hl⟩:=hg
  obtain ⟨it1,rv1,sq1,EB⟩:=G6 I hq1
  obtain ⟨it2,rv2,sq2,lt2⟩:=G6 I hq2
  have e1:=rv1.length
  have e2:=rv2.length
  have hh:X.A.in1.handled=none:=I.ok.hd hc
  refine Zba (Kj k1 hh p t n1 it1.toArray) (Kj k2 hh q u n2 it2.toArray) ap zz zi zo ⟨x1,sq1⟩ ⟨x2,sq2⟩ (by simp only [AX];omega) fun h' tk kp=>⟨rfl,?_⟩
  have kk:∀c o,c∉[z,TI,TO,p,q]→s.heap.get? c=some o→h'.get? c=some o:=fun c o hc e=>by
   simp only [qa5,Dc,or_false,not_or] at hc
   exact kp c o hc.1 hc.2.2.1 hc.2.2.2.1 hc.2.2.2.2 e
  have ntr:∀c o,H c=some o→c∉[z,TI,TO,p,q]:=fun c o e hc=>by
   rw [(hf c hc).1] at e;cases e
  show Inv X pins σ _ {s with heap:=h',gens:=s.gens,drawn:=s.drawn,toks:=tk}
  refine I.step (g':=s.gens) (d':=s.drawn) (t':=tk) (h':=h') (ch:=[z,TI,TO,p,q]) (fun c hc=>?_) (fun c o _ _ hc e _=>kk c o hc e) (fun c o _ _ hc e _=>⟨o.slots,kk c o hc e⟩) (fun c o _ e n=>n)
   (fun c o hc e=>⟨o,kk c o hc e⟩) (fun c zs e=>e) (fun c o v e=>e) (fun c ps e=>⟨#[],by rw [e];simp⟩) (fun m hm=>?_) (fun c o e=>?_) I.bare
  ·obtain ⟨_,c1,_,c3,c4,c5⟩:=hf c hc
   exact ⟨c3,c1,c4,c5⟩
  ·obtain ⟨o,es,ep,e,r⟩:=hm
   exact ⟨o,es,ep,kk _ o (fun hc=>(hf _ hc).2.1 rfl) e,r⟩
  ·refine (I.hok c o e).stay (fun d v hd e'=>kk d v ?_ e') (fun d e'=>e') fun d zs e'=>e'
   rcases hd with rfl |hd
   ·exact ntr d _ e
   ·exact ntr d _ hd
 self:=fun A i s Q E st h=>by cases st with |mk zz zi zo x1 x2=>exact Zbb zz h
section
variable {X:Cx} {E:XK}
theorem Zbe {tg:Expr} {p pos:Pos} {a b:Expr} {ta:TA} (hg:Gl X "zip") (hm:X.mg "zip"=none) (ha:PA X [a,b] ta) (hs:starEach [a,b] X.env=[(false,eval a X.env),(false,eval b X.env)]:=by rfl) (hs2:starEach [b] X.env=[(false,eval b X.env)]:=by rfl):
 PI X tg (.Call (.Name "zip" p) [a,b] [] pos) (fun σ H R=>ta σ H fun vs H1=>∃k1 k2 t u xs ys,vs=[.ref t,.ref u]∧Dv k1 X.K H1 t xs∧Dv k2 X.K H1 u ys∧R (PN X.K k1 k2 t u) H1):=by
 intro pins s σ H R I h
 refine Call_ (FY I hg hm PyProof.Rows.boot_zip (PyProof.Rows.callWith_type1 (Ay (ha pos pins s σ H _ I h) fun us s1 ⟨vs,H1,I1,r1,q1⟩=>?_) (by rw [hs,hs2]) (by rw [hs2];rfl)))
 obtain ⟨k1,k2,t,u,xs,ys,e,hq1,hq2,q⟩:=q1
 subst e
 cases r1 with
 |cons r rr=>
  cases rr with
  |cons r' rr=>
   cases rr
   cases r
   cases r'
   obtain ⟨it1,rv1,sq1,EB⟩:=G6 I1 hq1
   obtain ⟨it2,rv2,sq2,lt2⟩:=G6 I1 hq2
   refine YX sq1 sq2 fun h' zz zi zo x1 x2 kp=>wpAny_pyIter_zip (s:={s1 with heap:=h'}) zz ?_
   have I2:Inv X pins σ H1 {s1 with heap:=h'}:=I1.kept (t':=s1.toks) kp
   have fr:∀c,s1.heap.objs.size≤c→D7 X pins H1 c:=fun c hc=>I1.fpOk hc (I1.hok.fresh hc)
   have m0:s1.heap.objs.size≠s1.heap.objs.size+4:=Bt (by omega)
   have ap:G5 (s1.heap.objs.size+4) (s1.heap.objs.size+2) (s1.heap.objs.size+3) s1.heap.objs.size (s1.heap.objs.size+1) [s1.heap.objs.size,t] [s1.heap.objs.size+1,u]:=by
    generalize s1.heap.objs.size=n at EB lt2
    exact ⟨Bt (by omega),Bt (by omega),Bt (by omega),Bt (by omega),Bt (by omega),Ca (by omega),Ca (by omega),Ca (by omega),Ca (by omega),Bt (by omega),
     fun z=>by simp only [qa5,Dc,or_false] at z;rcases z with z |z;exact absurd z (Ca (by omega));exact absurd z (Ca (AW EB (EH _ _))),
     fun z=>by simp only [qa5,Dc,or_false] at z;rcases z with z |z;exact absurd z (Ca (by omega));exact absurd z (Ca (AW lt2 (EH _ _))),
     fun z=>by simp only [qa5,Dc,or_false] at z;rcases z with z |z;exact absurd z (Ca (by omega));exact absurd z (Ca (AW EB (EH _ _))),
     fun z=>by simp only [qa5,Dc,or_false] at z;rcases z with z |z;exact absurd z (Ca (by omega));exact absurd z (Ca (AW lt2 (EH _ _))),
     fun z=>by simp only [qa5,Dc,or_false] at z;rcases z with z |z;exact absurd z (Bt (by omega));exact absurd z (Ca lt2),
     fun z=>by simp only [qa5,Dc,or_false] at z;rcases z with z |z;exact absurd z (Ca (by omega));exact absurd z (Ca (AW EB (EH _ _)))⟩
   refine ⟨s1.heap.objs.size+4,[s1.heap.objs.size+4,s1.heap.objs.size+2,s1.heap.objs.size+3,s1.heap.objs.size,s1.heap.objs.size+1],_,_,H1,rfl,I2,Zbd k1 k2 _ _ _ _ _ t u ap (BH EB) (BH (GG lt2)),⟨.none _ zz,zi,⟨_,_,zo⟩,x1,x2⟩,fun c hc=>?_,q⟩
   simp only [qa5,Dc,or_false] at hc
   rcases hc with rfl |rfl |rfl |rfl |rfl
   ·exact fr _ (EH _ _)
   ·exact fr _ (EH _ _)
   ·exact fr _ (EH _ _)
   ·exact fr _ (Ax _)
   ·exact fr _ (EH _ _)
theorem Zbf {tg:Expr} {p pos:Pos} {a b:Expr} {fa:MA} (hg:Gl X "zip") (hm:X.mg "zip"=none) (ha:CA X E [a,b] fa) (hs:starEach [a,b] X.env=[(false,eval a X.env),(false,eval b X.env)]:=by rfl) (hs2:starEach [b] X.env=[(false,eval b X.env)]:=by rfl):
 Ec X E tg (.Call (.Name "zip" p) [a,b] [] pos) (G8 fa):=
 Ii (Zbe hg hm ha hs hs2) fun σ H R ⟨m,ρ,h,hr,er,p⟩=>⟨m,ρ,h,hr,er,Post.bind p fun x h1 v m1 H1 eo p1 k1 hr1 r1 q1=>by
  clear eo
  unfold G7 at q1
  split at q1
  ·rename_i d1 d2
   split at q1
   ·rename_i xs s1 ys s2 e1 e2
    simp only [DK,DVs] at r1
    obtain ⟨v1,w1,rfl,rv1,v2,w2,rfl,rv2,rfl⟩:=r1
    obtain ⟨kd1,t,rfl,f1⟩:=PQ hr1 rv1 e1
    obtain ⟨kd2,u,rfl,f2⟩:=PQ hr1 rv2 e2
    obtain ⟨vs1,sq1,_⟩:=f1 m1 h1 H1 (AB _) (.refl _) hr1 (PR e1)
    obtain ⟨vs2,sq2,_⟩:=f2 m1 h1 H1 (AB _) (.refl _) hr1 (PR e2)
    refine ⟨kd1,kd2,t,u,vs1,vs2,rfl,sq1,sq2,q1 _ m1 H1 (AB _) (.refl _) hr1 fun i m2 h2 H2 p2 k2 hr2 hsr=>?_⟩
    obtain ⟨ws1,sw1,dw1⟩:=f1 m2 h2 H2 p2 k2 hr2 fun p hp=>hsr p (Cj _ hp)
    obtain ⟨ws2,sw2,dw2⟩:=f2 m2 h2 H2 p2 k2 hr2 fun p hp=>hsr p (Be _ hp)
    have n1:=dw1.len
    have n2:=dw2.len
    have nl:(Dw xs ys).length=min xs.length ys.length:=by simp [Dw]
    refine ⟨fun hi=>?_,fun hi=>⟨ws1,ws2,sw1,sw2,by dsimp only at hi;omega⟩⟩
    dsimp only at hi
    have i1:i<xs.length:=by omega
    have i2:i<ys.length:=by omega
    refine ⟨⟨ws1,ws2,sw1,sw2,by omega,by omega⟩,fun y H3 z3_=>?_⟩
    obtain ⟨pp,vv,vv',hp,ey,ev,ev',eH⟩:=z3_
    subst ey eH
    have g1:xs[i]?=some xs[i]:=AQ i1
    have g2:ys[i]?=some ys[i]:=AQ i2
    obtain ⟨c1,z1,r1'⟩:=dw1.get g1
    obtain ⟨c2,z2,r2'⟩:=dw2.get g2
    rw [ev ws1 sw1] at z1
    rw [ev' ws2 sw2] at z2
    cases z1
    cases z2
    refine ⟨.new hp,hr2.new hp,.tup [xs[i],ys[i]],?_,?_⟩
    ·simp [Dw,List.getElem?_zipWith,g1,g2]
    ·simp only [DV]
     exact ⟨pp,_,rfl,BL,.cons (DV.keep (AB _) (.new hp) r1') (.cons (DV.keep (AB _) (.new hp) r2') .nil)⟩
   ·exact q1.elim
  ·exact q1.elim⟩
end
section
variable {X:Cx} {E:XK}
inductive Zbg (vs:List V) (H:Hp) (Q:VK):Prop where
 |mk (r:Addr) (n:Nat) (e:vs=[.ref r]) (hr:H r=some (.ext (MP r n))) (hn:n≤1000) (q:∀p,H p=none→Q (.ref p) (Ao H p (.lst ((List.range n).map fun i=>V.int ((i:Nat):Int))))):Zbg vs H Q
noncomputable def Zbh:D→HD→Out D:=fun d h=>match d with
 |.int i=>@ite _ (0≤i∧i≤1000) (Classical.propDecidable _) (Cq ((List.range i.toNat).map fun k=>D.int ((k:Nat):Int)) h) .stuck
 |_=>.stuck
noncomputable def Zgn (f:ME):ME:=fun ρ h=>(f ρ h).bind Zbh
end
end LS
namespace LS
open PySem PySem.Spec PyProof.Rows L2 PySem.W PySem.Calls
def Rm:Expr→List Str
 |.Name x _=>[x]
 |_=>[]
def tn2:Expr→List Str
 |.Tuple es _ _=>es.flatMap Rm
 |_=>[]
def tnB:Expr→List Str
 |.Name x _=>[x]
 |.Tuple es _ _=>es.flatMap Rm++es.flatMap tn2
 |_=>[]
def ncO (cs:List (Option Nat)) (N:List Str):List Str:=cs.filterMap fun o=>o.map fun j=>N.getD j ""
abbrev FH (tg:Expr) (cs:List (Option Nat)) (N:List Str):List Str:=tnB tg++ncO cs N
theorem Zbi {X:Cx} {E:XK} {i:Nat} {x:Str} {pos:Pos} (hN:X.N[i]?=some x:=by rfl) (hv:HK X.env.scope x:=by first |exact Or.inl rfl |exact Or.inr (Or.inl rfl) |exact Or.inr (Or.inr rfl)) (hd:(x==("__debug__":Str))=false:=by decide) (hcd:(x==("__classdict__":Str))=false:=by decide):Ev X E (.Name x pos) (Aa i):=LM (Jv hN hv hd hcd)
section
variable {X:Cx} {E:XK} {scope:Scope} {cs:List (Option Nat)} {tg iter elt:Expr} {it:MI} {gg:TG} {sg:MG} {ifs:List Expr} {t:MT} {f:ME} {pos:Pos}
theorem Na (hcalm:X.calm=true) (S:CSc X scope (FH tg cs X.N) cs) (hi:Ec X E tg iter it) (hg:Fz X.K cs gg sg)
 (hb:∀(C D:Addr) (cells:List (Str×Addr)) (fp:List Addr) (s₀:Shared) (H₀:Hp) (pins:List (Addr×Obj)),PG (BO X (FH tg cs X.N) scope C D cells fp s₀ H₀ pins) tg gg∧GZ (BO X (FH tg cs X.N) scope C D cells fp s₀ H₀ pins) E0 ifs t∧Ev (BO X (FH tg cs X.N) scope C D cells fp s₀ H₀ pins) E0 elt f)
 (hsf:∀x,foldedSetIterable iter X.env x=pure x:=by intro _;rfl):Ev X E (.ListComp elt [⟨tg,iter,ifs,0⟩] scope pos) (AY cs it sg t f):=XS hcalm S.ok hi hg hb hsf
theorem Nb {i:Nat} {x:Str} {pos' pos2:Pos} (hcalm:X.calm=true) (hN:X.N.Nodup) (hix:X.N[i]?=some x) (hx:FX X.env.scope x) (S:CSc X scope (FH tg cs X.N) cs) (hi:Ec X E tg iter it) (hg:Fz X.K cs gg sg)
 (hb:∀(C D:Addr) (cells:List (Str×Addr)) (fp:List Addr) (s₀:Shared) (H₀:Hp) (pins:List (Addr×Obj)),PG (BO X (FH tg cs X.N) scope C D cells fp s₀ H₀ pins) tg gg∧GZ (BO X (FH tg cs X.N) scope C D cells fp s₀ H₀ pins) E0 ifs t∧Ev (BO X (FH tg cs X.N) scope C D cells fp s₀ H₀ pins) E0 elt f)
 (hsf:∀x,foldedSetIterable iter X.env x=pure x:=by intro _;rfl) (hsw:swapsWith (.ListComp elt [⟨tg,iter,ifs,0⟩] scope pos) (some (.Name x pos')) pos2.line X.env=pure true:=by rfl)
 (hf:X.fn x=true∨X.env.scope.names.lookup x=some .local:=by first |exact .inl rfl |exact .inr rfl |assumption):Ex X E (.Assign [.Name x pos'] (.ListComp elt [⟨tg,iter,ifs,0⟩] scope pos) pos2) (An i (AY cs it sg t f)):=XT hcalm hN hix hx S.ok hi hg hb hsf hsw hf
theorem Zbj {X:Cx} {E:XK} {c P:Addr} {cs:List Nat} {params:Arguments} {body:Expr} {scope:Scope} {k kk:Nat} {Fk:List D→HD→Out D} {f:ME} {fs:Addr} {fd:FuncData} {st:Stmt} {lpos p pos:Pos}
 (L:LamX X c P) (fna:∀x,X.fn x=true) (hr:Room kk X.A) (lv:Lv X E) (et:etOk X.K=true) (Sd:SaidD X.K X.mg st fs fd) (St:MH st) (hkind:CaM X.prog X.w X.K X.mg X.base "_law_kind" k Fk) (S:LSc X scope (cs.map fun j=>X.N.getD j "") cs)
 (hb:∀(a:Addr) (cd:Value) (cl:List (Str×Addr)) (A:Around) (outer:List Env) (s:Shared) (H:Hp) (E':XK),Room k (A.deeper (envX Bn scope s.heap.objs.size a cd cl))→Ev (Ek X.prog X.w X.K X.mg X.base (cs.map fun j=>X.N.getD j "") scope a cd cl A outer s H E') E' body f)
 (hg:Gl X "_law_said") (hkk:k+2≤kk:=by decide) (hdef:defaultsOf params X.env=([],[]):=by rfl)
 (hbind:∀(cl:List (Str×Addr)) (pm cv ctv:Value),bindArgs (kla_fn "<lambda>" Bn params body scope cl pm cv ctv) ⟨[],[]⟩=pure []:=by exact fun _ _ _ _=>rfl)
 (he:starEach [.Lambda params body scope lpos] X.env=(false,eval (.Lambda params body scope lpos) X.env)::starEach [] X.env:=by rfl) (hpl:(backTo pos (starEach [] X.env)).any (·.1)=false:=by rfl):
 Ev X E (.Call (.Name "_law_said" p) [.Lambda params body scope lpos] [] pos) (DS cs Fk f):=ZX L fna hr lv et Sd St hkind S hb hg hkk hdef hbind he hpl
end
noncomputable def Bo (n m:Nat) (g:MS):List D→HD→Out D:=fun ds h=>if ds.length=n then AS m g ds h else .stuck
section
variable {P:Program} {w:World} {K:PySem.W.Frag} {mg:Str→Option Value} {base h:Heap} {x:Str} {st:Stmt} {N ps:List Str} {k:Nat} {g:MS}
theorem Nd (S:Tp.SeenF K x st) (X:K.In h) (G:h.Ns mainGlobals mg) (bd:∀(kV doc pm:Value) (an:Option Addr) (cdv ct:Value) (us:List Value),us.length=ps.length→bindArgs (PySem.W.fnOf x x (defArgs st) (defBody st) (defScope st) .none kV doc pm an cdv ct) ⟨us,[]⟩=pure (ps.zip us)):∃f fd,Dn K mg x ps st f fd:=by
 obtain ⟨_,_,_,_,_,_,_,_,_,_,a,l,c,k⟩:=S
 exact ⟨_,_,Ox l c k,(Ox l c k).binds bd,PySem.W.mg_of X G a⟩
theorem BD (S:Tp.SeenF K x st) (X:K.In h) (G:h.Ns mainGlobals mg)
 (b:N.Nodup→∀(f:Addr) (cdv:Value) (A:Around) (outer:List Env) (s:Shared) (H:Hp) (E:XK),Room k (A.deeper (envOfC x (defScope st) s.heap.objs.size f cdv))→CB (BY (Ba P w K) P w K mg base N x (defScope st) f cdv A outer s H E) E (defBody st) g)
 (bd:∀(kV doc pm:Value) (an:Option Addr) (cdv ct:Value) (us:List Value),us.length=ps.length→bindArgs (PySem.W.fnOf x x (defArgs st) (defBody st) (defScope st) .none kV doc pm an cdv ct) ⟨us,[]⟩=pure (ps.zip us):=by
  intro _ _ _ _ _ _ us hl;rcases us with _ |⟨_,_ |⟨_,_ |⟨_,_ |⟨_,_⟩⟩⟩⟩<;>first |rfl |exact absurd hl (by simp)) (sc:DJ N ps (defScope st):=by exact ⟨rfl,rfl,rfl,by decide +kernel,rfl,by decide +kernel,by decide +kernel⟩):CaE P w K mg base x (k+1) (Bo ps.length N.length g):=by
 obtain ⟨f,fd,D⟩:=Nd S X G bd
 exact ⟨f,fd,_,YO D.fn sc (fun ds h e=>if_neg e) (fun ds h e=>if_pos e) (fun cdv A outer s H E hr=>b sc.nd f cdv A outer s H E hr),D.bd,D.mg,D.fn.kp⟩
theorem mkM (S:Tp.SeenF K x st) (X:K.In h) (G:h.Ns mainGlobals mg)
 (b:N.Nodup→∀(f:Addr) (cdv:Value) (A:Around) (outer:List Env) (s:Shared) (H:Hp),RoomM k (A.deeper (envOfC x (defScope st) s.heap.objs.size f cdv))→CB (Hc P w K mg base N x (defScope st) f cdv A outer s H) E0 (defBody st) g)
 (bd:∀(kV doc pm:Value) (an:Option Addr) (cdv ct:Value) (us:List Value),us.length=ps.length→bindArgs (PySem.W.fnOf x x (defArgs st) (defBody st) (defScope st) .none kV doc pm an cdv ct) ⟨us,[]⟩=pure (ps.zip us):=by
  intro _ _ _ _ _ _ us hl;rcases us with _ |⟨_,_ |⟨_,_ |⟨_,_ |⟨_,_⟩⟩⟩⟩<;>first |rfl |exact absurd hl (by simp)) (sc:DJ N ps (defScope st):=by exact ⟨rfl,rfl,rfl,by decide +kernel,rfl,by decide +kernel,by decide +kernel⟩):CaM P w K mg base x (k+1) (Bo ps.length N.length g):=by
 obtain ⟨f,fd,D⟩:=Nd S X G bd
 exact ⟨f,fd,_,Zy D.fn sc (fun ds h e=>if_neg e) (fun ds h e=>if_pos e) (fun cdv A outer s H hr=>b sc.nd f cdv A outer s H hr),D.bd,D.mg,D.fn.kp,fun ds h e=>if_neg e⟩
theorem mkS (S:Tp.SeenF K "_law_said" st) (X:K.In h) (G:h.Ns mainGlobals mg)
 (bd:∀(kV doc pm:Value) (an:Option Addr) (cdv ct:Value) (us:List Value),us.length=(["_law_call"]:List Str).length→bindArgs (PySem.W.fnOf "_law_said" "_law_said" (defArgs st) (defBody st) (defScope st) .none kV doc pm an cdv ct) ⟨us,[]⟩=pure ((["_law_call"]:List Str).zip us):=by
  intro _ _ _ _ _ _ us hl;rcases us with _ |⟨_,_ |⟨_,_⟩⟩<;>first |rfl |exact absurd hl (by simp)):∃f fd,SaidD K mg st f fd:=by
 obtain ⟨f,fd,D⟩:=Nd S X G bd
 exact ⟨f,fd,SaidD.of D⟩
theorem mkB {bs:List Str} (hb:∀(i:Nat) n,bs[i]?=some n→PySem.W.nsIn K mainGlobals n=some none) (X:K.In h) (G:h.Ns mainGlobals mg):∀x∈bs,mg x=none:=fun x hx=>by
 obtain ⟨i,hi,rfl⟩:=HB hx
 exact PySem.W.mg_none_of X G (hb i _ (AQ hi))
end
end LS
set_option maxHeartbeats 0
namespace LK
open PySem PySem.Spec PyProof.Rows L2 LS
def Bs (i:Nat):Stmt:=PySem.Challenge.pw_lineswitch_k73_odd_rings.main.body.getD i (.Pass ⟨0,0,0,0⟩)
abbrev Nf:Stmt:=Bs 35
abbrev Rn:Stmt:=Bs 13
noncomputable abbrev Ro:MS:=AD (GW (Ae (A3 AI) (Ab (Aa 0) (Ab (mC (.ty "int")) (Ac)))) (JO (Ae (A3 AI) (Ab (Aa 0) (Ab (mC (.ty "bool")) (Ac))))))
noncomputable def E5:List D→HD→Out D:=Bo 1 1 Ro
abbrev Rq:Stmt:=Bs 22
noncomputable abbrev Rr:MS:=Ai (An 1 (KI)) (Ai (BV (BG (Aa 0)) (Dj [2,3,4]) (Ai (IH (Aa 1) (Au (Ab (Aa 2) (Ab (Aa 3) (Ac)))) (Aa 4)) (IH (Aa 1) (Au (Ab (Aa 3) (Ab (Aa 2) (Ac)))) (Aa 4)))) (AD (Aa 1)))
noncomputable def Hi:List D→HD→Out D:=Bo 1 5 Rr
abbrev Rt:Stmt:=Bs 23
noncomputable abbrev Ru:MS:=Ai (An 2 (KI)) (Ai (BV (CL (Ab (Aa 0) (Ac))) (A9 3) (Ai (An 4 (A7 (Ab (Au (Ab (Aa 3) (Ac))) (Ac)))) (Kk (Bq (Aa 4)) (Ai (An 5 (IJ (Aa 4))) (Ai (An 6 (Ad As (Aa 5) (ES (mC (.int 1))))) (AR (AM (Ad (Cd true) (Aa 6) (Aa 2))) (Ai (KJ (Aa 2) (Aa 6) (Aa 5)) (CK (ID (Aa 4) (AY [none,some 5,some 6,some 1] (CL (Ab (Aa 0) (Ac))) (A9 0) (AM (Ad (Cd false) (Au (Ab (Aa 2) (Ab (Aa 0) (Ac)))) (Aa 3))) (Ad Al (Aa 1) (Au (Ab (Aa 0) (Ac)))))))) (AV))))))) (AD (Aa 2)))
noncomputable def KO:List D→HD→Out D:=Bo 2 7 Ru
abbrev Rv:Stmt:=Bs 24
noncomputable abbrev Rw:MS:=AD (Ae (Aw G0) (Ab (AY [none,some 0] (G8 (Ab (Aa 1) (Ab (AK (Aa 1) (AJ (mC (.int 1))) (AL)) (Ac)))) (A9 0) (Bw) (Ad Cg (Aa 1) (Aa 0))) (Ac)))
noncomputable def FI:List D→HD→Out D:=Bo 2 2 Rw
abbrev Rx:Stmt:=Bs 26
noncomputable abbrev Ry:MS:=Ai (An 2 (Ae (Aw B5) (Ab (AY [none,some 1] (BG (Aa 0)) (A9 0) (AM (Ad (CJ false) (Aa 0) (Aa 1))) (Aa 0)) (Ac)))) (AD (Ad Al (AK (Aa 0) (AJ (Ad D9 (Aa 2) (mC (.int 1)))) (AL)) (DT (AK (Aa 1) (AJ (Aa 2)) (AL)))))
noncomputable def KP:List D→HD→Out D:=Bo 2 3 Ry
abbrev Rz:Stmt:=Bs 29
noncomputable abbrev Ng:MS:=Ai (AR (AM (Ad Ea (Aa 1) (Ae (Aw B5) (Ab (Aa 0) (Ac))))) (AD (Ad As (Aa 0) (Aa 1))) (AV)) (AD (Ad Al (Ad Dx (mC (.int 6151)) (Aa 1)) (mC (.int 29))))
noncomputable def KQ:List D→HD→Out D:=Bo 2 2 Ng
abbrev RA:Stmt:=Bs 30
noncomputable abbrev RB:MS:=Ai (An 2 (Ad Al (Ad Dx (Ad Al (Aa 0) (mC (.int 1))) (mC (.int 40692))) (Ad Dx (mC (.int 104729)) (Aa 1)))) (Ai (An 2 (Ad Al (Ad Cr (Ad Dx (Aa 2) (Aa 2)) (mC (.int 2147483399))) (Aa 1))) (AD (Ad Cr (Ad Dx (Aa 2) (Ad Al (Aa 2) (mC (.int 31)))) (mC (.int 2147483563)))))
noncomputable def KR:List D→HD→Out D:=Bo 2 3 RB
abbrev RC:Stmt:=Bs 32
noncomputable abbrev RD:MS:=Ai (EO (Di 2 3) (Ae (A3 Ih) (Ab (Ad As (Aa 0) (mC (.int 0))) (Ab (Aa 1) (Ac))))) (Ai (J1 (Aa 0) (mC (.int 0)) (Aa 2)) (AD (Aa 3)))
noncomputable def Bx:List D→HD→Out D:=Bo 2 4 RD
abbrev RE:Stmt:=Bs 34
noncomputable abbrev RF:MS:=Ai (An 1 (A7 (Ab (Ae (A3 AI) (Ab (Aa 0) (Ab (mC (.glo "NoBoard")) (Ac)))) (Ab (Ae (A3 AI) (Ab (Aa 0) (Ab (mC (.glo "NoLine")) (Ac)))) (Ab (Ae (A3 AI) (Ab (Aa 0) (Ab (mC (.glo "NoSwitching")) (Ac)))) (Ab (Ae (A3 AI) (Ab (Aa 0) (Ab (mC (.glo "NoNumber")) (Ac)))) (Ac))))))) (Ai (An 1 (Ad Al (Aa 1) (A7 (Ab (Ae (A3 AI) (Ab (Aa 0) (Ab (mC (.glo "Unlike")) (Ac)))) (Ab (Ae (A3 AI) (Ab (Aa 0) (Ab (mC (.glo "NoNet")) (Ac)))) (Ab (Ae (A3 AI) (Ab (Aa 0) (Ab (mC (.glo "NoPlace")) (Ac)))) (Ab (Ae (A3 AI) (Ab (Aa 0) (Ab (mC (.glo "NoText")) (Ac)))) (Ac)))))))) (Ai (An 1 (Ad Al (Aa 1) (A7 (Ab (Ae (A3 AI) (Ab (Aa 0) (Ab (mC (.glo "NoRow")) (Ac)))) (Ab (Ae (A3 AI) (Ab (Aa 0) (Ab (mC (.glo "TooMany")) (Ac)))) (Ac)))))) (Ai (AR (BA (BF (Bq (Ae (A3 AI) (Ab (Aa 0) (Ab (mC (.ty "ValueError")) (Ac)))))) (AM (Ad Br (E1 B2 Gk (Aa 1) (mC (.bl true))) (mC (.int 1))))) (AD (mC (.str "! other"))) (AV)) (Ai (AR (Bq (Ad As (Aa 1) (mC (.int 9)))) OT AV) (Ai (An 2 (A7 (Ab (mC (.str "board")) (Ab (mC (.str "line")) (Ab (mC (.str "switching")) (Ab (mC (.str "number")) (Ab (mC (.str "unlike")) (Ab (mC (.str "net")) (Ab (mC (.str "place")) (Ab (mC (.str "text")) (Ab (mC (.str "row")) (Ac)))))))))))) (AD (Ad Al (mC (.str "! ")) (Ad As (Aa 2) (E1 B2 Gm (Aa 1) (mC (.bl true)))))))))))
noncomputable def FJ:List D→HD→Out D:=Bo 1 3 RF
abbrev RG:Stmt:=Bs 36
noncomputable abbrev RH:MS:=Ai (An 1 (A7 (Ab (Au (Ac)) (Ac)))) (Ai (BV (CL (Ab (Aa 0) (Ac))) (A9 2) (An 1 (Ad Al (Aa 1) (AY [none,some 2] (BG (Aa 1)) (A9 0) (Bw) (Ad Al (Aa 0) (Au (Ab (Aa 1) (Ac)))))))) (AD (Aa 1)))
noncomputable def KS:List D→HD→Out D:=Bo 1 3 RH
abbrev RI:Stmt:=Bs 39
noncomputable abbrev RJ:MS:=Ai (An 2 (A7 (Ac))) (Ai (BV (BG (Ad As (Aa 0) (mC (.int 1)))) (Dj [3,4,5]) (CK (DO (Aa 2) (Au (Ab (Aa 3) (Ab (Aa 4) (Ab (Ad Cr (Ad Al (Ad Al (Aa 5) (Ae (Aw Fv) (Ab (Ad (CJ false) (Aa 3) (Aa 1)) (Ac)))) (Ae (Aw Fv) (Ab (Ad (CJ false) (Aa 4) (Aa 1)) (Ac)))) (mC (.int 2))) (Ac)))))))) (AD (Au (Ab (Ad As (Aa 0) (mC (.int 0))) (Ab (Ae (Aw Ds) (Ab (Aa 2) (Ac))) (Ac))))))
noncomputable def KU:List D→HD→Out D:=Bo 2 6 RJ
abbrev RK:Stmt:=Bs 40
noncomputable abbrev RL:MS:=Ai (AR (BA (BF (Bq (Ae (A3 AI) (Ab (Aa 1) (Ab (mC (.ty "tuple")) (Ac)))))) (AM (Ad Ea (Ae (Aw B5) (Ab (Aa 1) (Ac))) (mC (.int 3))))) (AD (mC (.bl false))) (AV)) (Ai (BV (BG (Aa 1)) (A9 2) (AR (BA (BF (Bq (Ae (A3 AI) (Ab (Aa 2) (Ab (mC (.ty "int")) (Ac)))))) (BA (Bq (Ae (A3 AI) (Ab (Aa 2) (Ab (mC (.ty "bool")) (Ac))))) (BF (AM (DM F8 Ea (mC (.int 0)) (Aa 2) (Ad As (Aa 0) (mC (.int 0)))))))) (AD (mC (.bl false))) (AV))) (Ai (An 3 (Ae (Aw Gu) (Ab (AY [none,none,none] (BG (Ad As (Aa 0) (mC (.int 1)))) (Dj [0,1,2]) (Bw) (Au (Ab (Au (Ab (Aa 0) (Ab (Aa 1) (Ac)))) (Ab (Aa 2) (Ac))))) (Ac)))) (Ai (An 4 (mC (.int 0))) (Ai (BV (Ir (Ab (Aa 1) (Ac))) (Di 5 2) (Ai (An 6 (Au (Ab (Ae (A3 Fu) (Ab (Aa 2) (Ab (Ad As (Aa 1) (Ad D9 (Aa 5) (mC (.int 1)))) (Ac)))) (Ab (Ae (A3 Ft) (Ab (Aa 2) (Ab (Ad As (Aa 1) (Ad D9 (Aa 5) (mC (.int 1)))) (Ac)))) (Ac))))) (Ai (AR (BA (AM (Ad Br (E1 Gn Gp (Aa 1) (Aa 2)) (mC (.int 1)))) (AM (Ad (Cd true) (Aa 6) (Aa 3)))) (AD (mC (.bl false))) (AV)) (An 4 (Ad Al (Aa 4) (Ad Cg (Aa 3) (Aa 6))))))) (AD (Ad Cu (Ad Cr (Aa 4) (mC (.int 2))) (mC (.int 1))))))))
noncomputable def Hj:List D→HD→Out D:=Bo 2 7 RL
abbrev RM:Stmt:=Bs 14
noncomputable abbrev Nh:MS:=AD (GW (Ae E5 (Ab (Aa 0) (Ac))) (DM F8 F8 (Aa 1) (Aa 0) (Aa 2)))
noncomputable def Ep:List D→HD→Out D:=Bo 3 3 Nh
abbrev RN:Stmt:=Bs 16
noncomputable abbrev RO:MS:=Ai (AR (BF (Bq (Ae (A3 AI) (Ab (Aa 0) (Ab (mC (.ty "tuple")) (Ac)))))) (AD (mC (.bl false))) (AV)) (Ai (An 2 (ES (mC (.int 1)))) (Ai (BV (BG (Aa 0)) (A9 3) (Ai (AR (BA (BF (Bq (Ae E5 (Ab (Aa 3) (Ac))))) (BF (AM (DM Ea Ea (Aa 2) (Aa 3) (Aa 1))))) (AD (mC (.bl false))) (AV)) (An 2 (Aa 3)))) (AD (mC (.bl true)))))
noncomputable def KV:List D→HD→Out D:=Bo 2 4 RO
abbrev RP:Stmt:=Bs 31
noncomputable abbrev RQ:MS:=Ai (An 2 (Ae KQ (Ab (Aa 0) (Ab (Aa 1) (Ac))))) (Ai (AR (AM (Ad Cu (Ad Cr (Aa 2) (mC (.int 2))) (mC (.int 0)))) (AD (A7 (Ab (Ad JT (Aa 2) (mC (.int 2))) (Ac)))) (AV)) (Ai (An 3 (mC (.int 0))) (Ai (BV (CL (Ab (mC (.int 24)) (Ac))) (A9 4) (An 3 (Ad Al (Ad Dx (Aa 3) (mC (.int 2147483647))) (Ae KR (Ab (Aa 2) (Ab (Aa 4) (Ac))))))) (AD (A7 (Ab (Aa 3) (Ac)))))))
noncomputable def KW:List D→HD→Out D:=Bo 2 5 RQ
abbrev RR:Stmt:=Bs 33
noncomputable abbrev RS:MS:=Ai (Ga 1 2 (Ab (Ae Bx (Ab (Aa 0) (Ab (mC (.int 2147483647)) (Ac)))) (Ab (mC (.int 0)) (Ac)))) (Ai (BV (CL (Ab (mC (.int 24)) (Ac))) (A9 3) (Ai (An 1 (Ad Cr (Ad Al (Ad Al (Ad Dx (Aa 1) (mC (.int 48271))) (mC (.int 11))) (Aa 3)) (mC (.int 2147483647)))) (An 2 (Ad Al (Ad Dx (Aa 2) (mC (.int 2147483647))) (Aa 1))))) (AD (A7 (Ab (Aa 2) (Ac)))))
noncomputable def Hk:List D→HD→Out D:=Bo 1 4 RS
abbrev RT:Stmt:=Bs 38
noncomputable abbrev RU:MS:=Ai (EO (Di 2 3) (Aa 1)) (Ai (EO (Dj [4,5]) (Au (Ab (Ae Bx (Ab (Aa 0) (Ab (Ad Al (Ae (Aw B5) (Ab (Aa 3) (Ac))) (mC (.int 1))) (Ac)))) (Ab (Ae Bx (Ab (Aa 0) (Ab (mC (.int 3)) (Ac)))) (Ac))))) (Ai (An 6 (Ad As (A7 (Ab (Aa 2) (Ab (ES (mC (.int 1))) (Ab (mC (.bl true)) (Ab (mC (.bl false)) (Ab (mC .non) (Ab (mC (.str "0")) (Ab (Au (Ab (mC (.int 0)) (Ac))) (Ab (Ad Ib (mC (.int 10)) (mC (.int 29))) (Ab (mC (.int 2)) (Ab (A7 (Ab (mC (.int 0)) (Ac))) (Ab (mC .edic) (Ac))))))))))))) (Ae Bx (Ab (Aa 0) (Ab (mC (.int 11)) (Ac)))))) (Ai (An 7 (Ad As (Ad Al (Aa 3) (Au (Ab (Au (Ab (mC (.int 0)) (Ab (mC (.int 1)) (Ab (mC (.int 1)) (Ac))))) (Ac)))) (Aa 4))) (Ai (An 8 (Ad Al (Ad Al (AK (Aa 7) (AL) (AJ (Aa 5))) (Au (Ab (Aa 6) (Ac)))) (AK (Aa 7) (AJ (Ad Al (Aa 5) (mC (.int 1)))) (AL)))) (Ai (An 9 (A7 (Ab (Aa 8) (Ab (Aa 8) (Ab (Aa 8) (Ab (AK (Aa 7) (AL) (AJ (mC (.int 2)))) (Ab (Ad Al (Aa 7) (Au (Ab (mC (.int 0)) (Ac)))) (Ab (Ae (Aw Em) (Ab (Aa 7) (Ac))) (Ab (mC .non) (Ab (Au (Ab (Ad As (Aa 7) (mC (.int 1))) (Ab (Ad As (Aa 7) (mC (.int 0))) (Ab (Ad As (Aa 7) (mC (.int 2))) (Ac))))) (Ab (Au (Ab (Ad As (Aa 7) (mC (.int 0))) (Ab (Ad As (Aa 7) (mC (.int 0))) (Ab (mC (.int 0)) (Ac))))) (Ab (Au (Ac)) (Ac))))))))))))) (Ai (An 9 (AY [none,some 2,some 3,some 4] (BG (Aa 9)) (A9 0) (Bw) (Au (Ab (Aa 1) (Ab (Ad Al (Ad Al (AK (Aa 2) (AL) (AJ (Aa 3))) (Au (Ab (Aa 0) (Ac)))) (AK (Aa 2) (AJ (Ad Al (Aa 3) (mC (.int 1)))) (AL))) (Ac)))))) (Ai (An 9 (Ad Al (Aa 9) (A7 (Ab (Au (Ab (Aa 2) (Ab (Ae (Aw Em) (Ab (Aa 3) (Ac))) (Ac)))) (Ab (A7 (Ab (Aa 2) (Ab (Aa 3) (Ac)))) (Ab (Au (Ab (mC (.int 9)) (Ab (Aa 3) (Ac)))) (Ab (Au (Ab (mC (.int 0)) (Ab (Au (Ac)) (Ac)))) (Ab (Au (Ab (mC (.bl true)) (Ab (Au (Ac)) (Ac)))) (Ab (Au (Ab (Aa 2) (Ac))) (Ab (Au (Ab (Aa 2) (Ab (Aa 3) (Ab (Au (Ac)) (Ac))))) (Ac))))))))))) (Ai (An 9 (Ad Al (Aa 9) (A7 (Ab (mC .non) (Ab (mC (.int 1)) (Ab (mC .edic) (Ab (Aa 3) (Ab (Au (Ab (Aa 2) (Ab (DT (Aa 3)) (Ac)))) (Ab (Au (Ab (Aa 2) (Ab (Ad Al (Ad Al (AK (Aa 3) (AL) (AJ (Aa 4))) (AK (Aa 3) (AL) (AJ (mC (.int 1))))) (AK (Aa 3) (AJ (Aa 4)) (AL))) (Ac)))) (Ac)))))))))) (AD (Ad As (Aa 9) (Ae Bx (Ab (Aa 0) (Ab (Ae (Aw B5) (Ab (Aa 9) (Ac))) (Ac))))))))))))))
noncomputable def KY:List D→HD→Out D:=Bo 2 10 RU
abbrev RV:Stmt:=Bs 41
noncomputable abbrev RW:MS:=Ai (BV (BG (Ae KS (Ab (Ad D9 (Ad As (Aa 0) (mC (.int 0))) (mC (.int 1))) (Ac)))) (A9 1) (AR (AM (Ad Cu (AY [none] (BG (Ad As (Ae KU (Ab (Aa 0) (Ab (Aa 1) (Ac)))) (mC (.int 1)))) (A9 0) (AM (Ad Cu (Ad As (Aa 0) (mC (.int 2))) (mC (.int 1)))) (Aa 0)) (A7 (Ac)))) (AD (mC (.bl true))) (AV))) (AD (mC (.bl false)))
noncomputable def KZ:List D→HD→Out D:=Bo 1 2 RW
abbrev RX:Stmt:=Bs 42
noncomputable abbrev RY:MS:=Ai (An 2 (A7 (Ab (Ae Bx (Ab (Aa 0) (Ab (Ad As (Aa 1) (mC (.int 0))) (Ac)))) (Ac)))) (Ai (BV (CL (Ab (Ad Al (mC (.int 2)) (Ae Bx (Ab (Aa 0) (Ab (mC (.int 6)) (Ac))))) (Ac))) (A9 3) (Ai (An 4 (A7 (Ac))) (Ai (BV (BG (Ad As (Aa 1) (mC (.int 1)))) (Dj [5,6,7]) (AR (AM (Ad (CJ false) (Ad As (Aa 2) (ES (mC (.int 1)))) (Au (Ab (Aa 5) (Ab (Aa 6) (Ac)))))) (CK (DO (Aa 4) (Ad D9 (Ad Al (Aa 5) (Aa 6)) (Ad As (Aa 2) (ES (mC (.int 1))))))) (AV))) (Ai (An 4 (AY [none,some 2] (BG (Aa 4)) (A9 0) (AM (Ad (CJ true) (Aa 0) (Aa 1))) (Aa 0))) (AR (AM (Ad Br (Aa 4) (A7 (Ac)))) (CK (DO (Aa 2) (Ad As (Aa 4) (Ae Bx (Ab (Aa 0) (Ab (Ae (Aw B5) (Ab (Aa 4) (Ac))) (Ac))))))) (AV)))))) (AD (Ae (Aw Ds) (Ab (Aa 2) (Ac)))))
noncomputable def K0:List D→HD→Out D:=Bo 2 8 RY
abbrev RZ:Stmt:=Bs 43
noncomputable abbrev R0:MS:=Ai (An 3 (Ae Bx (Ab (Aa 0) (Ab (Ae (Aw B5) (Ab (Aa 2) (Ac))) (Ac))))) (Ai (An 4 (Ad As (A7 (Ab (Ad As (Aa 1) (mC (.int 0))) (Ab (ES (mC (.int 1))) (Ab (mC (.bl true)) (Ab (mC .non) (Ab (mC (.str "0")) (Ab (Au (Ab (mC (.int 0)) (Ac))) (Ab (Ad Ib (mC (.int 10)) (mC (.int 29))) (Ab (Ad As (Aa 2) (mC (.int 0))) (Ab (Ad As (Aa 2) (ES (mC (.int 1)))) (Ab (mC (.bl false)) (Ab (A7 (Ab (mC (.int 0)) (Ac))) (Ab (mC .edic) (Ac)))))))))))))) (Ae Bx (Ab (Aa 0) (Ab (mC (.int 12)) (Ac)))))) (Ai (An 5 (A7 (Ab (Ad Al (Ad Al (AK (Aa 2) (AL) (AJ (Aa 3))) (Au (Ab (Aa 4) (Ac)))) (AK (Aa 2) (AJ (Ad Al (Aa 3) (mC (.int 1)))) (AL))) (Ab (Ad Al (AK (Aa 2) (AJ (Aa 3)) (AL)) (AK (Aa 2) (AL) (AJ (Aa 3)))) (Ab (DT (Aa 2)) (Ab (Ad Al (AK (Aa 2) (AL) (AJ (Aa 3))) (AK (Aa 2) (AJ (Ad Al (Aa 3) (mC (.int 1)))) (AL))) (Ac))))))) (Ai (An 5 (Ad Al (Aa 5) (A7 (Ab (Ad Al (Aa 2) (Aa 2)) (Ab (Ae (Aw Em) (Ab (Aa 2) (Ac))) (Ab (AK (Aa 2) (AL) (AJ (mC (.int 2)))) (Ab (Ad Al (Aa 2) (Au (Ab (Aa 4) (Ac)))) (Ab (mC .non) (Ab (Au (Ab (Aa 2) (Ac))) (Ab (mC .edic) (Ab (mC (.str "")) (Ac)))))))))))) (Ai (CK (DO (Aa 5) (Ad Al (Ad Al (AK (Aa 2) (AL) (AJ (Aa 3))) (Au (Ab (Ad As (Aa 2) (Aa 3)) (Ac)))) (AK (Aa 2) (AJ (Aa 3)) (AL))))) (AD (Ad As (Aa 5) (Ae Bx (Ab (Aa 0) (Ab (mC (.int 13)) (Ac))))))))))
noncomputable def K1:List D→HD→Out D:=Bo 3 6 R0
abbrev R1:Stmt:=Bs 15
noncomputable abbrev R3:MS:=AD (Ae Ep (Ab (Aa 0) (Ab (mC (.int 0)) (Ab (mC (.int 1)) (Ac)))))
noncomputable def K2:List D→HD→Out D:=Bo 1 1 R3
abbrev R4:Stmt:=Bs 37
noncomputable abbrev R5:MS:=Ai (Ga 1 2 (Ab (Ad Al (mC (.int 1)) (Ae Bx (Ab (Aa 0) (Ab (mC (.int 8)) (Ac))))) (Ab (Ae Bx (Ab (Aa 0) (Ab (mC (.int 4)) (Ac)))) (Ac)))) (Ai (An 3 (Ae Hk (Ab (Aa 0) (Ac)))) (Ai (An 4 (AY [none,some 3] (CL (Ab (Aa 1) (Ac))) (A9 0) (Bw) (Ae Bx (Ab (Aa 1) (Ab (mC (.int 2)) (Ac)))))) (Ai (An 5 (A7 (Ac))) (Ai (BV (CL (Ab (Aa 1) (Ac))) (A9 6) (BV (JX (Ab (Ad Al (Aa 6) (mC (.int 1))) (Ab (Aa 1) (Ac)))) (A9 7) (Ai (An 8 (Ae Bx (Ab (Aa 3) (Ab (mC (.int 2)) (Ac))))) (Ai (AR (AM (Ad Cu (Aa 2) (mC (.int 0)))) (An 8 (Ad Cr (Ad Al (Ad As (Aa 4) (Aa 6)) (Ad As (Aa 4) (Aa 7))) (mC (.int 2)))) (AV)) (AR (F5 (AM (Ad JR (Ae Bx (Ab (Aa 3) (Ab (mC (.int 3)) (Ac)))) (mC (.int 0)))) (BA (AM (Ad Br (Aa 2) (mC (.int 1)))) (AM (DM Ea F8 (Aa 6) (mC (.int 3)) (Aa 7))))) (CK (DO (Aa 5) (Au (Ab (Aa 6) (Ab (Aa 7) (Ab (Aa 8) (Ac))))))) (AV)))))) (AD (Au (Ab (Aa 1) (Ab (Ae (Aw Ds) (Ab (Aa 5) (Ac))) (Ac)))))))))
noncomputable def K3:List D→HD→Out D:=Bo 1 9 R5
abbrev R6:Stmt:=Bs 19
noncomputable abbrev R7:MS:=Ai (AR (BA (BF (Bq (Ae (A3 AI) (Ab (Aa 0) (Ab (mC (.ty "tuple")) (Ac)))))) (AM (Ad Br (Ae (Aw B5) (Ab (Aa 0) (Ac))) (mC (.int 3))))) (AD (mC (.bl false))) (AV)) (AD (GW (Ae KV (Ab (AK (Aa 0) (AL) (AJ (mC (.int 2)))) (Ab (Aa 1) (Ac)))) (Ae K2 (Ab (Ad As (Aa 0) (mC (.int 2))) (Ac)))))
noncomputable def K4:List D→HD→Out D:=Bo 2 2 R7
abbrev R8:Stmt:=Bs 20
noncomputable abbrev R9:MS:=Ai (AR (BA (BF (Bq (Ae (A3 AI) (Ab (Aa 0) (Ab (mC (.ty "tuple")) (Ac)))))) (AM (Ad Br (Ae (Aw B5) (Ab (Aa 0) (Ac))) (mC (.int 2))))) (AD (mC (.bl false))) (AV)) (Ai (EO (Di 1 2) (Aa 0)) (Ai (AR (BA (BF (Bq (Ae Ep (Ab (Aa 1) (Ab (mC (.int 1)) (Ab (mC (.int 8)) (Ac))))))) (BF (Bq (Ae (A3 AI) (Ab (Aa 2) (Ab (mC (.ty "tuple")) (Ac))))))) (AD (mC (.bl false))) (AV)) (Ai (AR (BF (Bq (Ae (Aw Du) (Ab (AY [none,some 1] (BG (Aa 2)) (A9 0) (Bw) (Ae K4 (Ab (Aa 0) (Ab (Aa 1) (Ac))))) (Ac))))) (AD (mC (.bl false))) (AV)) (AD (Ae (Aw Du) (Ab (AY [none,none] (G8 (Ab (Aa 2) (Ab (AK (Aa 2) (AJ (mC (.int 1))) (AL)) (Ac)))) (Di 0 1) (Bw) (Ad (Kt HT.lexLt) (AK (Aa 0) (AL) (AJ (mC (.int 2)))) (AK (Aa 1) (AL) (AJ (mC (.int 2)))))) (Ac)))))))
noncomputable def Gv:List D→HD→Out D:=Bo 1 3 R9
abbrev Sa:Stmt:=Bs 21
noncomputable abbrev Ni:MS:=AR (BF (Bq (Ae Gv (Ab (Aa 0) (Ac))))) (Ip "NoNet" (Ab (mC (.str "this is no net")) (Ac))) (AV)
noncomputable def Gw:List D→HD→Out D:=Bo 1 1 Ni
abbrev Sb:Stmt:=Bs 25
noncomputable abbrev Hl:MS:=Ai (CK (Ae Gw (Ab (Aa 0) (Ac)))) (Ai (EO (Di 2 3) (Aa 0)) (Ai (AR (BA (BF (Bq (Ae (A3 AI) (Ab (Aa 1) (Ab (mC (.ty "tuple")) (Ac)))))) (AM (Ad Ea (Ae (Aw B5) (Ab (Aa 1) (Ac))) (mC (.int 3))))) (AD (mC (.bl false))) (AV)) (Ai (AR (BF (Bq (Ae (Aw Du) (Ab (AY [none,some 2] (BG (Aa 1)) (A9 0) (Bw) (Ae Ep (Ab (Aa 0) (Ab (mC (.int 0)) (Ab (Ad D9 (Aa 1) (mC (.int 1))) (Ac)))))) (Ac))))) (AD (mC (.bl false))) (AV)) (Ai (AR (Bq (Ae (Aw Ha) (Ab (AY [none,some 1] (BG (Aa 1)) (A9 0) (Bw) (Ad JR (E1 Gn Gp (Aa 1) (Aa 0)) (mC (.int 1)))) (Ac)))) (AD (mC (.bl false))) (AV)) (Ai (An 4 (Ae Hi (Ab (Aa 3) (Ac)))) (Ai (An 5 (Ad Al (Aa 1) (AK (Aa 1) (AL) (AJ (mC (.int 1)))))) (Ai (AR (BF (Bq (Ae (Aw Du) (Ab (AY [none,some 4] (G8 (Ab (Aa 5) (Ab (AK (Aa 5) (AJ (mC (.int 1))) (AL)) (Ac)))) (A9 0) (Bw) (Ad (Cd false) (Aa 0) (Aa 1))) (Ac))))) (AD (mC (.bl false))) (AV)) (AD (Ad Cu (Ad Cr (Ae FI (Ab (Aa 4) (Ab (Aa 5) (Ac)))) (mC (.int 2))) (mC (.int 1)))))))))))
noncomputable def Es:List D→HD→Out D:=Bo 2 6 Hl
abbrev Se:Stmt:=Bs 27
noncomputable abbrev Nj:MS:=Ai (CK (Ae Gw (Ab (Aa 0) (Ac)))) (Ai (EO (Di 1 2) (Aa 0)) (Ai (An 3 (Ae Hi (Ab (Aa 2) (Ac)))) (Ai (An 4 (Ae KO (Ab (Aa 1) (Ab (Aa 3) (Ac))))) (Ai (BV (BG (Aa 2)) (Dj [5,6,7]) (AR (AM (Ad Cu (Ad Cr (Ad Al (Ad Al (Ae FI (Ab (Aa 3) (Ab (Ad Cg (Aa 4) (Aa 5)) (Ac)))) (Aa 7)) (Ae FI (Ab (Aa 3) (Ab (Ad Cg (Aa 4) (Aa 6)) (Ac))))) (mC (.int 2))) (mC (.int 1)))) (AD (Ae KP (Ab (Ad Cg (Aa 4) (Aa 5)) (Ab (Ad Cg (Aa 4) (Aa 6)) (Ac))))) (AV))) (AD (mC .non))))))
noncomputable def Eu:List D→HD→Out D:=Bo 1 8 Nj
abbrev s_law:Stmt:=Bs 44
noncomputable abbrev Nk:MS:=Ai (BV (CL (Ab (Ae (A3 Ft) (Ab (mC (.int 1)) (Ab (Ae (A3 Fu) (Ab (Ae (Aw B5) (Ab (Aa 0) (Ac))) (Ab (mC (.int 4)) (Ac)))) (Ac)))) (Ac))) (A9 1) (Ai (An 2 (Ae KW (Ab (Aa 0) (Ab (Aa 1) (Ac))))) (Ai (An 3 (Ae K3 (Ab (Aa 2) (Ac)))) (Ai (An 4 (Ae Eu (Ab (Aa 3) (Ac)))) (Ai (AR (Bq (Ae KZ (Ab (Aa 3) (Ac)))) (AR (AM (Ad Eb (Aa 4) (mC .non))) (AD (mC (.bl false))) (AV)) (AR (BA (BF (Bq (Ae Hj (Ab (Aa 3) (Ab (Aa 4) (Ac)))))) (BA (AM (Ad Br (Ae Eu (Ab (Aa 3) (Ac))) (Aa 4))) (AM (Ad Eb (Ae Es (Ab (Aa 3) (Ab (Aa 4) (Ac)))) (mC (.bl true)))))) (AD (mC (.bl false))) (AV))) (Ai (An 5 (Ae Hk (Ab (Aa 2) (Ac)))) (Ai (An 6 (AY [none,some 5,some 3] (CL (Ab (mC (.int 3)) (Ac))) (A9 0) (Bw) (Ae K0 (Ab (Aa 1) (Ab (Aa 2) (Ac)))))) (Ai (AR (AM (Ad Eb (Aa 4) (mC .non))) (An 6 (Ad Al (Aa 6) (A7 (Ab (Aa 4) (Ab (Ad Al (AK (Aa 4) (AJ (mC (.int 1))) (AL)) (AK (Aa 4) (AL) (AJ (mC (.int 1))))) (Ab (DT (Aa 4)) (Ac))))))) (AV)) (Ai (An 7 (Ad Al (Aa 6) (AY [none,some 5,some 3] (BG (Aa 6)) (A9 0) (Bw) (Ae K1 (Ab (Aa 1) (Ab (Aa 2) (Ab (Aa 0) (Ac)))))))) (Ai (BV (BG (Aa 7)) (A9 8) (Ai (Ga 9 10 (Ab (Ae Hj (Ab (Aa 3) (Ab (Aa 8) (Ac)))) (Ab (Ae (Aw CN) (Ab (Au (Ab (Aa 3) (Ab (Aa 8) (Ac)))) (Ac))) (Ac)))) (AR (BA (AM (Ad Br (Ae (Aw CN) (Ab (Ae Es (Ab (Aa 3) (Ab (Aa 8) (Ac)))) (Ac))) (Ae (Aw CN) (Ab (Aa 9) (Ac))))) (AM (Ad Br (Ae (Aw CN) (Ab (Au (Ab (Aa 3) (Ab (Aa 8) (Ac)))) (Ac))) (Aa 10)))) (AD (mC (.bl false))) (AV)))) (Ai (An 11 (Ae KY (Ab (Aa 2) (Ab (Aa 3) (Ac))))) (Ai (An 9 (Ad As (A7 (Ab (mC (.str "! net")) (Ab (mC (.str "told")) (Ac)))) (Ae (Aw Fv) (Ab (Ae Gv (Ab (Aa 11) (Ac))) (Ac))))) (Ai (AR (AM (Ad Br (DS [11] FJ (Ae Eu (Ab (Aa 0) (Ac)))) (Aa 9))) (AD (mC (.bl false))) (AV)) (AR (AM (Ad Br (DS [11] FJ (Ae Es (Ab (Aa 0) (Ab (mC .non) (Ac))))) (Aa 9))) (AD (mC (.bl false))) (AV))))))))))))))) (AD (mC (.bl true)))
noncomputable def F_law:List D→HD→Out D:=Bo 1 12 Nk
end LK
namespace LK
abbrev AO:=Nat×List Nat
def Bv (A:List AO) (e:Nat):Option (List Nat):=(A.find? fun x=>decide (x.1=e)).map (·.2)
def has (A:List AO) (e:Nat):Bool:=A.any fun x=>decide (x.1=e)
def Ew (n:Nat) (adj:Nat→Nat→Bool) (e:Nat) (p:List Nat):List (List Nat):=((List.range n).filter (adj e)).map fun v=>p++[v]
theorem has_iff {A:List AO} {e:Nat}:has A e=true↔∃p,(e,p)∈A:=by
 unfold has
 rw [qb4]
 constructor
 ·rintro ⟨⟨e',p⟩,hm,h⟩
  have:=of_decide_eq_true h
  simp only at this
  subst this
  exact ⟨p,hm⟩
 ·rintro ⟨p,hm⟩
  exact ⟨(e,p),hm,decide_eq_true rfl⟩
structure Forest (n:Nat) (adj:Nat→Nat→Bool) (A:List AO):Prop where
 lt:∀e p,(e,p)∈A→e<n
 tr:∀e p,(e,p)∈A→p=[e]∨∃r q,(r,q)∈A∧adj r e=true∧p=q++[e]
 nd:∀e p,(e,p)∈A→p.Nodup
 pf:∀e p,(e,p)∈A→∀x∈p,∃q,(x,q)∈A∧q <+:p
 ky:(A.map (·.1)).Nodup
theorem Forest.one {n:Nat} {adj:Nat→Nat→Bool} {A:List AO} (F:Forest n adj A) {e:Nat} {p q:List Nat} (h1:(e,p)∈A) (h2:(e,q)∈A):p=q:=by
 have key:∀(l:List AO),(l.map (·.1)).Nodup→(e,p)∈l→(e,q)∈l→p=q:=fun l=>by
  induction l with
  |nil=>intro _ h;cases h
  |cons x l ih=>
   intro nd h1 h2
   rw [BE,qbN] at nd
   rcases qa5.mp h1 with z1 |z1
   ·rcases qa5.mp h2 with z2 |z2
    ·rw [←z1] at z2;cases z2;rfl
    ·subst z1;exact absurd (qaL.mpr ⟨_,z2,rfl⟩) nd.1
   ·rcases qa5.mp h2 with z2 |z2
    ·subst z2;exact absurd (qaL.mpr ⟨_,z1,rfl⟩) nd.1
    ·exact ih nd.2 z1 z2
 exact key A F.ky h1 h2
theorem Forest.last {n:Nat} {adj:Nat→Nat→Bool} {A:List AO} (F:Forest n adj A) {e:Nat} {p:List Nat} (h:(e,p)∈A):∃q,p=q++[e]:=by
 rcases F.tr e p h with rfl |⟨r,q,_,_,rfl⟩
 ·exact ⟨[],rfl⟩
 ·exact ⟨q,rfl⟩
theorem Forest.nil {n:Nat} {adj:Nat→Nat→Bool}:Forest n adj []:=⟨fun _ _ h=>(nomatch h),fun _ _ h=>(nomatch h),fun _ _ h=>(nomatch h),fun _ _ h=>(nomatch h),List.nodup_nil⟩
theorem Forest.add {n:Nat} {adj:Nat→Nat→Bool} {A:List AO} (F:Forest n adj A) {e:Nat} {p:List Nat} (he:e<n) (hn:has A e=false) (hp:p=[e]∨∃r q,(r,q)∈A∧adj r e=true∧p=q++[e]):Forest n adj (A++[(e,p)]):=by
 have hno:∀q,(e,q)∉A:=fun q z=>by
  have:=has_iff.mpr ⟨q,z⟩
  rw [hn] at this
  cases this
 refine ⟨fun e' p' h=>?_,fun e' p' h=>?_,fun e' p' h=>?_,fun e' p' h x hx=>?_,?_⟩
 ·rcases qaG.mp h with z |z
  ·exact F.lt _ _ z
  ·rw [qa4] at z;cases z;exact he
 ·rcases qaG.mp h with z |z
  ·rcases F.tr _ _ z with w |⟨r,q,h1,h2,h3⟩
   ·exact .inl w
   ·exact .inr ⟨r,q,Cj _ h1,h2,h3⟩
  ·rw [qa4] at z
   cases z
   rcases hp with w |⟨r,q,h1,h2,h3⟩
   ·exact .inl w
   ·exact .inr ⟨r,q,Cj _ h1,h2,h3⟩
 ·rcases qaG.mp h with z |z
  ·exact F.nd _ _ z
  ·rw [qa4] at z
   cases z
   rcases hp with rfl |⟨r,q,h1,h2,rfl⟩
   ·simp
   ·rw [qbM]
    refine ⟨F.nd _ _ h1,by simp,fun a ha b hb=>?_⟩
    rw [qa4] at hb
    subst hb
    rintro rfl
    obtain ⟨q',hq,_⟩:=F.pf _ _ h1 _ ha
    exact hno _ hq
 ·rcases qaG.mp h with z |z
  ·obtain ⟨q,h1,h2⟩:=F.pf _ _ z x hx
   exact ⟨q,Cj _ h1,h2⟩
  ·rw [qa4] at z
   cases z
   rcases hp with rfl |⟨r,q,h1,h2,rfl⟩
   ·rw [qa4] at hx
    subst hx
    exact ⟨_,Be _ (qa4.mpr rfl),AB _⟩
   ·rcases qaG.mp hx with y |y
    ·obtain ⟨q',h3,h4⟩:=F.pf _ _ h1 x y
     exact ⟨q',Cj _ h3,h4.trans (EF _ _)⟩
    ·rw [qa4] at y
     subst y
     exact ⟨_,Be _ (qa4.mpr rfl),AB _⟩
 ·rw [Cw,qbM]
  refine ⟨F.ky,by simp,fun a ha b hb=>?_⟩
  simp at hb
  subst hb
  rintro rfl
  obtain ⟨⟨e',q⟩,h1,h2⟩:=qaL.mp ha
  simp only at h2
  subst h2
  exact hno _ h1
def IK (n:Nat) (adj:Nat→Nat→Bool) (A:List AO):Prop:=∀a pa,(a,pa)∈A→∀b,b<n→adj a b=true→∃pb,(b,pb)∈A∧pb.head?=pa.head?
structure Walk (n:Nat) (adj:Nat→Nat→Bool) (r:Nat) (O N:List AO) (S:List (List Nat)):Prop where
 F:Forest n adj (O++N)
 ro:∀e p,(e,p)∈N→p.head?=some r
 nb:∀a pa,(a,pa)∈N→∀b,b<n→adj a b=true→(∃pb,(b,pb)∈O++N)∨∃q,q++[b]∈S
 st:∀w∈S,w=[r]∨∃a q v,(a,q)∈N∧adj a v=true∧v<n∧w=q++[v]
 at':(∃p,(r,p)∈O++N)∨[r]∈S
section
variable {n r:Nat} {adj:Nat→Nat→Bool} {O N:List AO} {S:List (List Nat)}
theorem Walk.start (F:Forest n adj O):Walk n adj r O [] [[r]]:=⟨by rwa [B9],fun _ _ h=>(nomatch h),fun _ _ h=>(nomatch h),fun w hw=>.inl (qa4.mp hw),.inr (qa4.mpr rfl)⟩
theorem Walk.skip {q:List Nat} {e:Nat} (W:Walk n adj r O N (S++[q++[e]])) (h:has (O++N) e=true):Walk n adj r O N S:=by
 have hin:∀(b:Nat) (q':List Nat),q'++[b]∈S++[q++[e]]→(∃pb,(b,pb)∈O++N)∨q'++[b]∈S:=fun b q' z=>by
  rcases qaG.mp z with z |z
  ·exact .inr z
  ·rw [qa4] at z
   have:=(DG z rfl).2
   cases this
   exact .inl (has_iff.mp h)
 refine ⟨W.F,W.ro,fun a pa ha b hb hab=>?_,fun w hw=>W.st w (Cj _ hw),?_⟩
 ·rcases W.nb a pa ha b hb hab with z |⟨q',z⟩
  ·exact .inl z
  ·rcases hin b q' z with y |y
   ·exact .inl y
   ·exact .inr ⟨q',y⟩
 ·rcases W.at' with z |z
  ·exact .inl z
  ·rcases hin r [] z with y |y
   ·exact .inl y
   ·exact .inr y
theorem Walk.take {q:List Nat} {e:Nat} (hr:r<n) (W:Walk n adj r O N (S++[q++[e]])) (h:has (O++N) e=false):e<n∧Walk n adj r O (N++[(e,q++[e])]) (S++Ew n adj e (q++[e])):=by
 have hw:=W.st (q++[e]) (Be _ (qa4.mpr rfl))
 have hp:q++[e]=[e]∨∃a q',(a,q')∈O++N∧adj a e=true∧q++[e]=q'++[e]:=by
  rcases hw with z |⟨a,q',v,h1,h2,h3,h4⟩
  ·have:=(DG (s₁:=q) (s₂:=[]) z rfl)
   rw [this.1]
   exact .inl rfl
  ·have:=DG h4 rfl
   have e2:e=v:=by have:=this.2;cases this;rfl
   subst e2
   exact .inr ⟨a,q',Be _ h1,h2,h4⟩
 have he:e<n:=by
  rcases hw with z |⟨a,q',v,h1,h2,h3,h4⟩
  ·have:=(DG (s₁:=q) (s₂:=[]) z rfl).2
   cases this
   exact hr
  ·have:=(DG h4 rfl).2
   cases this
   exact h3
 have hro:(q++[e]).head?=some r:=by
  rcases hw with z |⟨a,q',v,h1,h2,h3,h4⟩
  ·rw [z];rfl
  ·have hq:=W.ro _ _ h1
   rw [h4]
   cases q' with
   |nil=>cases hq
   |cons x xs=>exact hq
 refine ⟨he,?_,fun e' p h'=>?_,fun a pa ha b hb hab=>?_,fun w hw'=>?_,?_⟩
 ·rw [←Cf]
  exact W.F.add he h hp
 ·rcases qaG.mp h' with z |z
  ·exact W.ro _ _ z
  ·rw [qa4] at z;cases z;exact hro
 ·rcases qaG.mp ha with z |z
  ·rcases W.nb a pa z b hb hab with ⟨pb,y⟩ |⟨q',y⟩
   ·exact .inl ⟨pb,by rw [←Cf];exact Cj _ y⟩
   ·rcases qaG.mp y with y |y
    ·exact .inr ⟨q',Cj _ y⟩
    ·rw [qa4] at y
     have:=(DG y rfl).2
     cases this
     exact .inl ⟨_,Be _ (Be _ (qa4.mpr rfl))⟩
  ·rw [qa4] at z
   cases z
   refine .inr ⟨q++[e],Be _ ?_⟩
   unfold Ew
   exact qaL.mpr ⟨b,qc8.mpr ⟨qbR.mpr hb,hab⟩,rfl⟩
 ·rcases qaG.mp hw' with z |z
  ·rcases W.st w (Cj _ z) with y |⟨a,q',v,h1,h2,h3,h4⟩
   ·exact .inl y
   ·exact .inr ⟨a,q',v,Cj _ h1,h2,h3,h4⟩
  ·unfold Ew at z
   obtain ⟨v,hv,rfl⟩:=qaL.mp z
   have:=qc8.mp hv
   exact .inr ⟨e,q++[e],v,Be _ (qa4.mpr rfl),this.2,qbR.mp this.1,rfl⟩
 ·rcases W.at' with ⟨p,z⟩ |z
  ·exact .inl ⟨p,by rw [←Cf];exact Cj _ z⟩
  ·rcases qaG.mp z with z |z
   ·exact .inr (Cj _ z)
   ·rw [qa4] at z
    have:=(DG (s₁:=([]:List Nat)) (s₂:=q) z rfl)
    have e2:r=e:=by have:=this.2;cases this;rfl
    subst e2
    exact .inl ⟨_,Be _ (Be _ (qa4.mpr rfl))⟩
theorem Walk.done (sy:∀a b,adj a b=adj b a) (C:IK n adj O) (W:Walk n adj r O N []):IK n adj (O++N)∧∃p,(r,p)∈O++N:=by
 refine ⟨fun a pa ha b hb hab=>?_,?_⟩
 ·rcases qaG.mp ha with z |z
  ·obtain ⟨pb,h1,h2⟩:=C a pa z b hb hab
   exact ⟨pb,Cj _ h1,h2⟩
  ·rcases W.nb a pa z b hb hab with ⟨pb,y⟩ |⟨q,y⟩
   ·rcases qaG.mp y with y |y
    ·obtain ⟨pa',h1,_⟩:=C b pb y a (W.F.lt _ _ ha) (by rw [sy];exact hab)
     have nd:=W.F.ky
     rw [Cw,qbM] at nd
     exact absurd rfl (nd.2.2 a (qaL.mpr ⟨_,h1,rfl⟩) a (qaL.mpr ⟨_,z,rfl⟩))
    ·exact ⟨pb,Be _ y,by rw [W.ro _ _ y,W.ro _ _ z]⟩
   ·cases y
 ·rcases W.at' with z |z
  ·exact z
  ·cases z
end
end LK
namespace LK
open PySem PySem.Spec PyProof.Rows L2 LS
theorem _root_.LS.Sm.len {h h':HD} (s:Sm h h'):h.length≤h'.length:=by
 cases e:h.length with
 |zero=>exact Bu _
 |succ n=>
  have hn:n<h.length:=by omega
  have:=s n h[n] (AQ hn)
  have:=(qa3.mp this).1
  omega
theorem sz {n:Nat} (hn:n≤8):(List.range n).length≤sizeLine:=by
 rw [List.length_range];unfold sizeLine;omega
open PySem.Builtin.Int in
theorem Zbk {ns:List Int} {k:Nat} (hb:∀i∈ns,Builtin.Int.intBits i≤2^20) (hk:k≤1000):∃c:Int,Builtin.Int.intBits c≤2^20∧∀h,Pu (KQ [.scr ns,.int (k:Nat)] h) h (.int c):=by
 by_cases hl:k<ns.length
 ·refine ⟨ns[k],hb _ (DY hl),fun h=>?_⟩
  change Wp (AS 2 Ng [.scr ns,.int (k:Nat)] h) _
  refine Eq.mpr (Bd) ?_
  have:(k:Int)<ns.length:=by omega
  simp [this]
  refine Aj (Yr (AQ hl)) ?_
  simp [Sm.refl]
 ·refine ⟨6151*(k:Int)+29,?_,fun h=>?_⟩
  ·rw [intBits_le_iff]
   have h1:(6151*(k:Int)+29).natAbs<2^30:=by omega
   exact AW h1 (Nat.pow_le_pow_right (by decide) (by omega))
  ·change Wp (AS 2 Ng [.scr ns,.int (k:Nat)] h) _
   refine Eq.mpr (Bd) ?_
   have:¬(k:Int)<ns.length:=by omega
   simp [this]
   rw [Mg (by decide) (by decide)]
   simp [Sm.refl]
def Sg (c:Int) (k:Nat):Int:=(((c+1)*40692+104729*(k:Int))*((c+1)*40692+104729*(k:Int))) % 2147483399+(k:Int)
theorem Sh {h:HD}:Gc [.int 24] h=.ok ((List.range 24).map fun k=>D.int ((k:Nat):Int),[]) h:=EV (n:=24) (by decide)
theorem Zbl {c:Int} {k:Nat} (hc:Builtin.Int.intBits c≤2^20) (hk:k≤1000):∃r:Int,∀h,Pu (KR [.int c,.int (k:Nat)] h) h (.int r):=by
 refine ⟨Sg c k*(Sg c k+31) % 2147483563,fun h=>?_⟩
 change Wp (AS 3 RB [.int c,.int (k:Nat)] h) _
 refine Eq.mpr (Bd) ?_
 have bX:Builtin.Int.intBits ((c+1)*40692+104729*(k:Int))≤16777216:=by
  have hk':Builtin.Int.intBits ((k:Nat):Int)≤10:=PySem.intBits_le_iff.mpr (by omega)
  have:=PySem.intBits_add_le (PySem.intBits_mul_le (PySem.intBits_add_le hc (show Builtin.Int.intBits 1≤1 by decide)) (show Builtin.Int.intBits 40692≤16 by decide)) (PySem.intBits_mul_le (show Builtin.Int.intBits 104729≤17 by decide) hk')
  exact BU this (by decide)
 have h1:=Int.emod_nonneg (((c+1)*40692+104729*(k:Int))*((c+1)*40692+104729*(k:Int))) (show (2147483399:Int)≠0 by decide)
 have h2:=Int.emod_lt_of_pos (((c+1)*40692+104729*(k:Int))*((c+1)*40692+104729*(k:Int))) (show (0:Int)<2147483399 by decide)
 simp
 rw [J9 (by decide) (by decide)]
 simp
 rw [Mg (by decide) (by decide)]
 simp
 rw [Yu bX bX]
 simp
 rw [EY (by decide)]
 simp
 rw [Mg (by omega) (by omega)]
 simp
 rw [EY (by decide)]
 simp
 exact ⟨rfl,.refl _⟩
def BoxAt (h:HD) (b:Nat):Prop:=∃n:Int,h[b]?=some (.lst [.int n])
inductive Si (ns:List Int) (k:Nat) (c:Int) (h:HD) (xs:List Nat) (ρ:Ah) (h':HD):Prop where
 |mk (N:Int) (x:Option D) (f0:ρ=[some (.scr ns),some (.int (k:Nat)),some (.int c),some (.int N),x]) (f1:Sm h h') (f2:∀j∈xs,j<24):Si ns k c h xs ρ h'
theorem Zbm {ns:List Int} {k:Nat} {h:HD} {Q:D→HD→Prop} (hb:∀i∈ns,Builtin.Int.intBits i≤2^20) (hk:k≤1000) (q:∀l h',BoxAt h' l→h.length≤l→Sm h h'→Q (.loc l) h'):Wp (KW [.scr ns,.int (k:Nat)] h) Q:=by
 change Wp (AS 5 (RQ) [.scr ns,.int (k:Nat)] h) _
 refine Eq.mpr (Bd) ?_
 obtain ⟨c,bc,pc⟩:=Zbk (k:=k) hb hk
 simp
 refine (pc h).wp fun h1 s1=>?_
 rw [EY (by decide)]
 simp
 by_cases hz:c % 2=0
 ·simp [hz]
  rw [Yv (by decide) (by decide)]
  simp
  exact A0 (by simp) fun l h' s e el _=>q l h' ⟨_,e⟩ (by have:=s1.len;omega) (s1.trans s)
 ·simp [hz]
  refine Ct (src:=[]) (xs:=List.range 24) (fun i=>.int ((i:Nat):Int)) (Si ns k c h) ?_ (fun ys ρ h' _=>BN) ?_ ?_
  ·simp [Sh]
   exact ⟨_,_,rfl,s1,fun j hj=>qbR.mp hj⟩
  ·rintro x xs ρ h' ⟨N,y,rfl,sh,hx⟩
   refine ⟨_,rfl,?_⟩
   obtain ⟨m,pm⟩:=Zbl (k:=x) bc (by have:=hx x AZ;omega)
   simp
   rw [J9 (by decide) (by decide)]
   simp
   refine (pm h').wp fun h2 s2=>?_
   simp [Bh]
   exact ⟨_,_,rfl,sh.trans s2,fun j hj=>hx j (A6 _ hj)⟩
  ·rintro ρ h' ⟨N,y,rfl,sh,_⟩
   simp
   exact A0 (by simp) fun l h' s e el _=>q l h' ⟨_,e⟩ (by have:=sh.len;omega) (sh.trans s)
def Smx (b:Nat) (h h':HD):Prop:=∀(l:Nat) (c:Cell),l≠b→h[l]?=some c→h'[l]?=some c
theorem Smx.refl (b:Nat) (h:HD):Smx b h h:=fun _ _ _ e=>e
theorem Smx.trans {b:Nat} {h h1 h2:HD} (a:Smx b h h1) (c:Smx b h1 h2):Smx b h h2:=fun l x n e=>c l x n (a l x n e)
theorem BP {b:Nat} {h h':HD} (s:Sm h h'):Smx b h h':=fun l c _ e=>s l c e
theorem DA {b:Nat} {m:Int} {h:HD} {Q:D→HD→Prop} (hx:BoxAt h b) (h1:0<m) (h2:m<18446744073709551616) (q:∀d h',0≤d→d<m→BoxAt h' b→Smx b h h'→Q (.int d) h'):Wp (Bx [.loc b,.int m] h) Q:=by
 change Wp (AS 4 RD [.loc b,.int m] h) _
 refine Eq.mpr (Bd) ?_
 obtain ⟨N,e⟩:=hx
 simp
 rw [show (0:Int)=((0:Nat):Int) from rfl]
 refine Aj (EX e (k:=0) rfl) ?_
 simp
 refine Aj (Yw h1 h2) ?_
 simp
 rw [show (0:Int)=((0:Nat):Int) from rfl]
 refine Aj (Ys e (by simp)) ?_
 simp
 have hl:b<h.length:=(qa3.mp e).1
 refine q _ _ (Int.emod_nonneg _ (by omega)) (Int.emod_lt_of_pos _ h1) ⟨_,by rw [BR hl]⟩ fun l c ne el=>?_
 rw [Bp (Ne.symm ne)]
 exact el
theorem BoxAt.sm {b:Nat} {h h':HD} (x:BoxAt h b) (s:Sm h h'):BoxAt h' b:=let ⟨n,e⟩:=x;⟨n,s _ _ e⟩
theorem BoxAt.smx {a b:Nat} {h h':HD} (x:BoxAt h b) (s:Smx a h h') (ne:b≠a):BoxAt h' b:=let ⟨n,e⟩:=x;⟨n,s _ _ ne e⟩
theorem BoxAt.new {b:Nat} {h:HD} {c:Cell} (x:BoxAt h b):BoxAt (h++[c]) b:=x.sm (.app _ _)
def Plain (h:HD):D→Prop
 |.int _=>True
 |.bl _=>True
 |.non=>True
 |.str _=>True
 |.tup _=>True
 |.edic=>True
 |.loc l=>∃ds,h[l]?=some (.lst ds)
 |_=>False
theorem Plain.sm {h h':HD} {d:D} (p:Plain h d) (s:Sm h h'):Plain h' d:=by
 cases d with
 |loc l=>obtain ⟨ds,e⟩:=p;exact ⟨ds,s _ _ e⟩
 |_=>exact p
def A8:D→List D
 |.tup ds=>ds
 |_=>[]
def Plain2 (h:HD) (d:D):Prop:=Plain h d∧∀x∈A8 d,Plain h x
def Plain3 (h:HD) (d:D):Prop:=Plain h d∧∀x∈A8 d,Plain2 h x
theorem Plain2.sm {h h':HD} {d:D} (p:Plain2 h d) (s:Sm h h'):Plain2 h' d:=⟨p.1.sm s,fun x hx=>(p.2 x hx).sm s⟩
theorem Plain3.sm {h h':HD} {d:D} (p:Plain3 h d) (s:Sm h h'):Plain3 h' d:=⟨p.1.sm s,fun x hx=>(p.2 x hx).sm s⟩
def Gx:D→Bool
 |.int i=>decide (0≤i)&&decide (i≤1)
 |_=>false
def Sj:D→Bool
 |.tup ds=>decide (1≤ds.length)&&decide (ds.length≤8)
 |_=>false
def Sk (d:D):Bool:=Sj d&&(A8 d).all Gx
def Nl (d:D):Nat:=(A8 d).length
def Zbn (d:D):Bool:=Sj d&&(A8 d).all Sk&&(A8 d).all fun x=>Nl x==Nl ((A8 d).getD 0 .non)
theorem p_is_between_int {i a b:Int} {h:HD}:Pu (Ep [.int i,.int a,.int b] h) h (.bl (decide (a≤i)&&decide (i≤b))):=by
 change Wp (AS 3 (Nh) [.int i,.int a,.int b] h) _
 refine Eq.mpr (Bd) ?_
 have e:E5 [.int i] h=.ok (.bl true) h:=rfl
 simp [e]
 by_cases h1:a≤i<;>simp [h1,Az,Sm.refl]
theorem Sl {d:D} {a b:Int} {h:HD} (e:E5 [d] h=.ok (.bl false) h):Pu (Ep [d,.int a,.int b] h) h (.bl false):=by
 change Wp (AS 3 (Nh) [d,.int a,.int b] h) _
 refine Eq.mpr (Bd) ?_
 simp [e,Sm.refl]
def DB:D→Bool
 |.int _=>true
 |_=>false
theorem Nm {d:D} {h:HD} (p:Plain h d):E5 [d] h=.ok (.bl (DB d)) h:=by
 cases d with
 |loc l=>
  obtain ⟨ds,e⟩:=p
  have i1:AI (.loc l) (.ty "int") h=.ok (.bl false) h:=Qf e
  have w:Wp (AS 1 Ro [.loc l] h) fun d h'=>d=.bl false∧h'=h:=by
   refine Eq.mpr Bd ?_
   simp [-Z0,i1]
  obtain ⟨a,h',e',rfl,rfl⟩:=Wp.ex w
  exact e'
 |tup ds=>rfl
 |int i=>rfl
 |bl b=>rfl
 |non=>rfl
 |str x=>rfl
 |edic=>rfl
 |_=>exact p.elim
theorem FK {d:D} (h:DB d=true):∃i,d=.int i:=by cases d<;>first |exact ⟨_,rfl⟩ |cases h
theorem Zbo {d:D} {h:HD} (p:Plain h d):Pu (K2 [d] h) h (.bl (Gx d)):=by
 change Wp (AS 1 (R3) [d] h) _
 refine Eq.mpr Bd ?_
 simp
 cases hw:DB d with
 |true=>
  obtain ⟨i,rfl⟩:=FK hw
  exact p_is_between_int.wp fun h' s=>⟨rfl,s⟩
 |false=>
  have e:=Nm p
  rw [hw] at e
  have e2:Gx d=false:=by cases d<;>first |rfl |cases hw
  exact (Sl e).wp fun h' s=>⟨by rw [e2],s⟩
def CT:D→Bool
 |.tup _=>true
 |_=>false
theorem Hm {d:D} {h:HD} (p:Plain h d):AI d (.ty "tuple") h=.ok (.bl (CT d)) h:=by
 cases d with
 |loc l=>obtain ⟨ds,e⟩:=p;exact Z1 e
 |tup ds=>rfl
 |int i=>rfl
 |bl b=>rfl
 |non=>rfl
 |str x=>rfl
 |edic=>rfl
 |_=>exact p.elim
theorem E6 {d:D} (h:CT d=true):∃ds,d=.tup ds:=by cases d<;>first |exact ⟨_,rfl⟩ |cases h
def lit (x:Bool):D:=.int (if x then 1 else 0)
def Nn (w:Nat) (f:Nat→Bool):D:=.tup ((List.range w).map fun j=>lit (f j))
def bD (h w:Nat) (f:Nat→Nat→Bool):D:=.tup ((List.range h).map fun i=>Nn w (f i))
section
variable {H W:Nat} {h:HD} {f:Nat→Nat→Bool} {r:Nat→Bool}
theorem Zbp {x:Bool}:Gx (lit x)=true:=by cases x<;>rfl
end
section
variable {h:HD}
theorem Sn:Ib (.int 10) (.int 29) h=.ok (.int (10^29)) h:=by
 simp only [Ib,LS.intD]
 rw [if_pos (by decide)]
 rfl
variable {H W:Nat} {f:Nat→Nat→Bool} {r:Nat→Bool}
def Zgo (h:HD) (H W:Nat) (x:D):Prop:=Plain2 h x∧(Sk x=false∨(1<H∧Nl x≠W))
def Zgp (H W:Nat) (f:Nat→Nat→Bool) (A:Nat) (x:D):D:=.tup (((List.range H).map fun i=>Nn W (f i)).take A++[x]++((List.range H).map fun i=>Nn W (f i)).drop (A+1))
def NoB (h:HD) (d:D):Prop:=Plain3 h d∧Zbn d=false
theorem NoB.sm {h':HD} {d:D} (n:NoB h d) (s:Sm h h'):NoB h' d:=⟨n.1.sm s,n.2⟩
end
theorem Plain.smx {b:Nat} {h h':HD} {d:D} (p:Plain h d) (s:Smx b h h') (x:BoxAt h' b):Plain h' d:=by
 cases d with
 |loc l=>
  obtain ⟨ds,e⟩:=p
  by_cases hl:l=b
  ·obtain ⟨n,e'⟩:=x
   exact ⟨_,hl ▸ e'⟩
  ·exact ⟨ds,s _ _ hl e⟩
 |_=>exact p
theorem Plain2.smx {b:Nat} {h h':HD} {d:D} (p:Plain2 h d) (s:Smx b h h') (x:BoxAt h' b):Plain2 h' d:=⟨p.1.smx s x,fun y hy=>(p.2 y hy).smx s x⟩
theorem Plain3.smx {b:Nat} {h h':HD} {d:D} (p:Plain3 h d) (s:Smx b h h') (x:BoxAt h' b):Plain3 h' d:=⟨p.1.smx s x,fun y hy=>(p.2 y hy).smx s x⟩
theorem NoB.smx {b:Nat} {h h':HD} {d:D} (n:NoB h d) (s:Smx b h h') (x:BoxAt h' b):NoB h' d:=⟨n.1.smx s x,n.2⟩
def TabAt (h:HD):Prop:=h[0]?=some .tab
theorem TabAt.sm {h h':HD} (t:TabAt h) (s:Sm h h'):TabAt h':=s _ _ t
theorem TabAt.smx {b:Nat} {h h':HD} (t:TabAt h) (s:Smx b h h') (hb:0<b):TabAt h':=s _ _ (by omega) t
theorem TabAt.pos {h:HD} (t:TabAt h):0<h.length:=(qa3.mp t).1
theorem IP {b:Nat} {m:Int} {h:HD} {Q:D→HD→Prop} (hx:BoxAt h b) (hb:0<b) (ht:TabAt h) (h1:0<m) (h2:m≤1000) (q:∀(d:Nat) h',(d:Int)<m→BoxAt h' b→TabAt h'→Smx b h h'→Q (.int (d:Nat)) h'):Wp (Bx [.loc b,.int m] h) Q:=
 DA hx (by omega) (by omega) fun d h' d0 d1 x s=>by
  obtain ⟨k,rfl⟩:∃k:Nat,d=(k:Int):=⟨d.toNat,by omega⟩
  exact q k h' (by omega) x (ht.smx s hb) s
theorem BoxAt.lt {b:Nat} {h:HD} (x:BoxAt h b):b<h.length:=let ⟨_,e⟩:=x;(qa3.mp e).1
@[simp] theorem Zgq {ρ:Ah} {a b:D} {i j:Nat}:Dj [i,j] (.tup [a,b]) ρ=some ((ρ.set i (some a)).set j (some b)):=id rfl
theorem Cm {xs ys:List D} {h:HD} (hz:xs.length+ys.length≤1000):Al (.tup xs) (.tup ys) h=.ok (.tup (xs++ys)) h:=by
 simp only [Al]
 rw [if_pos (by unfold sizeLine;omega)]
theorem A4 {P:D→Prop}:∀d∈([]:List D),P d:=fun d hd=>by cases hd
theorem all_cons {P:D→Prop} {a:D} {l:List D} (h:P a) (t:∀d∈l,P d):∀d∈a::l,P d:=fun d hd=>by
 rcases qa5.mp hd with rfl |hd
 ·exact h
 ·exact t d hd
theorem B6 {P:D→Prop} {l r:List D} (h:∀d∈l,P d) (t:∀d∈r,P d):∀d∈l++r,P d:=fun d hd=>by
 rcases qaG.mp hd with hd |hd
 ·exact h d hd
 ·exact t d hd
theorem Np (P:D→Prop) {l o:Nat} {ds:List D} {h:HD} (e:h[l]?=some (.lst ds)) (ho:o<ds.length) (hp:∀d∈ds,P d):∃y,As (.loc l) (.int (o:Nat)) h=.ok y h∧P y:=
 ⟨ds[o],EX e (AQ ho),hp _ (DY ho)⟩
theorem FL {h:HD} {d:D} (p:Plain h d) (e:A8 d=[]):Plain2 h d:=⟨p,fun x hx=>by rw [e] at hx;cases hx⟩
theorem FM {h:HD} {d:D} (p:Plain h d) (e:A8 d=[]):Plain3 h d:=⟨p,fun x hx=>by rw [e] at hx;cases hx⟩
theorem So {R:List D} {h:HD}:Em (.tup R) h=Cq R h:=rfl
theorem Smx.over {a b:Nat} {h h1 h2:HD} (s:Smx b h h1) (s2:Smx a h1 h2) (hl:h.length≤a):Smx b h h2:=fun l c n e=>s2 l c (by have:=(qa3.mp e).1;omega) (s l c n e)
theorem Smx.put {a b:Nat} {c:Cell} {h h1:HD} (s:Smx b h h1) (hl:h.length≤a):Smx b h (h1.set a c):=fun l x n e=>by
 rw [Bp (by have:=(qa3.mp e).1;omega)]
 exact s l x n e
theorem Smx.new {b:Nat} {c:Cell} {h h1:HD} (s:Smx b h h1):Smx b h (h1++[c]):=s.trans (BP (.app _ _))
theorem Smx.len {b:Nat} {h h':HD} (s:Smx b h h') (hb:b<h'.length):h.length≤h'.length:=by
 cases e:h.length with
 |zero=>exact Bu _
 |succ n=>
  have hn:n<h.length:=by omega
  by_cases hz:n=b
  ·omega
  ·have:=s n h[n] hz (AQ hn)
   have:=(qa3.mp this).1
   omega
inductive Sq (b:Nat) (h1:HD) (xs:List Nat) (ρ:Ah) (h':HD):Prop where
 |mk (N M:Int) (x:Option D) (f0:ρ=[some (.loc b),some (.int N),some (.int M),x]) (f1:h'=h1):Sq b h1 xs ρ h'
theorem Sr {b:Nat} {h:HD} {Q:D→HD→Prop} (hx:BoxAt h b) (q:∀l h',BoxAt h' b→BoxAt h' l→l≠b→h.length≤l→Smx b h h'→Q (.loc l) h'):Wp (Hk [.loc b] h) Q:=by
 change Wp (AS 4 (RS) [.loc b] h) _
 refine Eq.mpr (Bd) ?_
 simp
 refine DA hx (by decide) (by decide) fun d h1 d0 d1 x1 s1=>?_
 refine Ct (src:=[]) (xs:=List.range 24) (fun i=>.int ((i:Nat):Int)) (Sq b h1) ?_ (fun ys ρ h' _=>BN) ?_ ?_
 ·simp [Sh]
  exact ⟨_,_,_,rfl,rfl⟩
 ·rintro x xs ρ h' ⟨N,M,y,rfl,rfl⟩
  refine ⟨_,rfl,?_⟩
  simp
  rw [J9 (by decide) (by decide)]
  simp
  rw [EY (by decide)]
  simp
  rw [J9 (by decide) (by decide)]
  simp [Bh]
  exact ⟨_,_,_,rfl,rfl⟩
 ·rintro ρ h' ⟨N,M,y,rfl,rfl⟩
  simp
  refine A0 (by simp) fun l h2 s e el _=>?_
  exact q l h2 (x1.sm s) ⟨_,e⟩ (by have:=x1.lt;omega) (by have:=s1.len x1.lt;omega) (s1.trans (BP s))
def Nq (c:Str):List V:=[.bl (BI c "NoBoard"),.bl (BI c "NoLine"),.bl (BI c "NoSwitching"),.bl (BI c "NoNumber"),.bl (BI c "Unlike"),.bl (BI c "NoNet"),.bl (BI c "NoPlace"),.bl (BI c "NoText"),.bl (BI c "NoRow"),.bl (BI c "TooMany")]
def Zbq:List D:=[.str "board",.str "line",.str "switching",.str "number",.str "unlike",.str "net",.str "place",.str "text",.str "row"]
theorem Zbr {c w t:Str} {j:Nat} {h:HD} (hc:c∈excNames) (hn:E2 (.bl true) (Nq c)=1) (h9:BI c "TooMany"=false) (hj:Kn (.bl true) (Nq c)=some j) (hw:Zbq[j]?=some (.str w)) (hz:((("! ":String):Str)).length+w.length≤1000) (ht:((("! ":String):Str))++w=t):Pu (FJ [.exc c []] h) h (.str t):=by
 have i0:∀h,AI (.exc c []) (.glo "NoBoard") h=.ok (.bl (BI c "NoBoard")) h:=fun h=>El hc (by decide +kernel)
 have i1:∀h,AI (.exc c []) (.glo "NoLine") h=.ok (.bl (BI c "NoLine")) h:=fun h=>El hc (by decide +kernel)
 have i2:∀h,AI (.exc c []) (.glo "NoSwitching") h=.ok (.bl (BI c "NoSwitching")) h:=fun h=>El hc (by decide +kernel)
 have i3:∀h,AI (.exc c []) (.glo "NoNumber") h=.ok (.bl (BI c "NoNumber")) h:=fun h=>El hc (by decide +kernel)
 have i4:∀h,AI (.exc c []) (.glo "Unlike") h=.ok (.bl (BI c "Unlike")) h:=fun h=>El hc (by decide +kernel)
 have i5:∀h,AI (.exc c []) (.glo "NoNet") h=.ok (.bl (BI c "NoNet")) h:=fun h=>El hc (by decide +kernel)
 have i6:∀h,AI (.exc c []) (.glo "NoPlace") h=.ok (.bl (BI c "NoPlace")) h:=fun h=>El hc (by decide +kernel)
 have i7:∀h,AI (.exc c []) (.glo "NoText") h=.ok (.bl (BI c "NoText")) h:=fun h=>El hc (by decide +kernel)
 have i8:∀h,AI (.exc c []) (.glo "NoRow") h=.ok (.bl (BI c "NoRow")) h:=fun h=>El hc (by decide +kernel)
 have i9:∀h,AI (.exc c []) (.glo "TooMany") h=.ok (.bl (BI c "TooMany")) h:=fun h=>El hc (by decide +kernel)
 have iv:∀h,AI (.exc c []) (.ty "ValueError") h=.ok (.bl true) h:=fun h=>Z2 hc
 change Wp (AS 3 RF [.exc c []] h) _
 refine Eq.mpr Bd ?_
 simp [-Ag,i0,i1,i2,i3]
 refine A0 (by simp) fun l1 h1 s1 e1 _ _=>?_
 refine Eq.mpr Ag ?_
 simp [-Ag,i4,i5,i6,i7]
 refine A0 (by simp) fun l2 h2 s2 e2 _ _=>?_
 refine Aj (FG (s2 _ _ e1) e2) ?_
 refine A0 (by simp) fun l3 h3 s3 e3 _ _=>?_
 refine Eq.mpr Ag ?_
 simp [-Ag,i8,i9]
 refine A0 (by simp) fun l4 h4 s4 e4 _ _=>?_
 refine Aj (FG (s4 _ _ e3) e4) ?_
 refine A0 (by simp) fun l5 h5 s5 e5 _ _=>?_
 refine Eq.mpr Ag ?_
 simp [-Ag,iv,Ef e5]
 refine Aj ((Z4 (vs:=Nq c) e5 rfl rfl).trans (by rw [hn])) ?_
 simp [-Ag]
 refine Eq.mpr Ag ?_
 simp [-Ag]
 rw [show (9:Int)=((9:Nat):Int) from rfl]
 refine Aj (EX e5 (k:=9) rfl) ?_
 simp [-Ag,h9]
 refine Eq.mpr Ag ?_
 simp [-Ag]
 refine A0 (by simp) fun l6 h6 s6 e6 _ _=>?_
 refine Eq.mpr Ag ?_
 simp [Ef (s6 _ _ e5)]
 refine Aj (Z5 (s6 _ _ e5) rfl rfl hj) ?_
 simp only [Am]
 refine Aj (EX e6 hw) ?_
 simp only [Am]
 refine Aj (Z3 hz) ?_
 exact ⟨congrArg D.str ht,((((s1.trans s2).trans s3).trans s4).trans s5).trans s6⟩
theorem p_kind_net {h:HD}:Pu (FJ [.exc "NoNet" []] h) h (.str "! net"):=Zbr (w:="net") (j:=5) (by decide +kernel) (by decide +kernel) (by decide +kernel) (by decide +kernel) rfl (by decide +kernel) (by decide +kernel)
theorem Ss {cs:List Nat} {f:ME} {ρ:Ah} {h:HD} {ds:List D} {Q:D→HD→Prop} (ht:TabAt h) (hd:AC (cs.map fun j=>(ρ[j]?).join)=some ds) (he:Er (f (ds.map some) h) h "NoNet")
 (q:∀h',Sm h h'→Q (.str "! net") h'):Wp (DS cs FJ f ρ h) Q:=
 MM ht hd (he.we fun h' s=>⟨by decide +kernel,[],rfl,p_kind_net.wp fun h2 s2=>q h2 (s.trans s2)⟩)
theorem Nr {i:Int} {h:HD}:E5 [.int i] h=.ok (.bl true) h:=rfl
def DW (n:Nat):Int→List D→Bool
 |_,[]=>true
 |last,.int i::ds=>decide (last<i∧i<(n:Int))&&DW n i ds
 |_,_::_=>false
def DD (n:Nat) (d:D):Bool:=match d with
 |.tup ds=>DW n (-1) ds
 |_=>false
theorem Nt {n:Nat} {last:Int} {x:D} {xs:List D} (h:DB x=false):DW n last (x::xs)=false:=by
 cases x<;>first |rfl |(cases h)
inductive Su (ds:List D) (n:Nat) (h:HD) (xs:List D) (ρ:Ah) (h':HD):Prop where
 |mk (last:Int) (x:Option D) (f0:ρ=[some (.tup ds),some (.int (n:Nat)),some (.int last),x]) (f1:h'=h) (f2:DW n last xs=DW n (-1) ds) (f3:∀y∈xs,Plain h y):Su ds n h xs ρ h'
theorem Zbs {d:D} {n:Nat} {h:HD} (p:Plain2 h d):Pu (KV [d,.int (n:Nat)] h) h (.bl (DD n d)):=by
 change Wp (AS 4 (RO) [d,.int (n:Nat)] h) _
 refine Eq.mpr Bd ?_
 cases hT:CT d with
 |true=>
  obtain ⟨ds,rfl⟩:=E6 hT
  simp
  refine Ct (src:=[]) (xs:=ds) (fun x=>x) (Su ds n h) ?_ (fun ys ρ h' _=>BN) ?_ ?_
  ·simp
   exact ⟨-1,_,rfl,rfl,rfl,p.2⟩
  ·rintro x xs ρ h' ⟨last,y,rfl,rfl,e,pl⟩
   refine ⟨_,rfl,?_⟩
   have px:=pl x AZ
   cases hx:DB x with
   |false=>
    simp [Nm px,hx,Bh,Sm.refl]
    rw [Nt hx] at e
    simp [DD,←e]
   |true=>
    obtain ⟨i,rfl⟩:=FK hx
    by_cases h1:last<i
    ·by_cases h2:i<(n:Int)
     ·simp [Nr,h1,h2,Az,Bh]
      exact ⟨i,_,rfl,rfl,by rw [←e];simp [DW,h1,h2],fun y hy=>pl y (A6 _ hy)⟩
     ·simp [Nr,h1,h2,Az,Bh,Sm.refl]
      simp [DD,←e,DW,h1,h2]
    ·simp [Nr,h1,Az,Bh,Sm.refl]
     simp [DD,←e,DW,h1]
  ·rintro ρ h' ⟨last,y,rfl,rfl,e,_⟩
   simp [Sm.refl,DD,←e,DW]
 |false=>
  have e:DD n d=false:=by cases d<;>first |rfl |cases hT
  simp [Hm p.1,hT,e,Sm.refl]
def BJ (n:Nat) (p:Nat→Bool):D:=.tup (((List.range n).filter p).map fun i=>.int ((i:Nat):Int))
section
variable {H W n:Nat} {h:HD} {f:Nat→Nat→Bool} {r p q p' q':Nat→Bool}
theorem Zbt {k:Nat} (hk:k<n):((List.range n).filter p).contains k=p k:=by
 rw [qaU]
 simp [hk]
theorem Sv {neg:Bool} {k:Nat} (hk:k<n):CJ neg (.int (k:Nat)) (BJ n p) h=.ok (.bl (if neg then !p k else p k)) h:=by
 unfold BJ
 rw [J8,Zbt hk]
end
def RpX (b:Nat) (h:HD) (c:Bool) (n L:Nat) (d:D):Prop:=True
section
variable {b:Nat} {h h':HD} {c:Bool} {n n' L L':Nat} {d:D} {i:Int}
theorem RpX.smx (x:RpX b h c n L d) (s:Smx b h h'):RpX b h' c n L d:=trivial
end
theorem E7 {xs:List D} {k:Nat} {h:HD}:CS (.tup xs) none (some (k:Int)) h=.ok (.tup (xs.take k)) h:=by
 simp only [CS]
 unfold LS.cutD
 rw [HT.sIx_nat,HT.sIx_none,List.drop_zero,Nat.sub_zero]
 congr 2
 rcases Nat.le_total k xs.length with z |z
 ·rw [Nat.min_eq_left z]
 ·rw [Nat.min_eq_right z,GE z,GE (Ax _)]
theorem E8 {xs:List D} {k:Nat} {h:HD}:CS (.tup xs) (some (k:Int)) none h=.ok (.tup (xs.drop k)) h:=by
 simp only [CS]
 unfold LS.cutD
 rw [HT.sIx_nat,HT.sIx_none]
 congr 2
 rcases Nat.le_total k xs.length with z |z
 ·rw [Nat.min_eq_left z,GE (by simp)]
 ·rw [Nat.min_eq_right z,Nat.sub_self,List.take_zero,List.drop_eq_nil_of_le z]
theorem IQ {xs:List D} {h:HD}:CS (.tup xs) none (some 2) h=.ok (.tup (xs.take 2)) h:=E7 (k:=2)
theorem Sx {xs:List D} {h:HD}:CS (.tup xs) none (some 1) h=.ok (.tup (xs.take 1)) h:=E7 (k:=1)
theorem Zbu {xs:List D} {h:HD}:CS (.tup xs) (some 1) none h=.ok (.tup (xs.drop 1)) h:=E8 (k:=1)
def Plain4 (h:HD) (d:D):Prop:=Plain h d∧∀x∈A8 d,Plain3 h x
theorem Plain4.sm {h h':HD} {d:D} (p:Plain4 h d) (s:Sm h h'):Plain4 h' d:=⟨p.1.sm s,fun x hx=>(p.2 x hx).sm s⟩
theorem Plain4.smx {b:Nat} {h h':HD} {d:D} (p:Plain4 h d) (s:Smx b h h') (x:BoxAt h' b):Plain4 h' d:=⟨p.1.smx s x,fun y hy=>(p.2 y hy).smx s x⟩
def BQ (a b:Int):D→Bool
 |.int i=>decide (a≤i)&&decide (i≤b)
 |_=>false
theorem Nu {a b:Int} {d:D} (h:DB d=false):BQ a b d=false:=by cases d<;>first |rfl |cases h
theorem Sy {d:D} {a b:Int} {h:HD} (p:Plain h d):Pu (Ep [d,.int a,.int b] h) h (.bl (BQ a b d)):=by
 cases hw:DB d with
 |true=>
  obtain ⟨i,rfl⟩:=FK hw
  exact p_is_between_int
 |false=>
  have e:=Nm p
  rw [hw] at e
  rw [Nu hw]
  exact Sl e
def CF (n:Nat):D→Bool
 |.tup [a,b,c]=>DD n (.tup [a,b])&&Gx c
 |_=>false
def CU:D→List Int
 |.tup (.int a::.int b::_)=>[a,b]
 |_=>[]
theorem Sz {n:Nat} {ds:List D} (h:ds.length≠3):CF n (.tup ds)=false:=by
 match ds,h with
 |[],_=>rfl
 |[_],_=>rfl
 |[_,_],_=>rfl
 |_::_::_::_::_,_=>rfl
theorem SA {n:Nat} {d:D} (h:CT d=false):CF n d=false:=by cases d<;>first |rfl |cases h
theorem SB {ds:List D} (h:ds.length=3):∃a b c,ds=[a,b,c]:=by
 match ds,h with
 |[a,b,c],_=>exact ⟨a,b,c,rfl⟩
theorem Zbv {d:D} {n:Nat} {h:HD} (p:Plain2 h d):Pu (K4 [d,.int (n:Nat)] h) h (.bl (CF n d)):=by
 change Wp (AS 2 (R7) [d,.int (n:Nat)] h) _
 refine Eq.mpr Bd ?_
 cases hT:CT d with
 |false=>simp [Hm p.1,hT,SA hT,Sm.refl]
 |true=>
  obtain ⟨ds,rfl⟩:=E6 hT
  by_cases h3:ds.length=3
  ·obtain ⟨a,b,c,rfl⟩:=SB h3
   have pa:=p.2 a (by simp [A8])
   have pb:=p.2 b (by simp [A8])
   have pc:=p.2 c (by simp [A8])
   simp
   refine Aj IQ ?_
   simp
   refine (Zbs (d:=.tup [a,b]) ⟨trivial,all_cons pa (all_cons pb A4)⟩).wp fun h1 s1=>?_
   cases hl:DD n (.tup [a,b]) with
   |false=>simp [CF,hl,s1]
   |true=>
    simp
    refine Aj (show As (.tup [a,b,c]) (.int 2) h1=.ok c h1 from rfl) ?_
    simp
    refine (Zbo (pc.sm s1)).wp fun h2 s2=>?_
    simp [CF,hl,s1.trans s2]
  ·have e3:¬((ds.length:Int)=3):=by omega
   simp [e3,Sz h3,Sm.refl]
inductive SC (n:Nat) (t:D):Prop where
 |mk (a b c:Int) (f0:t=.tup [.int a,.int b,.int c]) (f1:0≤a) (f2:a<b) (f3:b<n) (f4:0≤c) (f5:c≤1):SC n t
theorem Nv {n:Nat} {t:D} (h:CF n t=true):SC n t:=by
 cases hT:CT t with
 |false=>rw [SA hT] at h;cases h
 |true=>
  obtain ⟨ds,rfl⟩:=E6 hT
  by_cases h3:ds.length=3
  ·obtain ⟨a,b,c,rfl⟩:=SB h3
   rw [CF,BS] at h
   obtain ⟨h1,h2⟩:=h
   cases ha:DB a with
   |false=>rw [show DD n (.tup [a,b])=false from Nt ha] at h1;cases h1
   |true=>
    obtain ⟨i,rfl⟩:=FK ha
    unfold DD DW at h1
    rw [BS,decide_eq_true_eq] at h1
    obtain ⟨h3,h4⟩:=h1
    cases hb:DB b with
    |false=>rw [Nt hb] at h4;cases h4
    |true=>
     obtain ⟨j,rfl⟩:=FK hb
     unfold DW at h4
     rw [BS,decide_eq_true_eq] at h4
     have h5:=h4.1
     cases hc:DB c with
     |false=>rw [show Gx c=false by cases c<;>first |rfl |cases hc] at h2;cases h2
     |true=>
      obtain ⟨k,rfl⟩:=FK hc
      have h6:(decide (0≤k)&&decide (k≤1))=true:=h2
      rw [BS,decide_eq_true_eq,decide_eq_true_eq] at h6
      exact ⟨i,j,k,rfl,by omega,h5.1,h5.2,h6.1,h6.2⟩
  ·rw [Sz h3] at h;cases h
def DX:List D→Bool
 |x::y::r=>HT.lexLt (CU x) (CU y)&&DX (y::r)
 |_=>true
theorem SD:∀{ts:List D},((ts.zip (ts.drop 1)).all fun p=>HT.lexLt (CU p.1) (CU p.2))=DX ts
 |[]=>rfl
 |[_]=>rfl
 |x::y::r=>by
  have ih:=SD (ts:=y::r)
  rw [List.drop_succ_cons,List.drop_zero] at ih ⊢
  rw [List.zip_cons_cons,FW,ih]
  rfl
def Dk:D→Nat
 |.int m=>m.toNat
 |_=>0
def Zbw (a b:D):Bool:=match b with
 |.tup ts=>BQ 1 8 a&&(ts.all (CF (Dk a))&&DX ts)
 |_=>false
def Zbx:List D→Bool
 |[a,b]=>Zbw a b
 |_=>false
def Cn (d:D):Bool:=match d with
 |.tup ds=>Zbx ds
 |_=>false
theorem SE {ds:List D} (h:ds.length≠2):Cn (.tup ds)=false:=by
 match ds,h with
 |[],_=>rfl
 |[_],_=>rfl
 |_::_::_::_,_=>rfl
theorem SF {d:D} (h:CT d=false):Cn d=false:=by cases d<;>first |rfl |cases h
theorem Zby {a b:D} (h:BQ 1 8 a=false):Cn (.tup [a,b])=false:=by
 cases b with
 |tup ts=>
  show (BQ 1 8 a&&_)=false
  rw [h,GJ]
 |_=>rfl
theorem SG {a b:D} (h:CT b=false):Cn (.tup [a,b])=false:=by cases b<;>first |rfl |cases h
theorem two_of {ds:List D} (h:ds.length=2):∃a b,ds=[a,b]:=by
 match ds,h with
 |[a,b],_=>exact ⟨a,b,rfl⟩
theorem SH {a:D} (h:BQ 1 8 a=true):∃n:Nat,a=.int (n:Nat)∧1≤n∧n≤8:=by
 cases hw:DB a with
 |false=>rw [Nu hw] at h;cases h
 |true=>
  obtain ⟨m,rfl⟩:=FK hw
  have h6:(decide (1≤m)&&decide (m≤8))=true:=h
  rw [BS,decide_eq_true_eq,decide_eq_true_eq] at h6
  exact ⟨m.toNat,by congr 1;omega,by omega,by omega⟩
theorem Zbz {f:List Int→List Int→Bool} {a b c d:Int} {h:HD}:Kt f (.tup [.int a,.int b]) (.tup [.int c,.int d]) h=.ok (.bl (f [a,b] [c,d])) h:=rfl
theorem Nw {d:D} {h:HD} (p:Plain4 h d) (hz:∀x∈A8 d,(A8 x).length≤1000):Pu (Gv [d] h) h (.bl (Cn d)):=by
 change Wp (AS 3 (R9) [d] h) _
 refine Eq.mpr Bd ?_
 cases hT:CT d with
 |false=>simp [Hm p.1,hT,SF hT,Sm.refl]
 |true=>
  obtain ⟨ds,rfl⟩:=E6 hT
  by_cases h2:ds.length=2
  ·obtain ⟨a,b,rfl⟩:=two_of h2
   have pa:=p.2 a (by simp [A8])
   have pb:=p.2 b (by simp [A8])
   simp
   refine (Sy pa.1).wp fun h1 s1=>?_
   cases hb:BQ 1 8 a with
   |false=>simp [Zby hb,s1]
   |true=>
    obtain ⟨n,rfl,n1,n2⟩:=SH hb
    cases hU:CT b with
    |false=>simp [Hm (pb.1.sm s1),hU,SG hU,s1]
    |true=>
     obtain ⟨ts,rfl⟩:=E6 hU
     have lz:ts.length≤1000:=hz (.tup ts) (by simp [A8])
     have lz':ts.length≤sizeLine:=by unfold sizeLine;omega
     have en:Cn (.tup [.int (n:Nat),.tup ts])=(ts.all (CF n)&&DX ts):=by
      show (BQ 1 8 (.int (n:Nat))&&(ts.all (CF (((n:Nat):Int)).toNat)&&DX ts))=_
      rw [hb,HC,Bool.true_and]
     simp
     refine Pu.wp (Il (src:=[]) (xs:=ts) (φ:=fun x=>x) (CF n) (fun x=>[some x,some (.int (n:Nat))]) (by rw [List.map_id'];exact ⟨rfl,.refl _,fun h2 s2=>BN⟩) (fun x _=>rfl) (fun x hx h' s'=>?_) lz') fun h2 s2=>?_
     ·simp [Pu]
      exact Zbv ((pb.2 x hx).sm (s1.trans s'))
     cases ha:ts.all (CF n) with
     |false=>simp [en,ha,s1.trans s2]
     |true=>
      simp
      refine Pu.wp (Il (src:=[]) (xs:=ts.zip (ts.drop 1)) (φ:=fun p=>.tup [p.1,p.2]) (fun p=>HT.lexLt (CU p.1) (CU p.2)) (fun p=>[some p.1,some p.2]) ?_ (fun x _=>rfl) (fun x hx h' s'=>?_) (by rw [List.length_zip];exact BU (Nat.min_le_left _ _) lz')) fun h3 s3=>?_
      ·simp [FB]
       refine Aj Zbu ?_
       simp [-List.drop_one]
       refine Aj (show G7 [.tup ts,.tup (ts.drop 1)] h2=.ok ((ts.zip (ts.drop 1)).map fun p=>.tup [p.1,p.2],[]) h2 from ?_) ?_
       ·show Out.ok (Dw ts (ts.drop 1),[]) h2=_
        congr 2
        unfold Dw
        rw [List.zip,List.map_zipWith]
       ·exact ⟨by rw [List.drop_one],.refl _,fun h2 s2=>BN⟩
      ·have m:=HH (show (x.1,x.2)∈ts.zip (ts.drop 1) from hx)
       obtain ⟨a1,b1,c1,e1,_⟩:=Nv (qaO.mp ha _ m.1)
       obtain ⟨a2,b2,c2,e2,_⟩:=Nv (qaO.mp ha _ (HA m.2))
       simp [Pu]
       rw [e1,e2]
       refine Aj IQ ?_
       simp
       refine Aj IQ ?_
       simp
       refine Aj Zbz ?_
       exact ⟨rfl,.refl _⟩
      ·rw [SD,en,ha,Bool.true_and]
       exact ⟨rfl,(s1.trans s2).trans s3⟩
  ·have e2:¬((ds.length:Int)=2):=by omega
   simp [e2,SE h2,Sm.refl]
theorem ZbA {n:Nat} {i j:Int}:DD n (.tup [.int i,.int j])=(decide (-1<i∧i<(n:Int))&&decide (i<j∧j<(n:Int))):=by
 show (decide (-1<i∧i<(n:Int))&&(decide (i<j∧j<(n:Int))&&true))=_
 rw [Bool.and_true]
abbrev Ak:=Nat×Nat×Bool
def AA (t:Ak):D:=.tup [.int ((t.1:Nat):Int),.int ((t.2.1:Nat):Int),lit t.2.2]
def AE (n:Nat) (L:List Ak):D:=.tup [.int (n:Nat),.tup (L.map AA)]
def CV (s t:Ak):Prop:=s.1<t.1∨(s.1=t.1∧s.2.1<t.2.1)
structure NetOk (n:Nat) (L:List Ak):Prop where
 n1:1≤n
 n8:n≤8
 ok:∀t∈L,t.1<t.2.1∧t.2.1<n
 so:L.Pairwise CV
 le:L.length≤100
theorem ZbB {s t:Ak} (h:CV s t):HT.lexLt (CU (AA s)) (CU (AA t))=true:=by
 show HT.lexLt [((s.1:Nat):Int),((s.2.1:Nat):Int)] [((t.1:Nat):Int),((t.2.1:Nat):Int)]=true
 rw [HT.lexLt_cons]
 rcases h with h |⟨h1,h2⟩
 ·rw [if_neg (by omega)]
  exact decide_eq_true (by omega)
 ·rw [if_pos (by omega),HT.lexLt_cons,if_neg (by omega)]
  exact decide_eq_true (by omega)
theorem SI:∀{L:List Ak},L.Pairwise CV→DX (L.map AA)=true
 |[],_=>rfl
 |[_],_=>rfl
 |s::t::r,h=>by
  rw [qcL] at h
  show (HT.lexLt (CU (AA s)) (CU (AA t))&&DX ((t::r).map AA))=true
  rw [ZbB (h.1 t AZ),SI h.2]
  rfl
theorem ZbC {n:Nat} {t:Ak} (h:t.1<t.2.1∧t.2.1<n):CF n (AA t)=true:=by
 show (DD n (.tup [.int ((t.1:Nat):Int),.int ((t.2.1:Nat):Int)])&&Gx (lit t.2.2))=true
 rw [ZbA,Zbp,decide_eq_true (by omega),decide_eq_true (by omega)]
 rfl
theorem ZbD {n:Nat} {L:List Ak} (k:NetOk n L):Cn (AE n L)=true:=by
 show (BQ 1 8 (.int (n:Nat))&&((L.map AA).all (CF (((n:Nat):Int)).toNat)&&DX (L.map AA)))=true
 rw [SI k.so,HC]
 have e1:BQ 1 8 (.int (n:Nat))=true:=by
  have:=k.n1;have:=k.n8
  show (decide ((1:Int)≤(n:Int))&&decide ((n:Int)≤8))=true
  rw [decide_eq_true (by omega),decide_eq_true (by omega)]
  rfl
 have e2:(L.map AA).all (CF n)=true:=by
  rw [qaO]
  intro d hd
  obtain ⟨t,ht,rfl⟩:=qaL.mp hd
  exact ZbC (k.ok t ht)
 rw [e1,e2]
 rfl
theorem SJ {t:Ak} {h:HD}:Plain2 h (AA t):=⟨trivial,all_cons trivial (all_cons trivial (all_cons trivial A4))⟩
theorem SK {L:List Ak} {h:HD}:Plain3 h (.tup (L.map AA)):=⟨trivial,fun x hx=>by
 obtain ⟨t,_,rfl⟩:=qaL.mp hx
 exact SJ⟩
theorem ZbE {n:Nat} {L:List Ak} {h:HD}:Plain4 h (AE n L):=⟨trivial,all_cons (FM trivial rfl) (all_cons SK A4)⟩
theorem ZbF {n:Nat} {L:List Ak} (k:NetOk n L):∀x∈A8 (AE n L),(A8 x).length≤1000:=all_cons (Bu _) (all_cons (by show (L.map AA).length≤1000;rw [Bc];have:=k.le;omega) A4)
theorem ZbG {n:Nat} {L:List Ak} {h:HD} (k:NetOk n L):Pu (Gv [AE n L] h) h (.bl true):=ZbD k ▸ Nw ZbE (ZbF k)
theorem IS {n:Nat} {L:List Ak} {h:HD} (k:NetOk n L):Pu (Gw [AE n L] h) h .non:=by
 change Wp (AS 1 (Ni) [AE n L] h) _
 refine Eq.mpr Bd ?_
 simp
 refine (ZbG k).wp fun h1 s1=>?_
 simp [s1]
theorem SL {d:D} {h:HD} (p:Plain4 h d) (hz:∀x∈A8 d,(A8 x).length≤1000) (hb:Cn d=false):Er (Gw [d] h) h "NoNet":=by
 change We (AS 1 (Ni) [d] h) _ _
 refine Eq.mpr MK ?_
 simp
 refine (Nw p hz).we fun h1 s1=>?_
 simp [hb,s1,Eg]
def BW (p:Nat→Bool) (t:Ak):Ak:=(t.1,t.2.1,Bool.xor t.2.2 (Bool.xor (p t.1) (p t.2.1)))
inductive SM (n:Nat) (L:List Ak) (p:Nat→Bool) (h:HD) (l:Nat) (xs:List Ak) (ρ:Ah) (h':HD):Prop where
 |mk (done:List Ak) (d3 d4 d5:Option D) (f0:ρ=[some (AE n L),some (BJ n p),some (.loc l),d3,d4,d5]) (f1:L=done++xs) (f2:Sm h h') (f3:h'[l]?=some (.lst (done.map fun t=>AA (BW p t)))):SM n L p h l xs ρ h'
theorem Sm.put {h h':HD} {l:Nat} {c:Cell} (s:Sm h h') (hl:h.length≤l):Sm h (h'.set l c):=fun k d ek=>by
 have:=(qa3.mp ek).1
 rw [Bp (by omega)]
 exact s k d ek
theorem ZbH {n:Nat} {L:List Ak} {p:Nat→Bool} {h:HD} (k:NetOk n L):Pu (KU [AE n L,BJ n p] h) h (AE n (L.map (BW p))):=by
 change Wp (AS 6 RJ [AE n L,BJ n p] h) _
 refine Eq.mpr Bd ?_
 simp [-Ag]
 refine A0 (by simp) fun l h1 s1 e1 el _=>?_
 refine Eq.mpr Ag ?_
 refine Eq.mpr Bb ?_
 have ix1:∀h,As (AE n L) (.int 1) h=.ok (.tup (L.map AA)) h:=fun h=>rfl
 have ix0:∀h,As (AE n L) (.int 0) h=.ok (.int (n:Nat)) h:=fun h=>rfl
 refine Ct (src:=[]) (xs:=L) AA (SM n L p h l) ?_ (fun ys ρ h' _=>BN) ?_ ?_
 ·simp [ix1]
  exact ⟨[],_,_,_,rfl,rfl,s1,e1⟩
 ·rintro t xs ρ h' ⟨done,d3,d4,d5,rfl,eL,s,e⟩
  refine ⟨_,rfl,?_⟩
  have hk:=k.ok t (by rw [eL];simp)
  have ld:done.length≤100:=by have:=k.le;rw [eL,CY] at this;omega
  simp [Ef e,Sv (show t.1<n by omega),Sv hk.2]
  have ev:∀(Q:D→HD→Prop),Q (lit (Bool.xor t.2.2 (Bool.xor (p t.1) (p t.2.1)))) h'→Wp (Al (lit t.2.2) (D.int (if p t.1=true then 1 else 0)) h') fun a h1=>Wp (Al a (D.int (if p t.2.1=true then 1 else 0)) h1) fun a h1=>Wp (Cr a (D.int 2) h1) Q:=by
   intro Q hQ
   have key:∀a b c:Bool,((if a then 1 else 0:Int)+(if b=true then 1 else 0)+(if c=true then 1 else 0)) % 2=if Bool.xor a (Bool.xor b c) then 1 else 0:=by decide
   have e:=EY (i:=(if t.2.2 then 1 else 0:Int)+(if p t.1=true then 1 else 0)+(if p t.2.1=true then 1 else 0)) (j:=2) (h:=h') (by decide)
   rw [key] at e
   exact (show Wp (Cr (.int ((if t.2.2 then 1 else 0:Int)+(if p t.1=true then 1 else 0)+(if p t.2.1=true then 1 else 0))) (.int 2) h') Q from e ▸ hQ)
  refine ev _ ?_
  try simp
  refine Aj (G4 e (by rw [Bc];unfold sizeLine;omega)) ?_
  have lm:=(qa3.mp e).1
  simp [Bh]
  refine ⟨done++[t],_,_,_,rfl,by rw [eL];simp,Sm.put s (by omega),?_⟩
  rw [BR lm,Cw]
  rfl
 ·rintro ρ h' ⟨done,d3,d4,d5,rfl,eL,s,e⟩
  rw [B9] at eL
  subst eL
  simp [ix0,Me e]
  refine ⟨?_,s⟩
  unfold AE
  rw [Cy]
  rfl
theorem ZbI {cs:List (Option Nat)} {it:MI} {sg:MG} {f:ME} {ρ:Ah} {h:HD} {src:A1} {xs:List Nat} {Q:D→HD→Prop} (φ:Nat→D) (I:HD→Prop) (R:Nat→D→Prop) (ρ1:Nat→Ah) (hi:Wp (it ρ h) fun x h'=>x=(xs.map φ,src)∧I h') (hs:∀h,I h→BM src (xs.map φ) h)
 (hnew:∀h c,I h→I (h++[c])) (hd:xs.Nodup) (hn:xs.length≤sizeLine) (hg:∀x∈xs,sg (φ x) (Cs cs ρ)=some (ρ1 x)) (ht:∀x∈xs,∀h,I h→Wp (f (ρ1 x) h) fun y h2=>I h2∧R x y)
 (q:∀l h2 h' (e:Nat→D),I h2→I h'→(∀x∈xs,R x (e x))→h'[l]?=some (.lst (xs.map e))→l=h2.length→Q (.loc l) h'):Wp (AY cs it sg Bw f ρ h) Q:=by
 unfold AY
 rw [Az]
 refine Wp.mono hi fun x h1 z5_=>?_
 obtain ⟨ex,i1⟩:=z5_
 subst ex
 rw [if_pos (by simpa using hn),Az]
 refine Wp.mono (Pm φ I (fun _ b=>b=true) R ρ1 hs xs h1 hd i1 hg fun x hx h i=>⟨rfl,ht x hx h i⟩) fun ys h2 z6_=>?_
 obtain ⟨i2,g,e,ey,hr,tr⟩:=z6_
 subst ey
 rw [List.filter_eq_self.mpr tr]
 refine A0 (by simpa using hn) fun l h3 s3 e3 el eh=>?_
 exact q l h2 h3 e i2 (by rw [eh];exact hnew _ _ i2) (fun x hx=>hr x hx (tr x hx)) e3 el
theorem ZbJ {a n:Nat} {h:HD} (ha:a≤1000) (hn:n≤1000):Ij [.int (a:Int),.int (n:Int)] h=.ok ((List.range (n - a)).map fun k=>D.int ((a:Int)+((k:Nat):Int)),[]) h:=by
 have:((-(2^62):Int)≤(a:Int)∧(a:Int)<2^62)∧(-(2^62):Int)≤(n:Int)∧(n:Int)<2^62:=by omega
 unfold Ij
 simp only
 rw [if_pos this]
 have e:((n:Int) - (a:Int)).toNat=n - a:=by omega
 rw [e]
 simp [Fx]
theorem IT {n k x:Nat} {xs:List Nat} (h:(List.range n).drop k=x::xs):x=k∧k<n∧xs=(List.range n).drop (k+1):=by
 have hk:k<n:=by
  have:=congrArg List.length h
  simp at this
  omega
 rw [Lf (by simpa using hk)] at h
 simp at h
 exact ⟨h.1.symm,hk,h.2.symm⟩
theorem K5 {n k:Nat} (hk:k≤n) (h:(List.range n).drop k=[]):k=n:=by
 have:=congrArg List.length h
 simp at this
 omega
structure TiesTo (n k j:Nat) (L:List Ak):Prop where
 ok:∀t∈L,t.1<t.2.1∧t.2.1<n∧(t.1<k∨(t.1=k∧t.2.1<j))
 so:L.Pairwise CV
 le:L.length≤8*k+j
theorem TiesTo.skip {n k j:Nat} {L:List Ak} (x:TiesTo n k j L):TiesTo n k (j+1) L:=⟨fun t ht=>by have:=x.ok t ht;omega,x.so,by have:=x.le;omega⟩
theorem TiesTo.add {n k j:Nat} {c:Bool} {L:List Ak} (x:TiesTo n k j L) (h1:k<j) (h2:j<n):TiesTo n k (j+1) (L++[(k,j,c)]):=by
 refine ⟨fun t ht=>?_,?_,?_⟩
 ·rcases qaG.mp ht with ht |ht
  ·have:=x.ok t ht;omega
  ·rw [qa4.mp ht]
   exact ⟨h1,h2,.inr ⟨rfl,HG _⟩⟩
 ·rw [List.pairwise_append]
  refine ⟨x.so,List.pairwise_singleton _ _,fun s hs t ht=>?_⟩
  rw [qa4.mp ht]
  have:=x.ok s hs
  unfold CV
  show s.1<k∨(s.1=k∧s.2.1<j)
  omega
 ·rw [CY]
  have:=x.le
  simp
  omega
theorem TiesTo.next {n k j:Nat} {L:List Ak} (x:TiesTo n k j L) (hj:j≤8):TiesTo n (k+1) 0 L:=⟨fun t ht=>by have:=x.ok t ht;omega,x.so,by have:=x.le;omega⟩
theorem TiesTo.up {n k j:Nat} {L:List Ak} (x:TiesTo n k 0 L):TiesTo n k j L:=⟨fun t ht=>by have:=x.ok t ht;omega,x.so,by have:=x.le;omega⟩
inductive NtS (b l2 l4 l5:Nat) (zs:List Int) (h:HD) (L:List Ak) (h':HD):Prop where
 |mk (f3:BoxAt h' b) (f4:BoxAt h' l2) (f5:h'[l4]?=some (.lst (zs.map D.int))) (f6:h'[l5]?=some (.lst (L.map AA))) (f7:Smx b h h'):NtS b l2 l4 l5 zs h L h'
inductive SO (b n l2 l4 l5:Nat) (way:Int) (zs:List Int) (h:HD) (xs:List Nat) (ρ:Ah) (h':HD):Prop where
 |mk (k:Nat) (L:List Ak) (d6 d7 d8:Option D) (f0:xs=(List.range n).drop k) (f1:k≤n) (f2:ρ=[some (.loc b),some (.int (n:Nat)),some (.int way),some (.loc l2),some (.loc l4),some (.loc l5),d6,d7,d8]) (f3:NtS b l2 l4 l5 zs h L h') (f4:TiesTo n k 0 L):SO b n l2 l4 l5 way zs h xs ρ h'
inductive SQ (b n l2 l4 l5:Nat) (way:Int) (zs:List Int) (h:HD) (k:Nat) (xs:List Nat) (ρ:Ah) (h':HD):Prop where
 |mk (m:Nat) (L:List Ak) (d7 d8:Option D) (f0:xs=(List.range (n - (k+1))).drop m) (f1:m≤n - (k+1)) (f2:ρ=[some (.loc b),some (.int (n:Nat)),some (.int way),some (.loc l2),some (.loc l4),some (.loc l5),some (.int (k:Nat)),d7,d8]) (f3:NtS b l2 l4 l5 zs h L h') (f4:TiesTo n k (k+1+m) L):SQ b n l2 l4 l5 way zs h k xs ρ h'
structure Ap (b l2 l4 l5:Nat) (h:HD):Prop where
 a1:l2≠b
 a2:l4≠b
 a3:l5≠b
 a4:l4≠l2
 a5:l5≠l2
 a6:l5≠l4
 k2:h.length≤l2
 k5:h.length≤l5
theorem NtS.take {b l2 l4 l5:Nat} {zs:List Int} {h h1 h2:HD} {L:List Ak} (ap:Ap b l2 l4 l5 h) (x:NtS b l2 l4 l5 zs h L h1) (y:BoxAt h2 l2) (s:Smx l2 h1 h2):NtS b l2 l4 l5 zs h L h2:=by
 obtain ⟨a1,a2,a3,a4,a5⟩:=x
 exact ⟨a1.smx s (Ne.symm ap.a1),y,s _ _ ap.a4 a3,s _ _ ap.a5 a4,a5.over s ap.k2⟩
theorem NtS.put {b l2 l4 l5:Nat} {zs:List Int} {h h1:HD} {L:List Ak} {t:Ak} (ap:Ap b l2 l4 l5 h) (x:NtS b l2 l4 l5 zs h L h1):NtS b l2 l4 l5 zs h (L++[t]) (h1.set l5 (.lst (L.map AA++[AA t]))):=by
 obtain ⟨⟨n1,a1⟩,⟨n2,a2⟩,a3,a4,a5⟩:=x
 have lt:=(qa3.mp a4).1
 refine ⟨⟨n1,?_⟩,⟨n2,?_⟩,?_,?_,a5.put ap.k5⟩
 ·rw [Bp ap.a3];exact a1
 ·rw [Bp ap.a5];exact a2
 ·rw [Bp ap.a6];exact a3
 ·rw [BR lt,Cw];rfl
theorem ZbK {z:Int}:∃c:Bool,D.int (z % 2)=lit c:=by
 rcases Int.emod_two_eq z with e |e
 ·exact ⟨false,by rw [e];rfl⟩
 ·exact ⟨true,by rw [e];rfl⟩
theorem ZbL {z:Int} (h1:0≤z) (h2:z<2):∃c:Bool,D.int z=lit c:=by
 rcases (show z=0∨z=1 by omega) with e |e
 ·exact ⟨false,by rw [e];rfl⟩
 ·exact ⟨true,by rw [e];rfl⟩
theorem ZbM {b n l2 l4 l5 k j:Nat} {way:Int} {zs:List Int} {h h':HD} {L:List Ak} {d8:Option D} {Q:Fl×Ah→HD→Prop} (ap:Ap b l2 l4 l5 h) (x:NtS b l2 l4 l5 zs h L h') (t:TiesTo n k j L) (hz:zs.length=n) (hn:n≤8) (hk:k<j) (hj:j<n)
 (q:∀L' c h2,NtS b l2 l4 l5 zs h L' h2→TiesTo n k (j+1) L'→Q (.nx,[some (.loc b),some (.int (n:Nat)),some (.int way),some (.loc l2),some (.loc l4),some (.loc l5),some (.int (k:Nat)),some (.int ((j:Nat):Int)),some (lit c)]) h2):
 Wp ((Ai (An 8 (Ae Bx (Ab (Aa 3) (Ab (mC (.int 2)) (Ac))))) (Ai (AR (AM (Ad Cu (Aa 2) (mC (.int 0)))) (An 8 (Ad Cr (Ad Al (Ad As (Aa 4) (Aa 6)) (Ad As (Aa 4) (Aa 7))) (mC (.int 2)))) (AV)) (AR (F5 (AM (Ad JR (Ae Bx (Ab (Aa 3) (Ab (mC (.int 3)) (Ac)))) (mC (.int 0)))) (BA (AM (Ad Br (Aa 2) (mC (.int 1)))) (AM (DM Ea F8 (Aa 6) (mC (.int 3)) (Aa 7))))) (CK (DO (Aa 5) (Au (Ab (Aa 6) (Ab (Aa 7) (Ab (Aa 8) (Ac))))))) (AV)))) [some (.loc b),some (.int (n:Nat)),some (.int way),some (.loc l2),some (.loc l4),some (.loc l5),some (.int (k:Nat)),some (.int ((j:Nat):Int)),d8] h') Q:=by
 simp [-Ag]
 have y2:BoxAt h' l2:=by cases x;assumption
 refine DA y2 (by decide) (by decide) fun z h1 z0 z1 x1 s1=>?_
 have X1:=x.take ap x1 s1
 refine Eq.mpr Ag ?_
 refine Eq.mpr Bb ?_
 have two:∀(Q:Fl×Ah→HD→Prop),(∀c:Bool,Q (.nx,[some (.loc b),some (.int (n:Nat)),some (.int way),some (.loc l2),some (.loc l4),some (.loc l5),some (.int (k:Nat)),some (.int ((j:Nat):Int)),some (lit c)]) h1)→
  Wp ((AR (AM (Ad Cu (Aa 2) (mC (.int 0)))) (An 8 (Ad Cr (Ad Al (Ad As (Aa 4) (Aa 6)) (Ad As (Aa 4) (Aa 7))) (mC (.int 2)))) (AV)) [some (.loc b),some (.int (n:Nat)),some (.int way),some (.loc l2),some (.loc l4),some (.loc l5),some (.int (k:Nat)),some (.int ((j:Nat):Int)),some (.int z)] h1) Q:=by
  intro Q hQ
  by_cases hw:way=0
  ·subst hw
   have e4:h1[l4]?=some (.lst (zs.map D.int)):=by cases X1;assumption
   have i1:As (.loc l4) (.int (k:Nat)) h1=.ok (.int (zs[k]'(by omega))) h1:=EX e4 (by rw [B8,AQ (by omega)];rfl)
   have i2:As (.loc l4) (.int ((j:Nat):Int)) h1=.ok (.int (zs[j]'(by omega))) h1:=EX e4 (by rw [B8,AQ (by omega)];rfl)
   simp [i1,i2]
   refine Aj (EY (by decide)) ?_
   obtain ⟨c,ec⟩:=ZbK (z:=zs[k]'(by omega)+zs[j]'(by omega))
   simp [ec]
   exact hQ c
  ·obtain ⟨c,ec⟩:=ZbL z0 z1
   simp [hw,ec]
   exact hQ c
 refine two _ fun c=>?_
 refine Eq.mpr Ag ?_
 simp
 refine DA (by cases X1;assumption) (by decide) (by decide) fun w h2 w0 w1 x2 s2=>?_
 have X2:=X1.take ap x2 s2
 have e5:h2[l5]?=some (.lst (L.map AA)):=by cases X2;assumption
 have ll:(L.map AA).length<sizeLine:=by
  have:=t.le
  rw [Bc]
  unfold sizeLine
  omega
 have app:=q (L++[(k,j,c)]) c _ (X2.put ap) (t.add hk hj)
 have skp:=q L c h2 X2 t.skip
 have et:D.tup [.int (k:Nat),.int ((j:Nat):Int),lit c]=AA (k,j,c):=rfl
 by_cases hw:0<w
 ·by_cases hy:way=1
  ·by_cases h3:(k:Int)<3
   ·by_cases h4:(3:Int)≤(j:Int)
    ·simp [hw,hy,h3,h4,Az,Ef e5]
     rw [et]
     refine Aj (G4 e5 ll) ?_
     simp
     rw [hy] at app
     exact app
    ·simp [hw,hy,h3,h4,Az]
     rw [hy] at skp
     exact skp
   ·simp [hw,hy,h3,Az]
    rw [hy] at skp
    exact skp
  ·simp [hw,hy,Az,Ef e5]
   rw [et]
   refine Aj (G4 e5 ll) ?_
   simp
   exact app
 ·simp [hw]
  exact skp
inductive SS (b l2:Nat) (h h':HD):Prop where
 |mk (f1:BoxAt h' b) (f2:BoxAt h' l2) (f3:Smx b h h'):SS b l2 h h'
theorem ZbN {b:Nat} {h:HD} {Q:D→HD→Prop} (hx:BoxAt h b) (hb:0<b) (ht:TabAt h) (q:∀n L h',NetOk n L→BoxAt h' b→TabAt h'→Smx b h h'→Q (AE n L) h'):Wp (K3 [.loc b] h) Q:=by
 change Wp (AS 9 (R5) [.loc b] h) _
 refine Eq.mpr Bd ?_
 simp [-Ag]
 refine IP hx hb ht (by decide) (by decide) fun d1 h1 l1 x1 t1 s1=>?_
 try simp [-Ag]
 refine DA x1 (by decide) (by decide) fun way h2 w0 w1 x2 s2=>?_
 try simp [-Ag]
 obtain ⟨n,en,hn⟩:∃n:Nat,(1:Int)+(d1:Int)=(n:Int)∧1≤n∧n≤8:=⟨1+d1,by omega,by omega,by omega⟩
 rw [en]
 refine Eq.mpr Ag ?_
 simp [-Ag]
 refine Sr x2 fun l2 h3 x3 y3 n2 k2 z3=>?_
 have z03:=(s1.trans s2).trans z3
 have kl2:h.length≤l2:=by have:=(s1.trans s2).len x2.lt;omega
 refine Eq.mpr Ag ?_
 refine Eq.mpr Bb ?_
 refine Eq.mpr EU ?_
 refine ZbI (src:=[]) (xs:=List.range n) (fun i=>.int ((i:Nat):Int)) (SS b l2 h) (fun _ d=>∃z:Int,d=.int z) (fun i=>[some (.int ((i:Nat):Int)),some (.loc l2)]) ?_ (fun _ _=>BN) (fun h c x=>by obtain ⟨a1,a2,a3⟩:=x;exact ⟨a1.new,a2.new,a3.new⟩) List.nodup_range (sz hn.2) (fun x _=>rfl) ?_ fun l4 h4 h5 e i4 i5 hr e4 el4=>?_
 ·simp
  refine Aj (EV (by omega)) ?_
  exact ⟨rfl,x3,y3,z03⟩
 ·intro x hx h' i
  obtain ⟨a1,a2,a3⟩:=i
  simp
  refine DA a2 (by decide) (by decide) fun d h6 d0 d1 x6 s6=>?_
  exact ⟨⟨a1.smx s6 (Ne.symm n2),x6,a3.over s6 kl2⟩,d,rfl⟩
 obtain ⟨zs,lz,ez⟩:∃zs:List Int,zs.length=n∧(List.range n).map e=zs.map D.int:=by
  have hr':∃r:Nat→Int,∀x∈List.range n,e x=.int (r x):=⟨fun x=>if h:x∈List.range n then (hr x h).choose else 0,fun x hx=>by simp only [dif_pos hx];exact (hr x hx).choose_spec⟩
  obtain ⟨r,er⟩:=hr'
  exact ⟨(List.range n).map r,by simp,by rw [Cy];exact ED er⟩
 rw [ez] at e4
 obtain ⟨a41,a42,a43⟩:=i4
 obtain ⟨a51,a52,a53⟩:=i5
 have n42:l4≠l2:=by have:=a42.lt;omega
 have n4b:l4≠b:=by have:=a41.lt;omega
 refine Eq.mpr Ag ?_
 simp [-Ag]
 refine A0 (by simp) fun l5 h6 s6 e6 el5 _=>?_
 have n5b:l5≠b:=by have:=a51.lt;omega
 have n52:l5≠l2:=by have:=a52.lt;omega
 have n54:l5≠l4:=by have:=(qa3.mp e4).1;omega
 have ap:Ap b l2 l4 l5 h:=⟨n2,n4b,n5b,n42,n52,n54,kl2,by have:=a53.len a51.lt;omega⟩
 refine Eq.mpr Ag ?_
 refine Eq.mpr Bb ?_
 refine Ct (src:=[]) (xs:=List.range n) (fun i=>.int ((i:Nat):Int)) (SO b n l2 l4 l5 way zs h) ?_ (fun ys ρ h' _=>BN) ?_ ?_
 ·simp
  refine Aj (EV (by omega)) ?_
  exact ⟨rfl,0,[],_,_,_,by simp,by omega,rfl,⟨a51.sm s6,a52.sm s6,s6 _ _ e4,e6,a53.trans (BP s6)⟩,⟨(fun t ht=>nomatch ht),List.Pairwise.nil,Bu _⟩⟩
 ·rintro x xs ρ h' ⟨k,L,d6,d7,d8,ex,hk,rfl,st,ti⟩
  obtain ⟨rfl,hk',rfl⟩:=IT ex.symm
  refine ⟨_,rfl,?_⟩
  refine Ct (src:=[]) (xs:=List.range (n - (x+1))) (fun i=>.int (((x+1:Nat):Int)+((i:Nat):Int))) (SQ b n l2 l4 l5 way zs h x) ?_ (fun ys ρ h' _=>BN) ?_ ?_
  ·simp
   refine Aj (ZbJ (a:=x+1) (by omega) (by omega)) ?_
   exact ⟨by simp,0,L,_,_,by simp,by omega,rfl,st,ti.up⟩
  ·rintro y ys ρ h2 ⟨m,L',d7,d8,ey,hm,rfl,Dm,ti2⟩
   obtain ⟨rfl,hm',rfl⟩:=IT ey.symm
   refine ⟨_,rfl,?_⟩
   have ej:((x+1:Nat):Int)+((y:Nat):Int)=((x+1+y:Nat):Int):=by omega
   simp only [List.set_cons_succ,List.set_cons_zero]
   rw [ej]
   refine ZbM ap Dm ti2 lz hn.2 (by omega) (by omega) fun L2 c h3 Hu ti3=>?_
   simp only [Bh]
   exact ⟨y+1,L2,_,_,rfl,by omega,rfl,Hu,by rw [←Nat.add_assoc];exact ti3⟩
  ·rintro ρ h2 ⟨m,L',d7,d8,ey,hm,rfl,Dm,ti2⟩
   simp only [Bh]
   exact ⟨x+1,L',_,_,_,rfl,by omega,rfl,Dm,ti2.next (by omega)⟩
 ·rintro ρ h' ⟨k,L,d6,d7,d8,ex,hk,rfl,st,ti⟩
  have:=K5 hk ex.symm
  subst this
  obtain ⟨b1,b2,b3,b4,b5⟩:=st
  simp [Me b4]
  refine q k L h' ⟨hn.1,hn.2,fun t ht=>by have:=ti.ok t ht;omega,ti.so,by have:=ti.le;omega⟩ b1 (ht.smx b5 hb) b5
def XOk (b:Nat) (h:HD) (x:D):Prop:=Plain2 h x
def ThN (b:Nat) (h:HD) (d:D):Prop:=Plain4 h d∧(∀x∈A8 d,(A8 x).length≤1000)∧True
theorem XOk.sm {b:Nat} {h h':HD} {x:D} (z:XOk b h x) (s:Sm h h'):XOk b h' x:=Plain2.sm z s
theorem ThN.smx {b:Nat} {h h':HD} {x:D} (z:ThN b h x) (s:Smx b h h') (y:BoxAt h' b):ThN b h' x:=⟨z.1.smx s y,z.2.1,trivial⟩
section
variable {b n:Nat} {h:HD} {L:List Ak}
theorem Gy:∀d∈L.map AA,Plain2 h d:=fun d hd=>by
 obtain ⟨t,_,rfl⟩:=qaL.mp hd
 exact SJ
theorem K6 {a:D} {ts:List D} (pa:Plain3 h a) (la:(A8 a).length≤1000) (pt:∀x∈ts,Plain2 h x) (lt:ts.length≤1000):ThN b h (.tup [a,.tup ts]):=
 ⟨⟨trivial,all_cons pa (all_cons ⟨trivial,pt⟩ A4)⟩,all_cons la (all_cons lt A4),trivial⟩
theorem Nx {ts:List D} (pt:∀x∈ts,Plain2 h x) (lt:ts.length≤1000):ThN b h (.tup [.int (n:Nat),.tup ts]):=K6 (FM trivial rfl) (Bu _) pt lt
theorem K7 {d:D} (p:Plain h d) (e:A8 d=[]):ThN b h d:=⟨⟨p,(fun x hx=>by rw [e] at hx;cases hx)⟩,(fun x hx=>by rw [e] at hx;cases hx),trivial⟩
end
theorem Ny {f:ME} {ρ:Ah} {h:HD} {Q:D→HD→Prop}:Wp (DT f ρ h) Q=Wp (f ρ h) fun x h1=>Wp (Iw x h1) Q:=by unfold DT;rw [Az]
noncomputable abbrev Nz:MS:=Ai (An 9 (Ad Al (Aa 9) (A7 (Ab (Au (Ab (Aa 2) (Ab (Ae (Aw Em) (Ab (Aa 3) (Ac))) (Ac)))) (Ab (A7 (Ab (Aa 2) (Ab (Aa 3) (Ac)))) (Ab (Au (Ab (mC (.int 9)) (Ab (Aa 3) (Ac)))) (Ab (Au (Ab (mC (.int 0)) (Ab (Au (Ac)) (Ac)))) (Ab (Au (Ab (mC (.bl true)) (Ab (Au (Ac)) (Ac)))) (Ab (Au (Ab (Aa 2) (Ac))) (Ab (Au (Ab (Aa 2) (Ab (Aa 3) (Ab (Au (Ac)) (Ac))))) (Ac))))))))))) (Ai (An 9 (Ad Al (Aa 9) (A7 (Ab (mC .non) (Ab (mC (.int 1)) (Ab (mC .edic) (Ab (Aa 3) (Ab (Au (Ab (Aa 2) (Ab (DT (Aa 3)) (Ac)))) (Ab (Au (Ab (Aa 2) (Ab (Ad Al (Ad Al (AK (Aa 3) (AL) (AJ (Aa 4))) (AK (Aa 3) (AL) (AJ (mC (.int 1))))) (AK (Aa 3) (AJ (Aa 4)) (AL))) (Ac)))) (Ac)))))))))) (AD (Ad As (Aa 9) (Ae Bx (Ab (Aa 0) (Ab (Ae (Aw B5) (Ab (Aa 9) (Ac))) (Ac)))))))
noncomputable abbrev SU:MS:=Ai (An 9 (A7 (Ab (Aa 8) (Ab (Aa 8) (Ab (Aa 8) (Ab (AK (Aa 7) (AL) (AJ (mC (.int 2)))) (Ab (Ad Al (Aa 7) (Au (Ab (mC (.int 0)) (Ac)))) (Ab (Ae (Aw Em) (Ab (Aa 7) (Ac))) (Ab (mC .non) (Ab (Au (Ab (Ad As (Aa 7) (mC (.int 1))) (Ab (Ad As (Aa 7) (mC (.int 0))) (Ab (Ad As (Aa 7) (mC (.int 2))) (Ac))))) (Ab (Au (Ab (Ad As (Aa 7) (mC (.int 0))) (Ab (Ad As (Aa 7) (mC (.int 0))) (Ab (mC (.int 0)) (Ac))))) (Ab (Au (Ac)) (Ac))))))))))))) (Ai (An 9 (AY [none,some 2,some 3,some 4] (BG (Aa 9)) (A9 0) (Bw) (Au (Ab (Aa 1) (Ab (Ad Al (Ad Al (AK (Aa 2) (AL) (AJ (Aa 3))) (Au (Ab (Aa 0) (Ac)))) (AK (Aa 2) (AJ (Ad Al (Aa 3) (mC (.int 1)))) (AL))) (Ac)))))) Nz)
def K8 (b n A B:Nat) (T:List D) (y tie bent:D) (c9:Option D):Ah:=[some (.loc b),some (.tup [.int (n:Nat),.tup T]),some (.int (n:Nat)),some (.tup T),some (.int (A:Nat)),some (.int (B:Nat)),some y,some tie,some bent,c9]
theorem ZbO {b n A B l8:Nat} {L:List Ak} {y tie bent:D} {ds:List D} {h:HD} {Q:D→HD→Prop} (hx:BoxAt h b) (hb:0<b) (ht:TabAt h) (k:NetOk n L) (e8:h[l8]?=some (.lst ds)) (lds:ds.length=10) (hds:∀d∈ds,ThN b h d)
 (q:∀d h',ThN b h' d→BoxAt h' b→TabAt h'→Smx b h h'→Q d h'):Wp (Nz (K8 b n A B (L.map AA) y tie bent (some (.loc l8))) h) (Gf Q):=by
 have lL:=k.le
 have hn1:=k.n1
 have hn8:=k.n8
 have lT:(L.map AA).length=L.length:=Bc ..
 unfold Nz K8
 simp [-Ag]
 refine Aj So ?_
 refine A0 (by rw [lT];unfold sizeLine;omega) fun l9 h9 s9 e9 el9 _=>?_
 try simp [-Ag]
 refine A0 (by simp) fun l10 h10 s10 e10 el10 _=>?_
 try simp [-Ag]
 refine A0 (by simp) fun l11 h11 s11 e11 el11 _=>?_
 try simp [-Ag]
 refine Aj (FG (((s9.trans s10).trans s11) _ _ e8) e11) ?_
 refine A0 (by simp;unfold sizeLine;omega) fun l12 h12 s12 e12 el12 _=>?_
 refine Eq.mpr Ag ?_
 try simp [-Ag,Ny]
 refine Aj (show Iw (.tup (L.map AA)) h12=.ok (.tup (L.map AA).reverse) h12 from rfl) ?_
 try simp [-Ag]
 refine Aj E7 ?_
 try simp [-Ag]
 refine Aj Sx ?_
 try simp [-Ag]
 refine Aj (Cm (by simp;omega)) ?_
 try simp [-Ag]
 refine Aj E8 ?_
 try simp [-Ag]
 refine Aj (Cm (by simp;omega)) ?_
 try simp [-Ag]
 refine A0 (by simp) fun l13 h13 s13 e13 el13 _=>?_
 try simp [-Ag]
 refine Aj (FG (s13 _ _ e12) e13) ?_
 refine A0 (by simp;unfold sizeLine;omega) fun l14 h14 s14 e14 el14 _=>?_
 refine Eq.mpr Ag ?_
 have s0e:=((((s9.trans s10).trans s11).trans s12).trans s13).trans s14
 have xE:=hx.sm s0e
 have tE:=ht.sm s0e
 have nE:l14≠b:=by have:=(((((hx.sm s9).sm s10).sm s11).sm s12).sm s13).lt;omega
 have n9:l9≠b:=by have:=hx.lt;omega
 have n10:l10≠b:=by have:=(hx.sm s9).lt;omega
 have s9e:=(((s10.trans s11).trans s12).trans s13).trans s14
 have s10e:=((s11.trans s12).trans s13).trans s14
 obtain ⟨M,eM,lM,hM⟩:∃M:List D,h14[l14]?=some (.lst M)∧M.length=23∧∀d∈M,ThN b h14 d:=by
  have c9:=s9e _ _ e9
  have c10:=s10e _ _ e10
  have pT:Plain3 h14 (.tup (L.map AA)):=SK
  have pn:Plain3 h14 (.int (n:Nat)):=FM trivial rfl
  have p0:Plain3 h14 (.tup []):=FM trivial rfl
  refine ⟨_,e14,by simp [lds],B6 (B6 (fun d hd=>(hds d hd).smx (BP s0e) xE) <|
   all_cons ⟨⟨trivial,all_cons pn (all_cons (FM ⟨_,c9⟩ rfl) A4)⟩,all_cons (Bu _) (all_cons (Bu _) A4),trivial⟩ <|
   all_cons (K7 ⟨_,c10⟩ rfl) <|
   all_cons (K6 (FM trivial rfl) (Bu _) Gy (by omega)) <|
   all_cons (K6 (FM trivial rfl) (Bu _) A4 (Bu _)) <|
   all_cons (K6 (FM trivial rfl) (Bu _) A4 (Bu _)) <|
   all_cons ⟨⟨trivial,all_cons pn A4⟩,all_cons (Bu _) A4,trivial⟩ <|
   all_cons ⟨⟨trivial,all_cons pn (all_cons pT (all_cons p0 A4))⟩,all_cons (Bu _) (all_cons (by show (L.map AA).length≤1000;omega) (all_cons (Bu _) A4)),trivial⟩ A4) <|
   all_cons (K7 trivial rfl) <| all_cons (K7 trivial rfl) <| all_cons (K7 trivial rfl) <|
   all_cons ⟨⟨trivial,fun x hx=>?_⟩,fun x hx=>?_,trivial⟩ <|
   all_cons (Nx (fun z hz=>Gy z (qc5.mp hz)) (by rw [List.length_reverse];omega)) <|
   all_cons (Nx (B6 (fun z hz=>Gy z (Fe hz)) (B6 (fun z hz=>Gy z (Fe hz)) fun z hz=>Gy z (HA hz))) (by simp;omega)) A4⟩
  ·obtain ⟨t,_,rfl⟩:=qaL.mp hx
   exact ⟨trivial,all_cons (FL trivial rfl) (all_cons (FL trivial rfl) (all_cons (FL trivial rfl) A4))⟩
  ·obtain ⟨t,_,rfl⟩:=qaL.mp hx
   show 3≤1000
   decide
 clear e14
 simp [-Ag]
 refine Aj (Mq eM) ?_
 simp [-Ag]
 refine IP xE hb tE (by omega) (by omega) fun o h15 lo x15 t15 s15=>?_
 have ho:o<M.length:=by omega
 refine Aj (EX (s15 _ _ nE eM) (AQ ho)) ?_
 exact q _ _ ((hM _ (DY ho)).smx s15 x15) x15 t15 ((BP s0e).trans s15)
theorem B7 {f:ME} {fa:MA} {ρ:Ah} {h h':HD} {x:D} {Q:List D→HD→Prop} (e:f ρ h=.ok x h') (q:Wp (fa ρ h') fun xs h2=>Q (x::xs) h2):Wp (Ab f fa ρ h) Q:=by
 rw [Gg,e]
 exact q
theorem ZbP {b n A B ta tb:Nat} {tc:Bool} {L:List Ak} {y bent:D} {c9:Option D} {h5:HD} {Q:D→HD→Prop} (x5:BoxAt h5 b) (hb:0<b) (t5:TabAt h5) (k:NetOk n L) (hA:A≤L.length) (ha7:ta<100) (hb7:tb<100) (xbent:XOk b h5 bent)
 (q:∀d h',ThN b h' d→BoxAt h' b→TabAt h'→Smx b h5 h'→Q d h'):Wp (SU (K8 b n A B (L.map AA) y (.tup [D.int ((ta:Nat):Int),.int ((tb:Nat):Int),lit tc]) bent c9) h5) (Gf Q):=by
 have lL:=k.le
 have hn1:=k.n1
 have hn8:=k.n8
 have lT:(L.map AA).length=L.length:=Bc ..
 unfold SU K8
 have ix0:∀h,As (.tup [D.int ((ta:Nat):Int),.int ((tb:Nat):Int),lit tc]) (.int 0) h=.ok (.int ((ta:Nat):Int)) h:=fun h=>rfl
 have ix1:∀h,As (.tup [D.int ((ta:Nat):Int),.int ((tb:Nat):Int),lit tc]) (.int 1) h=.ok (.int ((tb:Nat):Int)) h:=fun h=>rfl
 have ix2:∀h,As (.tup [D.int ((ta:Nat):Int),.int ((tb:Nat):Int),lit tc]) (.int 2) h=.ok (lit tc) h:=fun h=>rfl
 refine Eq.mpr Bb ?_
 refine Eq.mpr EU ?_
 refine Eq.mpr Mb ?_
 have e4:AK (Aa 7) AL (AJ (mC (.int 2))) [some (.loc b),some (.tup [.int (n:Nat),.tup (L.map AA)]),some (.int (n:Nat)),some (.tup (L.map AA)),some (.int (A:Nat)),some (.int (B:Nat)),some y,some (.tup [D.int ((ta:Nat):Int),.int ((tb:Nat):Int),lit tc]),some bent,c9] h5=.ok (.tup [D.int ((ta:Nat):Int),.int ((tb:Nat):Int)]) h5:=IQ (xs:=[D.int ((ta:Nat):Int),.int ((tb:Nat):Int),lit tc])
 have e5:Ad Al (Aa 7) (Au (Ab (mC (.int 0)) Ac)) [some (.loc b),some (.tup [.int (n:Nat),.tup (L.map AA)]),some (.int (n:Nat)),some (.tup (L.map AA)),some (.int (A:Nat)),some (.int (B:Nat)),some y,some (.tup [D.int ((ta:Nat):Int),.int ((tb:Nat):Int),lit tc]),some bent,c9] h5=.ok (.tup [D.int ((ta:Nat):Int),.int ((tb:Nat):Int),lit tc,.int 0]) h5:=Cm (xs:=[D.int ((ta:Nat):Int),.int ((tb:Nat):Int),lit tc]) (ys:=[.int 0]) (by simp)
 refine B7 rfl <| B7 rfl <| B7 rfl <| B7 e4 <| B7 e5 ?_
 refine Eq.mpr Gg ?_
 refine A0 (xs:=[D.int ((ta:Nat):Int),.int ((tb:Nat):Int),lit tc]) (by simp) fun l6 h6 s6 e6 el6 _=>?_
 refine B7 rfl <| B7 (x:=.tup [.int ((tb:Nat):Int),.int ((ta:Nat):Int),lit tc]) rfl <| B7 (x:=.tup [.int ((ta:Nat):Int),.int ((ta:Nat):Int),.int 0]) rfl <| B7 rfl ?_
 refine Eq.mpr FA ?_
 refine A0 (by simp) fun l7 h7 s7 e7 el7 _=>?_
 have n6:l6≠b:=by have:=x5.lt;omega
 obtain ⟨ds,eds,lds,xds⟩:∃ds:List D,h7[l7]?=some (.lst ds)∧ds.length=10∧∀x∈ds,XOk b h7 x:=by
  have xb:=(xbent.sm s6).sm s7
  have nums:∀{i j:Int} {c:Bool},XOk b h7 (.tup [.int i,.int j,lit c]):=⟨trivial,all_cons trivial (all_cons trivial (all_cons trivial A4))⟩
  refine ⟨_,e7,by simp,all_cons xb <| all_cons xb <| all_cons xb <| all_cons ⟨trivial,all_cons trivial (all_cons trivial A4)⟩ <|
   all_cons ⟨trivial,all_cons trivial (all_cons trivial (all_cons trivial (all_cons trivial A4)))⟩ <|
   all_cons (FL ⟨_,s7 _ _ e6⟩ rfl) <| all_cons (FL trivial rfl) <|
   all_cons nums <| all_cons (nums (c:=false)) <| all_cons (FL trivial rfl) A4⟩
 clear e7 xbent
 refine Eq.mpr Ag ?_
 refine Eq.mpr Bb ?_
 refine Eq.mpr EU ?_
 refine EW (src:=[(l7,ds)]) (xs:=ds) (φ:=fun x=>x) (fun _=>true) (fun x=>.tup [.int (n:Nat),.tup ((L.map AA).take A++[x]++(L.map AA).drop (A+1))]) (fun x=>[some x,some (.int (n:Nat)),some (.tup (L.map AA)),some (.int (A:Nat))]) ?_ (by unfold sizeLine;omega) (fun x _=>rfl) (fun x hx h' s'=>.ok) (fun x hx _ h' s'=>?_) fun l8 h8 s8 e8=>?_
 ·simp
  refine Aj (G9 eds) ?_
  simp [Sm.refl]
  exact fun h2 s2=>GX (s2 _ _ eds)
 ·have eA1:((A:Int)+1)=((A+1:Nat):Int):=by omega
  simp [Pu]
  refine Aj E7 ?_
  simp
  refine Aj (Cm (by simp;omega)) ?_
  simp
  rw [eA1]
  refine Aj E8 ?_
  simp
  refine Aj (Cm (by simp;omega)) ?_
  simp [Sm.refl]
 rw [G3] at e8
 refine Eq.mpr Ag ?_
 have s58:=(s6.trans s7).trans s8
 refine ZbO (x5.sm s58) hb (t5.sm s58) k e8 (by rw [Bc];exact lds) (fun d hd=>?_) fun d h' th x t s=>q d h' th x t ((BP s58).trans s)
 obtain ⟨x,hx1,rfl⟩:=qaL.mp hd
 have px:=(xds x hx1).sm s8
 refine Nx (B6 (B6 (fun z hz=>Gy z (Fe hz)) (all_cons px A4)) fun z hz=>Gy z (HA hz)) (by simp;omega)
theorem ZbQ {b n:Nat} {L:List Ak} {h:HD} {Q:D→HD→Prop} (hx:BoxAt h b) (hb:0<b) (ht:TabAt h) (k:NetOk n L) (q:∀d h',ThN b h' d→BoxAt h' b→TabAt h'→Smx b h h'→Q d h'):Wp (KY [.loc b,AE n L] h) Q:=by
 have lL:=k.le
 have hn1:=k.n1
 have hn8:=k.n8
 have lT:(L.map AA).length=L.length:=Bc ..
 change Wp (AS 10 (RU) [.loc b,AE n L] h) _
 refine Eq.mpr Bd ?_
 simp [-Ag,AE]
 refine Eq.mpr Ag ?_
 simp [-Ag]
 refine IP hx hb ht (by omega) (by omega) fun A h1 lA x1 t1 s1=>?_
 try simp [-Ag]
 refine IP x1 hb t1 (by decide) (by decide) fun B h2 lB x2 t2 s2=>?_
 try simp [-Ag]
 refine Eq.mpr Ag ?_
 try simp [-Ag,Sn]
 refine A0 (by simp) fun l3 h3 s3 e3 el3 _=>?_
 try simp [-Ag]
 refine A0 (by simp;unfold sizeLine;omega) fun l4 h4 s4 e4 el4 _=>?_
 have x4:BoxAt h4 b:=(x2.sm s3).sm s4
 have t4:TabAt h4:=(t2.sm s3).sm s4
 have n3:l3≠b:=by have:=x2.lt;omega
 have n4:l4≠b:=by have:=(x2.sm s3).lt;omega
 try simp [-Ag]
 refine IP x4 hb t4 (by decide) (by decide) fun o h5 lo x5 t5 s5=>?_
 have e4':=s5 _ _ n4 e4
 have e3':=s5 _ _ n3 (s4 _ _ e3)
 obtain ⟨y,ey,py⟩:=Np (fun y=>Plain h5 y) (o:=o) e4' (by simp;omega) <| all_cons trivial <| all_cons trivial <|
  all_cons trivial <| all_cons trivial <| all_cons trivial <| all_cons trivial <|
  all_cons trivial <| all_cons trivial <| all_cons trivial <|
  all_cons ⟨_,e3'⟩ <| all_cons trivial A4
 refine Aj ey ?_
 refine Eq.mpr (Am _ _) ?_
 refine Eq.mpr Ag ?_
 have S:Smx b h h5:=(((s1.trans s2).trans (BP s3)).trans (BP s4)).trans s5
 clear ey
 simp [-Ag]
 refine Aj (Cm (by rw [lT];simp;omega)) ?_
 have eT:L.map AA++[.tup [.int 0,.int 1,.int 1]]=(L++[(0,1,true)]).map AA:=by rw [Cw];rfl
 rw [eT]
 have hA:A<(L++[(0,1,true)]).length:=by rw [CY];simp;omega
 refine Eq.mpr (Am _ _) ?_
 refine Aj (ix_tup (k:=A) (show ((L++[(0,1,true)]).map AA)[A]?=some (AA (L++[(0,1,true)])[A]) by rw [B8,AQ hA];rfl)) ?_
 have ht7:(L++[(0,1,true)])[A].1<100∧(L++[(0,1,true)])[A].2.1<100:=by
  rcases qaG.mp (DY hA) with z |z
  ·have:=k.ok _ z;omega
  ·rw [qa4.mp z];decide
 generalize (L++[(0,1,true)])[A]=t7 at ht7
 obtain ⟨ta,tb,tc⟩:=t7
 have ha7:ta<100:=ht7.1
 have hb7:tb<100:=ht7.2
 refine Eq.mpr (Am _ _) ?_
 refine Eq.mpr Ag ?_
 have eB1:((B:Int)+1)=((B+1:Nat):Int):=by omega
 simp [-Ag,AA]
 refine Aj E7 ?_
 try simp [-Ag]
 refine Aj (Cm (by simp;omega)) ?_
 try simp [-Ag]
 rw [eB1]
 refine Aj E8 ?_
 try simp [-Ag]
 refine Aj (Cm (by simp;omega)) ?_
 refine Eq.mpr (Am _ _) ?_
 refine Eq.mpr Ag ?_
 have tp:∀{h':HD},∀x∈[D.int ((ta:Nat):Int),.int ((tb:Nat):Int),lit tc],Plain h' x:=fun {h'}=>all_cons trivial (all_cons trivial (all_cons trivial A4))
 generalize hbent:D.tup (List.take B [D.int ((ta:Nat):Int),.int ((tb:Nat):Int),lit tc]++[y]++List.drop B [D.int ((tb:Nat):Int),lit tc])=bent
 have xbent:XOk b h5 bent:=by
  rw [←hbent]
  refine ⟨trivial,B6 (B6 (fun x hx=>tp x (Fe hx)) (all_cons py A4)) fun x hx=>tp x (A6 _ (HA hx))⟩
 exact ZbP (n:=n) (L:=L) (tc:=tc) x5 hb t5 k (by omega) ha7 hb7 xbent fun d h' th x t s=>q d h' th x t (S.trans s)
theorem Hn:∀{n:Nat} {l:List Nat},l.Nodup→(∀x∈l,x<n)→l.length≤n
 |0,l,_,h=>by
  cases l with
  |nil=>exact Ax _
  |cons x l=>exact absurd (h x AZ) (by omega)
 |n+1,l,nd,h=>by
  by_cases z:n∈l
  ·have h1:=Hn (n:=n) (nd.erase n) fun x hx=>by
    have:=(List.Nodup.mem_erase_iff nd).mp hx
    have:=h x this.2
    omega
   rw [List.length_erase_of_mem z] at h1
   omega
  ·exact Nat.le_succ_of_le (Hn (n:=n) nd fun x hx=>by
    have:=h x hx
    have:x≠n:=fun e=>z (e ▸ hx)
    omega)
theorem Forest.len {n:Nat} {adj:Nat→Nat→Bool} {A:List AO} (F:Forest n adj A):A.length≤n:=by
 have:=Hn (n:=n) F.ky fun x hx=>by
  obtain ⟨⟨e,p⟩,hm,rfl⟩:=qaL.mp hx
  exact F.lt _ _ hm
 simpa using this
theorem Forest.plen {n:Nat} {adj:Nat→Nat→Bool} {A:List AO} (F:Forest n adj A) {e:Nat} {p:List Nat} (h:(e,p)∈A):p.length≤n:=Hn (F.nd _ _ h) fun x hx=>by
 obtain ⟨q,h1,_⟩:=F.pf _ _ h x hx
 exact F.lt _ _ h1
def Aq (p:List Nat):D:=.tup (p.map fun i=>.int ((i:Nat):Int))
def By (A:List AO):List (Kyd×D):=A.map fun x=>(Kyd.i ((x.1:Nat):Int),Aq x.2)
theorem ZbR {A:List AO} {e:Nat} {p:List Nat}:By (A++[(e,p)])=By A++[(Kyd.i ((e:Nat):Int),Aq p)]:=by unfold By;rw [Cw];rfl
theorem NA {A:List AO}:DU (By A)=true:=by
 unfold DU By
 rw [qaO]
 intro p hp
 obtain ⟨x,_,rfl⟩:=qaL.mp hp
 rfl
theorem SV {A:List AO} {e:Nat}:((By A).any fun p=>decide (p.1=.i ((e:Nat):Int)))=has A e:=by
 unfold By has
 rw [List.any_map]
 congr 1
 funext x
 show decide (Kyd.i ((x.1:Nat):Int)=.i ((e:Nat):Int))=decide (x.1=e)
 rw [qaU,decide_eq_true_iff,decide_eq_true_iff]
 constructor
 ·intro z;injection z with z;omega
 ·intro z;rw [z]
section
variable {h:HD} {l:Nat} {fz:Bool} {A:List AO} {e:Nat}
theorem ZbS (el:h[l]?=some (.dic fz (By A))):Cd true (.int ((e:Nat):Int)) (.loc l) h=.ok (.bl (!has A e)) h:=by
 simp only [Cd,el]
 rw [if_pos NA,←ZaX,SV,Bool.true_xor]
theorem ZbT {p:D} {F:HD→Out (Fl×Ah)} (el:h[l]?=some (.dic false (By A))) (hn:has A e=false) (hz:A.length≤1000):IE (.loc l) (.int ((e:Nat):Int)) p h F=F (h.set l (.dic false (By A++[(Kyd.i ((e:Nat):Int),p)]))):=by
 simp only [IE,el]
 rw [if_pos ⟨NA,by unfold By;rw [Bc];unfold sizeLine;omega⟩]
 unfold Bl
 rw [SV,hn]
 rfl
theorem ZbU {q:List Nat}:As (Aq (q++[e])) (.int (-1)) h=.ok (.int ((e:Nat):Int)) h:=by
 have e1:BZ ((q++[e]).map fun i=>D.int ((i:Nat):Int)) (-1)=some (.int ((e:Nat):Int)):=by
  unfold BZ Cz
  simp
  rw [if_pos (by omega)]
  simp
  rw [show (-1+((q.length:Int)+1)).toNat=q.length by omega]
  simp
 simp only [As,Aq,Bg,e1]
theorem ZbV {ds:List D} (el:h[l]?=some (.lst ds)):Dr (.loc l) h=.ok (!ds.isEmpty) h:=by simp only [Dr,el]
theorem ZbW {ds:List D} {d:D} (el:h[l]?=some (.lst (ds++[d]))):II (.loc l) h=.ok d (h.set l (.lst ds)):=by
 simp only [II,el]
 simp
theorem ZbX {p:List Nat} {v:Nat} (hz:p.length≤1000):Al (Aq p) (.tup [.int ((v:Nat):Int)]) h=.ok (Aq (p++[v])) h:=by
 unfold Aq
 simp only [Al]
 rw [if_pos (by simp;unfold sizeLine;omega),Cw]
 rfl
end
structure LiAt (n:Nat) (adj:Nat→Nat→Bool) (ll:Nat) (h:HD):Prop where
 ex:∃fz kvs,h[ll]?=some (.dic fz kvs)∧B3 kvs=true∧∀a b,a<n→b<n→(AU kvs (.t [((a:Nat):Int),((b:Nat):Int)])).isSome=adj a b
theorem LiAt.has {n ll a b:Nat} {adj:Nat→Nat→Bool} {h:HD} (x:LiAt n adj ll h) (ha:a<n) (hb:b<n):Cd false (.tup [.int ((a:Nat):Int),.int ((b:Nat):Int)]) (.loc ll) h=.ok (.bl (adj a b)) h:=by
 obtain ⟨fz,kvs,e,h1,h2⟩:=x.ex
 simp only [Cd,e,LS.keyT,Eo,Do]
 rw [if_pos h1,h2 a b ha hb,Jp]
theorem LiAt.sm {n ll:Nat} {adj:Nat→Nat→Bool} {h h':HD} (x:LiAt n adj ll h) (s:Sm h h'):LiAt n adj ll h':=let ⟨fz,kvs,e,r⟩:=x.ex;⟨⟨fz,kvs,s _ _ e,r⟩⟩
section
variable {n ll:Nat} {adj:Nat→Nat→Bool} {h:HD}
def Ho (n:Nat) (adj:Nat→Nat→Bool) (x:List AO×List (List Nat)):List AO×List (List Nat):=match x.2.getLast? with
 |none=>x
 |some w=>if has x.1 (w.getLastD 0)=true then (x.1,x.2.dropLast) else (x.1++[(w.getLastD 0,w)],x.2.dropLast++Ew n adj (w.getLastD 0) w)
def Ey (n:Nat) (adj:Nat→Nat→Bool):Nat→List AO×List (List Nat)→List AO×List (List Nat)
 |0,x=>x
 |j+1,x=>Ho n adj (Ey n adj j x)
def Af (n:Nat) (adj:Nat→Nat→Bool):Nat→List AO
 |0=>[]
 |k+1=>(Ey n adj 100 (Af n adj k,[[k]])).1
theorem SW {n j:Nat} {adj:Nat→Nat→Bool} {x:List AO×List (List Nat)} {A:List AO} (e:Ey n adj j x=(A,[])):∀i,Ey n adj (j+i) x=(A,[])
 |0=>e
 |i+1=>by
  show Ho n adj (Ey n adj (j+i) x)=_
  rw [SW e i]
  rfl
theorem ZbY {n j:Nat} {adj:Nat→Nat→Bool} {x:List AO×List (List Nat)} {A:List AO} (e:Ey n adj j x=(A,[])) (hj:j≤100):(Ey n adj 100 x).1=A:=by
 have:=SW e (100 - j)
 rw [show j+(100 - j)=100 by omega] at this
 rw [this]
theorem ZbZ {n e:Nat} {adj:Nat→Nat→Bool} {A:List AO} {S:List (List Nat)} {q:List Nat} (h:has A e=true):Ho n adj (A,S++[q++[e]])=(A,S):=by
 unfold Ho
 simp [h]
theorem Zb0 {n e:Nat} {adj:Nat→Nat→Bool} {A:List AO} {S:List (List Nat)} {q:List Nat} (h:has A e=false):Ho n adj (A,S++[q++[e]])=(A++[(e,q++[e])],S++Ew n adj e (q++[e])):=by
 unfold Ho
 simp [h]
inductive SY (n ll ld lw r:Nat) (adj:Nat→Nat→Bool) (O:List AO) (h:HD) (m:Nat) (ρ:Ah) (h':HD):Prop where
 |mk (N:List AO) (S:List (List Nat)) (y5 y6:Option D) (er:ρ=[some (.int ((n:Nat):Int)),some (.loc ll),some (.loc ld),some (.int ((r:Nat):Int)),some (.loc lw),y5,y6]) (W:Walk n adj r O N S) (s:Sm h h') (ed:h'[ld]?=some (.dic false (By (O++N)))) (ew:h'[lw]?=some (.lst (S.map Aq))) (em:m=(n - (O++N).length)*9+S.length) (hb:m≤100) (j:Nat) (ej:Ey n adj j (O,[[r]])=(O++N,S)) (hj:j+m≤100):SY n ll ld lw r adj O h m ρ h'
inductive SZ (n ll ld:Nat) (adj:Nat→Nat→Bool) (h:HD) (xs:List Nat) (ρ:Ah) (h':HD):Prop where
 |mk (k:Nat) (O:List AO) (y3 y4 y5 y6:Option D) (ex:xs=(List.range n).drop k) (hk:k≤n) (er:ρ=[some (.int ((n:Nat):Int)),some (.loc ll),some (.loc ld),y3,y4,y5,y6]) (F:Forest n adj O) (C:IK n adj O) (al:∀i,i<k→∃p,(i,p)∈O) (eO:O=Af n adj k) (s:Sm h h') (ed:h'[ld]?=some (.dic false (By O))):SZ n ll ld adj h xs ρ h'
theorem Zb1 {Q:D→HD→Prop} (hn:n≤8) (sy:∀a b,adj a b=adj b a) (li:LiAt n adj ll h) (q:∀l h' A,Sm h h'→h'[l]?=some (.dic false (By A))→Forest n adj A→IK n adj A→(∀i,i<n→∃p,(i,p)∈A)→A=Af n adj n→Q (.loc l) h'):Wp (KO [.int ((n:Nat):Int),.loc ll] h) Q:=by
 change Wp (AS 7 Ru [.int ((n:Nat):Int),.loc ll] h) _
 refine Eq.mpr Bd ?_
 simp [-Ag]
 refine Eq.mpr Ag ?_
 refine Eq.mpr Bb ?_
 refine Ct (src:=[]) (xs:=List.range n) (fun i=>.int ((i:Nat):Int)) (SZ n ll h.length adj h) ?_ (fun ys ρ h' _=>BN) ?_ ?_
 ·simp [EV (show n≤1000 by omega)]
  exact ⟨0,[],_,_,_,_,by simp,by omega,rfl,.nil,fun a pa ha=>(nomatch ha),fun i hi=>absurd hi (by omega),rfl,.app _ _,by simp [By]⟩
 ·rintro r xs ρ h1 ⟨k,O,y3,y4,y5,y6,ex,hk,rfl,F,C,al,eO,s1,ed1⟩
  obtain ⟨rfl,hr,rfl⟩:=IT ex.symm
  refine ⟨_,rfl,?_⟩
  refine Eq.mpr Bb ?_
  simp [-Ag]
  refine A0 (by simp) fun lw h2 s2 e2 elw _=>?_
  refine Eq.mpr Ag ?_
  have ld0:h.length≠lw:=fun z=>by
   have:=(qa3.mp ed1).1
   omega
  have lw0:h.length≤lw:=by have:=s1.len;omega
  refine Y4 (SY n ll h.length lw r adj O h) _ ?_ ⟨[],[[r]],_,_,rfl,.start F,s1.trans s2,by rw [B9];exact s2 _ _ ed1,e2,rfl,by simp;omega,0,by rw [B9];rfl,by simp;omega⟩ ?_
  ·have:=F.len
   simp
   omega
  ·rintro m ρ h3 ⟨N,S,y5,y6,rfl,W,s3,ed3,ew3,rfl,hb,j,ej,hj⟩
   have li3:=li.sm s3
   simp
   refine Aj (ZbV ew3) ?_
   rw [Am]
   rcases Hx S with rfl |⟨S',w,rfl⟩
   ·obtain ⟨C2,ar⟩:=W.done sy C
    simp [Bh]
    exact ⟨r+1,O++N,_,_,_,_,rfl,by omega,rfl,W.F,C2,fun i hi=>by
     by_cases z:i=r
     ·subst z;exact ar
     ·obtain ⟨p,hp⟩:=al i (by omega)
      exact ⟨p,Cj _ hp⟩,by rw [Af,←eO,ZbY ej (by omega)],s3,ed3⟩
   ·rw [Hz] at *
    obtain ⟨q0,e,rfl⟩:∃q0 e,w=q0++[e]:=by
     rcases W.st w (Be _ (qa4.mpr rfl)) with z |⟨a,q',v,_,_,_,z⟩
     ·exact ⟨[],r,z⟩
     ·exact ⟨q',v,z⟩
    have lwl:=(qa3.mp ew3).1
    have ldl:=(qa3.mp ed3).1
    rw [Cw] at ew3
    simp [Ef ew3,-Ag]
    refine Aj (ZbW ew3) ?_
    rw [Am]
    have ed4:(h3.set lw (.lst (S'.map Aq)))[h.length]?=some (.dic false (By (O++N))):=by rw [Bp (Ne.symm ld0)];exact ed3
    have ew4:(h3.set lw (.lst (S'.map Aq)))[lw]?=some (.lst (S'.map Aq)):=BR lwl
    have s4:Sm h (h3.set lw (.lst (S'.map Aq))):=Sm.put s3 lw0
    generalize (h3.set lw (.lst (S'.map Aq)))=h4 at *
    refine Aj ZbU ?_
    rw [Am]
    refine Aj (ZbS ed4) ?_
    rw [Am]
    cases hc:has (O++N) e with
    |true=>
     simp [Bh]
     exact ⟨_,by first |omega |(simp;done) |(simp at hb ⊢;omega),N,S',_,_,rfl,W.skip hc,s4,ed4,ew4,rfl,by simp at hb ⊢;omega,j+1,by rw [Ey,ej,ZbZ hc],by simp at hj ⊢;omega⟩
    |false=>
     obtain ⟨he,W'⟩:=W.take hr hc
     have fl:=W'.F.len
     have pl:=W'.F.plen (Be _ (Be _ (qa4.mpr rfl)))
     have al4:=W.F.len
     simp [-Ag]
     refine Aj (ZbT ed4 hc (by omega)) ?_
     rw [Am]
     have ldl4:=(qa3.mp ed4).1
     have ed5:(h4.set h.length (.dic false (By (O++N)++[(Kyd.i ((e:Nat):Int),Aq (q0++[e]))])))[h.length]?=some (.dic false (By (O++(N++[(e,q0++[e])])))):=by
      rw [BR ldl4,←ZbR,Cf]
     have ew5:(h4.set h.length (.dic false (By (O++N)++[(Kyd.i ((e:Nat):Int),Aq (q0++[e]))])))[lw]?=some (.lst (S'.map Aq)):=by rw [Bp ld0];exact ew4
     have s5:Sm h (h4.set h.length (.dic false (By (O++N)++[(Kyd.i ((e:Nat):Int),Aq (q0++[e]))]))):=Sm.put s4 (Ax _)
     generalize (h4.set h.length (.dic false (By (O++N)++[(Kyd.i ((e:Nat):Int),Aq (q0++[e]))])))=h5 at *
     refine Eq.mpr Ag ?_
     simp [Ef ew5]
     refine EW (src:=[]) (xs:=List.range n) (φ:=fun v=>.int ((v:Nat):Int)) (adj e) (fun v=>Aq (q0++[e]++[v])) (fun v=>[some (.int ((v:Nat):Int)),some (Aq (q0++[e])),some (.int ((e:Nat):Int)),some (.loc ll)]) ?_ (by rw [List.length_range];unfold sizeLine;omega) (fun x _=>rfl) (fun x hx h' s'=>?_) (fun x hx _ h' s'=>?_) fun lc h6 s6 e6=>?_
     ·simp [EV (show n≤1000 by omega),Sm.refl,BM]
     ·have hx:=qbR.mp hx
      have:=(li.sm (s5.trans s')).has he hx
      simp [Pu]
      refine Aj this ?_
      rw [Am]
      simp [Sm.refl]
     ·simp [Pu]
      refine Aj (ZbX (by omega)) ?_
      rw [Am]
      simp [Sm.refl]
     ·have ew6:=s6 _ _ ew5
      have lwl6:=(qa3.mp ew6).1
      have ef:((List.range n).filter (adj e)).map (fun v=>Aq (q0++[e]++[v]))=(Ew n adj e (q0++[e])).map Aq:=by
       unfold Ew
       rw [Cy]
       rfl
      rw [ef] at e6
      have pz:(Ew n adj e (q0++[e])).length≤n:=by
       unfold Ew
       rw [Bc]
       have:=Hw (adj e) (List.range n)
       rwa [List.length_range] at this
      have sz:S'.length≤1000:=by simp at hb;omega
      refine Aj (ZaD ew6 e6 (by rw [Bc,Bc];unfold sizeLine;omega)) ?_
      rw [Am]
      simp only [Bh]
      refine ⟨_,?_,N++[(e,q0++[e])],S'++Ew n adj e (q0++[e]),_,_,rfl,W',Sm.put (s5.trans s6) lw0,?_,?_,rfl,?_,j+1,by rw [Ey,ej,Zb0 hc,Cf],?_⟩
      ·simp at fl al4 ⊢
       omega
      ·rw [Bp (Ne.symm ld0)]
       exact s6 _ _ ed5
      ·rw [BR lwl6,Cw]
      ·simp at fl al4 hb ⊢
       omega
      ·simp at fl al4 hj ⊢
       omega
 ·rintro ρ h1 ⟨k,O,y3,y4,y5,y6,ex,hk,rfl,F,C,al,eO,s1,ed1⟩
  have:=K5 hk ex.symm
  subst this
  simp
  exact q _ h1 O s1 ed1 F C al eO
end
def mt (x y:Nat) (t:Ak):Bool:=decide (t.1=x∧t.2.1=y∨t.1=y∧t.2.1=x)
theorem S3 {x y:Nat}:mt x y=mt y x:=by
 funext t
 unfold mt
 rw [qaU,decide_eq_true_iff,decide_eq_true_iff]
 exact Or.comm
def ad (L:List Ak) (x y:Nat):Bool:=L.any (mt x y)
def li (L:List Ak) (x y:Nat):Bool:=((L.reverse.find? (mt x y)).map (·.2.2)).getD false
theorem S4 {L:List Ak} (x y:Nat):ad L x y=ad L y x:=by unfold ad;rw [S3]
theorem S6 {L:List Ak} (x y:Nat):li L x y=li L y x:=by unfold li;rw [S3]
theorem NB {k k':Kyd} {v:D}:∀{acc:List (Kyd×D)},(acc.any fun p=>decide (p.1=k))=true→AU (acc.map fun p=>if p.1=k then (p.1,v) else p) k'=if k=k' then some v else AU acc k'
 |[],z=>by simp at z
 |x::acc,z=>by
  rw [BE]
  unfold AU
  rw [Co,Co]
  by_cases e:x.1=k
  ·rw [if_pos e]
   by_cases e2:k=k'
   ·simp [e,e2]
   ·have e3:¬x.1=k':=fun y=>e2 (e ▸ y)
    simp only [e3,e2,decide_false,if_false]
    by_cases z2:(acc.any fun p=>decide (p.1=k))=true
    ·have:=NB (k':=k') (v:=v) z2
     rw [if_neg e2] at this
     exact this
    ·have:(acc.map fun p=>if p.1=k then (p.1,v) else p)=acc:=by
      conv=>rhs;rw [←List.map_id acc]
      refine ED fun p hp=>?_
      rw [if_neg]
      ·rfl
      ·intro y
       exact z2 (qb4.mpr ⟨p,hp,decide_eq_true y⟩)
     rw [this]
  ·rw [if_neg e]
   by_cases e2:x.1=k'
   ·have:¬k=k':=fun y=>e (by rw [e2,y])
    simp [e2,this]
   ·simp only [e2,decide_false]
    have z2:(acc.any fun p=>decide (p.1=k))=true:=by
     rw [GK] at z
     simpa [e] using z
    exact NB z2
theorem NC {acc:List (Kyd×D)} {k k':Kyd} {v:D}:AU (Bl acc k v) k'=if k=k' then some v else AU acc k':=by
 unfold Bl
 by_cases z:(acc.any fun p=>decide (p.1=k))=true
 ·rw [if_pos z]
  exact NB z
 ·rw [if_neg z]
  unfold AU
  rw [Jm]
  by_cases e2:k=k'
  ·subst e2
   have:acc.find? (fun p=>decide (p.1=k))=none:=qbL.mpr fun p hp y=>z (qb4.mpr ⟨p,hp,y⟩)
   rw [this]
   simp
  ·simp [e2]
def kT (x y:Nat):Kyd:=.t [((x:Nat):Int),((y:Nat):Int)]
theorem kT_inj {x y a b:Nat}:kT x y=kT a b↔x=a∧y=b:=by
 unfold kT
 constructor
 ·intro z
  injection z with z
  injection z with z1 z2
  injection z2 with z2
  exact ⟨by omega,by omega⟩
 ·rintro ⟨rfl,rfl⟩;rfl
def Ez (acc:List (Kyd×D)) (t:Ak):List (Kyd×D):=Bl (Bl acc (kT t.1 t.2.1) (lit t.2.2)) (kT t.2.1 t.1) (lit t.2.2)
def BK (L:List Ak):List (Kyd×D):=L.foldl Ez []
theorem Zb2 {L:List Ak} {t:Ak}:BK (L++[t])=Ez (BK L) t:=by unfold BK;rw [List.foldl_append];rfl
theorem Zb3 {acc:List (Kyd×D)} {t:Ak} {x y:Nat}:AU (Ez acc t) (kT x y)=if mt x y t=true then some (lit t.2.2) else AU acc (kT x y):=by
 unfold Ez
 rw [NC,NC]
 unfold mt
 by_cases h1:t.2.1=x∧t.1=y
 ·rw [if_pos (kT_inj.mpr h1),if_pos (decide_eq_true (.inr ⟨h1.2,h1.1⟩))]
 ·rw [if_neg fun z=>h1 (kT_inj.mp z)]
  by_cases h2:t.1=x∧t.2.1=y
  ·rw [if_pos (kT_inj.mpr h2),if_pos (decide_eq_true (.inl h2))]
  ·rw [if_neg fun z=>h2 (kT_inj.mp z),if_neg]
   intro z
   rcases of_decide_eq_true z with w |w
   ·exact h2 w
   ·exact h1 ⟨w.2,w.1⟩
theorem S7 {x y:Nat}:∀{L:List Ak} {acc:List (Kyd×D)},AU (L.foldl Ez acc) (kT x y)=(match L.reverse.find? (mt x y) with |some t=>some (lit t.2.2) |none=>AU acc (kT x y))
 |[],acc=>rfl
 |t::L,acc=>by
  rw [GI,S7,CZ,Jm]
  cases h:L.reverse.find? (mt x y) with
  |some t'=>rfl
  |none=>
   simp only [Option.none_or,Co,List.find?_nil]
   rw [Zb3]
   cases h2:mt x y t<;>simp
theorem ND {L:List Ak} {x y:Nat}:AU (BK L) (kT x y)=if ad L x y=true then some (lit (li L x y)) else none:=by
 unfold BK
 rw [S7]
 unfold ad li
 cases h:L.reverse.find? (mt x y) with
 |some t=>
  have:L.any (mt x y)=true:=qb4.mpr ⟨t,by have:=GD h;simpa using this,FV h⟩
  rw [if_pos this]
  rfl
 |none=>
  have:¬L.any (mt x y)=true:=fun z=>by
   obtain ⟨t,ht,hm⟩:=qb4.mp z
   exact qbL.mp h t (by simpa using ht) hm
  rw [if_neg this]
  rfl
theorem K9 {acc:List (Kyd×D)} {ns:List Int} {v:D} (h:B3 acc=true):B3 (Bl acc (.t ns) v)=true:=by
 unfold B3 Bl at *
 rw [qaO] at *
 split
 ·intro p hp
  obtain ⟨q,hq,rfl⟩:=qaL.mp hp
  have:=h q hq
  split
  ·exact this
  ·exact this
 ·intro p hp
  rcases qaG.mp hp with z |z
  ·exact h p z
  ·rw [qa4] at z;subst z;rfl
theorem La {L:List Ak}:∀{acc:List (Kyd×D)},B3 acc=true→B3 (L.foldl Ez acc)=true:=by
 induction L with
 |nil=>intro acc h;exact h
 |cons t L ih=>intro acc h;exact ih (K9 (K9 h))
theorem Zb4 {L:List Ak}:(BK L).length≤2*L.length:=by
 have key:∀(L:List Ak) (acc:List (Kyd×D)),(L.foldl Ez acc).length≤acc.length+2*L.length:=fun L=>by
  induction L with
  |nil=>intro acc;simp
  |cons t L ih=>
   intro acc
   have h1:=ih (Ez acc t)
   have h2:(Ez acc t).length≤acc.length+2:=by
    unfold Ez
    have a:=Hg (kvs:=acc) (k:=kT t.1 t.2.1) (d:=lit t.2.2)
    have b:=Hg (kvs:=Bl acc (kT t.1 t.2.1) (lit t.2.2)) (k:=kT t.2.1 t.1) (d:=lit t.2.2)
    omega
   simp
   omega
 have:=key L []
 simpa [BK] using this
theorem Zb5 {n ll:Nat} {L:List Ak} {h:HD} {fz:Bool} (e:h[ll]?=some (.dic fz (BK L))):LiAt n (ad L) ll h:=⟨⟨fz,BK L,e,La rfl,fun a b _ _=>by
 show (AU (BK L) (kT a b)).isSome=_
 rw [ND]
 cases ad L a b<;>rfl⟩⟩
section
variable {h:HD} {x:D} {src:A1} {L:List Ak}
theorem S9 {l:Nat} {kvs:List (Kyd×D)} {a b:Nat} {v:D} {F:HD→Out (Fl×Ah)} (e:h[l]?=some (.dic false kvs)) (ha:B3 kvs=true) (hz:kvs.length<sizeLine):IG (.loc l) (.tup [.int ((a:Nat):Int),.int ((b:Nat):Int)]) v h F=F (h.set l (.dic false (Bl kvs (kT a b) v))):=by
 simp only [IG,LS.keyT,Eo,Do,e]
 rw [if_pos ⟨ha,hz⟩]
 rfl
inductive Ta (L:List Ak) (x:D) (ld:Nat) (h:HD) (xs:List Ak) (ρ:Ah) (h':HD):Prop where
 |mk (dn:List Ak) (y2 y3 y4:Option D) (ex:dn++xs=L) (er:ρ=[some x,some (.loc ld),y2,y3,y4]) (s:Sm h h') (ed:h'[ld]?=some (.dic false (BK dn))):Ta L x ld h xs ρ h'
theorem Tb {Q:D→HD→Prop} (hz:L.length≤1000) (it:∀h',Sm h h'→Gb x h'=.ok (L.map AA,src) h') (so:∀h',Sm h h'→BM src (L.map AA) h') (q:∀l h',Sm h h'→h'[l]?=some (.dic false (BK L))→Q (.loc l) h'):Wp (Hi [x] h) Q:=by
 change Wp (AS 5 Rr [x] h) _
 refine Eq.mpr Bd ?_
 simp [-Ag]
 refine Eq.mpr Ag ?_
 refine Eq.mpr Bb ?_
 refine Ct (src:=src) (xs:=L) AA (Ta L x h.length h) ?_ (fun ys ρ h' ⟨_,_,_,_,_,_,s,_⟩=>so h' s) ?_ ?_
 ·simp
  refine Aj (it _ (.app _ _)) ?_
  rw [Am]
  exact ⟨rfl,[],_,_,_,rfl,rfl,.app _ _,by simp [BK]⟩
 ·rintro t xs ρ h1 ⟨dn,y2,y3,y4,ex,rfl,s,ed⟩
  refine ⟨_,rfl,?_⟩
  have hl:dn.length≤L.length:=by rw [←ex];simp
  have ha:B3 (BK dn)=true:=La rfl
  have hk:=Zb4 (L:=dn)
  have l1:=(qa3.mp ed).1
  simp [-Ag]
  refine Aj (S9 ed ha (by unfold sizeLine;omega)) ?_
  rw [Am]
  refine Eq.mpr Ag ?_
  simp
  have ed2:(h1.set h.length (.dic false (Bl (BK dn) (kT t.1 t.2.1) (lit t.2.2))))[h.length]?=some (.dic false (Bl (BK dn) (kT t.1 t.2.1) (lit t.2.2))):=BR l1
  have hk2:=Hg (kvs:=BK dn) (k:=kT t.1 t.2.1) (d:=lit t.2.2)
  refine Aj (S9 ed2 (K9 ha) (by unfold sizeLine;omega)) ?_
  rw [Am]
  simp only [Bh]
  refine ⟨dn++[t],_,_,_,by simpa using ex,rfl,Sm.put (Sm.put s (Ax _)) (Ax _),?_⟩
  rw [BR (by simpa using l1),Zb2]
  rfl
 ·rintro ρ h1 ⟨dn,y2,y3,y4,ex,rfl,s,ed⟩
  rw [B9] at ex
  subst ex
  simp
  exact q _ h1 s ed
def bi (b:Bool):Int:=if b then 1 else 0
def AH (L:List Ak) (p:List Nat):Int:=((p.zip p.tail).map fun z=>bi (li L z.1 z.2)).sum
def BX (L:List Ak) (p:List Nat):Prop:=∀z∈p.zip p.tail,ad L z.1 z.2=true
theorem Tc {xs:List D}:CS (.tup xs) (some 1) none h=.ok (.tup (xs.drop 1)) h:=by
 simp only [CS]
 unfold LS.cutD
 rw [show (1:Int)=((1:Nat):Int) from rfl,HT.sIx_nat,HT.sIx_none]
 cases xs with
 |nil=>rfl
 |cons a xs=>simp
theorem Td {l:Nat} {fz:Bool} {p:List Nat} (e:h[l]?=some (.dic fz (BK L))) (al:BX L p) (hz:p.length≤1000):Pu (FI [.loc l,Aq p] h) h (.int (AH L p)):=by
 change Wp (AS 2 Rw [.loc l,Aq p] h) _
 refine Eq.mpr Bd ?_
 simp
 refine Pu.wp (Y2 (src:=[]) (xs:=p.zip p.tail) (φ:=fun z=>.tup [.int ((z.1:Nat):Int),.int ((z.2:Nat):Int)]) (fun z=>bi (li L z.1 z.2)) (fun z=>[some (.tup [.int ((z.1:Nat):Int),.int ((z.2:Nat):Int)]),some (.loc l)]) ?_ (fun x _=>rfl) (fun z hz h' s'=>?_) ?_) fun h2 s2=>?_
 ·simp [FB,Aq]
  refine Aj Tc ?_
  rw [Am]
  have ez:Dw (p.map fun i=>D.int ((i:Nat):Int)) ((p.map fun i=>D.int ((i:Nat):Int)).drop 1)=(p.zip p.tail).map fun z=>.tup [.int ((z.1:Nat):Int),.int ((z.2:Nat):Int)]:=by
   unfold Dw
   rw [←List.map_drop,List.drop_one,List.zipWith_map,List.zip,List.map_zipWith]
  refine Aj (show G7 [.tup (p.map fun i=>D.int ((i:Nat):Int)),.tup ((p.map fun i=>D.int ((i:Nat):Int)).drop 1)] h=.ok (Dw (p.map fun i=>D.int ((i:Nat):Int)) ((p.map fun i=>D.int ((i:Nat):Int)).drop 1),[]) h from rfl) ?_
  rw [Am,ez]
  exact ⟨rfl,.refl _,fun h' s'=>BN⟩
 ·have:=al z hz
  simp [Pu]
  have eg:AU (BK L) (.t [((z.1:Nat):Int),((z.2:Nat):Int)])=some (lit (li L z.1 z.2)):=by
   have:=ND (L:=L) (x:=z.1) (y:=z.2)
   rw [al z hz,if_pos rfl] at this
   exact this
  have ek:LS.keyT (.tup [.int ((z.1:Nat):Int),.int ((z.2:Nat):Int)])=some [((z.1:Nat):Int),((z.2:Nat):Int)]:=rfl
  refine Aj (show Cg (.loc l) (.tup [.int ((z.1:Nat):Int),.int ((z.2:Nat):Int)]) h'=.ok (lit (li L z.1 z.2)) h' from ?_) ?_
  ·simp only [Cg,s' _ _ e,ek,eg]
   exact if_pos (show B3 (BK L)=true from La rfl)
  ·rw [Am]
   exact ⟨rfl,.refl _⟩
 ·rw [List.length_zip]
  unfold sizeLine
  omega
 ·exact ⟨rfl,s2⟩
end
def Gz (t:Ak):List Int:=[((t.1:Nat):Int),((t.2.1:Nat):Int),bi t.2.2]
section
variable {n n':Nat} {L L':List Ak} {h:HD}
end
theorem NetOk.sw {n:Nat} {L:List Ak} {p:Nat→Bool} (k:NetOk n L):NetOk n (L.map (BW p)):=⟨k.n1,k.n8,fun t ht=>by
 obtain ⟨s,hs,rfl⟩:=qaL.mp ht
 exact k.ok s hs,by
 rw [GH]
 exact k.so.imp fun h=>h,by rw [Bc];exact k.le⟩
def prD (t:Ak):D:=.tup [.int ((t.1:Nat):Int),.int ((t.2.1:Nat):Int)]
def prI (t:Ak):List Int:=[((t.1:Nat):Int),((t.2.1:Nat):Int)]
section
variable {n:Nat} {L L':List Ak} {h:HD}
end
def dif (L L':List Ak):List Ak:=(L.zip L').map fun z=>(z.1.1,z.1.2.1,Bool.xor z.1.2.2 z.2.2.2)
def par (T:List Ak) (A:List AO) (i:Nat):Bool:=decide (AH T ((Bv A i).getD []) % 2=1)
theorem Lb {n:Nat} {adj:Nat→Nat→Bool} {A:List AO} (F:Forest n adj A) {e:Nat} {p:List Nat} (h:(e,p)∈A):Bv A e=some p:=by
 unfold Bv
 cases hf:A.find? fun x=>decide (x.1=e) with
 |none=>exact absurd (decide_eq_true (show (e,p).1=e from rfl)) (qbL.mp hf _ h)
 |some x=>
  have h0:decide (x.1=e)=true:=FV (p:=fun x:AO=>decide (x.1=e)) hf
  have h1:=of_decide_eq_true h0
  have h2:=GD hf
  obtain ⟨e',p'⟩:=x
  simp only at h1
  subst h1
  rw [F.one h h2]
  rfl
theorem Zb6 {A:List AO} {e:Nat}:AU (By A) (.i ((e:Nat):Int))=(Bv A e).map Aq:=by
 unfold AU By Bv
 rw [List.find?_map,Option.map_map,Option.map_map]
 have:((fun p:Kyd×D=>decide (p.1=Kyd.i ((e:Nat):Int)))∘fun x:AO=>(Kyd.i ((x.1:Nat):Int),Aq x.2))=fun x:AO=>decide (x.1=e):=by
  funext x
  show decide (Kyd.i ((x.1:Nat):Int)=.i ((e:Nat):Int))=decide (x.1=e)
  rw [qaU,decide_eq_true_iff,decide_eq_true_iff]
  exact ⟨fun z=>by injection z with z;omega,fun z=>by rw [z]⟩
 rw [this]
 rfl
theorem NF {p:List Nat} {e:Nat}:∀{q:List Nat},q≠[]→(q++[e]).zip (q++[e]).tail=q.zip q.tail++[(q.getLastD 0,e)]
 |[],h=>absurd rfl h
 |[a],_=>rfl
 |a::b::q,_=>by
  have:=NF (p:=p) (e:=e) (q:=b::q) (by simp)
  show (a,b)::((b::q++[e]).zip (b::q++[e]).tail)=_
  rw [this]
  rfl
theorem IU {n:Nat} {L:List Ak} {A:List AO} (F:Forest n (ad L) A):∀(m:Nat) (e:Nat) (p:List Nat),p.length≤m→(e,p)∈A→BX L p
 |0,e,p,hm,h=>by
  obtain ⟨q,rfl⟩:=F.last h
  simp at hm
 |m+1,e,p,hm,h=>by
  rcases F.tr e p h with rfl |⟨r,q,h1,h2,rfl⟩
  ·intro z hz;cases hz
  ·have ih:=IU F m r q (by simp at hm;omega) h1
   obtain ⟨q',rfl⟩:=F.last h1
   intro z hz
   rw [NF (p:=[]) (by simp)] at hz
   rcases qaG.mp hz with w |w
   ·exact ih z w
   ·rw [qa4] at w
    subst w
    simpa using h2
section
variable {n:Nat} {L L':List Ak} {h:HD}
theorem NG {l:Nat} {fz:Bool} {A:List AO} {adj:Nat→Nat→Bool} {e:Nat} {p:List Nat} (F:Forest n adj A) (hp:(e,p)∈A) (el:h[l]?=some (.dic fz (By A))):Cg (.loc l) (.int ((e:Nat):Int)) h=.ok (Aq p) h:=by
 have eg:AU (By A) (.i ((e:Nat):Int))=some (Aq p):=by rw [Zb6,Lb F hp];rfl
 simp only [Cg,el,eg]
 exact if_pos NA
theorem Te {lt lp:Nat} {T:List Ak} {A:List AO} {i:Nat} {f1 f2:Bool} {Q:D→HD→Prop} (n8:n≤8) (F:Forest n (ad T) A) (et:h[lt]?=some (.dic f1 (BK T))) (ep:h[lp]?=some (.dic f2 (By A))) (hi:∃p,(i,p)∈A) (q:∀h',Sm h h'→Q (.int (AH T ((Bv A i).getD []))) h'):
 Wp (Cg (.loc lp) (.int ((i:Nat):Int)) h) fun d h1=>Wp (FI [.loc lt,d] h1) Q:=by
 obtain ⟨p,hp⟩:=hi
 refine Aj (NG F hp ep) ?_
 rw [Am]
 have hl:=F.plen hp
 refine (Td et (IU F _ i p (Ax _) hp) (by omega)).wp fun h1 s1=>?_
 have:=q h1 s1
 rw [Lb F hp] at this
 exact this
end
theorem DE {L:List Ak} {a b:Nat} {r:List Nat}:AH L (a::b::r)=bi (li L a b)+AH L (b::r):=rfl
theorem Zb7 {x:Bool}:bi x % 2=bi x:=by cases x<;>rfl
theorem Zb8 {x y:Bool}:(bi x+bi y) % 2=bi (Bool.xor x y):=by cases x<;>cases y<;>rfl
theorem Hq {L:List Ak} {a b:Nat} {r:List Nat} (h:BX L (a::b::r)):ad L a b=true∧BX L (b::r):=⟨h (a,b) AZ,fun z hz=>h z (A6 _ hz)⟩
theorem NH {L:List Ak} {S:Nat→Bool} (hS:∀x y,ad L x y=true→li L x y=Bool.xor (S x) (S y)):∀(r:List Nat) (a:Nat),BX L (a::r)→AH L (a::r) % 2=bi (Bool.xor (S a) (S ((a::r).getLastD 0)))
 |[],a,_=>by
  show (0:Int) % 2=bi (Bool.xor (S a) (S a))
  rw [Bool.xor_self]
  rfl
 |b::r,a,h=>by
  obtain ⟨h1,h2⟩:=Hq h
  rw [DE,hS a b h1]
  have ih:=NH hS r b h2
  have e:(b::r).getLastD 0=(a::b::r).getLastD 0:=rfl
  rw [e] at ih
  rw [Int.add_emod,ih,Zb7,Zb8]
  congr 1
  generalize S ((a::b::r).getLastD 0)=x
  cases S a<;>cases S b<;>cases x<;>rfl
theorem Tf {T:List Ak} {S:Nat→Bool} (h:∀t∈T,t.2.2=Bool.xor (S t.1) (S t.2.1)) {x y:Nat} (ha:ad T x y=true):li T x y=Bool.xor (S x) (S y):=by
 unfold li
 cases hf:T.reverse.find? (mt x y) with
 |none=>
  obtain ⟨t,ht,hm⟩:=qb4.mp ha
  exact absurd hm (qbL.mp hf t (by simpa using ht))
 |some t=>
  have ht:t∈T:=by have:=GD hf;simpa using this
  have hm:mt x y t=true:=FV hf
  show t.2.2=_
  rw [h t ht]
  rcases of_decide_eq_true hm with ⟨h1,h2⟩ |⟨h1,h2⟩
  ·rw [h1,h2]
  ·rw [h1,h2,Bool.xor_comm]
section
variable {n:Nat} {L:List Ak} {S:Nat→Bool} {A:List AO}
theorem NI {t:Ak} (ht:t∈L):ad L t.1 t.2.1=true:=qb4.mpr ⟨t,ht,decide_eq_true (.inl ⟨rfl,rfl⟩)⟩
def NJ (L:List Ak):List Ak:=L.map fun t=>(t.1,t.2.1,false)
def EA (L:List Ak):Prop:=∃S,L.map (BW S)=NJ L
open Classical in
end
def Ci:List Nat→List Nat→List Nat
 |a::p,b::q=>if a=b then a::Ci p q else []
 |_,_=>[]
theorem NK:∀{p q:List Nat},Ci p q <+:p
 |[],q=>by unfold Ci;exact Jo
 |a::p,[]=>by unfold Ci;exact Jo
 |a::p,b::q=>by
  unfold Ci
  split
  ·exact (List.prefix_cons_inj a).mpr NK
  ·exact Jo
theorem NL:∀{p q:List Nat},Ci p q=Ci q p
 |[],[]=>rfl
 |[],_::_=>rfl
 |_::_,[]=>rfl
 |a::p,b::q=>by
  unfold Ci
  by_cases e:a=b
  ·subst e;rw [if_pos rfl,if_pos rfl,NL]
  ·rw [if_neg e,if_neg (Ne.symm e)]
theorem Tg:∀{r p q:List Nat},r <+:p→r <+:q→r <+:Ci p q
 |[],_,_,_,_=>Jo
 |x::r,p,q,h1,h2=>by
  obtain ⟨p',rfl⟩:=h1
  obtain ⟨q',rfl⟩:=h2
  show x::r <+:Ci (x::(r++p')) (x::(r++q'))
  unfold Ci
  rw [if_pos rfl]
  exact (List.prefix_cons_inj x).mpr (Tg (EF _ _) (EF _ _))
structure Th (p q c p' q':List Nat):Prop where
 ep:p=c++p'
 eq:q=c++q'
 d1:∀x∈p',x∉q
 d2:∀x∈q',x∉p
 ne:c≠[]
theorem Zb9 {n:Nat} {adj:Nat→Nat→Bool} {A:List AO} (F:Forest n adj A) {a b:Nat} {p q:List Nat} (ha:(a,p)∈A) (hb:(b,q)∈A) (hh:p.head?=q.head?):∃c p' q',Th p q c p' q':=by
 obtain ⟨p',ep⟩:=NK (p:=p) (q:=q)
 have l2:Ci p q <+:q:=by rw [NL];exact NK
 obtain ⟨q',eq⟩:=l2
 have key:∀(a b:Nat) (p q p':List Nat),(a,p)∈A→(b,q)∈A→Ci p q++p'=p→∀x∈p',x∉q:=fun a b p q p' ha hb ep x hx hq=>by
  obtain ⟨r,h1,h2⟩:=F.pf a p ha x (by rw [←ep];exact Be _ hx)
  obtain ⟨r',h3,h4⟩:=F.pf b q hb x hq
  have:=F.one h1 h3
  subst this
  have h5:=Tg h2 h4
  obtain ⟨s,es⟩:=F.last h1
  have xc:x∈Ci p q:=h5.subset (by rw [es];simp)
  have nd:=F.nd a p ha
  rw [←ep,qbM] at nd
  exact nd.2.2 x xc x hx rfl
 refine ⟨Ci p q,p',q',ep.symm,eq.symm,key a b p q p' ha hb ep,?_,?_⟩
 ·have:=key b a q p q' hb ha (by rw [NL];exact eq)
  exact this
 ·obtain ⟨s,rfl⟩:=F.last ha
  obtain ⟨t,rfl⟩:=F.last hb
  cases s with
  |nil=>
   cases t with
   |nil=>simp at hh;subst hh;simp [Ci]
   |cons y t=>simp at hh;subst hh;simp [Ci]
  |cons x s=>
   cases t with
   |nil=>simp at hh;subst hh;simp [Ci]
   |cons y t=>simp at hh;subst hh;simp [Ci]
theorem Zca {p q c p' q':List Nat} (K:Th p q c p' q'):(p.filter fun x=>q.contains x)=c:=by
 have h1:c.filter (fun x=>q.contains x)=c:=List.filter_eq_self.mpr fun x hx=>by
  rw [K.eq]
  simp [hx]
 have h2:p'.filter (fun x=>q.contains x)=[]:=qcQ.mpr fun x hx=>by
  have:=K.d1 x hx
  simpa using this
 have e:=K.ep
 rw [e,List.filter_append,h1,h2,B9]
theorem GA {L:List Ak} {a:Nat}:AH L [a]=0:=rfl
theorem IV {L:List Ak}:∀{r s:List Nat} {m:Nat},AH L (r++m::s)=AH L (r++[m])+AH L (m::s)
 |[],s,m=>by rw [Fh,Fh,GA];omega
 |[a],s,m=>by
  show AH L (a::m::s)=AH L (a::[m])+AH L (m::s)
  rw [DE,DE,GA]
  omega
 |a::b::r,s,m=>by
  have ih:=IV (L:=L) (r:=b::r) (s:=s) (m:=m)
  show AH L (a::b::(r++m::s))=AH L (a::b::(r++[m]))+_
  rw [DE,DE]
  have e1:b::r++m::s=b::(r++m::s):=rfl
  have e2:b::r++[m]=b::(r++[m]):=rfl
  rw [e1,e2] at ih
  rw [ih]
  omega
theorem Ti {L:List Ak}:∀{p:List Nat},AH L p.reverse=AH L p
 |[]=>rfl
 |[a]=>rfl
 |a::b::r=>by
  rw [CZ,CZ,Cf]
  show AH L (r.reverse++b::[a])=_
  rw [IV,DE]
  have ih:=Ti (L:=L) (p:=b::r)
  rw [CZ] at ih
  rw [ih,DE,GA,S6]
  omega
theorem along_app {L:List Ak}:∀{r s:List Nat} {m:Nat},BX L (r++m::s)↔BX L (r++[m])∧BX L (m::s)
 |[],s,m=>⟨fun h=>⟨fun z hz=>(nomatch hz),h⟩,fun h=>h.2⟩
 |[a],s,m=>by
  show BX L (a::m::s)↔BX L (a::[m])∧BX L (m::s)
  constructor
  ·intro h
   obtain ⟨h1,h2⟩:=Hq h
   exact ⟨fun z hz=>by
    have:z=(a,m):=by simpa using hz
    rw [this];exact h1,h2⟩
  ·rintro ⟨h1,h2⟩ z hz
   rcases qa5.mp hz with rfl |hz
   ·exact h1 (a,m) AZ
   ·exact h2 z hz
 |a::b::r,s,m=>by
  have ih:=along_app (L:=L) (r:=b::r) (s:=s) (m:=m)
  show BX L (a::b::(r++m::s))↔BX L (a::b::(r++[m]))∧BX L (m::s)
  constructor
  ·intro h
   obtain ⟨h1,h2⟩:=Hq h
   obtain ⟨h3,h4⟩:=ih.mp h2
   exact ⟨fun z hz=>by
    rcases qa5.mp hz with rfl |hz
    ·exact h1
    ·exact h3 z hz,h4⟩
  ·rintro ⟨h1,h2⟩
   obtain ⟨h3,h4⟩:=Hq h1
   have:=ih.mpr ⟨h4,h2⟩
   intro z hz
   rcases qa5.mp hz with rfl |hz
   ·exact h3
   ·exact this z hz
theorem Tj {L:List Ak}:∀{p:List Nat},BX L p→BX L p.reverse
 |[],h=>h
 |[a],h=>h
 |a::b::r,h=>by
  obtain ⟨h1,h2⟩:=Hq h
  have ih:=Tj h2
  rw [CZ] at ih
  rw [CZ,CZ,Cf]
  exact along_app.mpr ⟨ih,fun z hz=>by
   have:z=(b,a):=by simpa using hz
   rw [this,S4]
   exact h1⟩
structure Ring (n:Nat) (L:List Ak) (R:List Nat):Prop where
 len:3≤R.length
 lt:∀x∈R,x<n
 nd:R.Nodup
 al:BX L (R++R.take 1)
 od:AH L (R++R.take 1) % 2=1
def GB (p q:List Nat):List Nat:=p.drop ((p.filter fun x=>q.contains x).length - 1)++(q.drop (p.filter fun x=>q.contains x).length).reverse
theorem Zcb {n:Nat} {L:List Ak} {A:List AO} (F:Forest n (ad L) A) {a b:Nat} {p q:List Nat} (ha:(a,p)∈A) (hb:(b,q)∈A) (hh:p.head?=q.head?) (hab:ad L a b=true) (nab:a≠b) (ho:(AH L p+bi (li L a b)+AH L q) % 2=1):1≤(p.filter fun x=>q.contains x).length∧Ring n L (GB p q):=by
 obtain ⟨c,p',q',K⟩:=Zb9 F ha hb hh
 have ef:=Zca K
 obtain ⟨c0,m,rfl⟩:∃c0 m,c=c0++[m]:=by
  rcases Hx c with z |⟨c0,m,z⟩
  ·exact absurd z K.ne
  ·exact ⟨c0,m,by rw [z,Hz]⟩
 refine ⟨by rw [ef];simp,?_⟩
 have ep:=K.ep
 have eq:=K.eq
 have er:GB p q=m::p'++q'.reverse:=by
  unfold GB
  rw [ef,ep,eq]
  simp
 have lp:p.length≤n:=F.plen ha
 have ndp:=F.nd a p ha
 have ndq:=F.nd b q hb
 have ap:=IU F _ a p (Ax _) ha
 have aq:=IU F _ b q (Ax _) hb
 have ap':BX L (m::p'):=by rw [ep,Cf] at ap;exact (along_app.mp ap).2
 have aq':BX L (m::q'):=by rw [eq,Cf] at aq;exact (along_app.mp aq).2
 have sp:AH L p=AH L (c0++[m])+AH L (m::p'):=by rw [ep,Cf];exact IV
 have sq:AH L q=AH L (c0++[m])+AH L (m::q'):=by rw [eq,Cf];exact IV
 obtain ⟨sa,ea⟩:=F.last ha
 obtain ⟨sb,eb⟩:=F.last hb
 obtain ⟨u,hu⟩:∃u,m::p'=u++[a]:=by
  rcases Hx p' with z |⟨p0,x,z⟩
  ·rw [ep,z,B9] at ea
   have:=DG ea rfl
   have e2:m=a:=by have:=this.2;cases this;rfl
   exact ⟨[],by rw [z,e2];rfl⟩
  ·rw [Hz] at z
   rw [ep,z,←Cf] at ea
   have:=DG ea rfl
   have e2:x=a:=by have:=this.2;cases this;rfl
   exact ⟨m::p0,by rw [z,e2];rfl⟩
 obtain ⟨v,hv⟩:∃v,m::q'=v++[b]:=by
  rcases Hx q' with z |⟨p0,x,z⟩
  ·rw [eq,z,B9] at eb
   have:=DG eb rfl
   have e2:m=b:=by have:=this.2;cases this;rfl
   exact ⟨[],by rw [z,e2];rfl⟩
  ·rw [Hz] at z
   rw [eq,z,←Cf] at eb
   have:=DG eb rfl
   have e2:x=b:=by have:=this.2;cases this;rfl
   exact ⟨m::p0,by rw [z,e2];rfl⟩
 have way:m::p'++q'.reverse++[m]=u++a::(b::v.reverse):=by
  have e1:q'.reverse++[m]=b::v.reverse:=by
   have:(m::q').reverse=(v++[b]).reverse:=by rw [hv]
   rw [CZ,List.reverse_append] at this
   exact this
  rw [Cf,e1,hu,Cf]
  rfl
 have rv:b::v.reverse=(v++[b]).reverse:=by rw [List.reverse_append];rfl
 have tk:(m::p'++q'.reverse).take 1=[m]:=rfl
 have so:AH L (u++a::(b::v.reverse))=AH L (m::p')+(bi (li L a b)+AH L (m::q')):=by
  rw [IV,DE,←hu,rv,Ti,←hv]
 have od:AH L (u++a::(b::v.reverse)) % 2=1:=by rw [so];omega
 rw [er]
 refine ⟨?_,fun x hx=>?_,?_,?_,?_⟩
 ·-- not two
  by_cases z:3≤(m::p'++q'.reverse).length
  ·exact z
  ·exfalso
   simp at z
   have lu:u.length=p'.length:=by have:=congrArg List.length hu;simp at this;omega
   have lv:v.length=q'.length:=by have:=congrArg List.length hv;simp at this;omega
   cases p' with
   |nil=>
    cases q' with
    |nil=>
     have e1:m=a:=by cases u with
      |nil=>simpa using hu
      |cons x u=>simp at lu
     have e2:m=b:=by cases v with
      |nil=>simpa using hv
      |cons x v=>simp at lv
     exact nab (e1.symm.trans e2)
    |cons y q'=>
     cases q' with
     |cons y2 q'=>simp at z;omega
     |nil=>
      have e1:m=a:=by cases u with
       |nil=>simpa using hu
       |cons x u=>simp at lu
      have e2:y=b:=by
       have:=congrArg (fun l=>l.getLastD 0) hv
       simpa using this
      rw [so,GA,DE,GA,e1,e2] at od
      omega
   |cons x p'=>
    cases p' with
    |cons x2 p'=>simp at z;omega
    |nil=>
     cases q' with
     |cons y q'=>simp at z;omega
     |nil=>
      have e1:x=a:=by
       have:=congrArg (fun l=>l.getLastD 0) hu
       simpa using this
      have e2:m=b:=by cases v with
       |nil=>simpa using hv
       |cons x v=>simp at lv
      rw [so,GA,DE,GA,e1,e2,S6] at od
      omega
 ·have lt:∀y∈p,y<n:=fun y hy=>by
   obtain ⟨r,h1,_⟩:=F.pf a p ha y hy
   exact F.lt _ _ h1
  have lt2:∀y∈q,y<n:=fun y hy=>by
   obtain ⟨r,h1,_⟩:=F.pf b q hb y hy
   exact F.lt _ _ h1
  rcases qaG.mp hx with y |y
  ·refine lt x ?_
   rw [ep]
   rcases qa5.mp y with rfl |y
   ·simp
   ·exact Be _ y
  ·refine lt2 x ?_
   rw [eq]
   exact Be _ (qc5.mp y)
 ·rw [ep,Cf] at ndp
  rw [eq,Cf] at ndq
  have n1:(m::p').Nodup:=(qbM.mp ndp).2.1
  have n2:(m::q').Nodup:=(qbM.mp ndq).2.1
  rw [qbM]
  refine ⟨n1,?_,fun x hx y hy=>?_⟩
  ·exact List.pairwise_reverse.mpr ((qbN.mp n2).2.imp fun h=>Ne.symm h)
  ·rintro rfl
   have hy:=qc5.mp hy
   refine K.d2 x hy ?_
   rw [ep]
   rcases qa5.mp hx with rfl |hx
   ·simp
   ·exact Be _ hx
 ·rw [tk,way]
  refine along_app.mpr ⟨by rw [←hu];exact ap',?_⟩
  intro z hz
  rcases qa5.mp hz with rfl |hz
  ·exact hab
  ·have:=Tj aq'
   rw [hv,←rv] at this
   exact this z hz
 ·rw [tk,way]
  exact od
section
variable {n:Nat} {L:List Ak} {h:HD} {p q:List Nat}
theorem NM {k:Nat}:CS (Aq p) (some (k:Int)) none h=.ok (Aq (p.drop k)) h:=by
 unfold Aq
 rw [E8,List.map_drop]
theorem NO (hz:p.length+q.length≤1000):Al (Aq p) (Aq q) h=.ok (Aq (p++q)) h:=by
 unfold Aq
 rw [Cm (by simpa using hz),Cw]
theorem Tn:Iw (Aq p) h=.ok (Aq p.reverse) h:=by
 unfold Aq
 rw [List.map_reverse]
 rfl
theorem Zcc (hs:1≤(p.filter fun x=>q.contains x).length) (lp:p.length≤100) (lq:q.length≤100):Pu (KP [Aq p,Aq q] h) h (Aq (GB p q)):=by
 change Wp (AS 3 Ry [Aq p,Aq q] h) _
 refine Eq.mpr Bd ?_
 simp
 refine EW (src:=[]) (xs:=p) (φ:=fun i=>.int ((i:Nat):Int)) (fun x=>q.contains x) (fun i=>.int ((i:Nat):Int)) (fun i=>[some (.int ((i:Nat):Int)),some (Aq q)]) ?_ (by unfold sizeLine;omega) (fun x _=>rfl) (fun x _ h' s'=>?_) (fun x _ _ h' s'=>?_) fun l h1 s1 e1=>?_
 ·simp [Aq]
  exact ⟨.refl _,fun h' s'=>BN⟩
 ·have:=J8 (neg:=false) (k:=x) (ks:=q) (h:=h')
  simp [Pu,Aq,this,Sm.refl]
 ·simp [Pu,Sm.refl]
 ·refine Aj (Mq e1) ?_
  rw [Am,Bc]
  unfold GB
  generalize (p.filter fun x=>q.contains x).length=c at *
  simp
  rw [show ((c:Nat):Int) - 1=((c - 1:Nat):Int) by omega]
  refine Aj NM ?_
  rw [Am]
  refine Eq.mpr Ny ?_
  simp
  refine Aj NM ?_
  rw [Am]
  refine Aj Tn ?_
  rw [Am]
  refine Aj (NO (by simp;omega)) ?_
  rw [Am]
  exact ⟨rfl,s1⟩
theorem To {α:Type} {R:α→α→Prop}:∀{L:List α},L.Pairwise R→∀s∈L,∀t∈L,s=t∨R s t∨R t s
 |[],_,s,hs,_,_=>nomatch hs
 |x::L,pw,s,hs,t,ht=>by
  rw [qcL] at pw
  rcases qa5.mp hs with z1 |z1
  ·rcases qa5.mp ht with z2 |z2
   ·exact .inl (z1.trans z2.symm)
   ·rw [z1];exact .inr (.inl (pw.1 t z2))
  ·rcases qa5.mp ht with z2 |z2
   ·rw [z2];exact .inr (.inr (pw.1 s z1))
   ·exact To pw.2 s z1 t z2
theorem Zcd (k:NetOk n L) {t:Ak} (ht:t∈L):li L t.1 t.2.1=t.2.2:=by
 unfold li
 cases hf:L.reverse.find? (mt t.1 t.2.1) with
 |none=>exact absurd (decide_eq_true (.inl ⟨rfl,rfl⟩)) (qbL.mp hf t (by simpa using ht))
 |some s=>
  have hs:s∈L:=by have:=GD hf;simpa using this
  have hm:mt t.1 t.2.1 s=true:=FV hf
  have o1:=k.ok s hs
  have o2:=k.ok t ht
  have e:s.1=t.1∧s.2.1=t.2.1:=by
   rcases of_decide_eq_true hm with w |⟨w1,w2⟩
   ·exact w
   ·omega
  rcases To k.so s hs t ht with rfl |w |w
  ·rfl
  ·unfold CV at w;omega
  ·unfold CV at w;omega
theorem Zce {A:List AO} (k:NetOk n L) (F:Forest n (ad L) A) (C:IK n (ad L) A) (qu:EA L) {t:Ak} (ht:t∈L) {p q:List Nat} (hp:(t.1,p)∈A) (hq:(t.2.1,q)∈A):(AH L p+bi t.2.2+AH L q) % 2=0:=by
 obtain ⟨S,hS⟩:=qu
 have all:∀t∈L,t.2.2=Bool.xor (S t.1) (S t.2.1):=fun t ht=>by
  have:=(List.map_inj_left (f:=BW S) (g:=fun t:Ak=>((t.1,t.2.1,false):Ak)) (l:=L)).mp hS t ht
  have e:Bool.xor t.2.2 (Bool.xor (S t.1) (S t.2.1))=false:=congrArg (fun t:Ak=>t.2.2) this
  revert e
  cases t.2.2<;>cases S t.1<;>cases S t.2.1<;>simp
 have pot:∀i p,(i,p)∈A→AH L p % 2=bi (Bool.xor (S (p.headD 0)) (S i)):=fun i p hp=>by
  have al':=IU F _ i _ (Ax _) hp
  obtain ⟨r,rfl⟩:=F.last hp
  cases r with
  |nil=>
   rw [Fh] at al' ⊢
   exact NH (S:=S) (fun x y=>Tf all) [] i al'
  |cons a r=>
   rw [show a::r++[i]=a::(r++[i]) from rfl] at al' ⊢
   rw [NH (S:=S) (fun x y=>Tf all) (r++[i]) a al']
   have el:(a::(r++[i])).getLastD 0=i:=by rw [←EG,List.getLastD_concat]
   rw [el]
   rfl
 have e1:=pot _ _ hp
 have e2:=pot _ _ hq
 obtain ⟨q',hq',hd⟩:=C _ _ hp t.2.1 (k.ok t ht).2 (NI ht)
 have:=F.one hq hq'
 subst this
 have hh:q.headD 0=p.headD 0:=by rw [List.headD_eq_head?_getD,List.headD_eq_head?_getD,hd]
 rw [hh] at e2
 rw [all t ht]
 have key:∀x y z:Bool,(bi (Bool.xor x y)+bi (Bool.xor y z)+bi (Bool.xor x z)) % 2=0:=by decide
 have:=key (S (p.headD 0)) (S t.1) (S t.2.1)
 omega
theorem Zcf {A:List AO} (k:NetOk n L) (F:Forest n (ad L) A) (al:∀i,i<n→∃p,(i,p)∈A) (h:∀t∈L,(AH L ((Bv A t.1).getD [])+bi t.2.2+AH L ((Bv A t.2.1).getD [])) % 2≠1):EA L:=by
 refine ⟨par L A,ED fun t ht=>?_⟩
 have:=h t ht
 unfold BW par
 generalize AH L ((Bv A t.1).getD [])=x at *
 generalize AH L ((Bv A t.2.1).getD [])=y at *
 have hx:x % 2=0∨x % 2=1:=by omega
 have hy:y % 2=0∨y % 2=1:=by omega
 obtain ⟨a,b,c⟩:=t
 simp only at *
 congr 2
 cases c<;>rcases hx with hx |hx<;>rcases hy with hy |hy<;>simp [hx,hy]<;>(unfold bi at this;simp at this;omega)
inductive Tq (n:Nat) (L:List Ak) (A:List AO) (l3 l4:Nat) (h:HD) (xs:List Ak) (ρ:Ah) (h':HD):Prop where
 |mk (dn:List Ak) (y5 y6 y7:Option D) (ex:dn++xs=L) (er:ρ=[some (AE n L),some (.int ((n:Nat):Int)),some (.tup (L.map AA)),some (.loc l3),some (.loc l4),y5,y6,y7]) (s:Sm h h') (e3:h'[l3]?=some (.dic false (BK L))) (e4:h'[l4]?=some (.dic false (By A))) (ev:∀t∈dn,(AH L ((Bv A t.1).getD [])+bi t.2.2+AH L ((Bv A t.2.1).getD [])) % 2≠1):Tq n L A l3 l4 h xs ρ h'
theorem Zcg {a b:Int}:Al (.int a) (.int b) h=.ok (.int (a+b)) h:=rfl
def Hr (L:List Ak) (A:List AO) (t:Ak):Bool:=decide ((AH L ((Bv A t.1).getD [])+bi t.2.2+AH L ((Bv A t.2.1).getD [])) % 2=1)
def FN (n:Nat) (L:List Ak):List Nat:=match L.find? (Hr L (Af n (ad L) n)) with
 |some t=>GB ((Bv (Af n (ad L) n) t.1).getD []) ((Bv (Af n (ad L) n) t.2.1).getD [])
 |none=>[]
theorem Zch {n:Nat} {L dn xs:List Ak} {t:Ak} {A:List AO} (eA:A=Af n (ad L) n) (ex:dn++t::xs=L) (ev:∀t∈dn,(AH L ((Bv A t.1).getD [])+bi t.2.2+AH L ((Bv A t.2.1).getD [])) % 2≠1) (z:(AH L ((Bv A t.1).getD [])+bi t.2.2+AH L ((Bv A t.2.1).getD [])) % 2=1):GB ((Bv A t.1).getD []) ((Bv A t.2.1).getD [])=FN n L:=by
 have f:L.find? (Hr L A)=some t:=by
  have h0:dn.find? (Hr L A)=none:=qbL.mpr fun s hs=>by
   unfold Hr
   rw [decide_eq_false (ev s hs)]
   exact Bf
  have h1:Hr L A t=true:=decide_eq_true z
  have h2:(dn++t::xs).find? (Hr L A)=some t:=by
   rw [Jm,h0,Co,h1]
   rfl
  rwa [ex] at h2
 unfold FN
 rw [←eA,f]
theorem Zci {Q:D→HD→Prop} (k:NetOk n L) (q1:∀R h',Sm h h'→Ring n L R→¬EA L→R=FN n L→Q (Aq R) h') (q2:∀h',Sm h h'→EA L→Q .non h'):Wp (Eu [AE n L] h) Q:=by
 have kl:=k.le
 have k8:=k.n8
 change Wp (AS 8 (Nj) [AE n L] h) _
 refine Eq.mpr Bd ?_
 simp [-Ag]
 refine (IS k).wp fun h1 s1=>?_
 refine Eq.mpr Ag ?_
 simp [-Ag,AE]
 refine Eq.mpr Ag ?_
 simp [-Ag]
 refine Tb (L:=L) (src:=[]) (by omega) (fun h' s'=>rfl) (fun h' s'=>BN) fun l3 h3 s3 e3=>?_
 refine Eq.mpr Ag ?_
 simp [-Ag]
 refine Zb1 (n:=n) (adj:=ad L) k8 S4 (Zb5 e3) fun l4 h4 A s4 e4 F C al eA=>?_
 refine Eq.mpr Ag ?_
 refine Eq.mpr Bb ?_
 refine Ct (src:=[]) (xs:=L) AA (Tq n L A l3 l4 h) ?_ (fun ys ρ h' _=>BN) ?_ ?_
 ·simp
  exact ⟨[],_,_,_,rfl,rfl,(s1.trans s3).trans s4,s4 _ _ e3,e4,fun t ht=>(nomatch ht)⟩
 ·rintro t xs ρ h5 ⟨dn,y5,y6,y7,ex,rfl,s5,e3',e4',ev⟩
  refine ⟨_,rfl,?_⟩
  have ht:t∈L:=by rw [←ex];simp
  obtain ⟨o1,o2⟩:=k.ok t ht
  simp
  refine Te k8 F e3' e4' (al t.1 (by omega)) fun h6 s6=>?_
  refine Aj (show Al (.int (AH L ((Bv A t.1).getD []))) (lit t.2.2) h6=.ok (.int (AH L ((Bv A t.1).getD [])+bi t.2.2)) h6 from rfl) ?_
  rw [Am]
  refine Te k8 F (s6 _ _ e3') (s6 _ _ e4') (al t.2.1 o2) fun h7 s7=>?_
  refine Aj Zcg ?_
  rw [Am]
  refine Aj (EY (by decide)) ?_
  rw [Am]
  refine Aj Qe ?_
  rw [Am]
  have s57:=s6.trans s7
  by_cases z:(AH L ((Bv A t.1).getD [])+bi t.2.2+AH L ((Bv A t.2.1).getD [])) % 2=1
  ·obtain ⟨p,hp⟩:=al t.1 (by omega)
   obtain ⟨q,hq⟩:=al t.2.1 o2
   have rf:=Zch eA ex ev z
   simp [z,Bh]
   refine Aj (NG F hp (s57 _ _ e4')) ?_
   rw [Am]
   refine Aj (NG F hq (s57 _ _ e4')) ?_
   rw [Am]
   rw [Lb F hp,Lb F hq] at z rf
   simp only [Option.getD_some] at z
   obtain ⟨q',hq',hd⟩:=C _ _ hp t.2.1 o2 (NI ht)
   have:=F.one hq hq'
   subst this
   have nq:¬EA L:=fun qu=>by
    have:=Zce k F C qu ht hp hq
    omega
   obtain ⟨r1,r2⟩:=Zcb F hp hq hd.symm (NI ht) (by omega) (by rw [Zcd k ht];exact z)
   have lp:=F.plen hp
   have lq:=F.plen hq
   refine (Zcc r1 (by omega) (by omega)).wp fun h8 s8=>?_
   exact q1 _ h8 ((s5.trans s57).trans s8) r2 nq rf
  ·have z':((AH L ((Bv A t.1).getD [])+bi t.2.2+AH L ((Bv A t.2.1).getD [])) % 2==1)=false:=by simpa using z
   rw [z']
   simp [Bh]
   exact ⟨dn++[t],_,_,_,by simpa using ex,rfl,s5.trans s57,s57 _ _ e3',s57 _ _ e4',fun s hs=>by
    rcases qaG.mp hs with w |w
    ·exact ev s w
    ·rw [qa4] at w;subst w;exact z⟩
 ·rintro ρ h5 ⟨dn,y5,y6,y7,ex,rfl,s5,e3',e4',ev⟩
  rw [B9] at ex
  subst ex
  simp
  exact q2 h5 s5 (Zcf k F al ev)
end
section
variable {n:Nat} {L:List Ak} {h:HD} {R:List Nat} {S:Nat→Bool}
theorem Tr {x:Nat}:Gp (Aq R) (.int ((x:Nat):Int)) h=.ok (.int ((R.countP fun y=>decide (y=x):Nat):Int)) h:=by
 have e:AC ((R.map fun i=>D.int ((i:Nat):Int)).map B1)=some (R.map fun i=>V.int ((i:Nat):Int)):=by
  rw [Cy]
  exact Ee (f:=B1∘fun i=>D.int ((i:Nat):Int)) (fun x _=>rfl)
 show (Out.ok (Aq R) h).bind (fun _ _=>DR (Aq R) (.int ((x:Nat):Int)) h)=_
 rw [Out.bind_ok]
 simp only [DR,Aq,Bg,B1,e]
 congr 3
 unfold E2
 rw [List.countP_map]
 congr 1
 funext y
 show Df (.int ((y:Nat):Int)) (.int ((x:Nat):Int))=decide (y=x)
 rw [qaU,decide_eq_true_iff]
 simp [Df]
 omega
theorem Ts (nd:R.Nodup) {x:Nat}:(R.countP fun y=>decide (y=x))≤1:=by
 induction R with
 |nil=>simp
 |cons a R ih=>
  rw [qbN] at nd
  rw [List.countP_cons]
  have:=ih nd.2
  by_cases e:a=x
  ·subst e
   have z:(R.countP fun y=>decide (y=a))=0:=by
    rw [List.countP_eq_zero]
    intro y hy
    have:y≠a:=fun e=>nd.1 (e ▸ hy)
    simpa using this
   rw [z]
   simp
  ·simp [e]
   exact this
theorem Tt:CS (Aq R) none (some 1) h=.ok (Aq (R.take 1)) h:=by
 unfold Aq
 rw [Sx,List.map_take]
theorem Zcj {x y:Nat}:ad (L.map (BW S)) x y=ad L x y:=by
 unfold ad
 rw [List.any_map]
 rfl
theorem Zck {x y:Nat} (ha:ad L x y=true):li (L.map (BW S)) x y=Bool.xor (li L x y) (Bool.xor (S x) (S y)):=by
 unfold li
 rw [←List.map_reverse,List.find?_map]
 have e:(mt x y∘BW S)=mt x y:=rfl
 rw [e]
 cases hf:L.reverse.find? (mt x y) with
 |none=>
  obtain ⟨t,ht,hm⟩:=qb4.mp ha
  exact absurd hm (qbL.mp hf t (by simpa using ht))
 |some t=>
  have hm:mt x y t=true:=FV hf
  show Bool.xor t.2.2 (Bool.xor (S t.1) (S t.2.1))=Bool.xor t.2.2 (Bool.xor (S x) (S y))
  rcases of_decide_eq_true hm with ⟨h1,h2⟩ |⟨h1,h2⟩
  ·rw [h1,h2]
  ·rw [h1,h2,Bool.xor_comm (S y)]
theorem Tu:∀(r:List Nat) (a:Nat),BX L (a::r)→AH (L.map (BW S)) (a::r) % 2=(AH L (a::r)+bi (Bool.xor (S a) (S ((a::r).getLastD 0)))) % 2
 |[],a,_=>by
  show (0:Int) % 2=(0+bi (Bool.xor (S a) (S a))) % 2
  rw [Bool.xor_self]
  rfl
 |b::r,a,h=>by
  obtain ⟨h1,h2⟩:=Hq h
  have ih:=Tu r b h2
  have e:(b::r).getLastD 0=(a::b::r).getLastD 0:=rfl
  rw [e] at ih
  rw [DE,DE,Zck h1]
  generalize S ((a::b::r).getLastD 0)=x at *
  generalize AH (L.map (BW S)) (b::r)=u at *
  generalize AH L (b::r)=v at *
  have key:∀l sa sb x:Bool,(bi (Bool.xor l (Bool.xor sa sb))+bi (Bool.xor sb x)) % 2=(bi l+bi (Bool.xor sa x)) % 2:=by decide
  have:=key (li L a b) (S a) (S b) x
  omega
theorem Ring.sw (r:Ring n L R):Ring n (L.map (BW S)) R:=by
 refine ⟨r.len,r.lt,r.nd,fun z hz=>by rw [Zcj];exact r.al z hz,?_⟩
 have al:=r.al
 have od:=r.od
 have rl:=r.len
 cases R with
 |nil=>simp at rl
 |cons m R=>
  have e1:m::R++(m::R).take 1=m::(R++[m]):=rfl
  rw [e1] at al od ⊢
  rw [Tu _ _ al]
  have el:(m::(R++[m])).getLastD 0=m:=by rw [←EG,List.getLastD_concat]
  rw [el,Bool.xor_self]
  show (_+0) % 2=1
  rw [Int.add_zero]
  exact od
end
open Classical in
noncomputable def Dl (n:Nat) (L:List Ak):D→Bool
 |.tup ds=>decide (3≤ds.length)&&(ds.all (BQ 0 ((n:Int) - 1))&&decide (Ring n L (ds.map Dk)))
 |_=>false
open Classical in
theorem GC {n:Nat} {L:List Ak} {ds:List D}:Dl n L (.tup ds)=(decide (3≤ds.length)&&(ds.all (BQ 0 ((n:Int) - 1))&&decide (Ring n L (ds.map Dk)))):=rfl
section
variable {n:Nat} {L:List Ak} {h:HD} {R:List Nat}
theorem Tv {x:D} (hx:BQ 0 ((n:Int) - 1) x=true):∃i:Nat,x=.int (i:Nat)∧i<n:=by
 cases hw:DB x with
 |false=>rw [Nu hw] at hx;cases hx
 |true=>
  obtain ⟨m,rfl⟩:=FK hw
  have h6:(decide (0≤m)&&decide (m≤(n:Int) - 1))=true:=hx
  rw [BS,decide_eq_true_eq,decide_eq_true_eq] at h6
  exact ⟨m.toNat,by congr 1;omega,by omega⟩
theorem Tw {ds:List D} (hd:ds.all (BQ 0 ((n:Int) - 1))=true):D.tup ds=Aq (ds.map Dk)∧∀i∈ds.map Dk,i<n:=by
 rw [qaO] at hd
 refine ⟨?_,fun i hi=>?_⟩
 ·unfold Aq
  rw [Cy]
  congr 1
  conv=>lhs;rw [←List.map_id ds]
  refine ED fun x hx=>?_
  obtain ⟨i,rfl,_⟩:=Tv (hd x hx)
  rfl
 ·obtain ⟨x,hx,rfl⟩:=qaL.mp hi
  obtain ⟨i,rfl,h⟩:=Tv (hd x hx)
  simpa [Dk] using h
theorem Zcl:(R.any fun x=>decide (1<(R.countP fun y=>decide (y=x))))=!decide R.Nodup:=by
 rw [qaU]
 simp only [qb4,decide_eq_true_eq,Bool.not_eq_true',decide_eq_false_iff_not]
 constructor
 ·rintro ⟨x,hx,h⟩ nd
  have:=Ts nd (x:=x)
  omega
 ·intro nd
  apply Classical.byContradiction
  intro no
  apply nd
  rw [List.nodup_iff_count]
  intro x
  by_cases hx:x∈R
  ·have:¬1<(R.countP fun y=>decide (y=x)):=fun z=>no ⟨x,hx,z⟩
   have e:R.count x=R.countP fun y=>decide (y=x):=by
    rw [List.count_eq_countP]
    rfl
   omega
  ·rw [List.count_eq_zero_of_not_mem hx]
   omega
open Classical in
theorem Zcm (k:NetOk n L) (r3:3≤R.length) (rlt:∀i∈R,i<n) (rz:R.length≤500):Pu (Es [AE n L,Aq R] h) h (.bl (decide (Ring n L R))):=by
 have kl:=k.le
 have k8:=k.n8
 have k1:=k.n1
 change Wp (AS 6 (Hl) [AE n L,Aq R] h) _
 refine Eq.mpr Bd ?_
 simp [-Ag]
 refine (IS k).wp fun h1 s1=>?_
 refine Eq.mpr Ag ?_
 simp [-Ag,AE]
 refine Eq.mpr Ag ?_
 have ln:∀h,B5 (Aq R) h=.ok (.int ((R.length:Nat):Int)) h:=fun h=>by simp [Aq]
 have hlt:¬(R.length:Int)<3:=by omega
 have it:∀h,AI (Aq R) (.ty "tuple") h=.ok (.bl true) h:=fun h=>rfl
 simp [-Ag,it,ln,hlt]
 refine Eq.mpr Ag ?_
 simp [-Ag]
 refine Pu.wp (Il (src:=[]) (xs:=R) (φ:=fun i=>.int ((i:Nat):Int)) (fun _=>true) (fun i=>[some (.int ((i:Nat):Int)),some (.int ((n:Nat):Int))]) (Mf rfl) (fun x _=>rfl) (fun x hx h' s'=>?_) (by unfold sizeLine;omega)) fun h2 s2=>?_
 ·have:=rlt x hx
  simp [Pu]
  refine p_is_between_int.wp fun h3 s3=>?_
  rw [decide_eq_true (show (0:Int)≤(x:Int) by omega),decide_eq_true (show (x:Int)≤(n:Int) - 1 by omega)]
  exact ⟨rfl,s3⟩
 simp [-Ag]
 refine Eq.mpr Ag ?_
 simp [-Ag]
 refine Pu.wp (Y7 (src:=[]) (xs:=R) (φ:=fun i=>.int ((i:Nat):Int)) (fun x=>decide (1<(R.countP fun y=>decide (y=x)))) (fun i=>[some (.int ((i:Nat):Int)),some (Aq R)]) (Mf rfl) (fun x _=>rfl) (fun x hx h' s'=>?_) (by unfold sizeLine;omega)) fun h3 s3=>?_
 ·have ic:∀h,Gn (Aq R) h=.ok (Aq R) h:=fun h=>rfl
  simp [Pu,ic]
  refine Aj Tr ?_
  rw [Am]
  have:(1:Int)<((R.countP fun y=>decide (y=x):Nat):Int)↔1<R.countP fun y=>decide (y=x):=by omega
  simp [Sm.refl]
  exact this
 rw [Zcl]
 by_cases nd:R.Nodup
 rotate_left
 ·have nr:¬Ring n L R:=fun r=>nd r.nd
  simp [nd,nr]
  exact (s1.trans s2).trans s3
 rw [decide_eq_true nd]
 simp [-Ag]
 refine Eq.mpr Ag ?_
 simp [-Ag]
 refine Tb (L:=L) (src:=[]) (by omega) (fun h' s'=>rfl) (fun h' s'=>BN) fun l4 h4 s4 e4=>?_
 refine Eq.mpr Ag ?_
 simp [-Ag]
 refine Aj Tt ?_
 rw [Am]
 refine Aj (NO (by simp;omega)) ?_
 rw [Am]
 refine Eq.mpr Ag ?_
 have wz:(R++R.take 1).length≤1000:=by simp;omega
 generalize ew:R++R.take 1=w at *
 simp [-Ag]
 refine Pu.wp (Il (src:=[]) (xs:=w.zip w.tail) (φ:=fun z=>.tup [.int ((z.1:Nat):Int),.int ((z.2:Nat):Int)]) (fun z=>ad L z.1 z.2) (fun z=>[some (.tup [.int ((z.1:Nat):Int),.int ((z.2:Nat):Int)]),some (.loc l4)]) ?_ (fun x _=>rfl) (fun z hz h' s'=>?_) (by rw [List.length_zip];unfold sizeLine;omega)) fun h5 s5=>?_
 ·simp [FB,Aq]
  refine Aj Tc ?_
  rw [Am]
  have ez:Dw (w.map fun i=>D.int ((i:Nat):Int)) ((w.map fun i=>D.int ((i:Nat):Int)).drop 1)=(w.zip w.tail).map fun z=>.tup [.int ((z.1:Nat):Int),.int ((z.2:Nat):Int)]:=by
   unfold Dw
   rw [←List.map_drop,List.drop_one,List.zipWith_map,List.zip,List.map_zipWith]
  refine Aj (show G7 [.tup (w.map fun i=>D.int ((i:Nat):Int)),.tup ((w.map fun i=>D.int ((i:Nat):Int)).drop 1)] h4=.ok (Dw (w.map fun i=>D.int ((i:Nat):Int)) ((w.map fun i=>D.int ((i:Nat):Int)).drop 1),[]) h4 from rfl) ?_
  rw [Am,ez]
  exact ⟨rfl,.refl _,fun h' s'=>BN⟩
 ·simp [Pu]
  have eg:(AU (BK L) (.t [((z.1:Nat):Int),((z.2:Nat):Int)])).isSome=ad L z.1 z.2:=by
   have:=ND (L:=L) (x:=z.1) (y:=z.2)
   show (AU (BK L) (kT z.1 z.2)).isSome=_
   rw [this]
   cases ad L z.1 z.2<;>rfl
  refine Aj (show Cd false (.tup [.int ((z.1:Nat):Int),.int ((z.2:Nat):Int)]) (.loc l4) h'=.ok (.bl (ad L z.1 z.2)) h' from ?_) ?_
  ·simp only [Cd,s' _ _ e4,LS.keyT,Eo,Do]
   rw [if_pos (show B3 (BK L)=true from La rfl),eg,Jp]
  ·rw [Am]
   exact ⟨rfl,.refl _⟩
 have S5:=(((s1.trans s2).trans s3).trans s4).trans s5
 by_cases al:BX L w
 rotate_left
 ·have ef:((w.zip w.tail).all fun z=>ad L z.1 z.2)=false:=by
   rw [Bool.eq_false_iff]
   intro z
   rw [qaO] at z
   exact al z
  have nr:¬Ring n L R:=fun r=>al (ew ▸ r.al)
  rw [ef]
  simp [nr]
  exact S5
 have at':((w.zip w.tail).all fun z=>ad L z.1 z.2)=true:=by rw [qaO];exact al
 rw [at']
 simp [-Ag]
 refine Eq.mpr Ag ?_
 simp
 refine (Td (s5 _ _ e4) al wz).wp fun h6 s6=>?_
 refine Aj (EY (by decide)) ?_
 rw [Am]
 simp
 refine ⟨?_,S5.trans s6⟩
 rw [qaU]
 simp
 constructor
 ·intro od
  exact ⟨r3,rlt,nd,by rw [ew];exact al,by rw [ew];exact od⟩
 ·intro r
  have:=r.od
  rwa [ew] at this
theorem NP {d:D} (k:NetOk n L) (p:Plain2 h d) (hz:(A8 d).length≤500):Pu (Es [AE n L,d] h) h (.bl (Dl n L d)):=by
 cases hT:CT d with
 |false=>
  have e:Dl n L d=false:=by cases d<;>first |rfl |cases hT
  rw [e]
  change Wp (AS 6 (Hl) [AE n L,d] h) _
  refine Eq.mpr Bd ?_
  simp [-Ag]
  refine (IS k).wp fun h1 s1=>?_
  refine Eq.mpr Ag ?_
  simp [-Ag,AE]
  refine Eq.mpr Ag ?_
  simp [Hm (p.1.sm s1),hT]
  exact s1
 |true=>
  obtain ⟨ds,rfl⟩:=E6 hT
  have hz:ds.length≤500:=hz
  by_cases h3:3≤ds.length
  rotate_left
  ·have e:Dl n L (.tup ds)=false:=by rw [GC,decide_eq_false h3];rfl
   rw [e]
   change Wp (AS 6 (Hl) [AE n L,.tup ds] h) _
   refine Eq.mpr Bd ?_
   simp [-Ag]
   refine (IS k).wp fun h1 s1=>?_
   refine Eq.mpr Ag ?_
   simp [-Ag,AE]
   refine Eq.mpr Ag ?_
   have h3':(ds.length:Int)<3:=by omega
   simp [h3']
   exact s1
  cases ha:ds.all (BQ 0 ((n:Int) - 1)) with
  |true=>
   obtain ⟨e1,e2⟩:=Tw ha
   have e:Dl n L (.tup ds)=@decide (Ring n L (ds.map Dk)) (Classical.propDecidable _):=by
    rw [GC,ha,decide_eq_true h3]
    rfl
   rw [e,e1]
   exact Zcm k (by simpa using h3) e2 (by simpa using hz)
  |false=>
   have e:Dl n L (.tup ds)=false:=by rw [GC,ha];simp
   rw [e]
   change Wp (AS 6 (Hl) [AE n L,.tup ds] h) _
   refine Eq.mpr Bd ?_
   simp [-Ag]
   refine (IS k).wp fun h1 s1=>?_
   refine Eq.mpr Ag ?_
   simp [-Ag,AE]
   refine Eq.mpr Ag ?_
   have h3':¬(ds.length:Int)<3:=by omega
   simp [-Ag,h3']
   refine Eq.mpr Ag ?_
   simp [-Ag]
   refine Pu.wp (Il (src:=[]) (xs:=ds) (φ:=fun x=>x) (BQ 0 ((n:Int) - 1)) (fun x=>[some x,some (.int ((n:Nat):Int))]) (Mf (by rw [List.map_id'];rfl)) (fun x _=>rfl) (fun x hx h' s'=>?_) (by unfold sizeLine;omega)) fun h2 s2=>?_
   ·simp [Pu]
    exact (Sy ((p.2 x hx).sm (s1.trans s'))).wp fun h3 s3=>⟨rfl,s3⟩
   rw [ha]
   simp
   exact s1.trans s2
end
def cp (R:List Nat):List (Nat×Nat):=(R.getLastD 0,R.headD 0)::R.zip R.tail
def pv (m j:Nat):Nat:=if j=0 then m - 1 else j - 1
theorem Tx {R:List Nat} (hR:R≠[]):cp R=(List.range R.length).map fun j=>(R.getD (pv R.length j) 0,R.getD j 0):=by
 apply List.ext_getElem
 ·unfold cp
  simp
  have:0<R.length:=List.length_pos_iff.mpr hR
  omega
 ·intro j h1 h2
  simp at h2
  cases j with
  |zero=>
   simp [cp,pv]
   constructor
   ·cases R with
    |nil=>exact absurd rfl hR
    |cons a R=>simp [List.getLast?_eq_getElem?]
   ·cases R with
    |nil=>exact absurd rfl hR
    |cons a R=>simp
  |succ j=>
   simp [cp,pv,AQ h2,AQ (show j<R.length by omega)]
theorem Tz {R:List Nat} (hR:R≠[]):(R++R.take 1).zip (R++R.take 1).tail=R.zip R.tail++[(R.getLastD 0,R.headD 0)]:=by
 cases R with
 |nil=>exact absurd rfl hR
 |cons a R=>
  have:=NF (p:=[]) (e:=a) (q:=a::R) (by simp)
  exact this
theorem Zcn {L:List Ak} {R:List Nat} (hR:R≠[]):AH L (R++R.take 1)=((cp R).map fun z=>bi (li L z.1 z.2)).sum:=by
 unfold AH cp
 rw [Tz hR]
 simp
 omega
theorem TB {L:List Ak} {R:List Nat} (hR:R≠[]):BX L (R++R.take 1)↔∀z∈cp R,ad L z.1 z.2=true:=by
 unfold BX cp
 rw [Tz hR]
 simp only [qaG,qa5,qa4]
 constructor
 ·rintro h z (rfl |hz)
  ·exact h _ (.inr (.inl rfl))
  ·exact h _ (.inl hz)
 ·rintro h z (hz |rfl |hz)
  ·exact h _ (.inr hz)
  ·exact h _ (.inl rfl)
  ·cases hz
def CW (L:List Ak):List (Kyd×D):=L.foldl (fun acc t=>Bl acc (kT t.1 t.2.1) (lit t.2.2)) []
def Hs (x y:Nat) (t:Ak):Bool:=decide (t.1=x∧t.2.1=y)
theorem TC {x y:Nat}:∀{L:List Ak} {acc:List (Kyd×D)},AU (L.foldl (fun acc t=>Bl acc (kT t.1 t.2.1) (lit t.2.2)) acc) (kT x y)=(match L.reverse.find? (Hs x y) with |some t=>some (lit t.2.2) |none=>AU acc (kT x y))
 |[],acc=>rfl
 |t::L,acc=>by
  rw [GI,TC,CZ,Jm]
  cases L.reverse.find? (Hs x y) with
  |some s=>rfl
  |none=>
   rw [NC]
   simp only [Option.none_or,Co,List.find?_nil]
   by_cases z:kT t.1 t.2.1=kT x y
   ·rw [if_pos z]
    have:Hs x y t=true:=decide_eq_true (kT_inj.mp z)
    rw [this]
   ·rw [if_neg z]
    have:Hs x y t=false:=decide_eq_false fun w=>z (kT_inj.mpr w)
    rw [this]
theorem TF {α:Type} {p q:α→Bool}:∀{l:List α},(∀x∈l,p x=q x)→l.find? p=l.find? q
 |[],_=>rfl
 |x::l,h=>by
  rw [Co,Co,h x AZ,TF fun y hy=>h y (A6 _ hy)]
theorem Zco {n:Nat} {L:List Ak} (k:NetOk n L) {x y:Nat}:AU (CW L) (kT (min x y) (max x y))=if ad L x y=true then some (lit (li L x y)) else none:=by
 unfold CW
 rw [TC]
 have e:L.reverse.find? (Hs (min x y) (max x y))=L.reverse.find? (mt x y):=TF fun t ht=>by
  have:=k.ok t (qc5.mp ht)
  unfold Hs mt
  rw [qaU,decide_eq_true_iff,decide_eq_true_iff]
  omega
 rw [e]
 unfold li
 cases hf:L.reverse.find? (mt x y) with
 |none=>
  have:ad L x y=false:=by
   rw [Bool.eq_false_iff]
   intro z
   obtain ⟨t,ht,hm⟩:=qb4.mp z
   exact absurd hm (qbL.mp hf t (by simpa using ht))
  rw [this]
  rfl
 |some t=>
  have ht:t∈L:=by have:=GD hf;simpa using this
  have hm:mt x y t=true:=FV hf
  have:ad L x y=true:=qb4.mpr ⟨t,ht,hm⟩
  rw [this]
  rfl
theorem TH {L:List Ak}:∀{acc:List (Kyd×D)},B3 acc=true→B3 (L.foldl (fun acc t=>Bl acc (kT t.1 t.2.1) (lit t.2.2)) acc)=true:=by
 induction L with
 |nil=>intro acc h;exact h
 |cons t L ih=>intro acc h;rw [GI];exact ih (K9 h)
def Lc (t:Ak):D:=.tup [prD t,lit t.2.2]
theorem Zcp {l:Nat} {L:List Ak} {h:HD} (e:h[l]?=some (.lst (L.map Lc))) (hz:L.length≤1000):Gu (.loc l) h=.ok (.loc h.length) (h++[.dic false (CW L)]):=by
 have ep:AC ((L.map Lc).map E4)=some (L.map fun t=>(kT t.1 t.2.1,lit t.2.2)):=by
  rw [Cy]
  exact Ee (f:=E4∘Lc) (fun x _=>rfl)
 simp only [Gu,e,ep]
 unfold Hh
 rw [List.foldl_map]
 rfl
section
variable {n:Nat} {L:List Ak} {h:HD} {R:List Nat}
theorem IW {h:HD}:As (AE n L) (.int 0) h=.ok (.int ((n:Nat):Int)) h:=rfl
theorem NQ {h:HD}:As (AE n L) (.int 1) h=.ok (.tup (L.map AA)) h:=rfl
theorem Zcq {x d1:D} {r:Ah} {QB:Bool→HD→Prop} (p:Plain h x) (q:QB (!BQ 0 ((n:Int) - 1) x) h):Wp (BA (BF (Bq (Ae (A3 AI) (Ab (Aa 2) (Ab (mC (.ty "int")) (Ac)))))) (BA (Bq (Ae (A3 AI) (Ab (Aa 2) (Ab (mC (.ty "bool")) (Ac))))) (BF (AM (DM F8 Ea (mC (.int 0)) (Aa 2) (Ad As (Aa 0) (mC (.int 0)))))))
 (some (AE n L)::some d1::some x::r) h) QB:=by
  cases x with
  |int i=>
   simp [IW]
   by_cases h0:0≤i
   ·simp [h0,Az,IW]
    have:BQ 0 ((n:Int) - 1) (.int i)=decide (i<(n:Int)):=by
     show (decide (0≤i)&&decide (i≤(n:Int) - 1))=_
     rw [decide_eq_true h0,Bool.true_and,qaU,decide_eq_true_iff,decide_eq_true_iff]
     omega
    rw [this] at q
    simpa using q
   ·have:BQ 0 ((n:Int) - 1) (.int i)=false:=by
     show (decide (0≤i)&&decide (i≤(n:Int) - 1))=_
     rw [decide_eq_false h0,GJ]
    rw [this] at q
    simpa [h0] using q
  |non=>
   simp
   exact q
  |bl b=>
   simp
   exact q
  |str s=>
   simp
   exact q
  |tup ds=>
   simp
   exact q
  |edic=>
   simp
   exact q
  |loc l=>
   obtain ⟨ds,e⟩:=p
   simp [Qf e]
   exact q
  |_=>exact p.elim
inductive TJ (n:Nat) (L:List Ak) (ds:List D) (h:HD) (xs:List D) (ρ:Ah) (h':HD):Prop where
 |mk (dn:List D) (y2:Option D) (ex:ds=dn++xs) (er:ρ=[some (AE n L),some (.tup ds),y2,none,none,none,none]) (eh:h'=h) (ok:dn.all (BQ 0 ((n:Int) - 1))=true) (pl:∀x∈xs,Plain h x):TJ n L ds h xs ρ h'
theorem Zcr {m j:Nat} {e:Nat→D} (hj:j<m):As (.tup ((List.range m).map e)) (.int (((j:Nat):Int) - 1)) h=.ok (e (pv m j)) h:=by
 unfold pv
 by_cases z:j=0
 ·subst z
  rw [if_pos rfl]
  have e1:BZ ((List.range m).map e) (((0:Nat):Int) - 1)=some (e (m - 1)):=by
   unfold BZ Cz
   rw [if_neg (by omega),if_pos (by simp;omega)]
   simp
   refine ⟨m - 1,?_,rfl⟩
   rw [show (-1+(m:Int)).toNat=m - 1 by omega]
   exact Jl (by omega)
  simp only [As,Bg,e1]
 ·rw [if_neg z,show ((j:Nat):Int) - 1=((j - 1:Nat):Int) by omega]
  exact Yq (by omega)
theorem Zcs {a b:Nat} {h:HD}:Fu (.int ((a:Nat):Int)) (.int ((b:Nat):Int)) h=.ok (.int ((min a b:Nat):Int)) h:=by
 rw [Yp]
 congr 2
 split<;>omega
theorem Zct {a b:Nat} {h:HD}:Ft (.int ((a:Nat):Int)) (.int ((b:Nat):Int)) h=.ok (.int ((max a b:Nat):Int)) h:=by
 rw [Yo]
 congr 2
 split<;>omega
def FO (L:List Ak) (R:List Nat) (j:Nat):Int:=(((cp R).take j).map fun z=>bi (li L z.1 z.2)).sum
inductive TK (n:Nat) (L:List Ak) (R:List Nat) (l:Nat) (h:HD) (xs:List Nat) (ρ:Ah) (h':HD):Prop where
 |mk (j:Nat) (y2 y5 y6:Option D) (ex:xs=(List.range R.length).drop j) (hj:j≤R.length) (er:ρ=[some (AE n L),some (Aq R),y2,some (.loc l),some (.int (FO L R j)),y5,y6]) (s:Sm h h') (e:h'[l]?=some (.dic false (CW L))) (al:∀z∈(cp R).take j,ad L z.1 z.2=true) (ct:∀x∈R.take j,(R.countP fun y=>decide (y=x))=1):TK n L R l h xs ρ h'
theorem NR:Aq R=.tup ((List.range R.length).map fun j=>.int ((R.getD j 0:Nat):Int)):=by
 unfold Aq
 congr 1
 apply List.ext_getElem
 ·simp
 ·intro i h1 h2
  simp at h1
  simp [AQ h1]
theorem TL {j:Nat} (hR:R≠[]) (hj:j<R.length):(cp R).take (j+1)=(cp R).take j++[(R.getD (pv R.length j) 0,R.getD j 0)]:=by
 rw [Tx hR,List.take_succ,B8,Jl hj]
 rfl
theorem Zcu {j:Nat} (hR:R≠[]) (hj:j<R.length):FO L R (j+1)=FO L R j+bi (li L (R.getD (pv R.length j) 0) (R.getD j 0)):=by
 unfold FO
 rw [TL hR hj]
 simp
theorem nd_count:R.Nodup↔∀x∈R,(R.countP fun y=>decide (y=x))=1:=by
 constructor
 ·intro nd x hx
  have h1:=Ts nd (x:=x)
  have h2:0<R.countP fun y=>decide (y=x):=List.countP_pos_iff.mpr ⟨x,hx,by simp⟩
  omega
 ·intro h
  rw [List.nodup_iff_count]
  intro x
  by_cases hx:x∈R
  ·have e:R.count x=R.countP fun y=>decide (y=x):=by
    rw [List.count_eq_countP]
    rfl
   rw [e,h x hx]
   omega
  ·rw [List.count_eq_zero_of_not_mem hx]
   omega
theorem Zcv {c:Nat} {h:HD}:Br (.int ((c:Nat):Int)) (.int 1) h=.ok (.bl (!decide (c=1))) h:=by
 rw [ZZ]
 congr 3
 rw [qaU]
 simp
 omega
noncomputable abbrev TM:MS:=Ai (An 3 (Ae (Aw Gu) (Ab (AY [none,none,none] (BG (Ad As (Aa 0) (mC (.int 1)))) (Dj [0,1,2]) (Bw) (Au (Ab (Au (Ab (Aa 0) (Ab (Aa 1) (Ac)))) (Ab (Aa 2) (Ac))))) (Ac)))) (Ai (An 4 (mC (.int 0))) (Ai (BV (Ir (Ab (Aa 1) (Ac))) (Di 5 2) (Ai (An 6 (Au (Ab (Ae (A3 Fu) (Ab (Aa 2) (Ab (Ad As (Aa 1) (Ad D9 (Aa 5) (mC (.int 1)))) (Ac)))) (Ab (Ae (A3 Ft) (Ab (Aa 2) (Ab (Ad As (Aa 1) (Ad D9 (Aa 5) (mC (.int 1)))) (Ac)))) (Ac))))) (Ai (AR (BA (AM (Ad Br (E1 Gn Gp (Aa 1) (Aa 2)) (mC (.int 1)))) (AM (Ad (Cd true) (Aa 6) (Aa 3)))) (AD (mC (.bl false))) (AV)) (An 4 (Ad Al (Aa 4) (Ad Cg (Aa 3) (Aa 6))))))) (AD (Ad Cu (Ad Cr (Aa 4) (mC (.int 2))) (mC (.int 1))))))
open Classical in
theorem Zcw {y2:Option D} (k:NetOk n L) (r3:3≤R.length) (rlt:∀i∈R,i<n) (rz:R.length≤500):Wp (TM [some (AE n L),some (Aq R),y2,none,none,none,none] h) (Gf fun d h'=>d=.bl (decide (Ring n L R))∧Sm h h'):=by
 have kl:=k.le
 have hR:R≠[]:=fun z=>by rw [z] at r3;simp at r3
 unfold TM
 refine Eq.mpr Bb ?_
 refine Eq.mpr EU ?_
 refine Eq.mpr J5 ?_
 refine Eq.mpr Gg ?_
 refine EW (src:=[]) (xs:=L) (φ:=AA) (fun _=>true) Lc (fun t=>[some (.int ((t.1:Nat):Int)),some (.int ((t.2.1:Nat):Int)),some (lit t.2.2)]) ?_ (by unfold sizeLine;omega) (fun x _=>rfl) (fun x _ h' s'=>(.ok:Pu (.ok true h') h' true)) (fun t _ _ h' s'=>?_) fun l1 h1 s1 e1=>?_
 ·simp [NQ,Sm.refl,BM]
 ·simp [Pu,Sm.refl]
  rfl
 rw [G3] at e1
 rw [FA,Ym]
 refine Aj (Zcp e1 (by omega)) ?_
 rw [Am]
 have s2:Sm h (h1++[.dic false (CW L)]):=s1.trans (.app _ _)
 have e2:(h1++[.dic false (CW L)])[h1.length]?=some (.dic false (CW L)):=by simp
 generalize h1++[.dic false (CW L)]=h2 at *
 generalize h1.length=l at *
 refine Eq.mpr Ag ?_
 simp [-Ag]
 refine Eq.mpr Ag ?_
 refine Eq.mpr Bb ?_
 refine Ct (src:=[]) (xs:=List.range R.length) (fun j=>.tup [.int ((j:Nat):Int),.int ((R.getD j 0:Nat):Int)]) (TK n L R l h) ?_ (fun ys ρ h' _=>BN) ?_ ?_
 ·simp only [YY,Gg,J4,J3,FA]
  rw [NR]
  refine Aj Y0 ?_
  rw [Am,←NR]
  exact ⟨rfl,0,_,_,_,by simp,by omega,rfl,s2,e2,fun z hz=>by simp at hz,fun z hz=>by simp at hz⟩
 ·rintro j xs ρ h3 ⟨j',y2,y5,y6,ex,hj,rfl,s3,e3,al,ct⟩
  obtain ⟨rfl,hjl,rfl⟩:=IT ex.symm
  refine ⟨_,rfl,?_⟩
  have hx:R[j]?=some (R.getD j 0):=by simp [AQ hjl]
  have hmem:R.getD j 0∈R:=Fd hx
  have ip:∀h,As (Aq R) (.int (((j:Nat):Int) - 1)) h=.ok (.int ((R.getD (pv R.length j) 0:Nat):Int)) h:=fun h=>by rw [NR];exact Zcr hjl
  have et:=Zcu (L:=L) hR hjl
  have ec:=TL hR hjl
  generalize R.getD j 0=x at *
  generalize R.getD (pv R.length j) 0=y at *
  have gk:=Zco k (x:=y) (y:=x)
  have em:min x y=min y x:=Nat.min_comm _ _
  have eM:max x y=max y x:=Nat.max_comm _ _
  simp [-Ag]
  refine Aj (ip h3) ?_
  rw [Am]
  refine Aj Zcs ?_
  rw [Am]
  refine Aj (ip h3) ?_
  rw [Am]
  refine Aj Zct ?_
  rw [Am,em,eM]
  try simp [-Ag]
  refine Eq.mpr Ag ?_
  have ic:∀h,Gn (Aq R) h=.ok (Aq R) h:=fun h=>rfl
  simp [-Ag,ic]
  refine Aj Tr ?_
  rw [Am]
  refine Aj Zcv ?_
  rw [Am]
  by_cases c1:(R.countP fun y=>decide (y=x))=1
  rotate_left
  ·have nr:¬Ring n L R:=fun r=>c1 (nd_count.mp r.nd x hmem)
   simp [c1,Bh,nr]
   exact s3
  rw [decide_eq_true c1]
  simp [-Ag]
  have hh:Cd true (.tup [.int ((min y x:Nat):Int),.int ((max y x:Nat):Int)]) (.loc l) h3=.ok (.bl (!ad L y x)) h3:=by
   have gi:(AU (CW L) (.t [((min y x:Nat):Int),((max y x:Nat):Int)])).isSome=ad L y x:=by
    show (AU (CW L) (kT (min y x) (max y x))).isSome=_
    rw [gk]
    cases ad L y x<;>rfl
   simp only [Cd,e3,LS.keyT,Eo,Do]
   rw [if_pos (show B3 (CW L)=true from TH rfl),gi,Bool.true_xor]
  refine Aj hh ?_
  rw [Am]
  cases ha:ad L y x with
  |false=>
   have nr:¬Ring n L R:=fun r=>by
    have:=(TB hR).mp r.al (y,x) (by
     have:(y,x)∈(cp R).take (j+1):=by rw [ec];simp
     exact Fe this)
    rw [ha] at this
    cases this
   simp [Bh,nr]
   exact s3
  |true=>
   simp [-Ag]
   refine Eq.mpr Ag ?_
   simp
   have hi:Cg (.loc l) (.tup [.int ((min y x:Nat):Int),.int ((max y x:Nat):Int)]) h3=.ok (lit (li L y x)) h3:=by
    have gi:AU (CW L) (.t [((min y x:Nat):Int),((max y x:Nat):Int)])=some (lit (li L y x)):=by
     show AU (CW L) (kT (min y x) (max y x))=_
     rw [gk,ha,if_pos rfl]
    simp only [Cg,e3,LS.keyT,Eo,Do]
    rw [if_pos (show B3 (CW L)=true from TH rfl),gi]
   refine Aj hi ?_
   rw [Am]
   refine Aj (show Al (.int (FO L R j)) (lit (li L y x)) h3=.ok (.int (FO L R (j+1))) h3 from by rw [et];rfl) ?_
   rw [Am]
   simp only [Bh]
   refine ⟨j+1,_,_,_,rfl,by omega,rfl,s3,e3,fun z hz=>?_,fun z hz=>?_⟩
   ·rw [ec] at hz
    rcases qaG.mp hz with w |w
    ·exact al z w
    ·rw [qa4] at w
     subst w
     exact ha
   ·rw [List.take_succ,hx] at hz
    rcases qaG.mp hz with w |w
    ·exact ct z w
    ·simp at w
     subst w
     exact c1
 ·rintro ρ h3 ⟨j,y2,y5,y6,ex,hj,rfl,s3,e3,al,ct⟩
  have:=K5 hj ex.symm
  subst this
  have lc:(cp R).length=R.length:=by rw [Tx hR];simp
  have et:FO L R R.length=AH L (R++R.take 1):=by
   rw [Zcn hR]
   unfold FO
   rw [GE (by omega)]
  rw [GE (by omega)] at al ct
  simp
  refine Aj (EY (by decide)) ?_
  rw [Am]
  simp
  refine ⟨?_,s3⟩
  rw [qaU]
  simp
  rw [et]
  exact ⟨fun od=>⟨r3,rlt,nd_count.mpr ct,(TB hR).mpr al,od⟩,fun r=>r.od⟩
end
section
variable {n:Nat} {L:List Ak} {h:HD} {R:List Nat}
theorem TN {d:D} (k:NetOk n L) (p:Plain2 h d) (hz:(A8 d).length≤500):Pu (Hj [AE n L,d] h) h (.bl (Dl n L d)):=by
 change Wp (AS 7 RL [AE n L,d] h) _
 refine Eq.mpr Bd ?_
 cases hT:CT d with
 |false=>
  have e:Dl n L d=false:=by cases d<;>first |rfl |cases hT
  rw [e]
  simp [Hm p.1,hT,Sm.refl]
 |true=>
  obtain ⟨ds,rfl⟩:=E6 hT
  have hz:ds.length≤500:=hz
  by_cases h3:3≤ds.length
  rotate_left
  ·have e:Dl n L (.tup ds)=false:=by rw [GC,decide_eq_false h3];rfl
   rw [e]
   have h3':(ds.length:Int)<3:=by omega
   simp [h3',Sm.refl]
  have h3':¬(ds.length:Int)<3:=by omega
  simp [-Ag,h3']
  refine Eq.mpr Ag ?_
  refine Eq.mpr Bb ?_
  refine Ct (src:=[]) (xs:=ds) (fun x=>x) (TJ n L ds h) ?_ (fun ys ρ h' _=>BN) ?_ ?_
  ·simp
   exact ⟨[],_,rfl,rfl,rfl,rfl,p.2⟩
  ·rintro x xs ρ h1 ⟨dn,y2,ex,rfl,rfl,ok,pl⟩
   refine ⟨_,rfl,?_⟩
   refine Eq.mpr Yg ?_
   refine Zcq (pl x AZ) ?_
   cases hx:BQ 0 ((n:Int) - 1) x with
   |true=>
    simp [Bh]
    exact ⟨dn++[x],_,by rw [ex];simp,rfl,rfl,by rw [List.all_append,ok];simp [hx],fun y hy=>pl y (A6 _ hy)⟩
   |false=>
    have e:Dl n L (.tup ds)=false:=by
     have:ds.all (BQ 0 ((n:Int) - 1))=false:=by rw [ex,List.all_append,FW,hx];simp
     rw [GC,this]
     simp
    simp [Bh,e,Sm.refl]
  ·rintro ρ h1 ⟨dn,y2,ex,rfl,rfl,ok,pl⟩
   rw [B9] at ex
   subst ex
   obtain ⟨e1,e2⟩:=Tw ok
   have e:Dl n L (.tup ds)=@decide (Ring n L (ds.map Dk)) (Classical.propDecidable _):=by
    rw [GC,ok,decide_eq_true h3]
    rfl
   rw [e,e1]
   refine Eq.mpr Ag ?_
   exact Zcw k (by simpa using h3) e2 (by simpa using hz)
end
theorem Ld {n:Nat} (hn:n≤1000):n≤sizeLine:=by unfold sizeLine;omega
theorem Zcx {n:Nat} {R:Nat→Bool}:BJ (n+1) (ext n R)=.tup (((List.range n).filter R).map (fun i=>D.int ((i:Nat):Int))++[.int ((n:Nat):Int)]):=by
 unfold BJ
 rw [List.range_succ,List.filter_append]
 have e1:(List.range n).filter (ext n R)=(List.range n).filter R:=List.filter_congr fun i hi=>by
  have:i<n:=by simpa using hi
  simp [ext,show i≠n by omega]
 have e2:[n].filter (ext n R)=[n]:=by simp [ext]
 rw [e1,e2]
 simp
theorem TQ {n:Nat} {R:Nat→Bool} (h:R n=false):BJ (n+1) R=BJ n R:=by
 unfold BJ
 rw [List.range_succ,List.filter_append]
 simp [h]
def Zcy (n:Nat) (h:HD) (xs:List Nat) (ρ:Ah) (h':HD):Prop:=∃(j l:Nat) (y:Option D),xs=(List.range n).drop j∧j≤n∧ρ=[some (.int (n:Nat)),some (.loc l),y]∧Sm h h'∧h'[l]?=some (.lst ((LL 0 j).map (BJ j)))
theorem Zcz {n:Nat} {h:HD} {Q:D→HD→Prop} (hn:n≤8) (q:∀l h',Sm h h'→h'[l]?=some (.lst ((LL 0 n).map (BJ n)))→Q (.loc l) h'):Wp (KS [.int (n:Nat)] h) Q:=by
 change Wp (AS 3 RH [.int (n:Nat)] h) _
 refine Eq.mpr Bd ?_
 simp [-Ag]
 refine A0 (by simp) fun l h1 s1 e1 _ _=>?_
 refine Eq.mpr Ag ?_
 refine Eq.mpr Bb ?_
 have pw:∀k,k≤8→(LL 0 k).length≤256:=fun k hk=>by
  rw [PV]
  exact Nat.pow_le_pow_right (n:=2) (by decide) hk
 refine Ct (src:=[]) (xs:=List.range n) (fun i=>.int ((i:Nat):Int)) (Zcy n h) ?_ (fun ys ρ h' _=>BN) ?_ ?_
 ·simp [EV (show n≤1000 by omega)]
  exact ⟨0,l,_,by simp,by omega,rfl,s1,e1⟩
 ·rintro x xs ρ h2 ⟨j,l2,y,ex,hj,rfl,s2,e2⟩
  obtain ⟨rfl,hk',rfl⟩:=IT ex.symm
  refine ⟨_,rfl,?_⟩
  simp
  refine EW (src:=[(l2,(LL 0 x).map (BJ x))]) (xs:=LL 0 x) (φ:=BJ x) (fun _=>true) (fun R=>BJ (x+1) (ext x R)) (fun R=>[some (BJ x R),some (.int ((x:Nat):Int))]) ?_ (Ld (by have:=pw x (by omega);omega)) (fun R _=>rfl) (fun R _ h2 s2=>(.ok:Pu (.ok true h2) h2 true)) (fun R hR _ h3 s3=>?_) fun l3 h3 s3 e3=>?_
  ·simp [G9 e2]
   exact ⟨.refl _,fun h2 s2=>GX (s2 _ _ e2)⟩
  ·simp [Pu]
   rw [Zcx]
   unfold BJ
   rw [Cm (by
    have:=Hw R (List.range x)
    simp at this ⊢
    omega)]
   exact ⟨rfl,.refl _⟩
  ·rw [G3] at e3
   refine Aj (FG (s3 _ _ e2) e3) ?_
   have:=pw x (by omega)
   refine A0 (Ld (by simp;omega)) fun l4 h4 s4 e4 _ _=>?_
   simp only [Bh]
   refine ⟨x+1,l4,_,rfl,by omega,rfl,s2.trans (s3.trans s4),?_⟩
   rw [e4,LL,Cw,Cy]
   have ea:(LL 0 x).map (BJ x)=(LL 0 x).map (BJ (x+1)):=ED fun R hR=>by rw [TQ (n:=x) (Hb hR _ (by omega))]
   rw [ea,Nat.zero_add]
   rfl
 ·rintro ρ h2 ⟨j,l2,y,ex,hj,rfl,s2,e2⟩
  have:j=n:=K5 hj ex.symm
  subst this
  simp
  exact q _ _ s2 e2
theorem ZcA {s t:Ak} (h:HT.lexLt (CU (AA s)) (CU (AA t))=true):CV s t:=by
 have e:∀a b c d:Int,HT.lexLt [a,b] [c,d]=true→a<c∨(a=c∧b<d):=fun a b c d h=>by
  simp [HT.lexLt] at h
  split at h
  ·exact .inr ⟨by assumption,h.2⟩
  ·exact .inl h
 have:=e ((s.1:Nat):Int) ((s.2.1:Nat):Int) ((t.1:Nat):Int) ((t.2.1:Nat):Int) h
 unfold CV
 omega
theorem TU:∀{L:List Ak},DX (L.map AA)=true→L.Pairwise CV
 |[],_=>.nil
 |[_],_=>List.pairwise_singleton _ _
 |s::t::r,h=>by
  have h2:(HT.lexLt (CU (AA s)) (CU (AA t))&&DX ((t::r).map AA))=true:=h
  rw [BS] at h2
  have hp:=TU h2.2
  have hs:=ZcA h2.1
  refine qcL.mpr ⟨fun x hx=>?_,hp⟩
  rcases qa5.mp hx with rfl |hx
  ·exact hs
  ·have:=(qcL.mp hp).1 x hx
   unfold CV at *
   omega
theorem ZcB {n:Nat} {L:List Ak} (n8:n≤8) (ok:∀t∈L,t.1<t.2.1∧t.2.1<n) (so:L.Pairwise CV):L.length≤100:=by
 have nd:(L.map fun t:Ak=>t.1*8+t.2.1).Nodup:=by
  unfold List.Nodup
  rw [GH]
  refine so.imp_of_mem fun {a b} ha hb h=>?_
  have:=ok a ha
  have:=ok b hb
  unfold CV at h
  omega
 have:=Hn (n:=64) nd fun x hx=>by
  obtain ⟨t,ht,rfl⟩:=qaL.mp hx
  have:=ok t ht
  omega
 rw [Bc] at this
 omega
def E9:D→Ak
 |.tup [.int a,.int b,.int c]=>(a.toNat,b.toNat,decide (c=1))
 |_=>(0,0,false)
theorem TV {d:D} (hb:Cn d=true):∃n L,d=AE n L∧NetOk n L:=by
 cases hT:CT d with
 |false=>rw [SF hT] at hb;cases hb
 |true=>
  obtain ⟨ds,rfl⟩:=E6 hT
  by_cases h2:ds.length=2
  ·obtain ⟨a,b,rfl⟩:=two_of h2
   cases hbT:CT b with
   |false=>rw [SG hbT] at hb;cases hb
   |true=>
    obtain ⟨ts,rfl⟩:=E6 hbT
    have h3:(BQ 1 8 a&&(ts.all (CF (Dk a))&&DX ts))=true:=hb
    rw [BS,BS,qaO] at h3
    obtain ⟨hn,ht,hz⟩:=h3
    obtain ⟨n,rfl,n1,n8⟩:=SH hn
    have en:Dk (.int (n:Nat))=n:=by simp [Dk]
    rw [en] at ht
    have key:∀t∈ts,AA (E9 t)=t∧(E9 t).1<(E9 t).2.1∧(E9 t).2.1<n:=fun t hm=>by
     obtain ⟨a,b,c,rfl,f1,f2,f3,f4,f5⟩:=Nv (ht t hm)
     refine ⟨?_,?_,?_⟩
     ·have hc:c=0∨c=1:=by omega
      unfold E9 AA lit
      simp only
      rw [show ((a.toNat:Nat):Int)=a by omega,show ((b.toNat:Nat):Int)=b by omega]
      rcases hc with rfl |rfl<;>rfl
     ·show a.toNat<b.toNat
      omega
     ·show b.toNat<n
      omega
    have ee:(ts.map E9).map AA=ts:=by
     rw [Cy]
     conv=>rhs;rw [←List.map_id ts]
     exact ED fun t hm=>(key t hm).1
    have ok:∀t∈ts.map E9,t.1<t.2.1∧t.2.1<n:=fun t hm=>by
     obtain ⟨x,hx,rfl⟩:=qaL.mp hm
     exact (key x hx).2
    have so:(ts.map E9).Pairwise CV:=TU (by rw [ee];exact hz)
    exact ⟨n,ts.map E9,by unfold AE;rw [ee],n1,n8,ok,so,ZcB n8 ok so⟩
  ·rw [SE h2] at hb;cases hb
section
variable {n:Nat} {L:List Ak} {h:HD}
theorem ZcC {L:List Ak} {l k:Nat} (e1:h[l]?=some (.lst (L.map AA))) (e2:h[k]?=some (.lst [])):Cu (.loc l) (.loc k) h=.ok (.bl (decide (L=[]))) h:=by
 have py:∀t,PyN 1 (AA t) (.tuple ((Gz t).map fun i=>.int i)):=fun t=>Po (n:=0) (xs:=Gz t) (e:=D.int) (g:=PyData.int) fun _ _=>Pn
 have a:∀(j:Nat) (zs:List Ak),h[j]?=some (.lst (zs.map AA))→AN h 8 (.loc j)=some (.list (zs.map fun x=>.tuple ((Gz x).map fun i=>.int i))):=fun j zs e=>by
  have:AC ((zs.map AA).map (AN h 7))=some (zs.map fun x=>.tuple ((Gz x).map fun i=>.int i)):=by
   rw [Cy]
   exact Ee fun x hx'=>J6 ((py x).rd 7 (by omega))
  simp only [AN,e,this,Do]
 have sh:∀zs:List Ak,SeqAt.shaped (.list (zs.map fun x=>PyData.tuple ((Gz x).map fun i=>.int i)))=true:=fun zs=>by
  unfold SeqAt.shaped
  have l0:(PyData.list (zs.map fun x=>PyData.tuple ((Gz x).map fun i=>.int i))).canLay0=true:=by
   rw [PyData.canLay0];exact Ka fun x h=>(py x).ly
  have d0:(PyData.list (zs.map fun x=>PyData.tuple ((Gz x).map fun i=>.int i))).depth≤1+1:=by
   rw [PyData.depth]
   exact Jn (Kb fun x h=>(py x).dp)
  rw [l0]
  simp
  omega
 change F9 (.loc l) (.loc k) h=_
 simp only [F9,EL,a l L e1,a k [] e2]
 rw [if_pos ⟨sh L,sh []⟩,PyData.eqv]
 cases L<;>rfl
theorem TX (k:NetOk n L):EA L↔∃p∈LL 0 (n - 1),∀t∈L,(BW p t).2.2=false:=by
 have dk:∀S:Nat→Bool,L.map (BW S)=NJ L↔∀t∈L,(BW S t).2.2=false:=fun S=>by
  unfold NJ
  constructor
  ·intro e t ht
   have:=List.map_inj_left.mp e t ht
   rw [this]
  ·intro hS
   refine ED fun t ht=>?_
   have:=hS t ht
   unfold BW at this ⊢
   simp only at this
   rw [this]
 constructor
 ·rintro ⟨S,hS⟩
  rw [dk] at hS
  obtain ⟨p,hp,he⟩:=Zc (n:=n - 1) fun i=>Bool.xor (S i) (S (n - 1))
  refine ⟨p,hp,fun t ht=>?_⟩
  obtain ⟨o1,o2⟩:=k.ok t ht
  have al:∀i,i<n→p i=Bool.xor (S i) (S (n - 1)):=fun i hi=>by
   by_cases z:i=n - 1
   ·subst z
    rw [Hb hp (n - 1) (.inr (by omega)),Bool.xor_self]
   ·exact he i (by omega)
  have:=hS t ht
  unfold BW at this ⊢
  simp only at this ⊢
  rw [al _ (by omega),al _ o2,←this]
  generalize S (n - 1)=x
  cases t.2.2<;>cases S t.1<;>cases S t.2.1<;>cases x<;>rfl
 ·rintro ⟨p,_,h⟩
  exact ⟨p,(dk p).mpr h⟩
inductive TZ (n:Nat) (L:List Ak) (l:Nat) (h:HD) (xs:List (Nat→Bool)) (ρ:Ah) (h':HD):Prop where
 |mk (dn:List (Nat→Bool)) (y1:Option D) (ex:LL 0 (n - 1)=dn++xs) (er:ρ=[some (AE n L),y1]) (s:Sm h h') (e:h'[l]?=some (.lst ((LL 0 (n - 1)).map (BJ (n - 1))))) (no:∀p∈dn,¬∀t∈L,(BW p t).2.2=false):TZ n L l h xs ρ h'
open Classical in
theorem ZcD {Q:D→HD→Prop} (k:NetOk n L) (q:∀h',Sm h h'→Q (.bl (decide (EA L))) h'):Wp (KZ [AE n L] h) Q:=by
 have kl:=k.le
 have k8:=k.n8
 have k1:=k.n1
 change Wp (AS 2 (RW) [AE n L] h) _
 refine Eq.mpr Bd ?_
 refine Eq.mpr Bb ?_
 obtain ⟨d,h5,e5,l,rfl,s5,f5⟩:=(Zcz (n:=n - 1) (h:=h) (Q:=fun d h'=>∃l,d=.loc l∧Sm h h'∧h'[l]?=some (.lst ((LL 0 (n - 1)).map (BJ (n - 1))))) (by omega) fun l h' s e=>⟨l,rfl,s,e⟩).ex
 refine Ct (src:=[(l,(LL 0 (n - 1)).map (BJ (n - 1)))]) (xs:=LL 0 (n - 1)) (BJ (n - 1)) (TZ n L l h) ?_ (fun ys ρ h' z=>?_) ?_ ?_
 ·simp [IW]
  rw [show (n:Int) - 1=((n - 1:Nat):Int) by omega]
  refine Aj e5 ?_
  rw [Am,G9 f5]
  exact ⟨rfl,[],_,rfl,rfl,s5,f5,fun _ z=>(nomatch z)⟩
 ·obtain ⟨_,_,_,_,_,e,_⟩:=z
  exact GX e
 ·rintro p xs ρ h6 ⟨dn,y1,ex,rfl,s6,f6,no⟩
  refine ⟨_,rfl,?_⟩
  have hp:p∈LL 0 (n - 1):=by rw [ex];simp
  have ed:BJ (n - 1) p=BJ n p:=by
   have:=TQ (n:=n - 1) (Hb hp (n - 1) (.inr (by omega)))
   rw [←this,show n - 1+1=n by omega]
  rw [ed]
  simp
  refine EW (src:=[]) (xs:=L.map (BW p)) (φ:=AA) (fun t=>t.2.2) AA (fun t=>[some (AA t)]) ?_ (Ld (by rw [Bc];omega)) (fun x _=>rfl) (fun t ht h' s'=>?_) (fun t ht _ h' s'=>?_) fun l7 h7 s7 e7=>?_
  ·simp
   refine (ZbH k).wp fun h8 s8=>?_
   simp [NQ]
   exact ⟨s8,fun _ _=>BN⟩
  ·simp [Pu]
   refine Aj (show As (AA t) (.int 2) h'=.ok (lit t.2.2) h' from rfl) ?_
   rw [Am]
   refine Aj Qe ?_
   cases t.2.2<;>simp [Sm.refl]
  ·simp [Pu,Sm.refl]
  refine A0 (by simp) fun l8 h8 s8 e8 _ _=>?_
  refine Aj (ZcC (s8 _ _ e7) e8) ?_
  rw [Am]
  have S8:=(s6.trans s7).trans s8
  by_cases z:∀t∈L,(BW p t).2.2=false
  ·have en:(L.map (BW p)).filter (fun t=>t.2.2)=[]:=by
    rw [qcQ]
    intro t ht
    obtain ⟨s,hs,rfl⟩:=qaL.mp ht
    rw [z s hs]
    exact Bf
   rw [en]
   have:=q h8 S8
   rw [decide_eq_true ((TX k).mpr ⟨p,hp,z⟩)] at this
   simp [Bh]
   exact this
  ·have en:¬(L.map (BW p)).filter (fun t=>t.2.2)=[]:=fun w=>z fun t ht=>by
    have:=qcQ.mp w (BW p t) (qaL.mpr ⟨t,ht,rfl⟩)
    simpa using this
   rw [decide_eq_false en]
   simp [Bh]
   refine ⟨dn++[p],_,by rw [ex];simp,rfl,S8,s8 _ _ (s7 _ _ f6),fun p' hp'=>?_⟩
   rcases qaG.mp hp' with w |w
   ·exact no _ w
   ·rw [qa4] at w
    subst w
    exact z
 ·rintro ρ h6 ⟨dn,y1,ex,rfl,s6,f6,no⟩
  rw [B9] at ex
  have nq:¬EA L:=fun w=>by
   obtain ⟨p,hp,hq⟩:=(TX k).mp w
   rw [ex] at hp
   exact no p hp hq
  have:=q h6 s6
  rw [decide_eq_false nq] at this
  simp
  exact this
theorem ZcE {d:D} {h:HD} (p:Plain4 h d) (hz:∀x∈A8 d,(A8 x).length≤1000) (hb:Cn d=false):Er (Eu [d] h) h "NoNet":=by
 change We (AS 8 (Nj) [d] h) _ _
 refine Eq.mpr MK ?_
 simp
 exact (SL p hz hb).we fun h' s=>⟨rfl,rfl,s⟩
theorem ZcF {d x:D} {h:HD} (p:Plain4 h d) (hz:∀x∈A8 d,(A8 x).length≤1000) (hb:Cn d=false):Er (Es [d,x] h) h "NoNet":=by
 change We (AS 6 (Hl) [d,x] h) _ _
 refine Eq.mpr MK ?_
 simp
 exact (SL p hz hb).we fun h' s=>⟨rfl,rfl,s⟩
end
theorem T1 {src:A1} {items:List D} {sg:MG} {f:ME} {ρc:Ah} (I:List D→HD→Prop) (hs:∀acc h,I acc h→BM src items h):∀(xs acc:List D) (h:HD),I acc h→(∀x∈xs,∀acc h,I acc h→∃ρ1,sg x ρc=some ρ1∧Wp (f ρ1 h) fun y h2=>I (acc++[y]) h2)→Wp (Ck src items sg Bw f ρc xs h) fun ys h'=>I (acc++ys) h'∧ys.length=xs.length
 |[],acc,h,i,_=>by
  simp only [Ck]
  rw [if_pos (hs _ _ i),Am,B9]
  exact ⟨i,rfl⟩
 |x::xs,acc,h,i,hf=>by
  simp only [Ck]
  rw [if_pos (hs _ _ i)]
  obtain ⟨ρ1,e,w⟩:=hf x AZ acc h i
  rw [e]
  obtain ⟨y,h2,e2,i2⟩:=w.ex
  show Wp ((noErr (f ρ1 h)).bind fun y h2=>(Ck src items sg Bw f ρc xs h2).bind fun ys h3=>.ok (y::ys) h3) _
  rw [e2]
  show Wp ((Ck src items sg Bw f ρc xs h2).bind fun ys h3=>.ok (y::ys) h3) _
  rw [Az]
  refine Wp.mono (T1 I hs xs (acc++[y]) h2 i2 fun z hz=>hf z (A6 _ hz)) fun ys h3 i3=>?_
  rw [Am]
  rw [Cf] at i3
  exact ⟨i3.1,by rw [DF,DF,i3.2]⟩
theorem T3 {cs:List (Option Nat)} {it:MI} {sg:MG} {f:ME} {ρ:Ah} {h:HD} {src:A1} {xs:List D} {Q:D→HD→Prop} (I:List D→HD→Prop) (hi:Wp (it ρ h) fun x h'=>x=(xs,src)∧I [] h') (hs:∀acc h,I acc h→BM src xs h) (hn:xs.length≤sizeLine)
 (hf:∀x∈xs,∀acc h,I acc h→∃ρ1,sg x (Cs cs ρ)=some ρ1∧Wp (f ρ1 h) fun y h2=>I (acc++[y]) h2) (q:∀ys h2,I ys h2→ys.length=xs.length→Q (.loc h2.length) (h2++[.lst ys])):Wp (AY cs it sg Bw f ρ h) Q:=by
 unfold AY
 rw [Az]
 refine Wp.mono hi fun x h1 z=>?_
 obtain ⟨ex,i1⟩:=z
 subst ex
 rw [if_pos hn,Az]
 refine Wp.mono (T1 I hs xs [] h1 i1 hf) fun ys h2 i2=>?_
 rw [Fh] at i2
 refine A0 (by rw [i2.2];exact hn) fun l h3 s3 e3 el eh=>?_
 rw [el,eh]
 exact q ys h2 i2.1 i2.2
theorem ZcG {α:Type} {cs:List (Option Nat)} {it:MI} {sg:MG} {t:MT} {f:ME} {ρ:Ah} {h:HD} {src:A1} {xs:List α} {φ:α→D} {Q:D→HD→Prop} (g:α→Bool) (e:α→D) (ρ1:α→Ah) (hi:Wp (it ρ h) fun x h'=>x=(xs.map φ,src)∧Sm h h'∧∀h2,Sm h' h2→BM src (xs.map φ) h2) (hn:xs.length≤sizeLine)
 (hg:∀x∈xs,sg (φ x) (Cs cs ρ)=some (ρ1 x)) (ht:∀x∈xs,∀h',Sm h h'→Pu (t (ρ1 x) h') h' (g x)) (hf:∀x∈xs,g x=true→∀h',Sm h h'→Pu (f (ρ1 x) h') h' (e x))
 (q:∀l h',Sm h h'→h'[l]?=some (.lst ((xs.filter g).map e))→h.length≤l→Q (.loc l) h'):Wp (AY cs it sg t f ρ h) Q:=by
 unfold AY
 rw [Az]
 refine Wp.mono hi fun x h1 z=>?_
 obtain ⟨ex,s1,hs⟩:=z
 subst ex
 rw [if_pos (by simpa using hn),Az]
 refine (Mc φ g e ρ1 xs h1 hs hg (fun x hx h' s'=>ht x hx h' (s1.trans s')) (fun x hx gx h' s'=>hf x hx gx h' (s1.trans s'))).wp fun h2 s2=>?_
 refine A0 ?_ fun l h3 s3 e3 el _=>q l h3 ((s1.trans s2).trans s3) e3 (by have:=(s1.trans s2).len;omega)
 rw [Bc]
 exact BU (Hw _ _) hn
section
variable {n b:Nat} {L:List Ak} {h:HD}
theorem ZcH {l:Nat} {ds:List D} {d:D} (e:h[l]?=some (.lst (ds++[d]))):As (.loc l) (.int (-1)) h=.ok d h:=by
 have e1:BZ (ds++[d]) (-1)=some d:=by
  unfold BZ Cz
  rw [if_neg (by omega),if_pos (by simp;omega)]
  simp
  rw [show (-1+((ds.length:Int)+1)).toNat=ds.length by omega]
  simp
 simp only [As,Bg,e,e1]
theorem ZcI {zs:List Nat} {l k:Nat} (e1:h[l]?=some (.lst (zs.map fun i=>.int ((i:Nat):Int)))) (e2:h[k]?=some (.lst [])):Br (.loc l) (.loc k) h=.ok (.bl (!decide (zs=[]))) h:=by
 have a:∀(j:Nat) (zs:List Nat),h[j]?=some (.lst (zs.map fun i=>.int ((i:Nat):Int)))→AN h 8 (.loc j)=some (.list (zs.map fun x=>.int ((x:Nat):Int))):=fun j zs e=>by
  have:AC ((zs.map fun i=>D.int ((i:Nat):Int)).map (AN h 7))=some (zs.map fun x=>.int ((x:Nat):Int)):=by
   rw [Cy]
   exact Ee fun x hx'=>rfl
  simp only [AN,e,this,Do]
 have sh:∀zs:List Nat,SeqAt.shaped (.list (zs.map fun x=>PyData.int ((x:Nat):Int)))=true:=fun zs=>by
  unfold SeqAt.shaped
  have l0:(PyData.list (zs.map fun x=>PyData.int ((x:Nat):Int))).canLay0=true:=by
   rw [PyData.canLay0];exact Ka fun x h=>rfl
  have d0:(PyData.list (zs.map fun x=>PyData.int ((x:Nat):Int))).depth≤0+1:=by
   rw [PyData.depth]
   exact Jn (Kb fun x h=>Ax _)
  rw [l0]
  simp
  omega
 change Dh (.loc l) (.loc k) h=_
 simp only [Dh,EL,a l zs e1,a k [] e2]
 rw [if_pos ⟨sh zs,sh []⟩,PyData.eqv]
 cases zs<;>rfl
inductive T4 (b n:Nat) (L:List Ak) (l2:Nat) (h:HD) (xs:List Nat) (ρ:Ah) (h':HD):Prop where
 |mk (q:List Nat) (e:Nat) (y3 y4 y5 y6 y7:Option D) (er:ρ=[some (.loc b),some (AE n L),some (.loc l2),y3,y4,y5,y6,y7]) (bx:BoxAt h' b) (s:Smx b h h') (el:h'[l2]?=some (.lst ((q++[e]).map fun i=>.int ((i:Nat):Int)))) (lt:∀i∈q++[e],i<n) (hz:q.length+1+xs.length≤8):T4 b n L l2 h xs ρ h'
inductive T6 (b n:Nat) (L:List Ak) (l2 l4:Nat) (q:List Nat) (e:Nat) (h:HD) (xs:List Ak) (ρ:Ah) (h':HD):Prop where
 |mk (dn:List Ak) (zs:List Nat) (y3 y5 y6 y7:Option D) (ex:L=dn++xs) (er:ρ=[some (.loc b),some (AE n L),some (.loc l2),y3,some (.loc l4),y5,y6,y7]) (bx:BoxAt h' b) (s:Smx b h h') (el:h'[l2]?=some (.lst ((q++[e]).map fun i=>.int ((i:Nat):Int)))) (e4:h'[l4]?=some (.lst (zs.map fun i=>.int ((i:Nat):Int)))) (lt:∀i∈zs,i<n) (hz:zs.length≤dn.length):T6 b n L l2 l4 q e h xs ρ h'
theorem ZcJ {x a c:Nat}:CJ false (.int ((x:Nat):Int)) (.tup [.int ((a:Nat):Int),.int ((c:Nat):Int)]) h=.ok (.bl ([a,c].contains x)) h:=J8 (neg:=false) (k:=x) (ks:=[a,c])
theorem ZcK {l x:Nat} {ks:List Nat} (e:h[l]?=some (.lst (ks.map fun i=>.int ((i:Nat):Int)))):CJ true (.int (x:Nat)) (.loc l) h=.ok (.bl (!ks.contains x)) h:=by
 have:=J8 (neg:=true) (k:=x) (ks:=ks) (h:=h)
 simp only [CJ,Bg,e] at this ⊢
 exact this
theorem ZcL {Q:D→HD→Prop} (k:NetOk n L) (bx:BoxAt h b) (q:∀R h',1≤R.length→R.length≤8→(∀i∈R,i<n)→BoxAt h' b→Smx b h h'→Q (Aq R) h'):Wp (K0 [.loc b,AE n L] h) Q:=by
 have kl:=k.le
 have k8:=k.n8
 have k1:=k.n1
 change Wp (AS 8 (RY) [.loc b,AE n L] h) _
 refine Eq.mpr Bd ?_
 simp [-Ag,IW]
 refine DA bx (by omega) (by omega) fun d h1 d0 d1 x1 s1=>?_
 try simp [-Ag]
 obtain ⟨r,rfl⟩:∃r:Nat,d=(r:Int):=⟨d.toNat,by omega⟩
 refine A0 (by simp) fun l2 h2 s2 e2 el2 _=>?_
 have hl2:h.length≤l2:=by have:=s1.len x1.lt;omega
 have n2b:l2≠b:=by have:=x1.lt;omega
 refine Eq.mpr Ag ?_
 refine Eq.mpr Bb ?_
 obtain ⟨d6,h3,e3,m,rfl,hm,x3,s3⟩:=(DA (x1.sm s2) (m:=6) (Q:=fun d h'=>∃m:Nat,d=.int (m:Nat)∧m<6∧BoxAt h' b∧Smx b h2 h') (by decide) (by decide) fun d h' d0 d1 x s=>⟨d.toNat,by congr 1;omega,by omega,x,s⟩).ex
 refine Ct (src:=[]) (xs:=List.range (2+m)) (fun i=>.int ((i:Nat):Int)) (T4 b n L l2 h) ?_ (fun ys ρ h' _=>BN) ?_ ?_
 ·simp
  refine Aj e3 ?_
  simp
  rw [show (2:Int)+(m:Int)=((2+m:Nat):Int) by omega]
  refine Aj (EV (by omega)) ?_
  rw [Am]
  exact ⟨rfl,[],r,_,_,_,_,_,rfl,x3,(s1.trans (BP s2)).trans s3,s3 _ _ n2b e2,fun i hi=>by simp at hi;omega,by simp;omega⟩
 ·rintro x xs ρ h4 ⟨qq,e,y3,y4,y5,y6,y7,rfl,x4,s4,el4,lt4,hz4⟩
  refine ⟨_,rfl,?_⟩
  simp [-Ag]
  refine A0 (by simp) fun l4 h5 s5 e5 el5 _=>?_
  have n42:l4≠l2:=by have:=(qa3.mp el4).1;omega
  have n4b:l4≠b:=by have:=x4.lt;omega
  have hl4:h.length≤l4:=by have:=s4.len x4.lt;omega
  refine Eq.mpr Ag ?_
  refine Eq.mpr Bb ?_
  refine Ct (src:=[]) (xs:=L) AA (T6 b n L l2 l4 qq e h) ?_ (fun ys ρ h' _=>BN) ?_ ?_
  ·simp [NQ]
   exact ⟨[],[],_,_,_,_,rfl,rfl,x4.sm s5,s4.trans (BP s5),by simpa using s5 _ _ el4,e5,fun _ z=>(nomatch z),Ax _⟩
  ·rintro t ts ρ h6 ⟨dn,zs,y3,y5,y6,y7,ex,rfl,x6,s6,el6,e46,lt6,hz6⟩
   refine ⟨_,rfl,?_⟩
   obtain ⟨o1,o2⟩:=k.ok t (by rw [ex];simp)
   have dl:dn.length≤100:=by rw [ex,CY] at kl;omega
   rw [Cw] at el6
   have il:∀{h'},h'[l2]?=some (.lst (qq.map (fun i=>D.int ((i:Nat):Int))++[e].map fun i=>D.int ((i:Nat):Int)))→As (.loc l2) (.int (-1)) h'=.ok (.int ((e:Nat):Int)) h':=fun z=>ZcH z
   simp
   refine Aj (il el6) ?_
   rw [Am]
   refine Aj ZcJ ?_
   rw [Am]
   cases hc:[t.1,t.2.1].contains e with
   |false=>
    simp [Bh]
    exact ⟨dn++[t],zs,_,_,_,_,by rw [ex];simp,rfl,x6,s6,by rw [Cw];exact el6,e46,lt6,by simp;omega⟩
   |true=>
    have he:e=t.1∨e=t.2.1:=by simpa using hc
    obtain ⟨v,ev,lv⟩:∃v:Nat,((t.1:Nat):Int)+((t.2.1:Nat):Int) - ((e:Nat):Int)=((v:Nat):Int)∧v<n:=by
     rcases he with rfl |rfl
     ·exact ⟨t.2.1,by omega,o2⟩
     ·exact ⟨t.1,by omega,by omega⟩
    simp [Ef e46]
    refine Aj (il el6) ?_
    rw [Am]
    refine Aj (show D9 (.int (((t.1:Nat):Int)+((t.2.1:Nat):Int))) (.int ((e:Nat):Int)) h6=.ok (.int ((v:Nat):Int)) h6 from by rw [←ev];rfl) ?_
    rw [Am]
    refine Aj (G4 e46 (by rw [Bc];unfold sizeLine;omega)) ?_
    have l4l:=(qa3.mp e46).1
    simp only [Am,Bh]
    refine ⟨dn++[t],zs++[v],_,_,_,_,by rw [ex];simp,rfl,?_,s6.put hl4,?_,?_,fun i hi=>?_,by simp;omega⟩
    ·exact x6.smx (a:=l4) (fun l c ne z=>by rw [Bp (Ne.symm ne)];exact z) (Ne.symm n4b)
    ·rw [Bp n42,Cw];exact el6
    ·rw [BR l4l,Cw];rfl
    ·rcases qaG.mp hi with w |w
     ·exact lt6 i w
     ·rw [qa4] at w;subst w;exact lv
  ·rintro ρ h6 ⟨dn,zs,y3,y5,y6,y7,ex,rfl,x6,s6,el6,e46,lt6,hz6⟩
   rw [B9] at ex
   subst ex
   refine Eq.mpr Ag ?_
   refine Eq.mpr Bb ?_
   refine Eq.mpr EU ?_
   refine ZcG (src:=[(l4,zs.map fun i=>.int ((i:Nat):Int))]) (xs:=zs) (φ:=fun i=>.int ((i:Nat):Int)) (fun i=>!(qq++[e]).contains i) (fun i=>.int ((i:Nat):Int)) (fun i=>[some (.int ((i:Nat):Int)),some (.loc l2)]) ?_ (Ld (by omega)) (fun x _=>rfl) (fun x hx h' s'=>?_) (fun x hx _ h' s'=>?_) fun l7 h7 s7 e7 ll7=>?_
   ·simp [G9 e46]
    exact ⟨.refl _,fun h' s'=>GX (s' _ _ e46)⟩
   ·simp only [Pu,Yh,Ma,J4,J3]
    refine Aj (ZcK (s' _ _ el6)) ?_
    simp only [Am,Yn]
    exact ⟨trivial,.refl _⟩
   ·simp [Pu,Sm.refl]
   refine Eq.mpr Ag ?_
   generalize ews:zs.filter (fun i=>!(qq++[e]).contains i)=ws at e7
   have lw:∀i∈ws,i<n:=fun i hi=>by rw [←ews] at hi;exact lt6 i (qc8.mp hi).1
   have wl:ws.length≤100:=by
    rw [←ews]
    exact BU (Hw _ _) (by omega)
   simp
   refine A0 (by simp) fun l8 h8 s8 e8 _ _=>?_
   refine Aj (ZcI (s8 _ _ e7) e8) ?_
   rw [Am]
   have s78:=s7.trans s8
   by_cases z:ws=[]
   ·subst z
    simp [Bh]
    exact ⟨qq,e,_,_,_,_,_,rfl,x6.sm s78,s6.trans (BP s78),s78 _ _ el6,lt4,by simp at hz4;omega⟩
   ·have wp:0<ws.length:=List.length_pos_iff.mpr z
    have el8:=s78 _ _ el6
    simp [z,Ef el8,Mq (s8 _ _ e7)]
    refine DA (x6.sm s78) (by omega) (by omega) fun d h9 d0 d1 x9 s9=>?_
    obtain ⟨o,rfl⟩:∃o:Nat,d=(o:Int):=⟨d.toNat,by omega⟩
    have ho:o<ws.length:=by omega
    have n7b:l7≠b:=by have:=x6.lt;omega
    refine Aj (EX (a:=.int ((ws[o]:Nat):Int)) (s9 _ _ n7b (s8 _ _ e7)) (by rw [B8,AQ ho];rfl)) ?_
    rw [Am]
    have el9:=s9 _ _ n2b el8
    refine Aj (G4 el9 (by rw [Bc];unfold sizeLine;simp at hz4 ⊢;omega)) ?_
    have l2l:=(qa3.mp el9).1
    simp only [Am,Bh]
    refine ⟨qq++[e],ws[o],_,_,_,_,_,rfl,?_,?_,?_,fun i hi=>?_,by simp at hz4 ⊢;omega⟩
    ·exact x9.smx (a:=l2) (fun l c ne w=>by rw [Bp (Ne.symm ne)];exact w) (Ne.symm n2b)
    ·exact ((s6.trans (BP s78)).trans s9).put hl2
    ·rw [BR l2l]
     rw [Cw (l₁:=qq++[e])]
     rfl
    ·rcases qaG.mp hi with w |w
     ·exact lt4 i w
     ·rw [qa4] at w;subst w;exact lw _ (DY ho)
 ·rintro ρ h4 ⟨qq,e,y3,y4,y5,y6,y7,rfl,x4,s4,el4,lt4,hz4⟩
  simp
  refine Aj (Me el4) ?_
  rw [Am]
  exact q (qq++[e]) h4 (by simp) (by simp at hz4 ⊢;omega) lt4 x4 s4
end
def T7 (c:Bool) (p:PyData):Prop:=if c then Gq p=true else p.hasDict=false
def ZcM (c:Bool) (ps:List PyData):Prop:=if c then Gr ps=true else PyData.hasDictAll ps=false
inductive RpY (b:Nat) (h:HD) (c:Bool) (n L:Nat) (d:D):Prop where
 |mk (p:PyData) (f0:∀h',Smx b h h'→∀m,CD h' (n+m) d=some p) (f1:p.showable=true) (f2:T7 c p) (f3:p.depth≤n) (f4:p.shown.length≤L):RpY b h c n L d
inductive T8 (b:Nat) (h:HD) (c:Bool) (n L:Nat) (ds:List D):Prop where
 |mk (ps:List PyData) (f0:∀h',Smx b h h'→∀m,AC (ds.map (CD h' (n+m)))=some ps) (f1:PyData.showableAll ps=true) (f2:ZcM c ps) (f3:PyData.depthAll ps≤n) (f4:ps.length=ds.length) (f5:∀t∈PyData.shownAll ps,t.length≤L):T8 b h c n L ds
theorem NS {b:Nat} {h:HD} {c:Bool} {n L:Nat}:∀{ds:List D},(∀d∈ds,RpY b h c n L d)→T8 b h c n L ds
 |[],_=>⟨[],fun _ _ _=>rfl,rfl,by cases c<;>rfl,Bu _,rfl,fun t ht=>by cases ht⟩
 |d::ds,hd=>by
  obtain ⟨p,a1,a2,a3,a4,a5⟩:=hd d AZ
  obtain ⟨ps,b1,b2,b3,b4,b5,b6⟩:=NS (fun x hx=>hd x (A6 _ hx))
  refine ⟨p::ps,fun h' s m=>?_,by simp [PyData.showableAll,a2,b2],?_,by simp only [PyData.depthAll];omega,by simp [b5],fun t ht=>?_⟩
  ·rw [BE,a1 h' s m]
   simp only [AC,b1 h' s m]
   rfl
  ·cases c with
   |true=>
    change Gq p=true at a3
    change Gr ps=true at b3
    change (Gq p&&Gr ps)=true
    rw [a3,b3]
    rfl
   |false=>
    change p.hasDict=false at a3
    change PyData.hasDictAll ps=false at b3
    change (p.hasDict||PyData.hasDictAll ps)=false
    rw [a3,b3]
    rfl
  ·simp only [PyData.shownAll] at ht
   rcases qa5.mp ht with e |e
   ·rw [e];exact a5
   ·exact b6 t e
theorem ZcN {L k:Nat} {ds:List D} {ps:List PyData} (hk:ds.length≤k) (b5:ps.length=ds.length) (b6:∀t∈PyData.shownAll ps,t.length≤L):(Str.join ", " (PyData.shownAll ps)).length≤k*(L+2):=by
 have hl:(PyData.shownAll ps).length=ds.length:=by rw [MN,b5]
 by_cases he:PyData.shownAll ps=[]
 ·rw [he];exact Bu _
 ·have h1:=join_length_add _ he
  have h2:=Qd b6
  have h3:(PyData.shownAll ps).length*(L+2)≤k*(L+2):=Nat.mul_le_mul_right _ (by rw [hl];exact hk)
  omega
theorem FP {b:Nat} {h:HD} {c:Bool} {n L:Nat} (k:Nat) {ds:List D} (hd:∀d∈ds,RpY b h c n L d) (hk:ds.length≤k):RpY b h c (n+1) (k*(L+2)+3) (.tup ds):=by
 obtain ⟨ps,b1,b2,b3,b4,b5,b6⟩:=NS hd
 refine ⟨.tuple ps,fun h' s m=>?_,by simpa [PyData.showable] using b2,by cases c<;>exact b3,by simp only [PyData.depth];omega,?_⟩
 ·rw [show n+1+m=(n+m)+1 by omega]
  show (AC (ds.map (CD h' (n+m)))).map PyData.tuple=_
  rw [b1 h' s m]
  rfl
 ·have hj:=ZcN hk b5 b6
  simp only [PyData.shown,tupleText]
  rw [strLen_append,strLen_append]
  have e1:((("(":String):Str)).length=1:=rfl
  have e2:(((if (PyData.shownAll ps).length==1 then ",)" else ")":String):Str)).length≤2:=by split<;>decide
  omega
theorem T9 {L:Nat}:∀{ts:List Str},(∀t∈ts,t.length≤L)→(ts.map (·.length)).sum≤ts.length*L
 |[],_=>Bu _
 |t::ts,h=>by
  have h1:=h t AZ
  have h2:=T9 (fun x hx=>h x (A6 _ hx)) (ts:=ts) (L:=L)
  rw [BE,List.sum_cons,DF,Nat.succ_mul]
  omega
theorem Ua {b:Nat} {h:HD} {n L l:Nat} (k:Nat) {ds:List D} (hl:l≠b) (el:h[l]?=some (.lst ds)) (hd:∀d∈ds,RpY b h false n L d) (hk:ds.length≤k):RpY b h false (n+1) (k*(L+2)+3) (.loc l):=by
 obtain ⟨ps,b1,b2,b3,b4,b5,b6⟩:=NS hd
 refine ⟨.list ps,fun h' s m=>?_,by simpa [PyData.showable] using b2,b3,by simp only [PyData.depth];omega,?_⟩
 ·rw [show n+1+m=(n+m)+1 by omega]
  show (match h'[l]? with
   |some (.lst ds)=>(AC (ds.map (CD h' (n+m)))).map PyData.list
   |_=>none)=_
  rw [s _ _ hl el]
  show (AC (ds.map (CD h' (n+m)))).map PyData.list=_
  rw [b1 h' s m]
  rfl
 ·have hj:=listText_len_le (PyData.shownAll ps)
  have hl:(PyData.shownAll ps).length=ds.length:=by rw [MN,b5]
  have hs:=T9 b6
  have h3:(PyData.shownAll ps).length*(L+2)≤k*(L+2):=Nat.mul_le_mul_right _ (by rw [hl];exact hk)
  rw [Nat.mul_add] at h3
  show (listText (PyData.shownAll ps)).length≤_
  omega
theorem Ce {b:Nat} {h:HD} {c:Bool} {n n' L L':Nat} {d:D} (x:RpY b h c n L d) (hn:n≤n') (hl:L≤L'):RpY b h c n' L' d:=by
 obtain ⟨p,a1,a2,a3,a4,a5⟩:=x
 exact ⟨p,fun h' s m=>by have:=a1 h' s (n' - n+m);rw [show n+(n' - n+m)=n' + m by omega] at this;exact this,a2,a3,BU a4 hn,BU a5 hl⟩
theorem RpY.smx {b:Nat} {h h':HD} {c:Bool} {n L:Nat} {d:D} (x:RpY b h c n L d) (s:Smx b h h'):RpY b h' c n L d:=by
 obtain ⟨p,a1,a2,a3,a4,a5⟩:=x
 exact ⟨p,fun h2 s2 m=>a1 h2 (s.trans s2) m,a2,a3,a4,a5⟩
theorem ZcO {b:Nat} {h:HD} {c:Bool} {n L:Nat} {d:D} (x:RpY b h c n L d) (hn:n≤8) (hl:L≤sizeLine):∃t:Str,∀h',Smx b h h'→CN d h'=.ok (.str t) h':=by
 obtain ⟨p,a1,a2,a3,a4,a5⟩:=x
 refine ⟨p.shown,fun h' s=>?_⟩
 have e:=a1 h' s (8 - n)
 rw [show n+(8 - n)=8 by omega] at e
 have h2:p.hasDict=false∨Gq p=true:=by
  cases c with
  |true=>exact .inr a3
  |false=>exact .inl a3
 unfold CN
 rw [e]
 exact if_pos ⟨a2,h2,by omega,BU a5 hl⟩
theorem IX {b:Nat} {h:HD} {c:Bool} {L:Nat} {d:D} {p:PyData} (e:∀h m,CD h m d=some p) (h1:p.showable=true) (h2:T7 c p) (h3:p.depth=0) (h4:p.shown.length≤L):RpY b h c 0 L d:=
 ⟨p,fun h' _ m=>e h' _,h1,h2,by rw [h3];exact Ax _,h4⟩
section
variable {b:Nat} {h:HD} {c:Bool}
theorem FQ {i:Int} (h1:0≤i) (h2:i<100):RpY b h c 0 3 (.int i):=by
 have key:∀k:Fin 100,PyData.showable (.int ((k.val:Nat):Int))=true∧(PyData.shown (.int ((k.val:Nat):Int))).length≤3:=by decide +kernel
 obtain ⟨n,rfl⟩:∃n:Nat,i=(n:Int):=⟨i.toNat,by omega⟩
 have k:=key ⟨n,by omega⟩
 exact IX (p:=.int (n:Int)) (fun h m=>by cases m<;>rfl) k.1 (by cases c<;>rfl) rfl k.2
theorem Ub {v:Bool}:RpY b h c 0 5 (.bl v):=IX (p:=.bool v) (fun h m=>by cases m<;>rfl) rfl (by cases c<;>rfl) rfl (by cases v<;>decide)
theorem Uc:RpY b h c 0 5 .non:=IX (p:=.none) (fun h m=>by cases m<;>rfl) rfl (by cases c<;>rfl) rfl (by decide)
theorem Ud {x:Str} {L:Nat} (hx:(PyData.shown (.str x)).length≤L):RpY b h c 0 L (.str x):=IX (p:=.str x) (fun h m=>by cases m<;>rfl) rfl (by cases c<;>rfl) rfl hx
theorem Ue {i:Int} {L:Nat} (h1:PyData.showable (.int i)=true) (hx:(PyData.shown (.int i)).length≤L):RpY b h c 0 L (.int i):=IX (p:=.int i) (fun h m=>by cases m<;>rfl) h1 (by cases c<;>rfl) rfl hx
theorem Ug:RpY b h true 1 5 .edic:=⟨.dict [],fun h' _ m=>by cases m<;>rfl,rfl,rfl,by decide,by decide⟩
theorem ZcP {x:Bool}:RpY b h c 0 3 (lit x):=FQ (by split<;>decide) (by split<;>decide)
end
theorem FR {α:Type} {o:Out α} {x:α} {h:HD} (w:Wp o fun d h'=>d=x∧h'=h):o=.ok x h:=by
 obtain ⟨a,h',e,rfl,rfl⟩:=w.ex
 exact e
def TY (b:Nat) (h:HD) (d:D):Prop:=Plain2 h d∧(A8 d).length≤500∧∃c,RpY b h c 3 20000 d
theorem TY.smx {b:Nat} {h h':HD} {x:D} (z:TY b h x) (s:Smx b h h') (y:BoxAt h' b):TY b h' x:=⟨z.1.smx s y,z.2.1,let ⟨c,y⟩:=z.2.2;⟨c,y.smx s⟩⟩
section
variable {b n:Nat} {h:HD}
theorem NT {ds:List D} {c:Bool} (hz:ds.length≤40) (pl:∀x∈ds,Plain h x) (rp:∀x∈ds,RpY b h c 1 60 x):TY b h (.tup ds):=⟨⟨trivial,pl⟩,(by show ds.length≤500;omega),c,Ce (FP 40 rp hz) (by decide) (by decide)⟩
theorem Le {d:D} {c:Bool} (p:Plain h d) (e:A8 d=[]) (r:RpY b h c 3 20000 d):TY b h d:=⟨FL p e,by rw [e];exact Bu _,c,r⟩
theorem NU {R:List Nat}:∀x∈R.map (fun i=>D.int ((i:Nat):Int)),Plain h x:=fun x hx=>by
 obtain ⟨i,_,rfl⟩:=qaL.mp hx
 exact trivial
theorem Uh {R:List Nat} (c:Bool) (lt:∀i∈R,i<100):∀x∈R.map (fun i=>D.int ((i:Nat):Int)),RpY b h c 1 60 x:=fun x hx=>by
 obtain ⟨i,hi,rfl⟩:=qaL.mp hx
 have:=lt i hi
 exact Ce (FQ (by omega) (by omega)) (by decide) (by decide)
theorem ZcQ {R:List Nat} (hz:R.length≤40) (lt:∀i∈R,i<100):TY b h (Aq R):=NT (c:=false) (by simpa using hz) NU (Uh false lt)
def CG (b n:Nat) (L:List Ak) (ds:List D) (a:Nat) (y:D) (c5:Option D):Ah:=[some (.loc b),some (AE n L),some (.tup ds),some (.int (a:Nat)),some y,c5]
noncomputable abbrev Ui:MS:=An 5 (A7 (Ab (Ad Al (Ad Al (AK (Aa 2) (AL) (AJ (Aa 3))) (Au (Ab (Aa 4) (Ac)))) (AK (Aa 2) (AJ (Ad Al (Aa 3) (mC (.int 1)))) (AL))) (Ab (Ad Al (AK (Aa 2) (AJ (Aa 3)) (AL)) (AK (Aa 2) (AL) (AJ (Aa 3)))) (Ab (DT (Aa 2)) (Ab (Ad Al (AK (Aa 2) (AL) (AJ (Aa 3))) (AK (Aa 2) (AJ (Ad Al (Aa 3) (mC (.int 1)))) (AL))) (Ac))))))
noncomputable abbrev Uj:MS:=An 5 (Ad Al (Aa 5) (A7 (Ab (Ad Al (Aa 2) (Aa 2)) (Ab (Ae (Aw Em) (Ab (Aa 2) (Ac))) (Ab (AK (Aa 2) (AL) (AJ (mC (.int 2)))) (Ab (Ad Al (Aa 2) (Au (Ab (Aa 4) (Ac)))) (Ab (mC .non) (Ab (Au (Ab (Aa 2) (Ac))) (Ab (mC .edic) (Ab (mC (.str "")) (Ac)))))))))))
noncomputable abbrev Uk:MS:=CK (DO (Aa 5) (Ad Al (Ad Al (AK (Aa 2) (AL) (AJ (Aa 3))) (Au (Ab (Ad As (Aa 2) (Aa 3)) (Ac)))) (AK (Aa 2) (AJ (Aa 3)) (AL))))
section
variable {L:List Ak} {ds:List D} {a:Nat} {y:D} {c5:Option D} {Q:Fl×Ah→HD→Prop}
theorem EB {z:Nat}:(((z:Nat):Int)+1)=((z+1:Nat):Int):=by omega
theorem ZcR (lz:ds.length≤8) (q:∀l h',l=h.length→Sm h h'→h'[l]?=some (.lst [.tup (ds.take a++[y]++ds.drop (a+1)),.tup (ds.drop a++ds.take a),.tup ds.reverse,.tup (ds.take a++ds.drop (a+1))])→Q (.nx,CG b n L ds a y (some (.loc l))) h'):Wp (Ui (CG b n L ds a y c5) h) Q:=by
 unfold Ui
 refine Eq.mpr EU ?_
 refine Eq.mpr Mb ?_
 have e1:(Ad Al (Ad Al (AK (Aa 2) (AL) (AJ (Aa 3))) (Au (Ab (Aa 4) (Ac)))) (AK (Aa 2) (AJ (Ad Al (Aa 3) (mC (.int 1)))) (AL))) (CG b n L ds a y c5) h=.ok (.tup (ds.take a++[y]++ds.drop (a+1))) h:=FR (by
  simp [CG]
  refine Aj E7 ?_
  rw [Am]
  refine Aj (Cm (by simp;omega)) ?_
  rw [Am,EB]
  refine Aj E8 ?_
  rw [Am]
  refine Aj (Cm (by simp;omega)) ?_
  exact ⟨by simp,rfl⟩)
 have e2:(Ad Al (AK (Aa 2) (AJ (Aa 3)) (AL)) (AK (Aa 2) (AL) (AJ (Aa 3)))) (CG b n L ds a y c5) h=.ok (.tup (ds.drop a++ds.take a)) h:=FR (by
  simp [CG]
  refine Aj E8 ?_
  rw [Am]
  refine Aj E7 ?_
  rw [Am]
  refine Aj (Cm (by simp;omega)) ?_
  exact ⟨rfl,rfl⟩)
 have e3:(DT (Aa 2)) (CG b n L ds a y c5) h=.ok (.tup ds.reverse) h:=rfl
 have e4:(Ad Al (AK (Aa 2) (AL) (AJ (Aa 3))) (AK (Aa 2) (AJ (Ad Al (Aa 3) (mC (.int 1)))) (AL))) (CG b n L ds a y c5) h=.ok (.tup (ds.take a++ds.drop (a+1))) h:=FR (by
  simp [CG]
  refine Aj E7 ?_
  rw [Am,EB]
  refine Aj E8 ?_
  rw [Am]
  refine Aj (Cm (by simp;omega)) ?_
  exact ⟨rfl,rfl⟩)
 refine B7 e1 <| B7 e2 <| B7 e3 <| B7 e4 ?_
 rw [FA]
 refine A0 (by simp) fun l h' s e el _=>?_
 exact q l h' el s e
theorem ZcS {l0:Nat} {X:List D} (lz:ds.length≤8) (lX:X.length=4) (e0:h[l0]?=some (.lst X)) (q:∀l h' k,h.length≤l→h.length≤k→Sm h h'→h'[k]?=some (.lst ds)→h'[l]?=some (.lst (X++[.tup (ds++ds),.loc k,.tup (ds.take 2),.tup (ds++[y]),.non,.tup [.tup ds],.edic,.str ""]))→Q (.nx,CG b n L ds a y (some (.loc l))) h'):Wp (Uj (CG b n L ds a y (some (.loc l0))) h) Q:=by
 unfold Uj
 refine Eq.mpr EU ?_
 refine Eq.mpr Ma ?_
 simp only [CG,J4,J3]
 refine Eq.mpr Mb ?_
 have e1:(Ad Al (Aa 2) (Aa 2)) [some (.loc b),some (AE n L),some (.tup ds),some (.int (a:Nat)),some y,some (.loc l0)] h=.ok (.tup (ds++ds)) h:=FR (by
  simp
  refine Aj (Cm (by omega)) ?_
  exact ⟨rfl,rfl⟩)
 have e2:(Ae (Aw Em) (Ab (Aa 2) (Ac))) [some (.loc b),some (AE n L),some (.tup ds),some (.int (a:Nat)),some y,some (.loc l0)] h=.ok (.loc h.length) (h++[.lst ds]):=FR (by
  simp
  refine Aj So ?_
  refine A0 (by unfold sizeLine;omega) fun l h' s e el eh=>⟨by rw [el],eh⟩)
 have e3:(AK (Aa 2) (AL) (AJ (mC (.int 2)))) [some (.loc b),some (AE n L),some (.tup ds),some (.int (a:Nat)),some y,some (.loc l0)] (h++[.lst ds])=.ok (.tup (ds.take 2)) (h++[.lst ds]):=FR (by
  simp
  refine Aj IQ ?_
  exact ⟨rfl,rfl⟩)
 have e4:(Ad Al (Aa 2) (Au (Ab (Aa 4) (Ac)))) [some (.loc b),some (AE n L),some (.tup ds),some (.int (a:Nat)),some y,some (.loc l0)] (h++[.lst ds])=.ok (.tup (ds++[y])) (h++[.lst ds]):=FR (by
  simp
  refine Aj (Cm (by simp;omega)) ?_
  exact ⟨rfl,rfl⟩)
 have e6:(Au (Ab (Aa 2) (Ac))) [some (.loc b),some (AE n L),some (.tup ds),some (.int (a:Nat)),some y,some (.loc l0)] (h++[.lst ds])=.ok (.tup [.tup ds]) (h++[.lst ds]):=FR (by simp)
 refine B7 e1 <| B7 e2 <| B7 e3 <| B7 e4 <| B7 rfl <| B7 e6 <| B7 rfl <| B7 rfl ?_
 rw [FA]
 have sk:Sm h (h++[.lst ds]):=.app _ _
 have ek:(h++[.lst ds])[h.length]?=some (.lst ds):=by simp
 generalize eh:h++[.lst ds]=h1 at *
 have lh:h.length<h1.length:=by rw [←eh];simp
 refine A0 (by simp) fun l2 h2 s2 e2' el2 _=>?_
 refine Aj (FG (s2 _ _ (sk _ _ e0)) e2') ?_
 refine A0 (by simp [lX];unfold sizeLine;omega) fun l3 h3 s3 e3' el3 _=>?_
 have:=s2.len
 exact q l3 h3 h.length (by omega) (Ax _) ((sk.trans s2).trans s3) (s3 _ _ (s2 _ _ ek)) e3'
theorem ZcT {l0:Nat} {X:List D} {z:D} (lz:ds.length≤8) (ha:ds[a]?=some z) (lX:X.length≤20) (e0:h[l0]?=some (.lst X)) (q:Q (.nx,CG b n L ds a y (some (.loc l0))) (h.set l0 (.lst (X++[.tup (ds.take a++[z]++ds.drop a)])))):Wp (Uk (CG b n L ds a y (some (.loc l0))) h) Q:=by
 unfold Uk
 simp [CG,Ef e0]
 refine Aj E7 ?_
 rw [Am]
 refine Aj (ix_tup ha) ?_
 rw [Am]
 try simp
 refine Aj (Cm (by simp;omega)) ?_
 rw [Am]
 refine Aj E8 ?_
 rw [Am]
 refine Aj (Cm (by simp;omega)) ?_
 rw [Am]
 refine Aj (G4 e0 (by unfold sizeLine;omega)) ?_
 rw [Am]
 exact q
end
theorem ZcU {L:List Ak} {R:List Nat} {Q:D→HD→Prop} (k:NetOk n L) (r1:1≤R.length) (r8:R.length≤8) (lt:∀i∈R,i<n) (bx:BoxAt h b) (q:∀d h',TY b h' d→BoxAt h' b→Smx b h h'→Q d h'):Wp (K1 [.loc b,AE n L,Aq R] h) Q:=by
 have k8:=k.n8
 have k1:=k.n1
 have lt':∀i∈R,i<100:=fun i hi=>by have:=lt i hi;omega
 change Wp (AS 6 (R0) [.loc b,AE n L,Aq R] h) _
 refine Eq.mpr Bd ?_
 simp [-Ag,Aq]
 refine DA bx (by omega) (by omega) fun d h1 d0 d1 x1 s1=>?_
 obtain ⟨a,rfl⟩:∃a:Nat,d=(a:Int):=⟨d.toNat,by omega⟩
 have ha:a<R.length:=by omega
 refine Eq.mpr Ag ?_
 have pl:=fun (h':HD)=>NU (R:=R) (h:=h')
 have rp:=fun (h':HD) (c:Bool)=>Uh (b:=b) (h:=h') c lt'
 have lds:(R.map fun i=>D.int ((i:Nat):Int)).length=R.length:=Bc _
 generalize R.map (fun i=>D.int ((i:Nat):Int))=ds at *
 have e0:∀h,∃z,As (.tup ds) (.int 0) h=.ok z h∧z∈ds:=fun h=>⟨ds[0],ix_tup (k:=0) (AQ (by omega)),DY _⟩
 have eL:∀h,∃z,As (.tup ds) (.int (-1)) h=.ok z h∧z∈ds:=fun h=>by
  rcases Hx ds with rfl |⟨q,e,rfl⟩
  ·simp at lds;omega
  ·refine ⟨e,?_,by simp⟩
   rw [Hz]
   have e1:BZ (q++[e]) (-1)=some e:=by
    unfold BZ Cz
    rw [if_neg (by omega),if_pos (by simp;omega)]
    simp
    rw [show (-1+((q.length:Int)+1)).toNat=q.length by omega]
    simp
   simp only [As,Bg,e1]
 simp [-Ag,Sn,IW]
 obtain ⟨z0,i0,m0⟩:=e0 h1
 refine Aj i0 ?_
 rw [Am]
 obtain ⟨zl,il,ml⟩:=eL h1
 refine Aj il ?_
 rw [Am]
 refine A0 (by simp) fun l3 h3 s3 e3 el3 _=>?_
 try simp [-Ag]
 refine A0 (by simp;unfold sizeLine;omega) fun l4 h4 s4 e4 el4 _=>?_
 have x4:BoxAt h4 b:=(x1.sm s3).sm s4
 have n3:l3≠b:=by have:=x1.lt;omega
 have n4:l4≠b:=by have:=(x1.sm s3).lt;omega
 try simp [-Ag]
 refine DA x4 (by decide) (by decide) fun o h5 o0 o1 x5 s5=>?_
 obtain ⟨o,rfl⟩:∃a:Nat,o=(a:Int):=⟨o.toNat,by omega⟩
 have e4':=s5 _ _ n4 e4
 have e3':=s5 _ _ n3 (s4 _ _ e3)
 have i100:∀{c:Bool} {i:Int},0≤i→i<100→RpY b h5 c 1 60 (.int i):=fun h1 h2=>Ce (FQ h1 h2) (by decide) (by decide)
 obtain ⟨y,ey,py,cy,sy⟩:=Np (fun y=>Plain h5 y∧∃c,RpY b h5 c 1 60 y) (o:=o) e4' (by simp;omega) <| all_cons ⟨trivial,false,i100 (by omega) (by omega)⟩ <| all_cons ⟨trivial,false,Ce (Ue (L:=3) (by decide) (by decide)) (by decide) (by decide)⟩ <|
  all_cons ⟨trivial,false,Ce Ub (by decide) (by decide)⟩ <| all_cons ⟨trivial,false,Ce Uc (by decide) (by decide)⟩ <| all_cons ⟨trivial,false,Ce (Ud (L:=5) (by decide +kernel)) (by decide) (by decide)⟩ <|
  all_cons ⟨trivial,false,Ce (FP 1 (all_cons (FQ (by decide) (by decide)) A4) (by simp)) (by decide) (by decide)⟩ <| all_cons ⟨trivial,false,Ce (Ue (L:=40) (by decide +kernel) (by decide +kernel)) (by decide) (by decide)⟩ <|
  all_cons ⟨pl _ _ m0,false,rp h5 false _ m0⟩ <| all_cons ⟨pl _ _ ml,false,rp h5 false _ ml⟩ <| all_cons ⟨trivial,false,Ce Ub (by decide) (by decide)⟩ <|
  all_cons ⟨⟨_,e3'⟩,false,Ce (Ua 1 n3 e3' (all_cons (FQ (by decide) (by decide)) A4) (by simp)) (by decide) (by decide)⟩ <| all_cons ⟨trivial,true,Ce Ug (by decide) (by decide)⟩ A4
 refine Aj ey ?_
 refine Eq.mpr (Am _ _) ?_
 refine Eq.mpr Ag ?_
 have S:Smx b h h5:=((s1.trans (BP s3)).trans (BP s4)).trans s5
 clear ey
 have lz:ds.length≤8:=by omega
 have az:ds[a]?=some ds[a]:=AQ (by omega)
 have mz:ds[a]∈ds:=DY _
 generalize ds[a]=z at az mz
 refine Eq.mpr Bb ?_
 refine ZcR (n:=n) (L:=L) lz fun l6 h6 el6 s6 e6=>?_
 refine Eq.mpr Ag ?_
 refine Eq.mpr Bb ?_
 refine ZcS lz rfl e6 fun l7 h7 k7 hl7 hk7 s7 ek7 e7=>?_
 refine Eq.mpr Ag ?_
 refine Eq.mpr Bb ?_
 refine ZcT lz az (by simp) e7 ?_
 have x7:BoxAt h7 b:=(x5.sm s6).sm s7
 have n7:l7≠b:=by have:=(x5.sm s6).lt;omega
 have nk:k7≠b:=by have:=(x5.sm s6).lt;omega
 have l7l:=(qa3.mp e7).1
 have hl:h.length≤l7:=by have:=S.len x5.lt;have:=s6.len;omega
 have kl:k7≠l7:=fun w=>by
  rw [w,e7] at ek7
  have:=congrArg List.length (Cell.lst.inj (Option.some.inj ek7))
  simp at this
  omega
 generalize eX:([D.tup (ds.take a++[y]++ds.drop (a+1)),.tup (ds.drop a++ds.take a),.tup ds.reverse,.tup (ds.take a++ds.drop (a+1))]++[.tup (ds++ds),.loc k7,.tup (ds.take 2),.tup (ds++[y]),.non,.tup [.tup ds],.edic,.str ""]++[.tup (ds.take a++[z]++ds.drop a)])=X
 have e8:(h7.set l7 (.lst X))[l7]?=some (.lst X):=BR l7l
 have x8:BoxAt (h7.set l7 (.lst X)) b:=x7.smx (a:=l7) (fun l c ne w=>by rw [Bp (Ne.symm ne)];exact w) (Ne.symm n7)
 have S8:Smx b h (h7.set l7 (.lst X)):=((S.trans (BP s6)).trans (BP s7)).put hl
 have ek8:(h7.set l7 (.lst X))[k7]?=some (.lst ds):=by rw [Bp (Ne.symm kl)];exact ek7
 have S58:Smx b h5 (h7.set l7 (.lst X)):=((BP s6).trans (BP s7)).put (by have:=s6.len;omega)
 have py8:Plain (h7.set l7 (.lst X)) y:=py.smx S58 x8
 have sy8:=sy.smx S58
 generalize h7.set l7 (.lst X)=h8 at *
 have pl8:=pl h8
 have rp8:=rp h8
 have all:∀d∈X,TY b h8 d:=by
  rw [←eX]
  have yo:∀{xs ys:List D},(∀x∈xs,x∈ds)→(∀x∈ys,x∈ds)→xs.length+ys.length≤20→TY b h8 (.tup (xs++[y]++ys)):=fun hx hy hl=>NT (c:=cy) (by simp;omega) (B6 (B6 (fun w hw=>pl8 w (hx w hw)) (all_cons py8 A4)) fun w hw=>pl8 w (hy w hw)) (B6 (B6 (fun w hw=>rp8 cy w (hx w hw)) (all_cons sy8 A4)) fun w hw=>rp8 cy w (hy w hw))
  have no:∀{xs:List D},(∀x∈xs,x∈ds)→xs.length≤40→TY b h8 (.tup xs):=fun hx hl=>NT (c:=false) hl (fun w hw=>pl8 w (hx w hw)) fun w hw=>rp8 false w (hx w hw)
  have tk:∀j,∀x∈ds.take j,x∈ds:=fun j x hx=>Fe hx
  have dp:∀j,∀x∈ds.drop j,x∈ds:=fun j x hx=>HA hx
  have id:∀x∈ds,x∈ds:=fun x hx=>hx
  refine B6 (B6 (all_cons (yo (tk a) (dp _) (by simp;omega)) <| all_cons (no (B6 (dp a) (tk a)) (by simp;omega)) <| all_cons (no (fun x hx=>qc5.mp hx) (by simp;omega)) <| all_cons (no (B6 (tk a) (dp _)) (by simp;omega)) A4) ?_) (all_cons ?_ A4)
  ·refine all_cons (no (B6 id id) (by simp;omega)) <| all_cons ?_ <| all_cons (no (tk 2) (by simp;omega)) <| all_cons ?_ <| all_cons (Le (c:=false) trivial rfl (Ce Uc (by decide) (by decide))) <| all_cons ?_ <| all_cons (Le (c:=true) trivial rfl (Ce Ug (by decide) (by decide))) <| all_cons (Le (c:=false) trivial rfl (Ce (Ud (L:=5) (by decide +kernel)) (by decide) (by decide))) A4
   ·exact Le (c:=false) ⟨_,ek8⟩ rfl (Ce (Ua 8 nk ek8 (rp8 false) (by omega)) (by decide) (by decide))
   ·have:=yo (xs:=ds) (ys:=[]) id (fun x hx=>(nomatch hx)) (by simp;omega)
    rwa [B9] at this
   ·exact ⟨⟨trivial,all_cons trivial A4⟩,by simp [A8],false,Ce (FP 1 (all_cons (FP 8 (rp8 false) lz) A4) (by simp)) (by decide) (by decide)⟩
  ·exact no (B6 (B6 (tk a) (all_cons mz A4)) (dp a)) (by simp;omega)
 have lX:X.length=13:=by rw [←eX];simp
 refine Eq.mpr Ag ?_
 simp [CG]
 refine DA x8 (by decide) (by decide) fun o h9 o0 o1 x9 s9=>?_
 obtain ⟨o,rfl⟩:∃a:Nat,o=(a:Int):=⟨o.toNat,by omega⟩
 obtain ⟨w,ew,hw⟩:=Np (fun d=>TY b h8 d) (o:=o) (s9 _ _ n7 e8) (by omega) all
 refine Aj ew ?_
 rw [Am]
 exact q w h9 (hw.smx s9 x9) x9 (S8.trans s9)
end
@[irreducible] noncomputable def IY:MS:=An 2 (Ae KW (Ab (Aa 0) (Ab (Aa 1) (Ac))))
@[irreducible] noncomputable def IZ:MS:=An 3 (Ae K3 (Ab (Aa 2) (Ac)))
@[irreducible] noncomputable def I0:MS:=An 4 (Ae Eu (Ab (Aa 3) (Ac)))
@[irreducible] noncomputable def Ja:MS:=AR (Bq (Ae KZ (Ab (Aa 3) (Ac)))) (AR (AM (Ad Eb (Aa 4) (mC .non))) (AD (mC (.bl false))) (AV)) (AR (BA (BF (Bq (Ae Hj (Ab (Aa 3) (Ab (Aa 4) (Ac)))))) (BA (AM (Ad Br (Ae Eu (Ab (Aa 3) (Ac))) (Aa 4))) (AM (Ad Eb (Ae Es (Ab (Aa 3) (Ab (Aa 4) (Ac)))) (mC (.bl true)))))) (AD (mC (.bl false))) (AV))
@[irreducible] noncomputable def Jb:MS:=An 5 (Ae Hk (Ab (Aa 2) (Ac)))
@[irreducible] noncomputable def Jc:MS:=An 6 (AY [none,some 5,some 3] (CL (Ab (mC (.int 3)) (Ac))) (A9 0) (Bw) (Ae K0 (Ab (Aa 1) (Ab (Aa 2) (Ac)))))
@[irreducible] noncomputable def Jd:MS:=AR (AM (Ad Eb (Aa 4) (mC .non))) (An 6 (Ad Al (Aa 6) (A7 (Ab (Aa 4) (Ab (Ad Al (AK (Aa 4) (AJ (mC (.int 1))) (AL)) (AK (Aa 4) (AL) (AJ (mC (.int 1))))) (Ab (DT (Aa 4)) (Ac))))))) (AV)
@[irreducible] noncomputable def Je:MS:=An 7 (Ad Al (Aa 6) (AY [none,some 5,some 3] (BG (Aa 6)) (A9 0) (Bw) (Ae K1 (Ab (Aa 1) (Ab (Aa 2) (Ab (Aa 0) (Ac)))))))
@[irreducible] noncomputable def Jf:MS:=BV (BG (Aa 7)) (A9 8) (Ai (Ga 9 10 (Ab (Ae Hj (Ab (Aa 3) (Ab (Aa 8) (Ac)))) (Ab (Ae (Aw CN) (Ab (Au (Ab (Aa 3) (Ab (Aa 8) (Ac)))) (Ac))) (Ac)))) (AR (BA (AM (Ad Br (Ae (Aw CN) (Ab (Ae Es (Ab (Aa 3) (Ab (Aa 8) (Ac)))) (Ac))) (Ae (Aw CN) (Ab (Aa 9) (Ac))))) (AM (Ad Br (Ae (Aw CN) (Ab (Au (Ab (Aa 3) (Ab (Aa 8) (Ac)))) (Ac))) (Aa 10)))) (AD (mC (.bl false))) (AV)))
@[irreducible] noncomputable def Jg:MS:=An 11 (Ae KY (Ab (Aa 2) (Ab (Aa 3) (Ac))))
@[irreducible] noncomputable def Jh:MS:=An 9 (Ad As (A7 (Ab (mC (.str "! net")) (Ab (mC (.str "told")) (Ac)))) (Ae (Aw Fv) (Ab (Ae Gv (Ab (Aa 11) (Ac))) (Ac))))
@[irreducible] noncomputable def Ji:MS:=AR (AM (Ad Br (DS [11] FJ (Ae Eu (Ab (Aa 0) (Ac)))) (Aa 9))) (AD (mC (.bl false))) (AV)
@[irreducible] noncomputable def Jj:MS:=AR (AM (Ad Br (DS [11] FJ (Ae Es (Ab (Aa 0) (Ab (mC .non) (Ac))))) (Aa 9))) (AD (mC (.bl false))) (AV)
def A2 (ns:List Int) (k b n:Nat) (L:List Ak) (c4 c5 c6 c7 c8 c9 c10 c11:Option D):Ah:=[some (.scr ns),some (.int (k:Nat)),some (.loc b),some (AE n L),c4,c5,c6,c7,c8,c9,c10,c11]
inductive Ht (n:Nat) (L:List Ak) (d:D):Prop where
 |no (q:EA L) (e:d=.non):Ht n L d
 |yes (q:¬EA L) (r:Ring n L (FN n L)) (e:d=Aq (FN n L)):Ht n L d
def PL (n:Nat) (d:D):Prop:=∃R,d=Aq R∧1≤R.length∧R.length≤8∧∀i∈R,i<n
section
variable {ns:List Int} {k b n:Nat} {L:List Ak} {h:HD} {c2 c3 c4 c5 c6 c7 c8 c9 c10 c11:Option D} {Q:Fl×Ah→HD→Prop}
theorem st0 (hb:∀i∈ns,Builtin.Int.intBits i≤2^20) (hk:k≤1000) (ht:TabAt h) (q:∀b h',0<b→BoxAt h' b→TabAt h'→Q (.nx,[some (.scr ns),some (.int (k:Nat)),some (.loc b),c3,c4,c5,c6,c7,c8,c9,c10,c11]) h'):Wp (IY [some (.scr ns),some (.int (k:Nat)),c2,c3,c4,c5,c6,c7,c8,c9,c10,c11] h) Q:=by
 unfold IY
 simp
 refine Zbm hb hk fun b h1 x1 lb s1=>q b h1 (by have:=ht.pos;omega) x1 (ht.sm s1)
theorem NV (hb:0<b) (bx:BoxAt h b) (ht:TabAt h) (q:∀n L h',NetOk n L→BoxAt h' b→TabAt h'→Q (.nx,A2 ns k b n L c4 c5 c6 c7 c8 c9 c10 c11) h'):Wp (IZ [some (.scr ns),some (.int (k:Nat)),some (.loc b),c3,c4,c5,c6,c7,c8,c9,c10,c11] h) Q:=by
 unfold IZ
 simp
 exact ZbN bx hb ht fun n L h1 ko x1 t1 s1=>q n L h1 ko x1 t1
theorem NW {Q:D→HD→Prop} (ko:NetOk n L) (q:∀d h',Sm h h'→Ht n L d→Q d h'):Wp (Eu [AE n L] h) Q:=
 Zci ko (fun R h' s r nq e=>q _ h' s (.yes nq (e ▸ r) (by rw [e]))) fun h' s qu=>q _ h' s (.no qu rfl)
theorem Dm (ko:NetOk n L) (q:∀d h',Sm h h'→Ht n L d→Q (.nx,A2 ns k b n L (some d) c5 c6 c7 c8 c9 c10 c11) h'):Wp (I0 (A2 ns k b n L c4 c5 c6 c7 c8 c9 c10 c11) h) Q:=by
 unfold I0
 simp [A2]
 exact NW ko q
theorem Ul {R:List Nat} (ko:NetOk n L) (r:Ring n L R):R.length≤8:=by
 have:=Hn r.nd r.lt
 have:=ko.n8
 omega
open Classical in
theorem Um {R:List Nat} (r:Ring n L R):Dl n L (Aq R)=true:=by
 unfold Aq
 rw [GC]
 have e1:(R.map fun i=>D.int ((i:Nat):Int)).map Dk=R:=by
  rw [Cy]
  conv=>rhs;rw [←List.map_id R]
  exact ED fun x _=>by simp [Dk]
 have e2:(R.map fun i=>D.int ((i:Nat):Int)).all (BQ 0 ((n:Int) - 1))=true:=by
  rw [qaO]
  intro x hx
  obtain ⟨i,hi,rfl⟩:=qaL.mp hx
  have:=r.lt i hi
  show (decide (0≤((i:Nat):Int))&&decide (((i:Nat):Int)≤(n:Int) - 1))=true
  rw [decide_eq_true (by omega),decide_eq_true (by omega)]
  rfl
 rw [e1,e2,decide_eq_true r,Bc,decide_eq_true r.len]
 rfl
theorem Uo {R:List Nat}:Plain2 h (Aq R):=⟨trivial,NU⟩
theorem ZcV {R:List Nat}:Br (Aq R) (Aq R) h=.ok (.bl false) h:=by
 have p:Py (Aq R) (.tuple (R.map fun i=>.int ((i:Nat):Int))):=(Po (n:=0) (e:=fun i:Nat=>D.int ((i:Nat):Int)) (g:=fun i=>PyData.int ((i:Nat):Int)) fun _ _=>Pn).py (by decide)
 exact Yl p
open Classical in
theorem Hu {d:D} (ko:NetOk n L) (rd:Ht n L d) (q:∀h',Sm h h'→Q (.nx,A2 ns k b n L (some d) c5 c6 c7 c8 c9 c10 c11) h'):Wp (Ja (A2 ns k b n L (some d) c5 c6 c7 c8 c9 c10 c11) h) Q:=by
 unfold Ja
 simp [A2]
 refine ZcD ko fun h1 s1=>?_
 cases rd with
 |no qu e=>
  subst e
  rw [decide_eq_true qu]
  simp
  exact q h1 s1
 |yes nq r e=>
  subst e
  rw [decide_eq_false nq]
  simp
  have lz:(A8 (Aq (FN n L))).length≤500:=by
   show ((FN n L).map fun i=>D.int ((i:Nat):Int)).length≤500
   rw [Bc]
   have:=Ul ko r
   omega
  refine (TN ko Uo lz).wp fun h2 s2=>?_
  rw [Um r]
  simp
  refine NW ko fun d h3 s3 rd=>?_
  cases rd with
  |no qu e=>exact absurd qu nq
  |yes _ _ e=>
   subst e
   refine Aj ZcV ?_
   simp
   refine (NP ko Uo lz).wp fun h4 s4=>?_
   rw [Um r]
   simp
   exact q h4 (((s1.trans s2).trans s3).trans s4)
theorem st4 (hb:0<b) (bx:BoxAt h b) (ht:TabAt h) (q:∀l h',l≠b→0<l→BoxAt h' b→BoxAt h' l→TabAt h'→Q (.nx,A2 ns k b n L c4 (some (.loc l)) c6 c7 c8 c9 c10 c11) h'):Wp (Jb (A2 ns k b n L c4 c5 c6 c7 c8 c9 c10 c11) h) Q:=by
 unfold Jb
 simp [A2]
 exact Sr bx fun l h1 x1 y1 nb hl s1=>q l h1 nb (by have:=ht.pos;omega) x1 y1 (ht.smx s1 hb)
structure Bxs (b l:Nat) (h:HD):Prop where
 nb:l≠b
 pb:0<b
 pl:0<l
 xb:BoxAt h b
 xl:BoxAt h l
 tb:TabAt h
theorem Bxs.sm {l:Nat} {h h':HD} (x:Bxs b l h) (s:Sm h h'):Bxs b l h':=⟨x.nb,x.pb,x.pl,x.xb.sm s,x.xl.sm s,x.tb.sm s⟩
theorem Bxs.smx {l:Nat} {h h':HD} (x:Bxs b l h) (s:Smx l h h') (y:BoxAt h' l):Bxs b l h':=⟨x.nb,x.pb,x.pl,x.xb.smx s (Ne.symm x.nb),y,x.tb.smx s x.pl⟩
theorem FS {l:Nat} (ko:NetOk n L) (bx:Bxs b l h) (q:∀l6 ds h',Bxs b l h'→l6≠l→h'[l6]?=some (.lst ds)→ds.length=3→(∀d∈ds,PL n d)→Q (.nx,A2 ns k b n L c4 (some (.loc l)) (some (.loc l6)) c7 c8 c9 c10 c11) h'):Wp (Jc (A2 ns k b n L c4 (some (.loc l)) c6 c7 c8 c9 c10 c11) h) Q:=by
 unfold Jc
 refine Eq.mpr EU ?_
 refine T3 (xs:=(List.range 3).map fun i=>.int ((i:Nat):Int)) (src:=[]) (fun acc h'=>Bxs b l h'∧∀d∈acc,PL n d) ?_ (fun _ _ _=>BN) (by simp) ?_ ?_
 ·simp [A2,show Gc [.int 3] h=.ok ((List.range 3).map fun k=>D.int ((k:Nat):Int),[]) h from EV (n:=3) (by decide)]
  exact bx
 ·rintro x _ acc h1 ⟨x1,p1⟩
  refine ⟨[some x,some (.loc l),some (AE n L)],rfl,?_⟩
  simp
  refine ZcL ko x1.xl fun R h2 r1 r8 lt y2 s2=>?_
  exact ⟨x1.smx s2 y2,fun d hd=>by
   rcases hd with w |rfl
   ·exact p1 d w
   ·exact ⟨R,rfl,r1,r8,lt⟩⟩
 ·rintro ys h2 ⟨x2,p2⟩ ly
  exact q h2.length ys _ (x2.sm (.app _ _)) (by have:=x2.xl.lt;omega) (by simp) (by simpa using ly) p2
theorem NX {R:List Nat} (r1:1≤R.length) (r8:R.length≤8) (lt:∀i∈R,i<n):PL n (Aq R):=⟨R,rfl,r1,r8,lt⟩
theorem st6 {l l6:Nat} {ds:List D} {d:D} (ko:NetOk n L) (rd:Ht n L d) (bx:Bxs b l h) (n6:l6≠l) (e6:h[l6]?=some (.lst ds)) (ld:ds.length=3) (pd:∀d∈ds,PL n d) (q:∀l6 ds h',Bxs b l h'→l6≠l→h'[l6]?=some (.lst ds)→ds.length≤6→(∀d∈ds,PL n d)→Q (.nx,A2 ns k b n L (some d) (some (.loc l)) (some (.loc l6)) c7 c8 c9 c10 c11) h'):Wp (Jd (A2 ns k b n L (some d) (some (.loc l)) (some (.loc l6)) c7 c8 c9 c10 c11) h) Q:=by
 unfold Jd
 cases rd with
 |no qu e=>
  subst e
  simp [A2]
  exact q l6 ds h bx n6 e6 (by omega) pd
 |yes nq r e=>
  have r8:=Ul ko r
  have r3:=r.len
  have rlt:=r.lt
  generalize FN n L=R at *
  subst e
  have nn:∀h,Eb (Aq R) .non h=.ok (.bl true) h:=fun h=>rfl
  simp [A2,nn]
  refine Aj (NM (k:=1)) ?_
  rw [Am]
  refine Aj Tt ?_
  rw [Am]
  refine Aj (NO (by simp;omega)) ?_
  rw [Am,Ny]
  simp
  refine Aj Tn ?_
  rw [Am]
  refine A0 (by simp) fun l7 h7 s7 e7 _ _=>?_
  refine Aj (FG (s7 _ _ e6) e7) ?_
  refine A0 (by rw [CY,ld];simp) fun l8 h8 s8 e8 el8 _=>?_
  refine q l8 _ h8 (bx.sm (s7.trans s8)) (by have:=(bx.sm s7).xl.lt;omega) e8 (by simp [ld]) (B6 pd (all_cons (NX (by omega) r8 rlt) (all_cons (NX (by simp;omega) (by simp;omega) ?_) (all_cons (NX (by simp;omega) (by simp;omega) ?_) A4))))
  ·intro i hi
   rcases qaG.mp hi with w |w
   ·exact rlt i (List.mem_of_mem_tail (by simpa using w))
   ·exact rlt i (Fe w)
  ·intro i hi
   exact rlt i (qc5.mp hi)
theorem Jk {l l6:Nat} {ds:List D} (ko:NetOk n L) (bx:Bxs b l h) (n6:l6≠l) (e6:h[l6]?=some (.lst ds)) (ld:ds.length≤6) (pd:∀d∈ds,PL n d) (q:∀l7 zs h',Bxs b l h'→h'[l7]?=some (.lst zs)→(∀d∈zs,TY l h' d)→Q (.nx,A2 ns k b n L c4 (some (.loc l)) (some (.loc l6)) (some (.loc l7)) c8 c9 c10 c11) h'):Wp (Je (A2 ns k b n L c4 (some (.loc l)) (some (.loc l6)) c7 c8 c9 c10 c11) h) Q:=by
 unfold Je
 refine Eq.mpr EU ?_
 refine Eq.mpr Ma ?_
 simp only [A2,J4,J3]
 refine T3 (xs:=ds) (src:=[(l6,ds)]) (fun acc h'=>Bxs b l h'∧h'[l6]?=some (.lst ds)∧∀d∈acc,TY l h' d) ?_ (fun _ _ z=>GX z.2.1) (by unfold sizeLine;omega) ?_ ?_
 ·simp
  refine Aj (G9 e6) ?_
  rw [Am]
  exact ⟨rfl,bx,e6⟩
 ·rintro x hx acc h1 ⟨x1,e1,p1⟩
  obtain ⟨R,rfl,r1,r8,lt⟩:=pd x hx
  refine ⟨[some (Aq R),some (.loc l),some (AE n L)],rfl,?_⟩
  simp
  refine ZcU ko r1 r8 lt x1.xl fun d h2 ty y2 s2=>?_
  exact ⟨x1.smx s2 y2,s2 _ _ n6 e1,fun z hz=>by
   rcases hz with w |rfl
   ·exact (p1 z w).smx s2 y2
   ·exact ty⟩
 ·rintro ys h2 ⟨x2,e2,p2⟩ ly
  have s3:Sm h2 (h2++[.lst ys]):=.app _ _
  have e3:(h2++[.lst ys])[h2.length]?=some (.lst ys):=by simp
  generalize h2++[.lst ys]=h3 at *
  refine Aj (FG (s3 _ _ e2) e3) ?_
  refine A0 (by simp;unfold sizeLine;omega) fun l4 h4 s4 e4 el4 _=>?_
  have s24:=s3.trans s4
  have x4:=x2.sm s24
  refine q l4 _ h4 x4 e4 (B6 (fun d hd=>?_) fun d hd=>(p2 d hd).smx (BP s24) x4.xl)
  obtain ⟨R,rfl,r1,r8,lt⟩:=pd d hd
  exact ZcQ (by omega) fun i hi=>by have:=lt i hi;have:=ko.n8;omega
theorem ZcW {c:Bool} (ko:NetOk n L):RpY b h c 3 20000 (AE n L):=by
 have kl:=ko.le
 have k8:=ko.n8
 have ht:∀d∈L.map AA,RpY b h c 1 18 d:=fun d hd=>by
  obtain ⟨t,ht,rfl⟩:=qaL.mp hd
  have:=ko.ok t ht
  exact FP 3 (all_cons (FQ (by omega) (by omega)) (all_cons (FQ (by omega) (by omega)) (all_cons ZcP A4))) (by simp)
 exact Ce (FP 2 (all_cons (Ce (L':=3000) (FQ (by omega) (by omega)) (Bu 2) (by decide)) (all_cons (Ce (FP 100 ht (by rw [Bc];exact kl)) (Ax 2) (by decide)) A4)) (by simp)) (by decide) (by decide)
theorem ZcX {d:D} (ko:NetOk n L) (ty:TY b h d):∃t:Str,∀h',Smx b h h'→CN (.tup [AE n L,d]) h'=.ok (.str t) h':=by
 obtain ⟨c,r⟩:=ty.2.2
 exact ZcO (FP 2 (all_cons (ZcW ko) (all_cons r A4)) (by simp)) (by decide) (by unfold sizeLine;decide)
theorem ZcY {v:Bool}:∃t:Str,∀h:HD,CN (.bl v) h=.ok (.str t) h:=by cases v<;>exact ⟨_,fun h=>rfl⟩
inductive L8 (ns:List Int) (k b n l l7:Nat) (L:List Ak) (c4 c6 c11:Option D) (zs:List D) (xs:List D) (ρ:Ah) (h':HD):Prop where
 |mk (c8 c9 c10:Option D) (er:ρ=A2 ns k b n L c4 (some (.loc l)) c6 (some (.loc l7)) c8 c9 c10 c11) (bx:Bxs b l h') (e:h'[l7]?=some (.lst zs)) (ty:∀d∈xs,TY l h' d):L8 ns k b n l l7 L c4 c6 c11 zs xs ρ h'
theorem st8 {l l7:Nat} {zs:List D} (ko:NetOk n L) (bx:Bxs b l h) (e7:h[l7]?=some (.lst zs)) (ty:∀d∈zs,TY l h d) (q:∀c8 c9 c10 h',Bxs b l h'→Q (.nx,A2 ns k b n L c4 (some (.loc l)) c6 (some (.loc l7)) c8 c9 c10 c11) h'):Wp (Jf (A2 ns k b n L c4 (some (.loc l)) c6 (some (.loc l7)) c8 c9 c10 c11) h) Q:=by
 unfold Jf
 refine Ct (src:=[(l7,zs.map fun x=>x)]) (xs:=zs) (fun x=>x) (L8 ns k b n l l7 L c4 c6 c11 zs) ?_ (fun ys ρ h' z=>?_) ?_ ?_
 ·simp [A2]
  rw [G9 e7]
  exact ⟨rfl,_,_,_,rfl,bx,e7,ty⟩
 ·obtain ⟨_,_,_,_,_,e,_⟩:=z
  rw [List.map_id']
  exact GX e
 ·rintro d xs ρ h1 ⟨d8,d9,d10,rfl,x1,e1,ty1⟩
  refine ⟨_,rfl,?_⟩
  have tyd:=ty1 d AZ
  simp [-Ag,A2]
  refine (TN ko tyd.1 tyd.2.1).wp fun h2 s2=>?_
  obtain ⟨t,rt⟩:=ZcX ko tyd
  refine Aj (rt h2 (BP s2)) ?_
  rw [Am]
  try simp [-Ag]
  refine Eq.mpr Ag ?_
  simp
  refine (NP ko (tyd.1.sm s2) tyd.2.1).wp fun h3 s3=>?_
  obtain ⟨u,ru⟩:=ZcY (v:=Dl n L d)
  refine Aj (ru h3) ?_
  rw [Am]
  refine Aj (ru h3) ?_
  rw [Am]
  simp
  have s13:=s2.trans s3
  refine Aj (rt h3 (BP s13)) ?_
  rw [Am]
  simp [Bh]
  exact ⟨_,_,_,rfl,x1.sm s13,s13 _ _ e1,fun z hz=>(ty1 z (A6 _ hz)).smx (BP s13) (x1.sm s13).xl⟩
 ·rintro ρ h1 ⟨d8,d9,d10,rfl,x1,e1,ty1⟩
  exact q _ _ _ h1 x1
def tw (d:D):Str:=if Cn d then "told" else "! net"
theorem st9 (ko:NetOk n L) (hb:0<b) (bx:BoxAt h b) (ht:TabAt h) (q:∀d h',ThN b h' d→BoxAt h' b→TabAt h'→Q (.nx,A2 ns k b n L c4 c5 c6 c7 c8 c9 c10 (some d)) h'):Wp (Jg (A2 ns k b n L c4 c5 c6 c7 c8 c9 c10 c11) h) Q:=by
 unfold Jg
 simp [A2]
 exact ZbQ bx hb ht ko fun d h2 th x2 t2 s2=>q d h2 th x2 t2
theorem ZcZ {d:D} (th:ThN b h d) (q:∀h',Sm h h'→Q (.nx,A2 ns k b n L c4 c5 c6 c7 c8 (some (.str (tw d))) c10 (some d)) h'):Wp (Jh (A2 ns k b n L c4 c5 c6 c7 c8 c9 c10 (some d)) h) Q:=by
 unfold Jh
 simp [A2]
 refine A0 (by simp) fun l h2 s2 e2 _ _=>?_
 refine (Nw (th.1.sm s2) th.2.1).wp fun h3 s3=>?_
 simp
 have hi:As (.loc l) (.int (if Cn d=true then 1 else 0)) h3=.ok (.str (tw d)) h3:=by
  have:=EX (s3 _ _ e2) (k:=if Cn d then 1 else 0) (a:=.str (tw d)) (by unfold tw;cases Cn d<;>rfl)
  rw [←this]
  cases Cn d<;>rfl
 refine Aj hi ?_
 rw [Am]
 exact q h3 (s2.trans s3)
theorem Zc0 {d:D} (ht:TabAt h) (th:ThN b h d) (q:∀h',Sm h h'→Q (.nx,A2 ns k b n L c4 c5 c6 c7 c8 (some (.str (tw d))) c10 (some d)) h'):Wp (Ji (A2 ns k b n L c4 c5 c6 c7 c8 (some (.str (tw d))) c10 (some d)) h) Q:=by
 unfold Ji
 have key:∀h',Sm h h'→Wp (Br (.str (tw d)) (.str (tw d)) h') (fun x h1=>Wp (F4 x h1) fun b_1 h1=>Wp (if b_1=true then AD (mC (D.bl false)) (A2 ns k b n L c4 c5 c6 c7 c8 (some (.str (tw d))) c10 (some d)) h1 else AV (A2 ns k b n L c4 c5 c6 c7 c8 (some (.str (tw d))) c10 (some d)) h1) Q):=fun h' s=>by
  simp
  exact q h' s
 simp [A2]
 cases hb:Cn d with
 |true=>
  obtain ⟨n',L',rfl,k'⟩:=TV hb
  refine MM (ds:=[AE n' L']) ht rfl ?_
  simp
  refine Wp.we (NW k' fun d h1 s1 _=>?_)
  have:=key h1 s1
  unfold tw at this
  rw [hb] at this
  have e:tw (AE n' L')="told":=by unfold tw;rw [hb];rfl
  rw [e]
  exact this
 |false=>
  refine Ss (ds:=[d]) ht rfl ?_ fun h1 s1=>?_
  ·unfold Er
   simp
   exact ZcE th.1 th.2.1 hb
  ·have:=key h1 s1
   have e:tw d="! net":=by unfold tw;rw [hb];rfl
   rw [e] at this ⊢
   exact this
theorem Zc1 {d:D} (ht:TabAt h) (th:ThN b h d) (q:∀h',Sm h h'→Q (.nx,A2 ns k b n L c4 c5 c6 c7 c8 (some (.str (tw d))) c10 (some d)) h'):Wp (Jj (A2 ns k b n L c4 c5 c6 c7 c8 (some (.str (tw d))) c10 (some d)) h) Q:=by
 unfold Jj
 have key:∀h',Sm h h'→Wp (Br (.str (tw d)) (.str (tw d)) h') (fun x h1=>Wp (F4 x h1) fun b_1 h1=>Wp (if b_1=true then AD (mC (D.bl false)) (A2 ns k b n L c4 c5 c6 c7 c8 (some (.str (tw d))) c10 (some d)) h1 else AV (A2 ns k b n L c4 c5 c6 c7 c8 (some (.str (tw d))) c10 (some d)) h1) Q):=fun h' s=>by
  simp
  exact q h' s
 simp [A2]
 cases hb:Cn d with
 |true=>
  obtain ⟨n',L',rfl,k'⟩:=TV hb
  refine MM (ds:=[AE n' L']) ht rfl ?_
  simp
  refine (NP k' (d:=.non) (FL trivial rfl) (by simp [A8])).we fun h1 s1=>?_
  have:=key h1 s1
  have e:tw (AE n' L')="told":=by unfold tw;rw [hb];rfl
  rw [e] at this ⊢
  exact this
 |false=>
  refine Ss (ds:=[d]) ht rfl ?_ fun h1 s1=>?_
  ·unfold Er
   simp
   exact ZcF th.1 th.2.1 hb
  ·have:=key h1 s1
   have e:tw d="! net":=by unfold tw;rw [hb];rfl
   rw [e] at this ⊢
   exact this
theorem Zc2 {a2 a3 a4 a5 a6 a7 a8 a9 a10 a11:Option D} (hb:∀i∈ns,Builtin.Int.intBits i≤2^20) (hk:k≤1000) (ht:TabAt h)
 (q:∀(b2 b3 b4 b5 b6 b7 b8 b9 b10 b11:Option D) h',TabAt h'→Q (.nx,[some (.scr ns),some (.int (k:Nat)),b2,b3,b4,b5,b6,b7,b8,b9,b10,b11]) h'):
 Wp (Ai IY (Ai IZ (Ai I0 (Ai Ja (Ai Jb (Ai Jc (Ai Jd (Ai Je (Ai Jf (Ai Jg (Ai Jh (Ai Ji Jj))))))))))) [some (.scr ns),some (.int (k:Nat)),a2,a3,a4,a5,a6,a7,a8,a9,a10,a11] h) Q:=by
 rw [Bb]
 refine st0 hb hk ht fun b h1 hb0 x1 t1=>?_
 rw [Ag,Bb]
 refine NV hb0 x1 t1 fun n L h2 ko x2 t2=>?_
 rw [Ag,Bb]
 refine Dm ko fun d h3 s3 rd=>?_
 rw [Ag,Bb]
 refine Hu ko rd fun h4 s4=>?_
 have s34:=s3.trans s4
 rw [Ag,Bb]
 refine st4 hb0 (x2.sm s34) (t2.sm s34) fun l h5 nb pl x5 y5 t5=>?_
 rw [Ag,Bb]
 refine FS ko ⟨nb,hb0,pl,x5,y5,t5⟩ fun l6 ds h6 b6 n6 e6 ld pd=>?_
 rw [Ag,Bb]
 refine st6 ko rd b6 n6 e6 ld pd fun l7 ds h7 b7 n7 e7 ld pd=>?_
 rw [Ag,Bb]
 refine Jk ko b7 n7 e7 ld pd fun l8 zs h8 b8 e8 ty=>?_
 rw [Ag,Bb]
 refine st8 ko b8 e8 ty fun c8 c9 c10 h9 b9=>?_
 rw [Ag,Bb]
 refine st9 ko hb0 b9.xb b9.tb fun d h10 th x10 t10=>?_
 rw [Ag,Bb]
 refine ZcZ th fun h11 s11=>?_
 have x11:=x10.sm s11
 have th11:=th.smx (BP s11) x11
 rw [Ag,Bb]
 refine Zc0 (t10.sm s11) th11 fun h12 s12=>?_
 rw [Ag]
 exact Zc1 ((t10.sm s11).sm s12) (th11.smx (BP s12) (x11.sm s12)) fun h13 s13=>q _ _ _ _ _ _ _ _ _ _ h13 (((t10.sm s11).sm s12).sm s13)
end
def IL (ns:List Int) (xs:List Nat) (ρ:Ah) (h':HD):Prop:=∃d1 d2 d3 d4 d5 d6 d7 d8 d9 d10 d11,ρ=[some (.scr ns),d1,d2,d3,d4,d5,d6,d7,d8,d9,d10,d11]∧TabAt h'∧∀k∈xs,k≤1000
theorem Zc3:Nk=Ai (BV (CL (Ab (Ae (A3 Ft) (Ab (mC (.int 1)) (Ab (Ae (A3 Fu) (Ab (Ae (Aw B5) (Ab (Aa 0) (Ac))) (Ab (mC (.int 4)) (Ac)))) (Ac)))) (Ac))) (A9 1) (Ai IY (Ai IZ (Ai I0 (Ai Ja (Ai Jb (Ai Jc (Ai Jd (Ai Je (Ai Jf (Ai Jg (Ai Jh (Ai Ji (Jj)))))))))))))) (AD (mC (.bl true))):=by
 unfold IY IZ I0 Ja Jb Jc Jd Je Jf Jg Jh Ji Jj
 rfl
theorem law_true (ns:List Int) (hl:ns.length≤63) (hb:∀i∈ns,Builtin.Int.intBits i≤2^20):∃h',F_law [.scr ns] [.tab]=.ok (.bl true) h':=by
 have main:Wp (F_law [.scr ns] [.tab]) fun d _=>d=.bl true:=by
  change Wp (AS 12 (Nk) [.scr ns] [.tab]) _
  rw [Zc3,Bd,Bb]
  obtain ⟨n,en,hn⟩:∃n:Nat,(if (if (4:Int)<(ns.length:Int) then (4:Int) else (ns.length:Int))>1 then (if (4:Int)<(ns.length:Int) then (4:Int) else (ns.length:Int)) else 1)=(n:Int)∧n≤99:=by
   have h0:0≤(if (if (4:Int)<(ns.length:Int) then (4:Int) else (ns.length:Int))>1 then (if (4:Int)<(ns.length:Int) then (4:Int) else (ns.length:Int)) else 1)∧(if (if (4:Int)<(ns.length:Int) then (4:Int) else (ns.length:Int))>1 then (if (4:Int)<(ns.length:Int) then (4:Int) else (ns.length:Int)) else 1)≤99:=by
    constructor<;>(split<;>split<;>omega)
   generalize (if (if (4:Int)<(ns.length:Int) then (4:Int) else (ns.length:Int))>1 then (if (4:Int)<(ns.length:Int) then (4:Int) else (ns.length:Int)) else 1)=E at h0
   exact ⟨E.toNat,by omega,by omega⟩
  refine Ct (src:=[]) (xs:=List.range n) (fun i=>.int ((i:Nat):Int)) (IL ns) ?_ (fun ys ρ h' _=>BN) ?_ ?_
  ·simp
   rw [en,EV (by omega)]
   exact ⟨rfl,_,_,_,_,_,_,_,_,_,_,_,rfl,rfl,fun k hk=>by have:=qbR.mp hk;omega⟩
  ·rintro x xs ρ h' ⟨d1,d2,d3,d4,d5,d6,d7,d8,d9,d10,d11,rfl,t,hx⟩
   refine ⟨_,rfl,?_⟩
   exact Zc2 hb (hx x AZ) t fun _ _ _ _ _ _ _ _ _ _ h2 t2=>
    ⟨_,_,_,_,_,_,_,_,_,_,_,rfl,t2,fun k hk=>hx k (A6 _ hk)⟩
  ·rintro ρ h' ⟨d1,d2,d3,d4,d5,d6,d7,d8,d9,d10,d11,rfl,t,hx⟩
   simp
 obtain ⟨a,h',e,rfl⟩:=Wp.ex main
 exact ⟨h',e⟩
end LK
set_option maxHeartbeats 0
namespace LK
open PySem PySem.Spec PyProof.Rows L2 LS
theorem Zc4:MH Nf:=⟨⟨rfl,rfl,rfl,by decide +kernel,rfl,by decide +kernel,by decide +kernel⟩,rfl,rfl,rfl,rfl,rfl,⟨_,_,_,_,_,_,_,_,_,_,_,_,_,_,_,_,_,rfl⟩⟩
section
set_option hygiene false
local macro_rules |`(tactic|infer_instance)=>`(tactic|first |((with_reducible show PE _ (.Name _ _) _);first |exact Zbi |exact WM rfl (by show mg _=_;with_reducible assumption) |exact XX rfl (B _ (by decide +kernel)) (by decide +kernel) |exact ZV et (by decide +kernel)) |((with_reducible show PE _ (.Constant _ _ _) _);first |exact WJ |exact WK |exact WL |exact OB) |((with_reducible show PE _ (.Tuple _ _ _) _);((with_reducible refine WX ?_);ac_rfl)) |((with_reducible show PE _ (.List _ _) _);((with_reducible refine WY ?_);ac_rfl)) |((with_reducible show PE _ (.BinOp _ .Add _ _) _);(refine GV W2 ?_ ?_<;>ac_rfl)) |((with_reducible show PE _ (.BinOp _ .Sub _ _) _);(refine GV W3 ?_ ?_<;>ac_rfl)) |((with_reducible show PE _ (.BinOp _ .Mod _ _) _);(refine GV W4 ?_ ?_<;>ac_rfl)) |((with_reducible show PE _ (.BinOp _ .Mult _ _) _);(refine GV ZR ?_ ?_<;>ac_rfl)) |((with_reducible show PE _ (.BinOp _ .Pow _ _) _);(refine GV W5 ?_ ?_<;>ac_rfl)) |((with_reducible show PE _ (.BinOp _ .FloorDiv _ _) _);(refine GV Xj ?_ ?_<;>ac_rfl)) |((with_reducible show PE _ (.Subscript _ (.Slice _ _ _ _) _) _);first |(refine Zaa ?_ ?_ ?_<;>ac_rfl) |(refine Zan ?_;ac_rfl)) |((with_reducible show PE _ (.Subscript _ _ _) _);first |(refine Xe ?_ ?_ fun _ _=>rfl<;>ac_rfl) |(refine Za4 hr.units ?_ ?_ fun _ _=>rfl<;>ac_rfl)) |((with_reducible show PE _ (.Call (.Attribute _ "append" _) _ _ _) _);(refine X4 ?_ ?_<;>ac_rfl)) |((with_reducible show PE _ (.Call (.Attribute _ "pop" _) _ _ _) _);(refine Za5 ?_;ac_rfl)) |((with_reducible show PE _ (.Call (.Attribute _ "extend" _) _ _ _) _);(refine ZaC ?_ ?_<;>ac_rfl)) |((with_reducible show PE _ (.Call (.Attribute _ "count" _) _ _ _) _);first |(refine My PySem.F.plainAttrs_list PySem.F.slot_list_count PySem.F.type_list_count Mz Zp Zn ?_ ?_<;>ac_rfl) |(refine My PySem.F.plainAttrs_tuple PySem.F.slot_tuple_count PySem.F.type_tuple_count Zae Zaf Zag ?_ ?_<;>ac_rfl)) |((with_reducible show PE _ (.Call (.Attribute _ "index" _) _ _ _) _);(refine My PySem.F.plainAttrs_list PySem.F.slot_list_index PySem.F.type_list_index Mz Zo Zq ?_ ?_<;>ac_rfl)) |((with_reducible show PE _ (.Call (.Name _ _) [.Lambda _ _ _ _] _ _) _);(refine Zbj LX (fun _=>rfl) hr Kf et Sd Zc4 (CaM.mono (k:=7) C8 (by decide)) ⟨⟨rfl,rfl,rfl,by kernel_rfl⟩,by decide +kernel,by kernel_rfl,rfl,by kernel_rfl⟩ (fun a cd cl A outer s H E' hr=>?_) rfl;ac_rfl)) |((with_reducible show PE _ (.Call (.Name _ _) _ _ _) _);first |(refine YN (by show CaE l.prog w K mg base _ _ _;with_reducible assumption) hr (by first |exact YF |exact YM |exact Zu) ?_;ac_rfl) |(refine W0 (by first |exact X3 rfl |exact Y6 rfl |exact Zk et |exact Xk rfl |exact Xl rfl |exact Zai hr.units hr.gd |exact XZ rfl |exact Xh |exact Xf) rfl (B _ (by decide +kernel)) (by decide +kernel) ?_;ac_rfl) |(refine W1 (by first |exact ZaT rfl hr.units |exact Xm |exact Z6 |exact Xn) rfl (B _ (by decide +kernel)) (by decide +kernel) ?_;ac_rfl)) |((with_reducible show PE _ (.ListComp _ _ _ _) _);first |(refine Na rfl ⟨rfl,by decide +kernel,by kernel_rfl,by decide +kernel,rfl,by kernel_rfl⟩ ?_ (O5 rfl) fun C D cells fp s₀ H₀ pins=>⟨?_,?_,?_⟩<;>ac_rfl) |(refine Na rfl ⟨rfl,by decide +kernel,by kernel_rfl,by decide +kernel,rfl,by kernel_rfl⟩ ?_ (O6 rfl rfl) fun C D cells fp s₀ H₀ pins=>⟨?_,?_,?_⟩<;>ac_rfl) |(refine Na rfl ⟨rfl,by decide +kernel,by kernel_rfl,by decide +kernel,rfl,by kernel_rfl⟩ ?_ (Qh rfl rfl rfl) fun C D cells fp s₀ H₀ pins=>⟨?_,?_,?_⟩<;>ac_rfl)) |((with_reducible show PE _ (.Compare _ [.Eq] _ _) _);(refine HX (P9 hr.units) ?_ ?_ (Fm _)<;>ac_rfl)) |((with_reducible show PE _ (.Compare _ [.In] _ _) _);first |(refine HX (Rj hr.units) ?_ ?_ (by with_unfolding_all rfl)<;>ac_rfl) |(refine HX OQ ?_ ?_ (by with_unfolding_all rfl)<;>ac_rfl)) |((with_reducible show PE _ (.Compare _ [.Lt] _ _) _);(refine HX (Zaj hr.units) ?_ ?_ (Fm _)<;>ac_rfl)) |((with_reducible show PE _ (.Compare _ [.Gt] _ _) _);(refine HX OL ?_ ?_ (Fm _)<;>ac_rfl)) |((with_reducible show PE _ (.Compare _ [_,_] _ _) _);(refine WW JS JS ?_ ?_ ?_<;>ac_rfl)) |((with_reducible show PE _ (.BoolOp _ _ _) _);first |(refine WU ?_ ?_<;>ac_rfl) |(refine WT ?_;ac_rfl)) |((with_reducible show PE _ (.UnaryOp _ _ _) _);first |(refine WV ?_;ac_rfl) |(refine Yc ?_;ac_rfl)) |((with_reducible show PE _ (.Dict _ _ _) _);first |exact ZaH |exact Z7))
local macro_rules |`(tactic|nofun)=>`(tactic|first |((with_reducible show PT _ (.Compare _ [.Eq] _ _) _);(refine EK (P9 hr.units) ?_ ?_ (Fm _)<;>ac_rfl)) |((with_reducible show PT _ (.Compare _ [.In] _ _) _);first |(refine EK (Rj hr.units) ?_ ?_ (by with_unfolding_all rfl)<;>ac_rfl) |(refine EK OQ ?_ ?_ (by with_unfolding_all rfl)<;>ac_rfl)) |((with_reducible show PT _ (.Compare _ [.NotIn] _ _) _);first |(refine EK (Za0 hr.units) ?_ ?_ (by with_unfolding_all rfl)<;>ac_rfl) |(refine EK Xb ?_ ?_ (by with_unfolding_all rfl)<;>ac_rfl)) |((with_reducible show PT _ (.Compare _ [.NotEq] _ _) _);(refine EK (ZU hr.units) ?_ ?_ (Fm _)<;>ac_rfl)) |((with_reducible show PT _ (.Compare _ [.Gt] _ _) _);(refine EK OL ?_ ?_ (Fm _)<;>ac_rfl)) |((with_reducible show PT _ (.Compare _ [.IsNot] _ _) _);(refine EK W8 ?_ ?_ (Fm _)<;>ac_rfl)) |((with_reducible show PT _ (.Compare _ [.Lt] _ _) _);(refine EK Ia ?_ ?_ (Fm _)<;>ac_rfl)) |((with_reducible show PT _ (.Compare _ [_,_] _ _) _);first |(refine LN JS Ia ?_ ?_ ?_<;>ac_rfl) |(refine LN Ia JS ?_ ?_ ?_<;>ac_rfl) |(refine LN Ia Ia ?_ ?_ ?_<;>ac_rfl)) |((with_reducible show PT _ (.UnaryOp .Not _ _) _);(refine WS ?_;ac_rfl)) |((with_reducible show PT _ (.BoolOp _ _ _) _);first |(refine OH (OG ?_ ?_)<;>ac_rfl) |(refine OH (OF ?_ ?_)<;>ac_rfl)) |((with_reducible show PT _ _ _);(refine WO ?_;ac_rfl)))
local macro_rules |`(tactic|contradiction)=>`(tactic|first |((with_reducible show PI _ _ (.Call (.Name _ _) _ _ _) _);first |(refine XA rfl (B _ (by decide +kernel)) ?_;ac_rfl) |(refine XB rfl (B _ (by decide +kernel)) ?_;ac_rfl) |(refine Zbf rfl (B _ (by decide +kernel)) ?_;ac_rfl) |(refine YV rfl (B _ (by decide +kernel)) ?_;ac_rfl)) |((with_reducible show PI _ _ _ _);(refine Xz ?_;ac_rfl)))
local macro_rules |`(tactic|bv_omega)=>`(tactic|first |((with_reducible show PS _ (.Return _ _) _);(refine OR ?_;ac_rfl)) |((with_reducible show PS _ (.If _ _ _ _) _);(refine Xq ?_ ?_ ?_<;>ac_rfl)) |((with_reducible show PS _ (.Assign [.Name _ _] (.ListComp _ _ _ _) _) _);first |(refine Nb rfl nd rfl (by first|exact .inl rfl|exact .inr rfl) ⟨rfl,by decide +kernel,by kernel_rfl,by decide +kernel,rfl,by kernel_rfl⟩ ?_ (O5 rfl) fun C D cells fp s₀ H₀ pins=>⟨?_,?_,?_⟩<;>ac_rfl) |(refine Nb rfl nd rfl (by first|exact .inl rfl|exact .inr rfl) ⟨rfl,by decide +kernel,by kernel_rfl,by decide +kernel,rfl,by kernel_rfl⟩ ?_ (O6 rfl rfl) fun C D cells fp s₀ H₀ pins=>⟨?_,?_,?_⟩<;>ac_rfl) |(refine Nb rfl nd rfl (by first|exact .inl rfl|exact .inr rfl) ⟨rfl,by decide +kernel,by kernel_rfl,by decide +kernel,rfl,by kernel_rfl⟩ ?_ (Qh rfl rfl rfl) fun C D cells fp s₀ H₀ pins=>⟨?_,?_,?_⟩<;>ac_rfl)) |((with_reducible show PS _ (.Assign [.Name _ _] _ _) _);((with_reducible refine LR ?_ ?_ ?_ ?_ ?_ ?_)<;>ac_rfl)) |((with_reducible show PS _ (.Expr _ _) _);(refine Xp ?_;ac_rfl)) |((with_reducible show PS _ (.For _ _ _ _ _) _);(refine XC Px rfl ?_ ?_ ?_<;>ac_rfl)) |((with_reducible show PS _ (.Assign [.Tuple _ _ _] _ _) _);first |(refine Xs rfl nd rfl rfl (by decide) rfl rfl ?_ (by first |rfl |with_unfolding_all rfl);ac_rfl) |(refine Xw ?_ ?_<;>ac_rfl)) |((with_reducible show PS _ (.Assign [.Subscript _ _ _] _ _) _);first |(refine X5 ?_ ?_ ?_<;>ac_rfl) |(refine ZaW hr.units ?_ ?_ ?_<;>ac_rfl) |(refine ZaL ?_ ?_ ?_<;>ac_rfl)) |((with_reducible show PS _ (.While _ _ _ _) _);(refine Y3 Px ?_ ?_<;>ac_rfl)) |((with_reducible show PS _ (.Raise _ _ _) _);(refine ZW et (by decide +kernel) (by decide +kernel) rfl rfl YK ?_;ac_rfl)))
local macro_rules |`(tactic|split)=>`(tactic|first |((with_reducible show PW _ _ _);first |(refine OG ?_ ?_<;>ac_rfl) |(refine WR ?_;ac_rfl) |(refine OF ?_ ?_<;>ac_rfl) |(refine WQ ?_;ac_rfl)) |((with_reducible show Fw _ (.Name _ _) _);exact Xu (CQ (by first |exact nd |exact of_decide_eq_true (by kernel_rfl)) rfl (by first|exact .inl rfl|exact .inr rfl))) |((with_reducible show Fw _ (.Tuple [_,_] _ _) _);first |exact Xv (Pf rfl (CQ (by first |exact nd |exact of_decide_eq_true (by kernel_rfl)) rfl (by first|exact .inl rfl|exact .inr rfl)) (CQ (by first |exact nd |exact of_decide_eq_true (by kernel_rfl)) rfl (by first|exact .inl rfl|exact .inr rfl))) |exact Qc (Jz rfl (D0 (CQ (by first |exact nd |exact of_decide_eq_true (by kernel_rfl)) rfl (by first|exact .inl rfl|exact .inr rfl)) (D0 (CQ (by first |exact nd |exact of_decide_eq_true (by kernel_rfl)) rfl (by first|exact .inl rfl|exact .inr rfl)) Jy)))) |((with_reducible show Fw _ (.Tuple [_,_,_] _ _) _);exact Qc (Jz rfl (D0 (CQ (by first |exact nd |exact of_decide_eq_true (by kernel_rfl)) rfl (by first|exact .inl rfl|exact .inr rfl)) (D0 (CQ (by first |exact nd |exact of_decide_eq_true (by kernel_rfl)) rfl (by first|exact .inl rfl|exact .inr rfl)) (D0 (CQ (by first |exact nd |exact of_decide_eq_true (by kernel_rfl)) rfl (by first|exact .inl rfl|exact .inr rfl)) Jy))))) |((with_reducible show PG _ (.Name _ _) _);exact CQ (by first |exact nd |exact of_decide_eq_true (by kernel_rfl)) rfl (by first|exact .inl rfl|exact .inr rfl)) |((with_reducible show PG _ (.Tuple [.Name _ _,.Name _ _] _ _) _);exact Pf rfl (CQ (by first |exact nd |exact of_decide_eq_true (by kernel_rfl)) rfl (by first|exact .inl rfl|exact .inr rfl)) (CQ (by first |exact nd |exact of_decide_eq_true (by kernel_rfl)) rfl (by first|exact .inl rfl|exact .inr rfl))) |((with_reducible show PG _ (.Tuple [_,_,_] _ _) _);exact Jz rfl (D0 (CQ (by first |exact nd |exact of_decide_eq_true (by kernel_rfl)) rfl (by first|exact .inl rfl|exact .inr rfl)) (D0 (CQ (by first |exact nd |exact of_decide_eq_true (by kernel_rfl)) rfl (by first|exact .inl rfl|exact .inr rfl)) (D0 (CQ (by first |exact nd |exact of_decide_eq_true (by kernel_rfl)) rfl (by first|exact .inl rfl|exact .inr rfl)) Jy)))) |rfl |exact nd |exact Or.inl rfl |exact Or.inr rfl |exact XQ |(refine XR ?_;ac_rfl) |exact YQ |(refine YR ?_;ac_rfl))
local macro_rules |`(tactic|ac_rfl)=>`(tactic|first |((with_reducible show PE _ _ _);infer_instance) |((with_reducible show PA _ _ _);first |with_reducible exact HY |((with_reducible refine HZ ?_ ?_ ?_)<;>ac_rfl)) |((with_reducible show PS _ _ _);bv_omega) |((with_reducible show CP _ _ _);first |with_reducible exact Xr |with_reducible exact Xo |((with_reducible refine JU ?_);ac_rfl) |((with_reducible refine JV ?_ ?_)<;>ac_rfl) |(refine JU ?_;ac_rfl) |(refine JV ?_ ?_<;>ac_rfl)) |((with_reducible show PT _ _ _);nofun) |((with_reducible show PI _ _ _ _);contradiction) |split)
def want:Tp.Want:=⟨[(("is_whole":Str),Rn),(("lights_of":Str),Rq),(("paths_of":Str),Rt),(("lit_along":Str),Rv),(("ring_of":Str),Rx),(("_law_cell":Str),Rz),(("_law_mix":Str),RA),(("_law_take":Str),RC),(("_law_kind":Str),RE),(("_law_lots":Str),RG),(("_law_net_switched":Str),RI),(("_law_is_ring":Str),RK),(("is_between":Str),RM),(("is_lot":Str),RN),(("_law_box":Str),RP),(("_law_wide_box":Str),RR),(("_law_no_net":Str),RT),(("_law_is_quiet":Str),RV),(("_law_walked":Str),RX),(("_law_spoilt":Str),RZ),(("is_light":Str),R1),(("_law_net":Str),R4),(("is_tie":Str),R6),(("is_net":Str),R8),(("need_net":Str),Sa),(("is_odd_ring":Str),Sb),(("odd_ring":Str),Se),(("law":Str),s_law),(("_law_said":Str),Nf)],[(("MOST_PLACES":Str),(8:Int))],["ValueError","all","any","bool","dict","divmod","enumerate","int","isinstance","len","list","max","min","range","repr","sum","tuple","zip"]⟩
section
variable {l:PySem.W.OpenLaw} {w:World} {K:PySem.W.Frag} {h base:Heap} {mg:Str→Option Value} {t_MOST_PLACES:Tok} (fs:∀(i:Nat) n st,want.fs[i]?=some (n,st)→Tp.SeenF K n st) (X:K.In h) (G:h.Ns mainGlobals mg) (B:∀x∈want.bs,mg x=none) (et:etOk K=true) (M_MOST_PLACES:mg "MOST_PLACES"=some (.int 8 t_MOST_PLACES))
include fs X G B et M_MOST_PLACES
theorem cc0:CaE l.prog w K mg base "is_whole" 1 E5:=BD (fs 0 _ Rn rfl) X G (N:=["thing"]) (ps:=["thing"]) fun nd _ _ _ _ _ _ _ hr=>by ac_rfl
theorem cc1:CaE l.prog w K mg base "lights_of" 1 Hi:=BD (fs 1 _ Rq rfl) X G (N:=["ties","lights","a","b","light"]) (ps:=["ties"]) fun nd _ _ _ _ _ _ _ hr=>by ac_rfl
theorem cc2:CaE l.prog w K mg base "paths_of" 1 KO:=BD (fs 2 _ Rt rfl) X G (N:=["many","lights","paths","least","waiting","path","end"]) (ps:=["many","lights"]) fun nd _ _ _ _ _ _ _ hr=>by ac_rfl
theorem cc3:CaE l.prog w K mg base "lit_along" 1 FI:=BD (fs 3 _ Rv rfl) X G (N:=["lights","path"]) (ps:=["lights","path"]) fun nd _ _ _ _ _ _ _ hr=>by ac_rfl
theorem cc4:CaE l.prog w K mg base "ring_of" 1 KP:=BD (fs 4 _ Rx rfl) X G (N:=["one","other","shared"]) (ps:=["one","other"]) fun nd _ _ _ _ _ _ _ hr=>by ac_rfl
theorem cc5:CaE l.prog w K mg base "_law_cell" 1 KQ:=BD (fs 5 _ Rz rfl) X G (N:=["_law_script","_law_k"]) (ps:=["_law_script","_law_k"]) fun nd _ _ _ _ _ _ _ hr=>by ac_rfl
theorem cc6:CaE l.prog w K mg base "_law_mix" 1 KR:=BD (fs 6 _ RA rfl) X G (N:=["_law_cell_here","_law_k","_law_number"]) (ps:=["_law_cell_here","_law_k"]) fun nd _ _ _ _ _ _ _ hr=>by ac_rfl
theorem cc7:CaE l.prog w K mg base "_law_take" 1 Bx:=BD (fs 7 _ RC rfl) X G (N:=["_law_box_here","_law_many","_law_left","_law_digit"]) (ps:=["_law_box_here","_law_many"]) fun nd _ _ _ _ _ _ _ hr=>by ac_rfl
theorem cc8:CaM l.prog w K mg base "_law_kind" 1 FJ:=mkM (fs 8 _ RE rfl) X G (N:=["_law_e","_law_kinds","_law_words"]) (ps:=["_law_e"]) fun nd _ _ _ _ _ _ hr=>by ac_rfl
theorem cc9:CaE l.prog w K mg base "_law_lots" 1 KS:=BD (fs 9 _ RG rfl) X G (N:=["_law_size","_law_found","_law_number"]) (ps:=["_law_size"]) fun nd _ _ _ _ _ _ _ hr=>by ac_rfl
theorem Zc5:CaE l.prog w K mg base "_law_net_switched" 1 KU:=BD (fs 10 _ RI rfl) X G (N:=["_law_net_here","_law_lot","_law_ties","_law_a","_law_b","_law_light"]) (ps:=["_law_net_here","_law_lot"]) fun nd _ _ _ _ _ _ _ hr=>by ac_rfl
theorem Zc6:CaE l.prog w K mg base "_law_is_ring" 1 Hj:=BD (fs 11 _ RK rfl) X G (N:=["_law_net_here","_law_thing","_law_place","_law_lights","_law_total","_law_at","_law_pair"]) (ps:=["_law_net_here","_law_thing"]) fun nd _ _ _ _ _ _ _ hr=>by ac_rfl
theorem Zc7 (C0:CaE l.prog w K mg base "is_whole" 1 E5):CaE l.prog w K mg base "is_between" 2 Ep:=BD (fs 12 _ RM rfl) X G (N:=["thing","least","most"]) (ps:=["thing","least","most"]) fun nd _ _ _ _ _ _ _ hr=>by ac_rfl
theorem Zc8 (C0:CaE l.prog w K mg base "is_whole" 1 E5):CaE l.prog w K mg base "is_lot" 2 KV:=BD (fs 13 _ RN rfl) X G (N:=["thing","size","last","number"]) (ps:=["thing","size"]) fun nd _ _ _ _ _ _ _ hr=>by ac_rfl
theorem Zc9 (C5:CaE l.prog w K mg base "_law_cell" 1 KQ) (C6:CaE l.prog w K mg base "_law_mix" 1 KR):CaE l.prog w K mg base "_law_box" 2 KW:=BD (fs 14 _ RP rfl) X G (N:=["_law_script","_law_k","_law_here","_law_number","_law_j"]) (ps:=["_law_script","_law_k"]) fun nd _ _ _ _ _ _ _ hr=>by ac_rfl
theorem Zda (C7:CaE l.prog w K mg base "_law_take" 1 Bx):CaE l.prog w K mg base "_law_wide_box" 2 Hk:=BD (fs 15 _ RR rfl) X G (N:=["_law_box_here","_law_number","_law_many","_law_j"]) (ps:=["_law_box_here"]) fun nd _ _ _ _ _ _ _ hr=>by ac_rfl
theorem Zdb (C7:CaE l.prog w K mg base "_law_take" 1 Bx):CaE l.prog w K mg base "_law_no_net" 2 KY:=BD (fs 16 _ RT rfl) X G (N:=["_law_box_here","_law_net_here","_law_many","_law_ties","_law_at","_law_spot","_law_odd","_law_tie","_law_bent","_law_some"]) (ps:=["_law_box_here","_law_net_here"]) fun nd _ _ _ _ _ _ _ hr=>by ac_rfl
theorem Zdc (C9:CaE l.prog w K mg base "_law_lots" 1 KS) (C10:CaE l.prog w K mg base "_law_net_switched" 1 KU):CaE l.prog w K mg base "_law_is_quiet" 2 KZ:=BD (fs 17 _ RV rfl) X G (N:=["_law_net_here","_law_lot"]) (ps:=["_law_net_here"]) fun nd _ _ _ _ _ _ _ hr=>by ac_rfl
theorem Zdd (C7:CaE l.prog w K mg base "_law_take" 1 Bx):CaE l.prog w K mg base "_law_walked" 2 K0:=BD (fs 18 _ RX rfl) X G (N:=["_law_box_here","_law_net_here","_law_line","_law_turn","_law_some","_law_a","_law_b","_law_light"]) (ps:=["_law_box_here","_law_net_here"]) fun nd _ _ _ _ _ _ _ hr=>by ac_rfl
theorem Zde (C7:CaE l.prog w K mg base "_law_take" 1 Bx):CaE l.prog w K mg base "_law_spoilt" 2 K1:=BD (fs 19 _ RZ rfl) X G (N:=["_law_box_here","_law_net_here","_law_line","_law_at","_law_odd","_law_some"]) (ps:=["_law_box_here","_law_net_here","_law_line"]) fun nd _ _ _ _ _ _ _ hr=>by ac_rfl
theorem Zdf (C12:CaE l.prog w K mg base "is_between" 2 Ep):CaE l.prog w K mg base "is_light" 3 K2:=BD (fs 20 _ R1 rfl) X G (N:=["thing"]) (ps:=["thing"]) fun nd _ _ _ _ _ _ _ hr=>by ac_rfl
theorem Zdg (C7:CaE l.prog w K mg base "_law_take" 1 Bx) (C15:CaE l.prog w K mg base "_law_wide_box" 2 Hk):CaE l.prog w K mg base "_law_net" 3 K3:=BD (fs 21 _ R4 rfl) X G (N:=["_law_box_here","_law_many","_law_way","_law_digits","_law_some","_law_ties","_law_a","_law_b","_law_light"]) (ps:=["_law_box_here"]) fun nd _ _ _ _ _ _ _ hr=>by ac_rfl
theorem Zdh (C13:CaE l.prog w K mg base "is_lot" 2 KV) (C20:CaE l.prog w K mg base "is_light" 3 K2):CaE l.prog w K mg base "is_tie" 4 K4:=BD (fs 22 _ R6 rfl) X G (N:=["thing","many"]) (ps:=["thing","many"]) fun nd _ _ _ _ _ _ _ hr=>by ac_rfl
theorem Zdi (C12:CaE l.prog w K mg base "is_between" 2 Ep) (C22:CaE l.prog w K mg base "is_tie" 4 K4):CaE l.prog w K mg base "is_net" 5 Gv:=BD (fs 23 _ R8 rfl) X G (N:=["thing","many","ties"]) (ps:=["thing"]) fun nd _ _ _ _ _ _ _ hr=>by ac_rfl
theorem Zdj (C23:CaE l.prog w K mg base "is_net" 5 Gv):CaE l.prog w K mg base "need_net" 6 Gw:=BD (fs 24 _ Sa rfl) X G (N:=["thing"]) (ps:=["thing"]) fun nd _ _ _ _ _ _ _ hr=>by ac_rfl
theorem Zdk (C24:CaE l.prog w K mg base "need_net" 6 Gw) (C12:CaE l.prog w K mg base "is_between" 2 Ep) (C1:CaE l.prog w K mg base "lights_of" 1 Hi) (C3:CaE l.prog w K mg base "lit_along" 1 FI):CaE l.prog w K mg base "is_odd_ring" 7 Es:=BD (fs 25 _ Sb rfl) X G (N:=["net","thing","many","ties","lights","way"]) (ps:=["net","thing"]) fun nd _ _ _ _ _ _ _ hr=>by ac_rfl
theorem Zdl (C24:CaE l.prog w K mg base "need_net" 6 Gw) (C1:CaE l.prog w K mg base "lights_of" 1 Hi) (C2:CaE l.prog w K mg base "paths_of" 1 KO) (C3:CaE l.prog w K mg base "lit_along" 1 FI) (C4:CaE l.prog w K mg base "ring_of" 1 KP):CaE l.prog w K mg base "odd_ring" 7 Eu:=BD (fs 26 _ Se rfl) X G (N:=["net","many","ties","lights","paths","a","b","light"]) (ps:=["net"]) fun nd _ _ _ _ _ _ _ hr=>by ac_rfl
end
theorem all_mk {l:PySem.W.OpenLaw} {w:World} {K:PySem.W.Frag} {h:Heap} {mg:Str→Option Value} {fa c T:Addr} (HS:Tp.Has want K c T) (X:K.In h) (G:h.Ns mainGlobals mg) (hfa:mg "law"=some (.ref fa)):
 ∃fd:FuncData,(∀(s:Shared) (v:Value),BindsTo s fd ⟨[v],[]⟩ [("_law_script",v)])∧∀base:Heap,K.In base→base.Ns mainGlobals mg→Iv mg base→FnOk l.prog w K mg base (Ba l.prog w K) 10 fa fd ["_law_script"] (EZ K F_law):=by
 obtain ⟨fs,cs,bs,et,tb,hd,no⟩:=HS
 obtain ⟨f_law,_,an_law,_,_,kV_law,dc_law,pm_law,cd_law,ct_law,a_law,l_law,c_law,k_law⟩:=fs 27 "law" s_law rfl
 cases Tp.tab_cd tb a_law l_law
 cases hfa.symm.trans (PySem.W.mg_of X G a_law)
 have B:=mkB bs X G
 obtain ⟨fsd,fdd,Sd⟩:=mkS (fs 28 _ Nf rfl) X G
 obtain ⟨t_MOST_PLACES,v_MOST_PLACES⟩:=cs 0 "MOST_PLACES" 8 rfl
 have M_MOST_PLACES:=PySem.W.mg_of X G v_MOST_PLACES
 refine ⟨PySem.W.fnOf "law" "law" (defArgs s_law) (defBody s_law) (defScope s_law) .none kV_law dc_law pm_law an_law (.ref c) ct_law,fun s v=>.of_eq rfl,fun base _ _ hbm=>?_⟩
 have C0:=cc0 (l:=l) (w:=w) (base:=base) fs X G B et M_MOST_PLACES
 have C1:=cc1 (l:=l) (w:=w) (base:=base) fs X G B et M_MOST_PLACES
 have C2:=cc2 (l:=l) (w:=w) (base:=base) fs X G B et M_MOST_PLACES
 have C3:=cc3 (l:=l) (w:=w) (base:=base) fs X G B et M_MOST_PLACES
 have C4:=cc4 (l:=l) (w:=w) (base:=base) fs X G B et M_MOST_PLACES
 have C5:=cc5 (l:=l) (w:=w) (base:=base) fs X G B et M_MOST_PLACES
 have C6:=cc6 (l:=l) (w:=w) (base:=base) fs X G B et M_MOST_PLACES
 have C7:=cc7 (l:=l) (w:=w) (base:=base) fs X G B et M_MOST_PLACES
 have C8:=cc8 (l:=l) (w:=w) (base:=base) fs X G B et M_MOST_PLACES
 have C9:=cc9 (l:=l) (w:=w) (base:=base) fs X G B et M_MOST_PLACES
 have C10:=Zc5 (l:=l) (w:=w) (base:=base) fs X G B et M_MOST_PLACES
 have C11:=Zc6 (l:=l) (w:=w) (base:=base) fs X G B et M_MOST_PLACES
 have C12:=Zc7 (l:=l) (w:=w) (base:=base) fs X G B et M_MOST_PLACES C0
 have C13:=Zc8 (l:=l) (w:=w) (base:=base) fs X G B et M_MOST_PLACES C0
 have C14:=Zc9 (l:=l) (w:=w) (base:=base) fs X G B et M_MOST_PLACES C5 C6
 have C15:=Zda (l:=l) (w:=w) (base:=base) fs X G B et M_MOST_PLACES C7
 have C16:=Zdb (l:=l) (w:=w) (base:=base) fs X G B et M_MOST_PLACES C7
 have C17:=Zdc (l:=l) (w:=w) (base:=base) fs X G B et M_MOST_PLACES C9 C10
 have C18:=Zdd (l:=l) (w:=w) (base:=base) fs X G B et M_MOST_PLACES C7
 have C19:=Zde (l:=l) (w:=w) (base:=base) fs X G B et M_MOST_PLACES C7
 have C20:=Zdf (l:=l) (w:=w) (base:=base) fs X G B et M_MOST_PLACES C12
 have C21:=Zdg (l:=l) (w:=w) (base:=base) fs X G B et M_MOST_PLACES C7 C15
 have C22:=Zdh (l:=l) (w:=w) (base:=base) fs X G B et M_MOST_PLACES C13 C20
 have C23:=Zdi (l:=l) (w:=w) (base:=base) fs X G B et M_MOST_PLACES C12 C22
 have C24:=Zdj (l:=l) (w:=w) (base:=base) fs X G B et M_MOST_PLACES C23
 have C25:=Zdk (l:=l) (w:=w) (base:=base) fs X G B et M_MOST_PLACES C24 C12 C1 C3
 have C26:=Zdl (l:=l) (w:=w) (base:=base) fs X G B et M_MOST_PLACES C24 C1 C2 C3 C4
 have sc:DJ ["_law_script","_law_k","_law_box_here","_law_net_here","_law_found","_law_digits","_law_lines","_law_things","_law_thing","_law_due","_law_held","_law_none"] ["_law_script"] (defScope s_law):=⟨rfl,rfl,rfl,by decide +kernel,rfl,by decide +kernel,by decide +kernel⟩
 have nd:=sc.nd
 exact ZY l_law c_law sc (fun ds h e=>if_neg e) (fun ds h e=>if_pos e) fun A outer s H E hr=>by
  have LX:LamX (BY (Ba l.prog w K) l.prog w K mg base ["_law_script","_law_k","_law_box_here","_law_net_here","_law_found","_law_digits","_law_lines","_law_things","_law_thing","_law_due","_law_held","_law_none"] "law" (defScope s_law) fa (.ref c) A outer s H E) c T:=⟨rfl,tb,hd,(show ("law":Str)++".<locals>."=("law.<locals>.":Str) by decide +kernel),hbm⟩
  ac_rfl
end
end LK
namespace LK
open PySem PySem.W
abbrev top_q:Program:=view PySem.Challenge.pw_lineswitch_k73_odd_rings [44]
abbrev top_loose:List Str:=(PySem.Challenge.pw_lineswitch_k73_odd_rings.main.scope.names.map (·.1)).filter fun x=>!(x=="law")
set_option maxHeartbeats 0 in
theorem top_left:LeftO PySem.Challenge.pw_lineswitch_k73_odd_rings top_q top_loose (fun _=>true) (Tp.obsK want) (fun _=>Tp.valK want) 1000000:=
 Tp.left_of (n:=46) (by kernel_rfl) (fun s=>by kernel_rfl) (fun w=>by kernel_rfl) (fun w os=>by
  rw [PySem.W.Fast.te10156331382660048174,PySem.W.Fast.te11892475500146522536,PySem.W.Fast.te14364793385576792824,PySem.W.Fast.te10110043849684766642,PySem.W.Fast.te6613529449190102663,PySem.W.Fast.te4187177175401517315,PySem.W.Fast.te5923862056798008813]
  kernel_rfl)
end LK
open PySem PySem.W PyProof.Rows
set_option maxRecDepth 100000 in
set_option maxHeartbeats 0 in
theorem PySem.Challenge.cw_lineswitch_k73_odd_rings_holds : PySem.Challenge.rw_lineswitch_k73_odd_rings.Holds := by
 w_on;o_law
 refine PySem.W.holds_open (q:=LK.top_q) (loose:=LK.top_loose) (d:=⟨"law",L2.defArgs LK.s_law,L2.defBody LK.s_law,L2.defScope LK.s_law,_⟩) (kwd:=[]) (Xt:=fun _=>true) (XP:=fun _ _=>True) (N:=1000000) LK.top_left Tp.says_of Tp.Says.keeps (fun _ _=>trivial) (fun _ _ _ _ _=>trivial) (by rfl) (by kernel_rfl) (by kernel_rfl) (fun s _=>recFacts_nil (by rfl)) (by rfl) (by assumption) (by kernel_rfl) ⟨rfl,rfl,rfl,rfl,rfl,by decide +kernel⟩ ?hw ?hc
 case hw=>w_witness2
 case hc=>exact LS.walk_hd (n:=63) (k:=10) (x:="_law_script") (F:=LK.F_law) rfl (by decide) rfl ⟨rfl,by decide,by decide,rfl⟩ (fun w K c T mg fa h HS X G hfa=>LK.all_mk HS X G hfa) LK.law_true
